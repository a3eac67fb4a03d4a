import PyProof.Rows.All
import Wide.All
import OpenK.AllK
import Wide.FinOn
import PyProof.EqAt
import PyProof.EqKinds
import PyProof.TupleCall
import KE.BitLaws
import Open.SpecLaws
import KE.OsHead
import KE.OsGo
import PyFlatLaws
import PySem.Challenge.RW_oneaddress_s01_answers
set_option Elab.async false
set_option linter.all false
set_option maxRecDepth 100000
/-! THE HAND LAYER, for ints, bools, texts, own classes, lists, tuples, dicts, comprehensions, walks over dicts, enumerate, zip, reversed, texts, calls, loops. Paste it whole ahead of your own text; what your proof does not reach may be deleted. -/
namespace L2
open PySem PySem.Spec PyProof.Rows

/-- a key: an int or a str -/
abbrev Key := Sum Int Str
def keyIs : Key → Value → Bool
  | .inl k, v => Value.isInt k v
  | .inr x, v => Value.isStrOf x v
def keyH (w : World) : Key → Int
  | .inl k => hashInt k
  | .inr x => hashStr w x
theorem keyIs_shape : ∀ {k : Key} {v : Value}, keyIs k v = true → (∃ i t, k = Sum.inl i ∧ v = Value.int i t) ∨ (∃ x t, k = Sum.inr x ∧ v = Value.str x t)
  | .inl i, v, h => by
    obtain ⟨t, e⟩ := Value.isInt_shape (k := i) (v := v) h
    exact .inl ⟨i, t, rfl, e⟩
  | .inr x, v, h => by
    obtain ⟨t, e⟩ := Value.isStrOf_shape (x := x) (v := v) h
    exact .inr ⟨x, t, rfl, e⟩
theorem key_ll (a b : Int) : decide ((Sum.inl a : Key) = Sum.inl b) = (a == b) := by
  by_cases e : a = b
  · subst e; simp
  · have h : ¬ (Sum.inl a : Key) = Sum.inl b := fun q => e (Sum.inl.inj q)
    rw [decide_eq_false h]
    exact (beq_eq_false_iff_ne.mpr e).symm
theorem key_rr (a b : Str) : decide ((Sum.inr a : Key) = Sum.inr b) = decide (a = b) := by
  by_cases e : a = b
  · subst e; simp
  · have h : ¬ (Sum.inr a : Key) = Sum.inr b := fun q => e (Sum.inr.inj q)
    rw [decide_eq_false h, decide_eq_false e]
theorem key_lr (a : Int) (b : Str) : decide ((Sum.inl a : Key) = Sum.inr b) = false := decide_eq_false (fun q => nomatch q)
theorem key_rl (a : Str) (b : Int) : decide ((Sum.inr a : Key) = Sum.inl b) = false := decide_eq_false (fun q => nomatch q)

def mixKind (prog : Program) (w : World) : PySem.KeyKind prog w Key where
  is := keyIs
  hash := keyH w
  inj := fun v a b ha hb => by
    rcases keyIs_shape ha with ⟨i, t, rfl, rfl⟩ | ⟨x, t, rfl, rfl⟩
    · rcases keyIs_shape hb with ⟨j, u, rfl, e⟩ | ⟨y, u, rfl, e⟩
      · injection e with e1 _; rw [e1]
      · exact nomatch e
    · rcases keyIs_shape hb with ⟨j, u, rfl, e⟩ | ⟨y, u, rfl, e⟩
      · exact nomatch e
      · injection e with e1 _; rw [e1]
  byValue := fun k v h => by
    rcases keyIs_shape h with ⟨i, t, rfl, rfl⟩ | ⟨x, t, rfl, rfl⟩ <;> rfl
  pyHash := fun hv h => by
    rcases keyIs_shape hv with ⟨i, t, rfl, rfl⟩ | ⟨x, t, rfl, rfl⟩
    · exact wpAny_pyHash_int h
    · exact wpAny_pyHash_str h
  eqBool := fun hu hv h => by
    rcases keyIs_shape hu with ⟨i, t, rfl, rfl⟩ | ⟨x, t, rfl, rfl⟩
    · rcases keyIs_shape hv with ⟨j, u, rfl, rfl⟩ | ⟨y, u, rfl, rfl⟩
      · rw [key_ll] at h; exact wpAny_eqBool_int h
      · rw [key_lr] at h; exact SeqAt.EqAt.int_str i t y u _ _ _ _ h
    · rcases keyIs_shape hv with ⟨j, u, rfl, rfl⟩ | ⟨y, u, rfl, rfl⟩
      · rw [key_rl] at h; exact SeqAt.EqAt.str_int x t j u _ _ _ _ h
      · rw [key_rr] at h; exact wpAny_eqBool_str h
  «strs» := fun k x t v h => by
    rcases keyIs_shape h with ⟨i, u, rfl, e⟩ | ⟨y, u, rfl, e⟩
    · exact nomatch e
    · injection e with e1 _
      subst e1
      cases v <;> rfl

end L2

namespace L2
open PySem PySem.Spec PyProof.Rows

/-- a value, without the heap -/
inductive V where
  | non | bl (b : Bool) | int (i : Int) | str (x : Str) | byt (b : Array UInt8) | flt (b : UInt64) | ref (a : Addr) | ty (n : String)
  deriving DecidableEq

def RelV : V → Value → Prop
  | .non, u => u = Value.none
  | .bl b, u => u = Value.bool b
  | .int i, u => ∃ t, u = Value.int i t
  | .str x, u => ∃ t, u = Value.str x t
  | .byt b, u => ∃ t, u = Value.bytes b t
  | .flt b, u => ∃ t, u = Value.float b t
  | .ref a, u => u = Value.ref a
  | .ty n, u => u = Value.type n

abbrev Vals : List V → List Value → Prop := Paired RelV
theorem Vals.length {xs : List V} {us : List Value} (r : Vals xs us) : xs.length = us.length := Paired.length r
theorem Vals.get : ∀ {xs : List V} {us : List Value} {i : Nat} {x : V}, Vals xs us → xs[i]? = some x → ∃ u, us[i]? = some u ∧ RelV x u
  | _, _, _, _, .nil, e => by simp at e
  | _, _, 0, _, .cons r _, e => by simp at e; subst e; exact ⟨_, rfl, r⟩
  | _, _, i + 1, x, .cons _ t, e => by
    obtain ⟨u, h1, h2⟩ := Vals.get (i := i) (x := x) t (by simpa using e)
    exact ⟨u, by simpa using h1, h2⟩
theorem Vals.set {x : V} {u : Value} (r : RelV x u) : ∀ {xs : List V} {us : List Value} (i : Nat), Vals xs us → Vals (xs.set i x) (us.set i u)
  | _, _, _, .nil => .nil
  | _, _, 0, .cons _ t => .cons r t
  | _, _, i + 1, .cons q t => .cons q (Vals.set r i t)
theorem Vals.append : ∀ {xs ys : List V} {us ws : List Value}, Vals xs us → Vals ys ws → Vals (xs ++ ys) (us ++ ws)
  | _, _, _, _, .nil, s => s
  | _, _, _, _, .cons r t, s => .cons r (Vals.append t s)
theorem Vals.take : ∀ {xs : List V} {us : List Value} (n : Nat), Vals xs us → Vals (xs.take n) (us.take n)
  | _, _, 0, _ => .nil
  | _, _, _ + 1, .nil => .nil
  | _, _, n + 1, .cons r t => .cons r (Vals.take n t)
theorem Vals.drop : ∀ {xs : List V} {us : List Value} (n : Nat), Vals xs us → Vals (xs.drop n) (us.drop n)
  | _, _, 0, r => r
  | _, _, _ + 1, .nil => .nil
  | _, _, n + 1, .cons _ t => Vals.drop n t
theorem Vals.none_of : ∀ {xs : List V} {us : List Value} {i : Nat}, Vals xs us → xs[i]? = none → us[i]? = none := fun {xs us i} r e => by
  have h1 := r.length
  have h2 : xs.length ≤ i := List.getElem?_eq_none_iff.mp e
  exact List.getElem?_eq_none_iff.mpr (by omega)

def RelO : Option V → Option Value → Prop
  | some v, some u => RelV v u
  | none, none => True
  | _, _ => False
def KV {κ : Type} : List (κ × V) → List (κ × Value) → Prop := Paired fun (p : κ × V) (q : κ × Value) => p.1 = q.1 ∧ RelV p.2 q.2

/-- a key of a dict (00_mix): an int or a text -/
def kV : Key → V
  | .inl i => .int i
  | .inr x => .str x

/-- what stands at a tracked address -/
inductive HO where
  /-- a list -/
  | lst (xs : List V)
  /-- a tuple (never changes) -/
  | tup (xs : List V)
  /-- a dict whose keys are ints and texts; one whose keys are tuples of ints and texts (the empty one is both) -/
  | dK (kvs : List (Key × V)) | dT (kvs : List (List Key × V))
  /-- a set of ints: its members, its size -/
  | set (S : Int → Bool) (n : Nat)
  /-- an instance of the class at C, its dict at dx, its attributes -/
  | ins (C dx : Addr) (fs : List (Str × V))
  /-- the dict of the instance at x -/
  | own (x : Addr)
  /-- the dict of an exception -/
  | xd (fs : List (Str × V))
  /-- a bound method, f of x -/
  | met (f x : Addr)
  /-- a range object lo, lo + 1, .. below hi -/
  | rng (lo hi : Int)
  /-- a thing that is known to the object (the script; a dict while a loop walks it): read, never written while it is so -/
  | frz (o : Obj) (u : HO)
  /-- a code object's table -/
  | tbl (ps : Array Value)
  /-- any other thing, by what is true of its one object (a def of one's own: SetO a S n := HO.ext fun h => ..) -/
  | ext (φ : Heap → Prop)

abbrev Hp := Addr → Option HO
def upd (H : Hp) (a : Addr) (o : HO) : Hp := fun b => if b = a then some o else H b
theorem upd_same {H : Hp} {a : Addr} {o : HO} : upd H a o a = some o := by unfold upd; rw [if_pos rfl]
theorem upd_ne {H : Hp} {a b : Addr} {o : HO} (h : b ≠ a) : upd H a o b = H b := by unfold upd; rw [if_neg h]
theorem upd_upd {H : Hp} {a : Addr} {o u : HO} : upd (upd H a o) a u = upd H a u := by
  funext b; unfold upd; split <;> rfl
/-- two objects of different content stand apart -/
theorem ne_of {H : Hp} {a b : Addr} {o u : HO} (h : H a = some o) (h' : H b = some u) (d : o ≠ u) : a ≠ b := by
  intro e; subst e; rw [h] at h'; exact d (Option.some.inj h')
theorem ne_of_none {H : Hp} {a b : Addr} {o : HO} (h : H a = some o) (h' : H b = none) : a ≠ b := by
  intro e; subst e; rw [h] at h'; cases h'

section
variable (P : Program) (w : World)
def ObjOk (H : Hp) (h : Heap) (a : Addr) : HO → Prop
  | .lst xs => xs.length ≤ sizeLine ∧ ∃ (its : List Value) (n : Nat), Vals xs its ∧ h.get? a = some { cls := .type "list", data := .seq its.toArray n }
  | .tup xs => xs.length ≤ sizeLine ∧ ∃ its : List Value, Vals xs its ∧ IsTup h a its.toArray
  | .dK kvs => kvs.length ≤ sizeLine ∧ (a == sysModules) = false ∧ ∃ vs, KV kvs vs ∧ h.DictOf (mixKind P w) a vs
  | .dT kvs => kvs.length ≤ sizeLine ∧ (a == sysModules) = false ∧ ∃ xs : List (List Key × Addr × Value),
      Paired (fun (p : List Key × V) (q : List Key × Addr × Value) => p.1 = q.1 ∧ H q.2.1 = some (.tup (p.1.map kV)) ∧ RelV p.2 q.2.2) kvs xs ∧
      ∃ o es ep, h.get? a = some o ∧ o.ExactDict ∧ o.data = .dict es ep ∧ es.toList = xs.map (entryOfKey (tupleKind (mixKind P w))) ∧ (xs.map (·.1)).Nodup
  | .set S n => h.SetOf (intKind P w) a S n
  | .ins C dx fs => H dx = some (.own a) ∧ fs.length ≤ 1000 ∧ dx ≠ a ∧ h.get? a = some (PySem.W.instObj C dx) ∧
      ∃ mA, h.Ns1 dx mA ∧ (∀ f, RelO (fs.lookup f) (mA f)) ∧ PySem.Within mA (fs.map (·.1))
  | .own _ => ∃ o, h.get? a = some o
  | .xd fs => ∃ mA, h.Ns1 a mA ∧ ∀ f, RelO (fs.lookup f) (mA f)
  | .rng lo hi => ∃ t u v, h.get? a = some { cls := .type "range", data := .fields #[.int lo t, .int hi u, .int 1 v] }
  | .frz o u => h.get? a = some o ∧ ObjOk H h a u
  | .tbl ps => h.get? a = some { cls := .none, data := .fields ps }
  | .met f x => h.get? a = some (PySem.W.methodObj (.ref f) (.ref x))
  | .ext φ => φ h ∧ (∃ o, h.get? a = some o) ∧ ∀ h1 h2 : Heap, φ h1 → (∀ o, h1.get? a = some o → h2.get? a = some o) → φ h2
/-- the abstract heap is held -/
def HOk (H : Hp) (h : Heap) : Prop := ∀ a o, H a = some o → ObjOk P w H h a o
end

section
variable {P : Program} {w : World} {H H' : Hp} {h h' : Heap} {a : Addr} {o : HO}
theorem ObjOk.lt (x : ObjOk P w H h a o) : a < h.objs.size := by
  cases o with
  | lst xs => obtain ⟨_, _, _, _, e⟩ := x; exact Heap.lt_size e
  | tup xs => obtain ⟨_, _, _, p⟩ := x; exact p.lt
  | dK kvs => obtain ⟨_, _, _, _, o, _, _, e, _⟩ := x; exact Heap.lt_size e
  | dT kvs => obtain ⟨_, _, _, _, o, _, _, e, _⟩ := x; exact Heap.lt_size e
  | set S n => obtain ⟨o, _, _, _, e, _⟩ := x; exact Heap.lt_size e
  | ins C dx fs => obtain ⟨_, _, _, e, _⟩ := x; exact Heap.lt_size e
  | own y => obtain ⟨_, e⟩ := x; exact Heap.lt_size e
  | xd fs => obtain ⟨_, ⟨_, _, _, e, _⟩, _⟩ := x; exact Heap.lt_size e
  | rng lo hi => obtain ⟨_, _, _, e⟩ := x; exact Heap.lt_size e
  | frz ob u => obtain ⟨e, _⟩ := x; exact Heap.lt_size e
  | tbl ps => exact Heap.lt_size (show h.get? a = some _ from x)
  | met f y => exact Heap.lt_size (show h.get? a = some _ from x)
  | ext φ => obtain ⟨_, ⟨_, e⟩, _⟩ := x; exact Heap.lt_size e
theorem Paired.mapP {α β : Type} {F G : α → β → Prop} : ∀ {l₁ : List α} {l₂ : List β}, Paired F l₁ l₂ → (∀ a b, F a b → G a b) → Paired G l₁ l₂
  | _, _, .nil, _ => .nil
  | _, _, .cons r t, f => .cons (f _ _ r) (Paired.mapP t f)
/-- what an object's description leans on: its own object, its own dict, the tuples -/
theorem ObjOk.stay (x : ObjOk P w H h a o) (k : ∀ b u, (b = a ∨ H b = some (.own a)) → h.get? b = some u → h'.get? b = some u)
    (ho : ∀ b, H b = some (.own a) → H' b = some (.own a)) (ht : ∀ b xs, H b = some (.tup xs) → H' b = some (.tup xs)) : ObjOk P w H' h' a o := by
  induction o with
  | lst xs => obtain ⟨z, its, n, r, e⟩ := x; exact ⟨z, its, n, r, k _ _ (.inl rfl) e⟩
  | tup xs => obtain ⟨z, its, r, ob, e, c⟩ := x; exact ⟨z, its, r, ob, k _ _ (.inl rfl) e, c⟩
  | dK kvs => obtain ⟨z, y, vs, r, ob, es, ep, e, c⟩ := x; exact ⟨z, y, vs, r, ob, es, ep, k _ _ (.inl rfl) e, c⟩
  | dT kvs =>
    obtain ⟨z, y, xs, r, ob, es, ep, e, c⟩ := x
    exact ⟨z, y, xs, Paired.mapP r fun p q z => ⟨z.1, ht _ _ z.2.1, z.2.2⟩, ob, es, ep, k _ _ (.inl rfl) e, c⟩
  | set S n => obtain ⟨ob, es, ep, t, e, c⟩ := x; exact ⟨ob, es, ep, t, k _ _ (.inl rfl) e, c⟩
  | ins C dx fs =>
    obtain ⟨d, z, ne, e, mA, ⟨od, es, ep, e2, c⟩, r⟩ := x
    exact ⟨ho _ d, z, ne, k _ _ (.inl rfl) e, mA, ⟨od, es, ep, k _ _ (.inr d) e2, c⟩, r⟩
  | own y => obtain ⟨ob, e⟩ := x; exact ⟨ob, k _ _ (.inl rfl) e⟩
  | xd fs => obtain ⟨mA, ⟨od, es, ep, e, c⟩, r⟩ := x; exact ⟨mA, ⟨od, es, ep, k _ _ (.inl rfl) e, c⟩, r⟩
  | rng lo hi => obtain ⟨t, u, v, e⟩ := x; exact ⟨t, u, v, k _ _ (.inl rfl) e⟩
  | frz ob u ih => obtain ⟨e, q⟩ := x; exact ⟨k _ _ (.inl rfl) e, ih q⟩
  | tbl ps =>
    have e : h.get? a = some { cls := .none, data := .fields ps } := x
    show h'.get? a = some { cls := .none, data := .fields ps }
    exact k a _ (.inl rfl) e
  | met f y =>
    have e : h.get? a = some (PySem.W.methodObj (.ref f) (.ref y)) := x
    show h'.get? a = some (PySem.W.methodObj (.ref f) (.ref y))
    exact k a _ (.inl rfl) e
  | ext φ => obtain ⟨p, ⟨o, e⟩, st⟩ := x; exact ⟨st _ _ p fun o q => k _ _ (.inl rfl) q, ⟨o, k _ _ (.inl rfl) e⟩, st⟩
theorem HOk.lt (x : HOk P w H h) (e : H a = some o) : a < h.objs.size := (x a o e).lt
theorem HOk.fresh (x : HOk P w H h) (e : h.objs.size ≤ a) : H a = none := by
  cases q : H a with
  | none => rfl
  | some u => exact absurd (Nat.lt_of_lt_of_le (x.lt q) e) (Nat.lt_irrefl _)
/-- every object of the heap is kept -/
theorem HOk.kept (x : HOk P w H h) (k : ∀ b u, h.get? b = some u → h'.get? b = some u) : HOk P w H h' := fun a o e =>
  (x a o e).stay (fun b u _ q => k b u q) (fun _ q => q) fun _ _ q => q
/-- a new object is laid and tracked -/
theorem HOk.laid (x : HOk P w H h) (k : ∀ b u, h.get? b = some u → h'.get? b = some u) (hp : h.objs.size ≤ a) (new : ObjOk P w (upd H a o) h' a o) : HOk P w (upd H a o) h' := fun b u e => by
  have hn := x.fresh hp
  by_cases hb : b = a
  · subst hb; rw [upd_same] at e; cases e; exact new
  · rw [upd_ne hb] at e
    exact (x b u e).stay (fun c v _ q => k c v q) (fun c q => by rw [upd_ne (ne_of_none q hn)]; exact q) fun c xs q => by rw [upd_ne (ne_of_none q hn)]; exact q
end

/-- what may be read as u: it is u, or a known u -/
def Rd (H : Hp) (a : Addr) (u : HO) : Prop := H a = some u ∨ ∃ o, H a = some (.frz o u)
theorem Rd.of {H : Hp} {a : Addr} {u : HO} (h : H a = some u) : Rd H a u := .inl h
theorem Rd.ok {P : Program} {w : World} {H : Hp} {h : Heap} {a : Addr} {u : HO} (r : Rd H a u) (x : HOk P w H h) : ObjOk P w H h a u := by
  rcases r with r | ⟨o, r⟩
  · exact x a u r
  · obtain ⟨_, q⟩ := x a _ r
    exact q
/-- what may be written -/
def Mut : Option HO → Prop
  | some (.lst _) => True
  | some (.dK _) => True
  | some (.dT _) => True
  | some (.set _ _) => True
  | some (.ins _ _ _) => True
  | some (.ext _) => True
  | _ => False
section
variable {P : Program} {w : World} {H : Hp} {h h' : Heap} {x e : Addr} {o' : HO}
/-- the object at e is changed: x itself, or the dict of the instance x -/
theorem HOk.write (ok : HOk P w H h) (mu : Mut (H x)) (he : e = x ∨ H e = some (.own x)) (k : ∀ b u, b ≠ e → h.get? b = some u → h'.get? b = some u) (heo : ∃ u, h'.get? e = some u)
    (new : ObjOk P w (upd H x o') h' x o') : HOk P w (upd H x o') h' := fun b u q => by
  have nown : ∀ c y, H c = some (.own y) → c ≠ x := fun c y r z => by subst z; rw [r] at mu; exact mu
  have ntup : ∀ c xs, H c = some (.tup xs) → c ≠ x := fun c xs r z => by subst z; rw [r] at mu; exact mu
  by_cases hb : b = x
  · subst hb; rw [upd_same] at q; cases q; exact new
  · rw [upd_ne hb] at q
    by_cases hbe : b = e
    · have q' : H b = some (.own x) := by
        rcases he with z | z
        · exact absurd (hbe.trans z) hb
        · rw [hbe]; exact z
      rw [q] at q'; cases q'
      obtain ⟨v, hv⟩ := heo
      exact ⟨v, by rw [hbe]; exact hv⟩
    · refine (ok b u q).stay (fun c v hc r => k c v ?_ r) (fun c r => by rw [upd_ne (nown c b r)]; exact r) fun c xs r => by rw [upd_ne (ntup c xs r)]; exact r
      rcases hc with rfl | hc
      · exact hbe
      · rintro rfl
        rcases he with z | z
        · exact nown c b hc z
        · rw [hc] at z; cases z; exact hb rfl
end

/-! ### kept unless tracked; of the frames at fs (the callers') the slots may change (an exception that passes writes there); of the records at ex (iterators) nothing is said -/
structure Un (fs ex : List Addr) (H H' : Hp) (h h' : Heap) : Prop where
  keep : ∀ b o, h.get? b = some o → H b = none → b ∉ fs → b ∉ ex → h'.get? b = some o
  slot : ∀ b o, h.get? b = some o → H b = none → b ∈ fs → b ∉ ex → ∃ sl, h'.get? b = some { o with slots := sl }
  free : ∀ b o, h.get? b = some o → H b = none → b ∉ ex → H' b = none
  there : ∀ b o, h.get? b = some o → b ∉ ex → ∃ o', h'.get? b = some o'
  tups : ∀ b xs, H b = some (.tup xs) → H' b = some (.tup xs)
  frzs : ∀ b o u, H b = some (.frz o u) → H' b = some (.frz o u)
  tbls : ∀ b ps, H b = some (.tbl ps) → ∃ more, H' b = some (.tbl (ps ++ more))
section
variable {fs fs' ex ex' : List Addr} {H H1 H2 : Hp} {h h1 h2 h' : Heap} {a x e : Addr} {o : HO}
theorem Un.any (u : Un fs ex H H1 h h1) {b : Addr} {ob : Obj} (q : h.get? b = some ob) (n : H b = none) (hx : b ∉ ex) : ∃ sl, h1.get? b = some { ob with slots := sl } := by
  by_cases hb : b ∈ fs
  · exact u.slot b ob q n hb hx
  · exact ⟨ob.slots, u.keep b ob q n hb hx⟩
theorem Un.trans (a : Un fs ex H H1 h h1) (b : Un fs ex H1 H2 h1 h2) : Un fs ex H H2 h h2 where
  keep := fun c ob q n hc hx => b.keep c ob (a.keep c ob q n hc hx) (a.free c ob q n hx) hc hx
  slot := fun c ob q n hc hx => by
    obtain ⟨sl, e1⟩ := a.slot c ob q n hc hx
    obtain ⟨sl', e2⟩ := b.slot c _ e1 (a.free c ob q n hx) hc hx
    exact ⟨sl', e2⟩
  free := fun c ob q n hx => by
    obtain ⟨o', e1⟩ := a.there c ob q hx
    exact b.free c o' e1 (a.free c ob q n hx) hx
  there := fun c ob q hx => by
    obtain ⟨o', e1⟩ := a.there c ob q hx
    exact b.there c o' e1 hx
  tups := fun c xs q => b.tups c xs (a.tups c xs q)
  frzs := fun c ob xs q => b.frzs c ob xs (a.frzs c ob xs q)
  tbls := fun c ps q => by
    obtain ⟨m1, e1⟩ := a.tbls c ps q
    obtain ⟨m2, e2⟩ := b.tbls c _ e1
    exact ⟨m1 ++ m2, by rw [e2, Array.append_assoc]⟩
theorem Un.kept (k : ∀ b u, h.get? b = some u → h'.get? b = some u) : Un fs ex H H h h' :=
  ⟨fun b ob q _ _ _ => k b ob q, fun b ob q _ _ _ => ⟨ob.slots, k b ob q⟩, fun _ _ _ n _ => n, fun b ob q _ => ⟨ob, k b ob q⟩, fun _ _ q => q, fun _ _ _ q => q, fun _ ps q => ⟨#[], by rw [q]; simp⟩⟩
theorem Un.refl : Un fs ex H H h h := Un.kept fun _ _ q => q
theorem Un.laid (k : ∀ b u, h.get? b = some u → h'.get? b = some u) (hp : h.objs.size ≤ a) (hn : H a = none) : Un fs ex H (upd H a o) h h' where
  keep := fun b u q _ _ _ => k b u q
  slot := fun b u q _ _ _ => ⟨u.slots, k b u q⟩
  free := fun b u q n _ => by rw [upd_ne (Nat.ne_of_lt (Nat.lt_of_lt_of_le (Heap.lt_size q) hp))]; exact n
  there := fun b u q _ => ⟨u, k b u q⟩
  tups := fun b xs q => by rw [upd_ne (ne_of_none q hn)]; exact q
  frzs := fun b u xs q => by rw [upd_ne (ne_of_none q hn)]; exact q
  tbls := fun b ps q => ⟨#[], by rw [upd_ne (ne_of_none q hn), q]; simp⟩
theorem Un.write (mu : Mut (H x)) (he : e = x ∨ H e = some (.own x)) (k : ∀ b u, b ≠ e → h.get? b = some u → h'.get? b = some u) (heo : ∃ u, h'.get? e = some u) : Un fs ex H (upd H x o) h h' := by
  have hx : ∀ b, H b = none → b ≠ x := fun b n z => by subst z; rw [n] at mu; exact mu
  have hb : ∀ b, H b = none → b ≠ e := fun b n z => by
    subst z
    rcases he with r | r
    · exact hx b n r
    · rw [n] at r; cases r
  have hm : ∀ b u, H b = some u → ¬ Mut (some u) → b ≠ x := fun b u q nm z => by subst z; rw [q] at mu; exact nm mu
  refine ⟨fun b u q n _ _ => k b u (hb b n) q, fun b u q n _ _ => ⟨u.slots, k b u (hb b n) q⟩, fun b u q n _ => by rw [upd_ne (hx b n)]; exact n, fun b u q _ => ?_,
    fun b xs q => by rw [upd_ne (hm b _ q fun z => z)]; exact q, fun b u xs q => by rw [upd_ne (hm b _ q fun z => z)]; exact q, fun b ps q => ⟨#[], by rw [upd_ne (hm b _ q fun z => z), q]; simp⟩⟩
  by_cases hbe : b = e
  · subst hbe; exact heo
  · exact ⟨u, k b u hbe q⟩
theorem Un.mono (u : Un fs ex H H1 h h1) (hs : ∀ b ∈ fs, b ∈ fs') (hx : ∀ b ∈ ex, b ∈ ex') : Un fs' ex' H H1 h h1 :=
  ⟨fun b ob q n hb he => u.keep b ob q n (fun z => hb (hs b z)) fun z => he (hx b z), fun _ _ q n _ he => u.any q n fun z => he (hx _ z), fun b ob q n he => u.free b ob q n fun z => he (hx b z), fun b ob q he => u.there b ob q fun z => he (hx b z), u.tups, u.frzs, u.tbls⟩
end

/-! ### the heap without what is tracked -/
def trk (h : Heap) (H : Hp) : List Addr := (List.range h.objs.size).filter fun a => (H a).isSome
def hidT (h : Heap) (H : Hp) : Heap := PySem.W.hideAll h (trk h H)
theorem hidT_size (h : Heap) (H : Hp) : (hidT h H).objs.size = h.objs.size := PySem.W.hideAll_size _ _
theorem hidT_get {h : Heap} {H : Hp} {b : Addr} {o : Obj} (e : h.get? b = some o) (n : H b = none) : (hidT h H).get? b = some o :=
  PySem.W.hideAll_get _ e fun hm => by
    have q : (H b).isSome = true := (List.mem_filter.mp hm).2
    rw [n] at q; simp at q
theorem of_hidT {h : Heap} {H : Hp} {b : Addr} {o : Obj} (e : (hidT h H).get? b = some o) : h.get? b = some o ∧ H b = none := by
  have e' : h.get? b = some o := PySem.W.of_hideAll (trk h H) e
  refine ⟨e', ?_⟩
  cases q : H b with
  | none => rfl
  | some x =>
    have hm : b ∈ trk h H := List.mem_filter.mpr ⟨List.mem_range.mpr (Heap.lt_size e'), by simp [q]⟩
    have z : (hidT h H).get? b = none := PySem.W.hideAll_none (trk h H) hm
    rw [z] at e; cases e

/-! ### OpenK's ledger, filled with every new object but one -/
def allNews (g h : Heap) (L : Addr) : List (Addr × Obj) := (List.range h.objs.size).filterMap fun a => if a = L ∨ (g.get? a).isSome = true then none else (h.get? a).map fun o => (a, o)
def rest (g h : Heap) (L d : Addr) : List (Addr × Obj) := (allNews g h L).filter fun p => decide (p.1 ≠ d)
end L2

namespace L2
open PySem PySem.Spec PyProof.Rows

/-- the module's facts, over the base: the heap at the law's entry without what is tracked there -/
structure Mod (K : PySem.W.Frag) (mg : Str → Option Value) (base : Heap) : Prop where
  kin : K.In base
  glob : base.Ns mainGlobals mg
  blt : ∃ mb, base.Ns builtinsNs mb ∧ ∀ x : Str, x ≠ "__name__" → mb x = bootBuiltins x
  nolimit : base.NoLimit

/-- the context: a def's body (or a comprehension's block) running. base: fixed through the whole law; s₀, H₀: the entry; outer: the frames whose slots others may change (a def's callers); stack: all frames that run;
   ex: iterators that were made ahead of the entry and are walked here (a comprehension's); fn: the names whose cells were made at the entry (a def: all; a comprehension's block: its own); calm: not within an except suite; pn: pins that every state bears; xe: what is wanted of an exception that leaves the code -/
structure Cx where
  prog : Program
  w : World
  K : PySem.W.Frag
  mg : Str → Option Value
  base : Heap
  A : Around
  N : List Str
  s_0 : Shared
  H_0 : Hp
  env : Env
  outer : List Env
  stack : List Env
  ex : List Addr
  fn : Str → Bool
  calm : Bool
  pn : List (Addr × Obj)
  xe : Value → Shared → Prop
/-- the callers' frames -/
def frs (l : List Env) : List Addr := l.filterMap (·.frame)
abbrev Cx.fs (X : Cx) : List Addr := frs X.outer

def Vis (sc : Scope) (x : Str) : Prop := sc.names.lookup x = some .local ∨ sc.names.lookup x = some .cell ∨ sc.names.lookup x = some .free
def Loc (sc : Scope) (x : Str) : Prop := sc.names.lookup x = some .local ∨ sc.names.lookup x = some .cell
def Look (env : Env) (h : Heap) (m : Str → Option Value) (x : Str) (u : Value) : Prop :=
  (env.kindOf x = some .local ∧ m x = some u) ∨ ((env.kindOf x = some .cell ∨ env.kindOf x = some .free) ∧ ∃ c, env.cells.lookup x = some c ∧ h.IsCell c (some u))

structure Cx.Ok (X : Cx) : Prop where
  mod : Mod X.K X.mg X.base
  kind : X.env.scope.kind = .function
  glob : X.env.globals = mainGlobals
  blt : X.env.builtins = builtinsNs
  above : X.s_0.heap.objs.size ≤ X.env.locals
  inj : ∀ x y c, X.env.cells.lookup x = some c → X.env.cells.lookup y = some c → x = y
  has : ∀ x, (X.env.kindOf x = some .cell ∨ X.env.kindOf x = some .free) → ∃ c, X.env.cells.lookup x = some c
  cab : ∀ x c, X.fn x = true → X.env.cells.lookup x = some c → X.s_0.heap.objs.size ≤ c
  hd : X.calm = true → X.A.handled = none
  frames : X.A.frames = some X.stack
  stk : X.stack = X.outer ∨ (X.stack = X.env :: X.outer ∧ X.env.frame = some X.env.locals)
  exf : ∀ b ∈ X.ex, b ≠ X.env.locals ∧ ∀ x c, X.env.cells.lookup x = some c → c ≠ b
  bs : ∀ b o, X.base.get? b = some o → X.s_0.heap.get? b = some o ∧ X.H_0 b = none
  bsz : X.base.objs.size ≤ X.s_0.heap.objs.size
  noex : ∀ b o, X.base.get? b = some o → b ∉ X.ex
  exfs : ∀ b ∈ X.ex, b ∉ X.fs
  funs : X.s_0.heap.FunFrames X.base X.outer
  frf : ∀ b ∈ X.fs, X.H_0 b = none

structure Inv (X : Cx) (pins : List (Addr × Obj)) (σ : List (Option V)) (H : Hp) (s : Shared) : Prop where
  ok : X.Ok
  os : s.os = X.s_0.os
  bare : AllBare s.gens
  base : Un X.fs X.ex X.H_0 H X.s_0.heap s.heap
  loc : ∃ m, s.heap.Ns X.env.locals m ∧ ∀ (i : Nat) (x : Str) (v : V), X.N[i]? = some x → σ[i]? = some (some v) → Vis X.env.scope x → ∃ u, RelV v u ∧ Look X.env s.heap m x u
  cell : ∀ x c, X.env.cells.lookup x = some c → ∃ v, s.heap.IsCell c v
  free : H X.env.locals = none
  freeC : ∀ x c, X.env.cells.lookup x = some c → H c = none
  pin : ∀ p ∈ X.pn ++ pins, s.heap.get? p.1 = some p.2 ∧ H p.1 = none ∧ p.1 ≠ X.env.locals ∧ p.1 ∉ X.fs ∧ ∀ v, p.2.data ≠ .cell v
  hok : HOk X.prog X.w H s.heap
  len : σ.length = X.N.length

section
variable {X : Cx} {pins : List (Addr × Obj)} {σ : List (Option V)} {H H' : Hp} {s : Shared} {h' : Heap}

theorem Cx.Ok.nofr (ok : X.Ok) {b : Addr} {o : Obj} (e : X.base.get? b = some o) : b ∉ X.fs := fun hb => by
  have := (ok.funs.mem hb).1
  rw [e] at this; cases this
theorem Inv.bs (I : Inv X pins σ H s) : ∀ b o, X.base.get? b = some o → s.heap.get? b = some o ∧ H b = none := fun b o e =>
  ⟨I.base.keep b o (I.ok.bs b o e).1 (I.ok.bs b o e).2 (I.ok.nofr e) (I.ok.noex b o e), I.base.free b o (I.ok.bs b o e).1 (I.ok.bs b o e).2 (I.ok.noex b o e)⟩
theorem Inv.bk (I : Inv X pins σ H s) : ∀ b o, X.base.get? b = some o → s.heap.get? b = some o := fun b o e => (I.bs b o e).1
theorem Inv.mod (I : Inv X pins σ H s) : Mod X.K X.mg X.base := I.ok.mod
theorem Inv.kIn (I : Inv X pins σ H s) : X.K.In s.heap := I.ok.mod.kin.keeps I.bk
theorem Inv.nolimit (I : Inv X pins σ H s) : s.heap.NoLimit := I.ok.mod.nolimit.keeps I.bk
/-- the frame over the base: for OpenK's rules (K.In X.base is I.mod.kin) -/
theorem Inv.fr (I : Inv X pins σ H s) : ∃ m, Fr X.base X.env.locals s.heap m :=
  let ⟨m, hn, _⟩ := I.loc
  ⟨m, hn, I.bk, Nat.le_trans I.ok.bsz I.ok.above⟩
theorem Inv.lt (I : Inv X pins σ H s) : X.env.locals < s.heap.objs.size := let ⟨_, hn, _⟩ := I.loc; hn.lt
theorem Inv.sz (I : Inv X pins σ H s) : X.s_0.heap.objs.size ≤ s.heap.objs.size := Nat.le_trans I.ok.above (Nat.le_of_lt I.lt)
theorem Inv.nofs (I : Inv X pins σ H s) {a : Addr} (h : s.heap.objs.size ≤ a) : a ∉ X.fs := fun hb => by
  obtain ⟨_, o, ho, _⟩ := I.ok.funs.mem hb
  exact absurd (Nat.lt_of_lt_of_le (Heap.lt_size ho) (Nat.le_trans I.sz h)) (Nat.lt_irrefl _)
theorem Inv.cne (I : Inv X pins σ H s) : ∀ x c, X.env.cells.lookup x = some c → c ≠ X.env.locals := fun x c e z => by
  obtain ⟨v, o, ho, hd⟩ := I.cell x c e
  obtain ⟨m, ⟨o', es, ep, ho', hd', _⟩, _⟩ := I.loc
  rw [z, ho'] at ho; cases ho; rw [hd'] at hd; cases hd
theorem Inv.funs (I : Inv X pins σ H s) : s.heap.FunFrames X.base X.outer := by
  have all : ∀ (l : List Env), (∀ b ∈ frs l, b ∈ X.fs) → X.s_0.heap.FunFrames X.base l → s.heap.FunFrames X.base l := by
    intro l
    induction l with
    | nil => intro _ _; trivial
    | cons env r ih =>
      intro hs hl
      obtain ⟨hk, ⟨L, o, hf, hn, ho, hd⟩, hr⟩ := hl
      have hL : L ∈ X.fs := hs L (by unfold frs; rw [List.filterMap_cons, hf]; exact List.mem_cons_self)
      obtain ⟨sl, e⟩ := I.base.slot L o ho (I.ok.frf L hL) hL fun z => I.ok.exfs L z hL
      exact ⟨hk, ⟨L, _, hf, hn, e, hd⟩, ih (fun b hb => hs b (by unfold frs; rw [List.filterMap_cons, hf]; exact List.mem_cons_of_mem _ hb)) hr⟩
  exact all X.outer (fun _ hb => hb) I.ok.funs

/-- the frames that run, for a call -/
theorem Inv.stack (I : Inv X pins σ H s) : s.heap.FunFrames X.base X.stack := by
  rcases I.ok.stk with e | ⟨e, hf⟩
  · rw [e]; exact I.funs
  · rw [e]
    obtain ⟨m, hn, _⟩ := I.loc
    refine .cons (by rw [I.ok.kind]; decide) hf hn ?_ I.funs
    exact Heap.get?_none_of_le (Nat.le_trans I.ok.bsz I.ok.above)
theorem Inv.stkSub (I : Inv X pins σ H s) : ∀ b ∈ frs X.stack, b ∈ X.env.locals :: X.fs := fun b hb => by
  rcases I.ok.stk with e | ⟨e, hf⟩
  · rw [e] at hb; exact List.mem_cons_of_mem _ hb
  · rw [e] at hb
    unfold frs at hb
    rw [List.filterMap_cons, hf] at hb
    exact hb
theorem Inv.stkFree (I : Inv X pins σ H s) : ∀ b ∈ frs X.stack, H b = none := fun b hb => by
  rcases List.mem_cons.mp (I.stkSub b hb) with e | hb
  · rw [e]; exact I.free
  · obtain ⟨_, o, ho, _⟩ := I.ok.funs.mem hb
    exact I.base.free b o ho (I.ok.frf b hb) fun z => I.ok.exfs b z hb

/-- THE STEP: the untracked objects but the frame and the records at ch are kept (the callers' frames up to slots), the frame's map is kept, the new abstract heap is held -/
theorem Inv.step {g' : Array GenState} {t' : Nat} {d' : Drawn} {ch : List Addr} (I : Inv X pins σ H s)
    (hch : ∀ b ∈ ch, (b ∈ X.ex ∨ X.s_0.heap.objs.size ≤ b) ∧ b ≠ X.env.locals ∧ (∀ x c, X.env.cells.lookup x = some c → c ≠ b) ∧ ∀ p ∈ X.pn ++ pins, p.1 ≠ b)
    (keep : ∀ b o, b ≠ X.env.locals → b ∉ X.fs → b ∉ ch → s.heap.get? b = some o → H b = none → h'.get? b = some o)
    (slot : ∀ b o, b ≠ X.env.locals → b ∈ X.fs → b ∉ ch → s.heap.get? b = some o → H b = none → ∃ sl, h'.get? b = some { o with slots := sl }) (free : ∀ b o, b ∉ ch → s.heap.get? b = some o → H b = none → H' b = none)
    (there : ∀ b o, b ∉ ch → s.heap.get? b = some o → ∃ o', h'.get? b = some o')
    (tups : ∀ b xs, H b = some (.tup xs) → H' b = some (.tup xs)) (frzs : ∀ b o u, H b = some (.frz o u) → H' b = some (.frz o u)) (tbls : ∀ b ps, H b = some (.tbl ps) → ∃ more, H' b = some (.tbl (ps ++ more)))
    (ns : ∀ m, s.heap.Ns X.env.locals m → h'.Ns X.env.locals m) (hok : HOk X.prog X.w H' h') (hg : AllBare g') :
    Inv X pins σ H' { s with heap := h', gens := g', drawn := d', toks := t' } := by
  have neL : ∀ b o, X.s_0.heap.get? b = some o → b ≠ X.env.locals := fun b o e => Nat.ne_of_lt (Nat.lt_of_lt_of_le (Heap.lt_size e) I.ok.above)
  have neC : ∀ b o, X.s_0.heap.get? b = some o → b ∉ X.ex → b ∉ ch := fun b o e hx hb => by
    rcases (hch b hb).1 with z | z
    · exact hx z
    · exact absurd (Nat.lt_of_lt_of_le (Heap.lt_size e) z) (Nat.lt_irrefl _)
  have cellK : ∀ x c, X.env.cells.lookup x = some c → ∀ v, s.heap.IsCell c v → h'.IsCell c v := fun x c e v ⟨o, ho, hd⟩ => by
    have nch : c ∉ ch := fun z => (hch c z).2.2.1 x c e rfl
    by_cases hc : c ∈ X.fs
    · obtain ⟨sl, q⟩ := slot c o (I.cne x c e) hc nch ho (I.freeC x c e)
      exact ⟨_, q, hd⟩
    · exact ⟨o, keep c o (I.cne x c e) hc nch ho (I.freeC x c e), hd⟩
  refine ⟨I.ok, I.os, hg, ⟨fun b o e n hb hx => ?_, fun b o e n hb hx => ?_, fun b o e n hx => ?_, fun b o e hx => ?_, fun b xs e => tups b xs (I.base.tups b xs e), fun b o xs e => frzs b o xs (I.base.frzs b o xs e), fun b ps e => ?_⟩, ?_, fun x c e => ?_, ?_, fun x c e => ?_, fun p hp => ?_, hok, I.len⟩
  · exact keep b o (neL b o e) hb (neC b o e hx) (I.base.keep b o e n hb hx) (I.base.free b o e n hx)
  · obtain ⟨sl, e1⟩ := I.base.slot b o e n hb hx
    obtain ⟨sl', e2⟩ := slot b _ (neL b o e) hb (neC b o e hx) e1 (I.base.free b o e n hx)
    exact ⟨sl', e2⟩
  · obtain ⟨o', e1⟩ := I.base.there b o e hx
    exact free b o' (neC b o e hx) e1 (I.base.free b o e n hx)
  · obtain ⟨o', e1⟩ := I.base.there b o e hx
    exact there b o' (neC b o e hx) e1
  · obtain ⟨m1, e1⟩ := I.base.tbls b ps e
    obtain ⟨m2, e2⟩ := tbls b _ e1
    exact ⟨m1 ++ m2, by rw [e2, Array.append_assoc]⟩
  · obtain ⟨m, hn, hl⟩ := I.loc
    refine ⟨m, ns m hn, fun i x v e1 e2 e3 => ?_⟩
    obtain ⟨u, r, l⟩ := hl i x v e1 e2 e3
    refine ⟨u, r, ?_⟩
    rcases l with l | ⟨k, c, e, z⟩
    · exact .inl l
    · exact .inr ⟨k, c, e, cellK x c e _ z⟩
  · obtain ⟨v, z⟩ := I.cell x c e
    exact ⟨v, cellK x c e v z⟩
  · obtain ⟨m, ⟨o, _, _, ho, _⟩, _⟩ := I.loc
    exact free _ o (fun z => (hch _ z).2.1 rfl) ho I.free
  · obtain ⟨v, o, ho, hd⟩ := I.cell x c e
    exact free c o (fun z => (hch c z).2.2.1 x c e rfl) ho (I.freeC x c e)
  · obtain ⟨e, n, ne, nf, d⟩ := I.pin p hp
    have nch : p.1 ∉ ch := fun z => (hch p.1 z).2.2.2 p hp rfl
    exact ⟨keep p.1 p.2 ne nf nch e n, free p.1 p.2 nch e n, ne, nf, d⟩
/-- .. where the frame's own object is kept too -/
theorem Inv.un {t' : Nat} (I : Inv X pins σ H s) (u : Un X.fs [] H H' s.heap h') (hok : HOk X.prog X.w H' h') : Inv X pins σ H' { s with heap := h', toks := t' } := by
  obtain ⟨m, ⟨o, es, ep, ho, r⟩, _⟩ := id I.loc
  obtain ⟨sl, hL⟩ := u.any ho I.free (by simp)
  exact I.step (g' := s.gens) (d' := s.drawn) (ch := []) (fun _ z => nomatch z) (fun b o _ hb _ e n => u.keep b o e n hb (by simp)) (fun b o _ hb _ e n => u.slot b o e n hb (by simp)) (fun b o _ e n => u.free b o e n (by simp)) (fun b o _ e => u.there b o e (by simp)) u.tups u.frzs u.tbls (fun m' hm => by
    obtain ⟨o', es', ep', ho', r'⟩ := hm
    rw [ho] at ho'; cases ho'
    exact ⟨_, es', ep', hL, r'⟩) hok I.bare
/-- behind a call (or a comprehension's block): the slots of this frame may have changed too, the records at ch may have turned -/
theorem Inv.call {g' : Array GenState} {t' : Nat} {d' : Drawn} {ch : List Addr} (I : Inv X pins σ H s) (u : Un (frs X.stack) ch H H' s.heap h') (hok : HOk X.prog X.w H' h') (hg : AllBare g')
    (hch : ∀ b ∈ ch, (b ∈ X.ex ∨ X.s_0.heap.objs.size ≤ b) ∧ b ≠ X.env.locals ∧ (∀ x c, X.env.cells.lookup x = some c → c ≠ b) ∧ ∀ p ∈ X.pn ++ pins, p.1 ≠ b) :
    Inv X pins σ H' { s with heap := h', gens := g', drawn := d', toks := t' } := by
  obtain ⟨m, ⟨o, es, ep, ho, r⟩, _⟩ := id I.loc
  obtain ⟨sl, hL⟩ := u.any ho I.free fun z => (hch _ z).2.1 rfl
  exact I.step (ch := ch) hch (fun b o hL hb hc e n => u.keep b o e n (fun z => (List.mem_cons.mp (I.stkSub b z)).elim hL hb) hc) (fun b o _ _ hc e n => u.any e n hc) (fun b o hc e n => u.free b o e n hc) (fun b o hc e => u.there b o e hc) u.tups u.frzs u.tbls (fun m' hm => by
    obtain ⟨o', es', ep', ho', r'⟩ := hm
    rw [ho] at ho'; cases ho'
    exact ⟨_, es', ep', hL, r'⟩) hok hg
/-- an untracked record of ours (an iterator) has turned -/
theorem Inv.turned {t' : Nat} {it : Addr} (I : Inv X pins σ H s) (k : ∀ b o, b ≠ it → s.heap.get? b = some o → h'.get? b = some o) (hn : H it = none) (hL : it ≠ X.env.locals)
    (h1 : it ∈ X.ex ∨ X.s_0.heap.objs.size ≤ it) (h2 : ∀ x c, X.env.cells.lookup x = some c → c ≠ it) (h3 : ∀ p ∈ X.pn ++ pins, p.1 ≠ it) : Inv X pins σ H { s with heap := h', toks := t' } := by
  have nit : ∀ b u, H b = some u → b ≠ it := fun b u e z => by rw [z, hn] at e; cases e
  refine I.step (g' := s.gens) (d' := s.drawn) (ch := [it]) (fun b hb => ?_) (fun b o _ _ hc e _ => k b o (fun z => hc (by simp [z])) e) (fun b o _ _ hc e _ => ⟨o.slots, k b o (fun z => hc (by simp [z])) e⟩) (fun _ _ _ _ n => n)
    (fun b o hc e => ⟨o, k b o (fun z => hc (by simp [z])) e⟩) (fun _ _ e => e) (fun _ _ _ e => e) (fun b ps e => ⟨#[], by rw [e]; simp⟩) (fun m hm => ?_) (fun b u e => ?_) I.bare
  · have e : b = it := by simpa using hb
    subst e
    exact ⟨h1, hL, h2, h3⟩
  · obtain ⟨o, es, ep, ho, r⟩ := hm
    exact ⟨o, es, ep, k _ o (Ne.symm hL) ho, r⟩
  · refine (I.hok b u e).stay (fun c v hc q => k c v ?_ q) (fun _ q => q) fun _ _ q => q
    rcases hc with z | z
    · rw [z]; exact nit b u e
    · exact nit c _ z
theorem Inv.tok (I : Inv X pins σ H s) (t : Nat) : Inv X pins σ H { s with toks := t } := I.un (h' := s.heap) (t' := t) Un.refl I.hok
/-- all objects kept -/
theorem Inv.kept {t' : Nat} (I : Inv X pins σ H s) (k : ∀ b u, s.heap.get? b = some u → h'.get? b = some u) : Inv X pins σ H { s with heap := h', toks := t' } := I.un (Un.kept k) (I.hok.kept k)
/-- a new object laid and tracked -/
theorem Inv.laid {a : Addr} {o : HO} {t' : Nat} (I : Inv X pins σ H s) (k : ∀ b u, s.heap.get? b = some u → h'.get? b = some u) (hp : s.heap.objs.size ≤ a) (new : ObjOk X.prog X.w (upd H a o) h' a o) :
    Inv X pins σ (upd H a o) { s with heap := h', toks := t' } := I.un (Un.laid k hp (I.hok.fresh hp)) (I.hok.laid k hp new)
/-- an object written -/
theorem Inv.write {x e : Addr} {o : HO} {t' : Nat} (I : Inv X pins σ H s) (mu : Mut (H x)) (he : e = x ∨ H e = some (.own x)) (k : ∀ b u, b ≠ e → s.heap.get? b = some u → h'.get? b = some u) (heo : ∃ u, h'.get? e = some u)
    (new : ObjOk X.prog X.w (upd H x o) h' x o) : Inv X pins σ (upd H x o) { s with heap := h', toks := t' } := I.un (Un.write mu he k heo) (I.hok.write mu he k heo new)
/-- forgetting slots, pins -/
theorem Inv.weak {σ' : List (Option V)} (I : Inv X pins σ H s) (hl : σ'.length = σ.length) (w : ∀ (i : Nat) v, σ'[i]? = some (some v) → σ[i]? = some (some v)) : Inv X pins σ' H s :=
  ⟨I.ok, I.os, I.bare, I.base, let ⟨m, hn, hl'⟩ := I.loc; ⟨m, hn, fun i x v e1 e2 e3 => hl' i x v e1 (w i v e2) e3⟩, I.cell, I.free, I.freeC, I.pin, I.hok, hl.trans I.len⟩
theorem Inv.pins_of {pins' : List (Addr × Obj)} (I : Inv X pins σ H s) (h : ∀ p ∈ pins', s.heap.get? p.1 = some p.2 ∧ H p.1 = none ∧ p.1 ≠ X.env.locals ∧ p.1 ∉ X.fs ∧ ∀ v, p.2.data ≠ .cell v) : Inv X pins' σ H s :=
  ⟨I.ok, I.os, I.bare, I.base, I.loc, I.cell, I.free, I.freeC, fun p hp => (List.mem_append.mp hp).elim (fun z => I.pin p (List.mem_append_left _ z)) (h p), I.hok, I.len⟩

theorem nodup_ix {N : List Str} (hN : N.Nodup) {i j : Nat} {x : Str} (a : N[i]? = some x) (b : N[j]? = some x) : i = j := by
  obtain ⟨h1, e1⟩ := List.getElem?_eq_some_iff.mp a
  obtain ⟨h2, e2⟩ := List.getElem?_eq_some_iff.mp b
  exact (List.getElem_inj hN).mp (e1.trans e2.symm)

/-- a name is stored; what changed -/
theorem store_ok2 {M : Model} {A : Around} {E : Value → Shared → Prop} {i : Nat} {x : Str} {v : V} {u : Value} {Q : Unit → Shared → Prop} (I : Inv X pins σ H s) (hN : X.N.Nodup) (hi : X.N[i]? = some x) (hx : Loc X.env.scope x) (r : RelV v u)
    (h : ∀ s', Inv X pins (σ.set i (some v)) H s' → (∃ a, Heap.SameBut a s.heap s'.heap ∧ (a = X.env.locals ∨ X.env.cells.lookup x = some a)) → Q () s') (hf : X.fn x = true ∨ X.env.scope.names.lookup x = some .local := by first | exact .inl rfl | exact .inr rfl | assumption) : wpAny M A (storeName X.env x u) Q E s := by
  obtain ⟨m, hn, hl⟩ := id I.loc
  have hcls : (X.env.scope.kind == .class || (X.env.scope.kind == .module && X.env.locals != X.env.globals)) = false := by rw [I.ok.kind]; rfl
  have hiσ : i < σ.length := by rw [I.len]; exact (List.getElem?_eq_some_iff.mp hi).1
  have cne := I.cne
  have tracked : ∀ {a : Addr} {h' : Heap}, (∃ o, s.heap.get? a = some o ∧ H a = none) → Heap.SameBut a s.heap h' → HOk X.prog X.w H h' := fun {a h'} ha hs b ob e => by
    obtain ⟨_, _, hfree⟩ := ha
    refine (I.hok b ob e).stay (fun c w' hc q => (hs.2 c ?_).trans q) (fun _ q => q) fun _ _ q => q
    rintro rfl
    rcases hc with rfl | hc
    · rw [hfree] at e; cases e
    · rw [hfree] at hc; cases hc
  rcases hx with hk | hk
  · refine wpAny_storeName_local hk hn (fun h' hn' hs => ?_) hcls
    obtain ⟨oL, _, _, hoL, _⟩ := id hn
    refine h _ ⟨I.ok, I.os, I.bare, ⟨fun b o e n hb hx => ?_, fun b o e n hb hx => ?_, I.base.free, fun b o e hx => ?_, I.base.tups, I.base.frzs, I.base.tbls⟩, ⟨_, hn', fun j y v' e1 e2 e3 => ?_⟩, fun y c e => ?_, I.free, I.freeC, fun p hp => ?_, tracked ⟨oL, hoL, I.free⟩ hs, by simpa using I.len⟩ ⟨_, hs, .inl rfl⟩
    · exact (hs.2 b (Nat.ne_of_lt (Nat.lt_of_lt_of_le (Heap.lt_size e) I.ok.above))).trans (I.base.keep b o e n hb hx)
    · obtain ⟨sl, e1⟩ := I.base.slot b o e n hb hx
      exact ⟨sl, (hs.2 b (Nat.ne_of_lt (Nat.lt_of_lt_of_le (Heap.lt_size e) I.ok.above))).trans e1⟩
    · obtain ⟨o', e1⟩ := I.base.there b o e hx
      exact ⟨o', (hs.2 b (Nat.ne_of_lt (Nat.lt_of_lt_of_le (Heap.lt_size e) I.ok.above))).trans e1⟩
    · by_cases hj : j = i
      · subst hj
        rw [hi] at e1; cases e1
        rw [List.getElem?_set_self hiσ] at e2
        cases e2
        exact ⟨u, r, .inl ⟨hk, by simp⟩⟩
      · rw [List.getElem?_set_ne (Ne.symm hj)] at e2
        obtain ⟨u', r', q⟩ := hl j y v' e1 e2 e3
        refine ⟨u', r', ?_⟩
        rcases q with ⟨k, e⟩ | ⟨k, c, e, z⟩
        · refine .inl ⟨k, ?_⟩
          have : y ≠ x := fun e => hj (nodup_ix hN e1 (e ▸ hi))
          simp [this, e]
        · exact .inr ⟨k, c, e, z.sameBut hs (cne y c e)⟩
    · obtain ⟨w', z⟩ := I.cell y c e
      exact ⟨w', z.sameBut hs (cne y c e)⟩
    · obtain ⟨e, n, ne, nf, d⟩ := I.pin p hp
      exact ⟨(hs.2 p.1 ne).trans e, n, ne, nf, d⟩
  · have hfn : X.fn x = true := by
      rcases hf with z | z
      · exact z
      · rw [z] at hk; cases hk
    obtain ⟨c, hc⟩ := I.ok.has x (.inl hk)
    obtain ⟨w', z⟩ := I.cell x c hc
    refine wpAny_storeName_cell I.ok.kind hk hc z (fun h' hc' hs => ?_)
    obtain ⟨oc, hoc, hocd⟩ := id z
    refine h { s with heap := h' } ⟨I.ok, I.os, I.bare, ⟨fun b o e n hb hx => ?_, fun b o e n hb hx => ?_, I.base.free, fun b o e hx => ?_, I.base.tups, I.base.frzs, I.base.tbls⟩, ⟨m, hn.sameBut hs (Ne.symm (cne x c hc)), fun j y v' e1 e2 e3 => ?_⟩, fun y c' e => ?_, I.free, I.freeC, fun p hp => ?_, tracked ⟨oc, hoc, I.freeC x c hc⟩ hs, by simpa using I.len⟩ ⟨c, hs, .inr hc⟩
    · exact (hs.2 b (Nat.ne_of_lt (Nat.lt_of_lt_of_le (Heap.lt_size e) (I.ok.cab x c hfn hc)))).trans (I.base.keep b o e n hb hx)
    · obtain ⟨sl, e1⟩ := I.base.slot b o e n hb hx
      exact ⟨sl, (hs.2 b (Nat.ne_of_lt (Nat.lt_of_lt_of_le (Heap.lt_size e) (I.ok.cab x c hfn hc)))).trans e1⟩
    · obtain ⟨o', e1⟩ := I.base.there b o e hx
      exact ⟨o', (hs.2 b (Nat.ne_of_lt (Nat.lt_of_lt_of_le (Heap.lt_size e) (I.ok.cab x c hfn hc)))).trans e1⟩
    · by_cases hj : j = i
      · subst hj
        rw [hi] at e1; cases e1
        rw [List.getElem?_set_self hiσ] at e2
        cases e2
        exact ⟨u, r, .inr ⟨.inl hk, c, hc, hc'⟩⟩
      · rw [List.getElem?_set_ne (Ne.symm hj)] at e2
        obtain ⟨u', r', q⟩ := hl j y v' e1 e2 e3
        refine ⟨u', r', ?_⟩
        rcases q with q | ⟨k, c', e, z'⟩
        · exact .inl q
        · refine .inr ⟨k, c', e, z'.sameBut hs ?_⟩
          rintro rfl
          exact hj (nodup_ix hN e1 (I.ok.inj _ _ _ e hc ▸ hi))
    · by_cases hcc : c' = c
      · subst hcc; exact ⟨_, hc'⟩
      · obtain ⟨w2, z2⟩ := I.cell y c' e
        exact ⟨w2, z2.sameBut hs hcc⟩
    · obtain ⟨e, n, ne, nf, d⟩ := I.pin p hp
      refine ⟨(hs.2 p.1 ?_).trans e, n, ne, nf, d⟩
      intro q
      rw [q, hoc] at e
      have q' : oc = p.2 := Option.some.inj e
      exact d w' (by rw [← q']; exact hocd)
theorem store_ok {M : Model} {A : Around} {E : Value → Shared → Prop} {i : Nat} {x : Str} {v : V} {u : Value} {Q : Unit → Shared → Prop} (I : Inv X pins σ H s) (hN : X.N.Nodup) (hi : X.N[i]? = some x) (hx : Loc X.env.scope x) (r : RelV v u)
    (h : ∀ s', Inv X pins (σ.set i (some v)) H s' → Q () s') (hf : X.fn x = true ∨ X.env.scope.names.lookup x = some .local := by first | exact .inl rfl | exact .inr rfl | assumption) : wpAny M A (storeName X.env x u) Q E s :=
  store_ok2 I hN hi hx r (fun s' I' _ => h s' I') hf
/-- behind a call or a block, the state as it is -/
theorem Inv.call' {s' : Shared} {ch : List Addr} (I : Inv X pins σ H s) (ho : s'.os = s.os) (u : Un (frs X.stack) ch H H' s.heap s'.heap) (hok : HOk X.prog X.w H' s'.heap) (hg : AllBare s'.gens)
    (hch : ∀ b ∈ ch, (b ∈ X.ex ∨ X.s_0.heap.objs.size ≤ b) ∧ b ≠ X.env.locals ∧ (∀ x c, X.env.cells.lookup x = some c → c ≠ b) ∧ ∀ p ∈ X.pn ++ pins, p.1 ≠ b) : Inv X pins σ H' s' := by
  obtain ⟨h', g', d', t', o'⟩ := s'
  have e : o' = s.os := ho
  subst e
  exact I.call (g' := g') (t' := t') (d' := d') u hok hg hch
end

/-! ### the judgements -/
/-- an exception: its class, its own dict's address (where it has one), the abstract heap behind it -/
abbrev XK := Value → Option Addr → Hp → Prop
abbrev St := List (Option V)
abbrev VK := V → Hp → Prop
/-- an expression's reading; a test's; an argument list's -/
abbrev TE := St → Hp → VK → Prop
abbrev TT := St → Hp → (Bool → Hp → Prop) → Prop
abbrev TA := St → Hp → (List V → Hp → Prop) → Prop
/-- what is wanted behind a statement -/
structure Ends where
  nx : St → Hp → Prop
  rt : VK
  bk : St → Hp → Prop := fun _ _ => False
  ct : St → Hp → Prop := fun _ _ => False
abbrev TS := Ends → St → Hp → Prop

def EP (X : Cx) (pins : List (Addr × Obj)) (σ : St) (Q : VK) (u : Value) (s' : Shared) : Prop := ∃ v H', Inv X pins σ H' s' ∧ RelV v u ∧ Q v H'
def TP (X : Cx) (pins : List (Addr × Obj)) (σ : St) (Q : Bool → Hp → Prop) (b : Bool) (s' : Shared) : Prop := ∃ H', Inv X pins σ H' s' ∧ Q b H'
def AP (X : Cx) (pins : List (Addr × Obj)) (σ : St) (Q : List V → Hp → Prop) (us : List Value) (s' : Shared) : Prop := ∃ vs H', Inv X pins σ H' s' ∧ Vals vs us ∧ Q vs H'
def SP (X : Cx) (pins : List (Addr × Obj)) (D : Ends) (f : Flow) (s' : Shared) : Prop :=
  match f with
  | .next => ∃ σ' H', Inv X pins σ' H' s' ∧ D.nx σ' H'
  | .brk => ∃ σ' H', Inv X pins σ' H' s' ∧ D.bk σ' H'
  | .cont => ∃ σ' H', Inv X pins σ' H' s' ∧ D.ct σ' H'
  | .ret u => ∃ v σ' H', Inv X pins σ' H' s' ∧ RelV v u ∧ D.rt v H'

def PE (X : Cx) (e : Expr) (t : TE) : Prop :=
  ∀ (pins : List (Addr × Obj)) (s : Shared) (σ : St) (H : Hp) (Q : VK), Inv X pins σ H s → t σ H Q → wpAny (model X.prog X.w) X.A (eval e X.env) (EP X pins σ Q) X.xe s
def PT (X : Cx) (e : Expr) (t : TT) : Prop :=
  ∀ (pins : List (Addr × Obj)) (s : Shared) (σ : St) (H : Hp) (Q : Bool → Hp → Prop), Inv X pins σ H s → t σ H Q → wpAny (model X.prog X.w) X.A (isTrue e X.env (eval e X.env)) (TP X pins σ Q) X.xe s
/-- a test whatever its 'whole' is (and, or) -/
def PW (X : Cx) (e : Expr) (t : TT) : Prop :=
  ∀ (whole : Sem Value) (pins : List (Addr × Obj)) (s : Shared) (σ : St) (H : Hp) (Q : Bool → Hp → Prop), Inv X pins σ H s → t σ H Q → wpAny (model X.prog X.w) X.A (isTrue e X.env whole) (TP X pins σ Q) X.xe s
theorem PW.pt {X : Cx} {e : Expr} {t : TT} (h : PW X e t) : PT X e t := h _
/-- an argument list (no star), from the left -/
def PA (X : Cx) (es : List Expr) (t : TA) : Prop :=
  ∀ (pos : Pos) (pins : List (Addr × Obj)) (s : Shared) (σ : St) (H : Hp) (Q : List V → Hp → Prop), Inv X pins σ H s → t σ H Q → wpAny (model X.prog X.w) X.A (spliced (backTo pos (starEach es X.env))) (AP X pins σ Q) X.xe s
def PS (X : Cx) (st : Stmt) (t : TS) : Prop :=
  ∀ (pins : List (Addr × Obj)) (s : Shared) (σ : St) (H : Hp) (D : Ends), Inv X pins σ H s → t D σ H → wpAny (model X.prog X.w) X.A (exec st X.env) (SP X pins D) X.xe s
def PSs (X : Cx) (st : List Stmt) (t : TS) : Prop :=
  ∀ (pins : List (Addr × Obj)) (s : Shared) (σ : St) (H : Hp) (D : Ends), Inv X pins σ H s → t D σ H → wpAny (model X.prog X.w) X.A (execs st X.env) (SP X pins D) X.xe s
/-- weaken the end -/
theorem thn {α : Type} {t : Sem α} {Q Q' : α → Shared → Prop} {M : Model} {A : Around} {E : Value → Shared → Prop} {s : Shared} (h : wpAny M A t Q E s) (hQ : ∀ a s, Q a s → Q' a s) : wpAny M A t Q' E s := wpAny_mono h hQ fun _ _ x => x
end L2

namespace L2
open PySem PySem.Spec PyProof.Rows
section
variable {X : Cx}


/-! ### names and constants -/
def tVar (i : Nat) : TE := fun σ H Q => ∃ v, σ[i]? = some (some v) ∧ Q v H
def tC (v : V) : TE := fun _ H Q => Q v H
theorem pe_var {i : Nat} {x : Str} {pos : Pos} (hN : X.N[i]? = some x) (hv : Vis X.env.scope x) (hd : (x == ("__debug__" : Str)) = false := by decide) (hcd : (x == ("__classdict__" : Str)) = false := by decide) : PE X (.Name x pos) (tVar i) := by
  intro pins s σ H Q I h
  obtain ⟨v, e, h⟩ := h
  obtain ⟨m, hn, hl⟩ := I.loc
  obtain ⟨u, r, l⟩ := hl i x v hN e hv
  have fin : EP X pins σ Q u s := ⟨v, H, I, r, h⟩
  rcases l with ⟨hk, hm⟩ | ⟨hk, c, hc, hcell⟩
  · exact wpAny_Name (wpAny_loadName_local I.ok.kind hk hn hm fin) hd
  · rcases hk with hk | hk
    · exact wpAny_Name (wpAny_loadName_cell I.ok.kind hk hc hcell fin) hd
    · exact wpAny_Name (wpAny_loadName_free I.ok.kind hk hc hcell fin hcd) hd
theorem pe_int {i j pos} : PE X (.Constant (.int i) j pos) (tC (.int i)) := fun _ _ _ H _ I h => wpAny_Constant_int ⟨.int i, H, I.tok _, ⟨_, rfl⟩, h⟩
theorem pe_bl {b j pos} : PE X (.Constant (.bool b) j pos) (tC (.bl b)) := fun _ _ _ H _ I h => Constant_bool ⟨.bl b, H, I, rfl, h⟩
theorem pe_non {j pos} : PE X (.Constant .none j pos) (tC .non) := fun _ _ _ H _ I h => Constant_none ⟨.non, H, I, rfl, h⟩

/-- a global name of the def -/
def Gl (X : Cx) (x : Str) : Prop := X.env.kindOf x = some .globalImplicit
theorem ld_glob {E : Value → Shared → Prop} {pins : List (Addr × Obj)} {s : Shared} {σ : St} {H : Hp} {x : Str} {u : Value} {pos : Pos} {Q : Value → Shared → Prop} (I : Inv X pins σ H s) (hg : Gl X x) (hm : X.mg x = some u) (h : Q u s)
    (hd : (x == ("__debug__" : Str)) = false := by decide) : wpAny (model X.prog X.w) X.A (eval (.Name x pos) X.env) Q E s :=
  Calls.Name_function_global I.ok.kind hg (Calls.loadGlobal_global (by rw [I.ok.glob]; exact I.mod.glob.keeps I.bk) hm h) hd
theorem ld_blt {E : Value → Shared → Prop} {pins : List (Addr × Obj)} {s : Shared} {σ : St} {H : Hp} {x : Str} {u : Value} {pos : Pos} {Q : Value → Shared → Prop} (I : Inv X pins σ H s) (hg : Gl X x) (hm : X.mg x = none) (hv : bootBuiltins x = some u) (h : Q u s)
    (hn : x ≠ "__name__" := by decide) (hd : (x == ("__debug__" : Str)) = false := by decide) : wpAny (model X.prog X.w) X.A (eval (.Name x pos) X.env) Q E s := by
  obtain ⟨mb, h1, h2⟩ := I.mod.blt
  exact Calls.Name_function_global I.ok.kind hg (Calls.loadGlobal_builtin (by rw [I.ok.glob]; exact I.mod.glob.keeps I.bk) hm (by rw [I.ok.blt]; exact h1.keeps I.bk) ((h2 x hn).trans hv) h) hd
/-- a module's constant, a class, a function, as a value -/
theorem pe_glob {x : Str} {v : V} {u : Value} {pos : Pos} (hg : Gl X x) (hm : X.mg x = some u) (r : RelV v u) (hd : (x == ("__debug__" : Str)) = false := by decide) : PE X (.Name x pos) (tC v) :=
  fun _ _ _ H _ I h => ld_glob I hg hm ⟨v, H, I, r, h⟩ hd

/-! ### arithmetic -/
/-- two ints -/
def t2I (ta tb : TE) (k : Int → Int → Hp → Prop) : St → Hp → Prop := fun σ H => ta σ H fun x H1 => tb σ H1 fun y H2 => ∃ i j, x = .int i ∧ y = .int j ∧ k i j H2
def tAdd (ta tb : TE) : TE := fun σ H Q => t2I ta tb (fun i j H2 => Q (.int (i + j)) H2) σ H
def tSub (ta tb : TE) : TE := fun σ H Q => t2I ta tb (fun i j H2 => Q (.int (i - j)) H2) σ H
/-- the left factor below 2^64 -/
def tMul (ta tb : TE) : TE := fun σ H Q => t2I ta tb (fun i j H2 => (-(2 ^ 64) < i ∧ i < 2 ^ 64) ∧ Q (.int (i * j)) H2) σ H
variable {a b : Expr} {ta tb : TE} {pos : Pos}

/-! ### comparisons -/
def PC (X : Cx) (op : CmpOp) (a b : Expr) (t : TE) : Prop :=
  ∀ (pins : List (Addr × Obj)) (s : Shared) (σ : St) (H : Hp) (Q : VK), Inv X pins σ H s → t σ H Q →
    wpAny (model X.prog X.w) X.A (eval a X.env) (fun v s₁ => wpAny (model X.prog X.w) X.A (eval b X.env) (fun u s₂ => wpAny (model X.prog X.w) X.A (compareOp op v u) (EP X pins σ Q) X.xe s₂) X.xe s₁) X.xe s
theorem nobehind (b : Expr) {op : CmpOp} (h : op ≠ .In) (h2 : op ≠ .NotIn) : behindInMarks op b = false := by
  have e1 : (op == CmpOp.In) = false := by cases op <;> first | rfl | exact absurd rfl h
  have e2 : (op == CmpOp.NotIn) = false := by cases op <;> first | rfl | exact absurd rfl h2
  cases b <;> simp [behindInMarks, e1, e2]
def tCmp (p : Int → Int → Bool) (ta tb : TE) : TE := fun σ H Q => t2I ta tb (fun i j H2 => Q (.bl (p i j)) H2) σ H
abbrev tLt : TE → TE → TE := tCmp fun i j => decide (i < j)
abbrev tLe : TE → TE → TE := tCmp fun i j => decide (i ≤ j)
abbrev tGt : TE → TE → TE := tCmp fun i j => decide (j < i)
abbrev tGe : TE → TE → TE := tCmp fun i j => decide (j ≤ i)
abbrev tEqI : TE → TE → TE := tCmp fun i j => decide (i = j)
abbrev tNeI : TE → TE → TE := tCmp fun i j => !decide (i = j)
/-- is None -/
def tIsN (ta : TE) : TE := fun σ H Q => ta σ H fun x H1 => Q (.bl (decide (x = .non))) H1
def tNotN (ta : TE) : TE := fun σ H Q => ta σ H fun x H1 => Q (.bl (!decide (x = .non))) H1
theorem RelV.none_iff {x : V} {v : Value} (r : RelV x v) : (v == Value.none) = decide (x = .non) := by
  cases x with
  | non => cases r; rfl
  | bl _ => cases r; rfl
  | int _ => obtain ⟨t, rfl⟩ := r; rfl
  | str _ => obtain ⟨t, rfl⟩ := r; rfl
  | byt _ => obtain ⟨t, rfl⟩ := r; rfl
  | flt _ => obtain ⟨t, rfl⟩ := r; rfl
  | ref _ => cases r; rfl
  | ty _ => cases r; rfl
theorem pc_isN {j pos'} (ha : PE X a ta) : PC X .Is a (.Constant .none j pos') (tIsN ta) := by
  intro pins s σ H Q I h
  refine thn (ha pins s σ H _ I h) fun v s1 ⟨x, H1, I1, r1, q1⟩ => ?_
  exact Constant_none (is_none_gen ⟨.bl _, H1, I1, by rw [r1.none_iff]; rfl, q1⟩)
/-- a comparison as a value, as a test -/
def tB (t : TE) : TT := fun σ H Q => t σ H fun x H1 => ∃ c, x = .bl c ∧ Q c H1
theorem pt_cmp {op : CmpOp} {t : TE} (h : PC X op a b t) (h1 : behindInMarks op b = false := by first | exact nobehind _ (by decide) (by decide) | rfl) : PT X (.Compare a [op] [b] pos) (tB t) := by
  intro pins s σ H Q I hw
  refine wpAny_isTrue_Compare1 (thn (h pins s σ H _ I hw) fun v s1 h1 => thn h1 fun u s2 h2 => thn h2 fun c s3 ⟨x, H1, I1, r1, q1⟩ => ?_) h1
  obtain ⟨d, rfl, q⟩ := q1
  cases r1
  exact wpAny_truthy_bool ⟨H1, I1, q⟩
/-- an expression whose value is a bool, as a test -/
theorem pt_val {e : Expr} {t : TE} (h : PE X e t) (he : ∀ whole, isTrue e X.env whole = (do let v ← whole; standAt e.pos; holding [v] (truthy v)) := by intro _; rfl) : PT X e (tB t) := by
  intro pins s σ H Q I hw
  refine isTrue_plain (thn (h pins s σ H _ I hw) fun v s1 ⟨x, H1, I1, r1, q1⟩ => ?_) (he _)
  obtain ⟨d, rfl, q⟩ := q1
  cases r1
  exact wpAny_truthy_bool ⟨H1, I1, q⟩

/-! ### and, or, not -/
variable {tA tB' : TT} {rest : List Expr}
def tAnd (t u : TT) : TT := fun σ H Q => t σ H fun c H1 => if c = true then u σ H1 Q else Q false H1
def tOr (t u : TT) : TT := fun σ H Q => t σ H fun c H1 => if c = true then Q true H1 else u σ H1 Q
def tNot (t : TT) : TT := fun σ H Q => t σ H fun c H1 => Q (!c) H1
theorem pw_and1 (ha : PT X a tA) : PW X (.BoolOp .And [a] pos) tA := by
  intro wh pins s σ H Q I h
  refine isTrue_and (thn (ha pins s σ H Q I h) fun c s1 e => ?_)
  cases c with
  | true => exact isTrue_and_nil e
  | false => exact e
theorem pw_or1 (ha : PT X a tA) : PW X (.BoolOp .Or [a] pos) tA := by
  intro wh pins s σ H Q I h
  refine isTrue_or (thn (ha pins s σ H Q I h) fun c s1 e => ?_)
  cases c with
  | false => exact isTrue_or_nil e
  | true => exact e
theorem pw_and (ha : PT X a tA) (hb : PW X (.BoolOp .And (b :: rest) pos) tB') : PW X (.BoolOp .And (a :: b :: rest) pos) (tAnd tA tB') := by
  intro wh pins s σ H Q I h
  refine isTrue_and (thn (ha pins s σ H _ I h) fun c s1 ⟨H1, I1, q1⟩ => ?_)
  cases c with
  | true => exact hb wh pins s1 σ H1 Q I1 q1
  | false => exact ⟨H1, I1, q1⟩
theorem pw_or (ha : PT X a tA) (hb : PW X (.BoolOp .Or (b :: rest) pos) tB') : PW X (.BoolOp .Or (a :: b :: rest) pos) (tOr tA tB') := by
  intro wh pins s σ H Q I h
  refine isTrue_or (thn (ha pins s σ H _ I h) fun c s1 ⟨H1, I1, q1⟩ => ?_)
  cases c with
  | true => exact ⟨H1, I1, q1⟩
  | false => exact hb wh pins s1 σ H1 Q I1 q1
theorem pt_not (ha : PT X a tA) : PT X (.UnaryOp .Not a pos) (tNot tA) := by
  intro pins s σ H Q I h
  exact isTrue_not (ha pins s σ H (fun c H1 => Q (!c) H1) I h)
/-- .. as values (bools) -/
def tAndV (ta tb : TE) : TE := fun σ H Q => ta σ H fun x H1 => ∃ c, x = .bl c ∧ if c = true then tb σ H1 Q else Q (.bl false) H1
def tOrV (ta tb : TE) : TE := fun σ H Q => ta σ H fun x H1 => ∃ c, x = .bl c ∧ if c = true then Q (.bl true) H1 else tb σ H1 Q
def tNotV (ta : TE) : TE := fun σ H Q => ta σ H fun x H1 => ∃ c, x = .bl c ∧ Q (.bl (!c)) H1
theorem pe_one {op} {t : TE} (h : PE X a t) : PE X (.BoolOp op [a] pos) t := fun pins s σ H Q I hw => BoolOp_one (h pins s σ H Q I hw)
theorem pe_and (ha : PE X a ta) (hb : PE X (.BoolOp .And (b :: rest) pos) tb) : PE X (.BoolOp .And (a :: b :: rest) pos) (tAndV ta tb) := by
  intro pins s σ H Q I h
  refine BoolOp_and (thn (ha pins s σ H _ I h) fun v s1 ⟨x, H1, I1, r1, q1⟩ => ?_)
  obtain ⟨c, rfl, q1⟩ := q1
  cases r1
  refine wpAny_truthy_bool ?_
  cases c with
  | true => exact hb pins s1 σ H1 Q I1 q1
  | false => exact ⟨.bl false, H1, I1, rfl, q1⟩
/-- a if t else b -/
def tIf (t : TT) (ta tb : TE) : TE := fun σ H Q => t σ H fun c H1 => if c = true then ta σ H1 Q else tb σ H1 Q
theorem pe_ifExp {c : Expr} (hc : PT X c tA) (ha : PE X a ta) (hb : PE X b tb) : PE X (.IfExp c a b pos) (tIf tA ta tb) := by
  intro pins s σ H Q I h
  refine wpAny_IfExp (thn (hc pins s σ H _ I h) fun d s1 ⟨H1, I1, q1⟩ => ?_)
  cases d with
  | true => exact ha pins s1 σ H1 Q I1 q1
  | false => exact hb pins s1 σ H1 Q I1 q1
end
end L2

namespace L2
open PySem PySem.Spec PyProof.Rows

/-! ### a list, a tuple that is read: tracked, frozen, or an object of the module -/
def SqL (K : PySem.W.Frag) (H : Hp) (a : Addr) (xs : List V) : Prop :=
  Rd H a (.lst xs) ∨
    ∃ (o : Obj) (its : Array Value) (n : Nat), K.lookup a = some o ∧ o.cls = .type "list" ∧ o.dict = none ∧ o.data = .seq its n ∧ its.size ≤ sizeLine ∧ Vals xs its.toList
def SqT (K : PySem.W.Frag) (H : Hp) (a : Addr) (xs : List V) : Prop :=
  Rd H a (.tup xs) ∨
    ∃ (o : Obj) (its : Array Value) (n : Nat), K.lookup a = some o ∧ o.cls = .type "tuple" ∧ o.data = .seq its n ∧ its.size ≤ sizeLine ∧ Vals xs its.toList
def absV : Value → Option V
  | .none => some .non
  | .bool b => some (.bl b)
  | .int i _ => some (.int i)
  | .str x _ => some (.str x)
  | .bytes b _ => some (.byt b)
  | .float b _ => some (.flt b)
  | .ref a => some (.ref a)
  | .type n => some (.ty n)
  | _ => none
theorem RelV.abs {x : V} {u : Value} (r : RelV x u) : absV u = some x := by
  cases x with
  | non => cases r; rfl
  | bl _ => cases r; rfl
  | int _ => obtain ⟨t, rfl⟩ := r; rfl
  | str _ => obtain ⟨t, rfl⟩ := r; rfl
  | byt _ => obtain ⟨t, rfl⟩ := r; rfl
  | flt _ => obtain ⟨t, rfl⟩ := r; rfl
  | ref _ => cases r; rfl
  | ty _ => cases r; rfl
theorem RelV.inj {x y : V} {u : Value} (r : RelV x u) (q : RelV y u) : x = y := Option.some.inj (r.abs.symm.trans q.abs)
theorem Vals.inj : ∀ {xs ys : List V} {us : List Value}, Vals xs us → Vals ys us → xs = ys
  | _, _, _, .nil, .nil => rfl
  | _, _, _, .cons r t, .cons r' t' => by rw [r.inj r', Vals.inj t t']
section
variable {X : Cx} {pins : List (Addr × Obj)} {σ : St} {H : Hp} {s : Shared} {a : Addr} {xs ys : List V}
theorem SqL.of {K : PySem.W.Frag} (h : H a = some (.lst xs)) : SqL K H a xs := .inl (.inl h)
theorem SqT.of {K : PySem.W.Frag} (h : H a = some (.tup xs)) : SqT K H a xs := .inl (.inl h)
theorem Inv.list (I : Inv X pins σ H s) (h : SqL X.K H a xs) : ∃ its : List Value, Vals xs its ∧ PlainL s.heap a its.toArray ∧ xs.length ≤ sizeLine := by
  rcases h with h | ⟨o, its, n, hk, hc, hd, hs, hz, r⟩
  · obtain ⟨z, its, n, r, e⟩ := h.ok I.hok
    exact ⟨its, r, ⟨_, n, e, rfl, rfl, rfl⟩, z⟩
  · refine ⟨its.toList, r, ⟨o, n, I.kIn a o hk, hc, hd, by simpa using hs⟩, ?_⟩
    have e := r.length
    simp only [Array.length_toList] at e
    omega
theorem Inv.tuple (I : Inv X pins σ H s) (h : SqT X.K H a xs) : ∃ its : List Value, Vals xs its ∧ IsTup s.heap a its.toArray ∧ xs.length ≤ sizeLine := by
  rcases h with h | ⟨o, its, n, hk, hc, hs, hz, r⟩
  · obtain ⟨z, its, r, p⟩ := h.ok I.hok
    exact ⟨its, r, p, z⟩
  · refine ⟨its.toList, r, ⟨o, I.kIn a o hk, hc, n, by simpa using hs⟩, ?_⟩
    have e := r.length
    simp only [Array.length_toList] at e
    omega
theorem Inv.list_inj (I : Inv X pins σ H s) (h : SqL X.K H a xs) (h' : SqL X.K H a ys) : xs = ys := by
  obtain ⟨its, r, ⟨o, n, e, _, _, d⟩, _⟩ := I.list h
  obtain ⟨its', r', ⟨o', n', e', _, _, d'⟩, _⟩ := I.list h'
  rw [e] at e'; cases e'
  rw [d] at d'
  injection d' with d1 _
  have : its = its' := by simpa using congrArg Array.toList d1
  subst this
  exact r.inj r'
end

/-! ### another wish about exceptions -/
abbrev Cx.wish (X : Cx) (E : Value → Shared → Prop) : Cx := { X with xe := E }
/-- no exception leaves -/
abbrev Cx.nox (X : Cx) : Cx := X.wish fun _ _ => False
theorem Cx.Ok.wish {X : Cx} (ok : X.Ok) (E : Value → Shared → Prop) : (X.wish E).Ok :=
  ⟨ok.mod, ok.kind, ok.glob, ok.blt, ok.above, ok.inj, ok.has, ok.cab, ok.hd, ok.frames, ok.stk, ok.exf, ok.bs, ok.bsz, ok.noex, ok.exfs, ok.funs, ok.frf⟩
theorem Cx.Ok.unwish {X : Cx} {E : Value → Shared → Prop} (ok : (X.wish E).Ok) : X.Ok :=
  ⟨ok.mod, ok.kind, ok.glob, ok.blt, ok.above, ok.inj, ok.has, ok.cab, ok.hd, ok.frames, ok.stk, ok.exf, ok.bs, ok.bsz, ok.noex, ok.exfs, ok.funs, ok.frf⟩
section
variable {X : Cx} {pins : List (Addr × Obj)} {σ : St} {H : Hp} {s : Shared} {E : Value → Shared → Prop}
theorem Inv.wish (I : Inv X pins σ H s) (E : Value → Shared → Prop) : Inv (X.wish E) pins σ H s := ⟨I.ok.wish E, I.os, I.bare, I.base, I.loc, I.cell, I.free, I.freeC, I.pin, I.hok, I.len⟩
theorem Inv.unwish (I : Inv (X.wish E) pins σ H s) : Inv X pins σ H s := ⟨I.ok.unwish, I.os, I.bare, I.base, I.loc, I.cell, I.free, I.freeC, I.pin, I.hok, I.len⟩
theorem SP.unwish {D : Ends} {f : Flow} {s' : Shared} (h : SP (X.wish E) pins D f s') : SP X pins D f s' := by
  cases f with
  | next => obtain ⟨σ', H', I, q⟩ := h; exact ⟨σ', H', I.unwish, q⟩
  | brk => obtain ⟨σ', H', I, q⟩ := h; exact ⟨σ', H', I.unwish, q⟩
  | cont => obtain ⟨σ', H', I, q⟩ := h; exact ⟨σ', H', I.unwish, q⟩
  | ret u => obtain ⟨v, σ', H', I, r, q⟩ := h; exact ⟨v, σ', H', I.unwish, r, q⟩
theorem PE.nox {e : Expr} {t : TE} (h : PE X.nox e t) : PE X e t := fun pins s σ H Q I hw =>
  wpAny_mono (h pins s σ H Q (I.wish _) hw) (fun _ _ ⟨v, H', I', r, q⟩ => ⟨v, H', I'.unwish, r, q⟩) fun _ _ z => False.elim z
theorem PT.nox {e : Expr} {t : TT} (h : PT X.nox e t) : PT X e t := fun pins s σ H Q I hw =>
  wpAny_mono (h pins s σ H Q (I.wish _) hw) (fun _ _ ⟨H', I', q⟩ => ⟨H', I'.unwish, q⟩) fun _ _ z => False.elim z
theorem PSs.nox {st : List Stmt} {t : TS} (h : PSs X.nox st t) : PSs X st t := fun pins s σ H D I hw =>
  wpAny_mono (h pins s σ H D (I.wish _) hw) (fun _ _ q => q.unwish) fun _ _ z => False.elim z
end

/-! ### blocks and small statements -/
section
variable {X : Cx} {st : Stmt} {rest : List Stmt} {t u : TS} {e : Expr} {te : TE} {pos : Pos}
def tNext : TS := fun D σ H => D.nx σ H
def tSeq (t u : TS) : TS := fun D σ H => t { D with nx := u D } σ H
theorem pss_nil : PSs X [] tNext := fun _ _ σ H _ I h => wpAny_execs_nil ⟨σ, H, I, h⟩
theorem pss_cons (h1 : PS X st t) (h2 : PSs X rest u) : PSs X (st :: rest) (tSeq t u) := by
  intro pins s σ H D I h
  refine wpAny_execs_cons (thn (h1 pins s σ H { D with nx := u D } I h) fun f s1 q => ?_)
  cases f with
  | next =>
    obtain ⟨σ', H', I', q⟩ := q
    exact h2 pins s1 σ' H' D I' q
  | ret v => exact q
  | brk => exact q
  | cont => exact q
theorem pss_one (h1 : PS X st t) : PSs X [st] t := by
  intro pins s σ H D I h
  refine wpAny_execs_cons (thn (h1 pins s σ H D I h) fun f s1 q => ?_)
  cases f with
  | next => exact wpAny_execs_nil q
  | ret v => exact q
  | brk => exact q
  | cont => exact q
def tBreak : TS := fun D σ H => D.bk σ H
def tCont : TS := fun D σ H => D.ct σ H
/-- in a def's body nothing is shown -/
theorem Inv.quiet {pins : List (Addr × Obj)} {σ : St} {H : Hp} {s : Shared} (I : Inv X pins σ H s) : interactive X.env = false := by simp [interactive, I.ok.kind]
/-- an expression whose value is dropped -/
def tDrop (te : TE) : TS := fun D σ H => te σ H fun _ H1 => D.nx σ H1
theorem ps_expr (he : PE X e te) (hs : swapsWith e none pos.line X.env = pure false := by rfl) : PS X (.Expr e pos) (tDrop te) := by
  intro pins s σ H D I h
  exact wpAny_Expr_any (thn (he pins s σ H _ I h) fun v s1 ⟨x, H1, I1, r1, q1⟩ => ⟨σ, H1, I1, q1⟩) I.quiet hs
def tRet (te : TE) : TS := fun D σ H => te σ H D.rt
theorem ps_ret (he : PE X e te) : PS X (.Return (some e) pos) (tRet te) := by
  intro pins s σ H D I h
  exact wpAny_Return_some (thn (he pins s σ H _ I h) fun v s1 ⟨x, H1, I1, r1, q1⟩ => ⟨x, σ, H1, I1, r1, q1⟩)
def tRetN : TS := fun D _ H => D.rt .non H
theorem ps_retN : PS X (.Return none pos) tRetN := fun _ _ σ H _ I h => wpAny_Return_none ⟨.non, σ, H, I, rfl, h⟩
def tIfS (c : TT) (t u : TS) : TS := fun D σ H => c σ H fun b H1 => if b = true then t D σ H1 else u D σ H1
theorem ps_if {c : Expr} {a b : List Stmt} {tc : TT} (hc : PT X c tc) (ha : PSs X a t) (hb : PSs X b u) : PS X (.If c a b pos) (tIfS tc t u) := by
  intro pins s σ H D I h
  refine wpAny_If (thn (hc pins s σ H _ I h) fun d s1 ⟨H1, I1, q1⟩ => ?_)
  cases d with
  | true => exact ha pins s1 σ H1 D I1 q1
  | false => exact hb pins s1 σ H1 D I1 q1
/-- code that the proof never comes to -/
def tNever : TS := fun _ _ _ => False
end

/-! ### targets -/
abbrev TG := V → St → Hp → (St → Hp → Prop) → Prop
abbrev TGs := List V → St → Hp → (St → Hp → Prop) → Prop
def PG (X : Cx) (target : Expr) (t : TG) : Prop :=
  ∀ (pins : List (Addr × Obj)) (s : Shared) (σ : St) (H : Hp) (v : V) (u : Value) (Q : St → Hp → Prop), Inv X pins σ H s → RelV v u → t v σ H Q →
    wpAny (model X.prog X.w) X.A (assign target X.env u) (fun _ s' => ∃ σ' H', Inv X pins σ' H' s' ∧ Q σ' H') X.xe s
/-- several targets, one after another -/
def PGs (X : Cx) (ts : List Expr) (t : TGs) : Prop :=
  ∀ (pins : List (Addr × Obj)) (s : Shared) (σ : St) (H : Hp) (vs : List V) (us : List Value) (Q : St → Hp → Prop), Inv X pins σ H s → Vals vs us → t vs σ H Q →
    wpAny (model X.prog X.w) X.A (assignInOrder ((assignEach ts X.env).map (·.2)) us) (fun _ s' => ∃ σ' H', Inv X pins σ' H' s' ∧ Q σ' H') X.xe s
/-- o[i] = v, by values -/
abbrev TSet := V → V → V → Hp → (Hp → Prop) → Prop
def PSet (X : Cx) (t : TSet) : Prop :=
  ∀ (pins : List (Addr × Obj)) (s : Shared) (σ : St) (H : Hp) (o i v : V) (ov iv u : Value) (Q : Hp → Prop), Inv X pins σ H s → RelV o ov → RelV i iv → RelV v u → t o i v H Q →
    wpAny (model X.prog X.w) X.A (setItem ov iv u) (fun _ s' => ∃ H', Inv X pins σ H' s' ∧ Q H') X.xe s
/-- a op= b, by values -/
abbrev TIp := V → V → Hp → VK → Prop
def PIp (X : Cx) (op : Operator) (t : TIp) : Prop :=
  ∀ (pins : List (Addr × Obj)) (s : Shared) (σ : St) (H : Hp) (x y : V) (v u : Value) (Q : VK), Inv X pins σ H s → RelV x v → RelV y u → t x y H Q →
    wpAny (model X.prog X.w) X.A (inplaceOp op v u) (EP X pins σ Q) X.xe s
section
variable {X : Cx} {pos : Pos}
def gName (i : Nat) : TG := fun v σ H Q => Q (σ.set i (some v)) H
theorem pg_name {i : Nat} {x : Str} (hN : X.N.Nodup) (hi : X.N[i]? = some x) (hx : Loc X.env.scope x) (hf : X.fn x = true ∨ X.env.scope.names.lookup x = some .local := by first | exact .inl rfl | exact .inr rfl | assumption) : PG X (.Name x pos) (gName i) := by
  intro pins s σ H v u Q I r h
  exact wpAny_assign_Name (store_ok I hN hi hx r (fun s' I' => ⟨_, H, I', h⟩) hf)
def gNil : TGs := fun vs σ H Q => vs = [] ∧ Q σ H
def gCons (t : TG) (u : TGs) : TGs := fun vs σ H Q => ∃ v r, vs = v :: r ∧ t v σ H fun σ' H' => u r σ' H' Q
/-- (a, b, ..) = a tuple of that length -/
def gTup (K : PySem.W.Frag) (n : Nat) (t : TGs) : TG := fun v σ H Q => ∃ a xs, v = .ref a ∧ SqT K H a xs ∧ xs.length = n ∧ t xs σ H Q
/-- o[i] = .. -/
def gSub (to ti : TE) (t : TSet) : TG := fun v σ H Q => to σ H fun o H1 => ti σ H1 fun i H2 => t o i v H2 fun H3 => Q σ H3
theorem pg_sub {o i : Expr} {to ti : TE} {t : TSet} (ho : PE X o to) (hi : PE X i ti) (hs : PSet X t)
    (ha : ∀ v, assign (.Subscript o i pos) X.env v = (do
      let ov ← holding [v] (eval o X.env)
      let iv ← holding [v, ov] (eval i X.env)
      standAt pos
      holding [v, ov, iv] (setItem ov iv v)
      release [v, ov, iv] []) := by intro _; rfl) : PG X (.Subscript o i pos) (gSub to ti t) := by
  intro pins s σ H v u Q I r h
  rw [ha]
  refine wpAny_bind (wpAny_holding (thn (ho pins s σ H _ I h) fun ov s1 ⟨x, H1, I1, r1, q1⟩ => ?_))
  refine wpAny_bind (wpAny_holding (thn (hi pins s1 σ H1 _ I1 q1) fun iv s2 ⟨y, H2, I2, r2, q2⟩ => ?_))
  refine wpAny_bind (wpAny_standAt (wpAny_bind (wpAny_holding (thn (hs pins s2 σ H2 x y v ov iv u _ I2 r1 r2 r q2) fun _ s3 ⟨H3, I3, q3⟩ => ?_))))
  exact wpAny_release ⟨σ, H3, I3, q3⟩
/-- target = value -/
def tAsg (te : TE) (g : TG) : TS := fun D σ H => te σ H fun x H1 => g x σ H1 D.nx
theorem ps_asg {tg e : Expr} {te : TE} {g : TG} (he : PE X e te) (hg : PG X tg g) (hs : swapsWithSole [tg] e pos.line X.env = pure false := by rfl) (hw : swappedStores [tg] e X.env = pure none := by rfl)
    (h1 : (assignEach [tg] X.env).map (·.2) = [assign tg X.env] := by rfl) : PS X (.Assign [tg] e pos) (tAsg te g) := by
  intro pins s σ H D I h
  refine wpAny_Assign_stores (thn (he pins s σ H _ I h) fun v s1 ⟨x, H1, I1, r1, q1⟩ => ?_) hs hw
  rw [h1]
  exact thn (hg pins s1 σ H1 x v _ I1 r1 q1) fun _ s2 q => q
/-- name = value -/
theorem ps_set {i : Nat} {x : Str} {e : Expr} {te : TE} {pos' : Pos} (hN : X.N.Nodup) (hi : X.N[i]? = some x) (hx : Loc X.env.scope x) (he : PE X e te) (hs : swapsWith e (some (.Name x pos')) pos.line X.env = pure false := by rfl) (hf : X.fn x = true ∨ X.env.scope.names.lookup x = some .local := by first | exact .inl rfl | exact .inr rfl | assumption) :
    PS X (.Assign [.Name x pos'] e pos) (tAsg te (gName i)) := by
  intro pins s σ H D I h
  refine wpAny_Assign_Name (thn (he pins s σ H _ I h) fun v s1 ⟨y, H1, I1, r1, q1⟩ => ?_) hs
  exact store_ok I1 hN hi hx r1 (fun s2 I2 => ⟨_, H1, I2, q1⟩) hf
/-- a, b = x, y with plain local names: stored from the right; the pair itself is not tracked (the opening rows as in PyProof/Rows/TupAssign.lean:23) -/
def tPar (i j : Nat) (ta : TA) : TS := fun D σ H => ta σ H fun vs H1 => ∃ v w, vs = [v, w] ∧ D.nx ((σ.set i (some v)).set j (some w)) H1
/-- name op= e -/
def tAug (i : Nat) (te : TE) (ti : TIp) : TS := fun D σ H => ∃ x, σ[i]? = some (some x) ∧ te σ H fun y H1 => ti x y H1 fun z H2 => D.nx (σ.set i (some z)) H2
/-- o[i] op= e -/
def tAugS (to ti te : TE) (tget : V → V → Hp → VK → Prop) (tip : TIp) (tset : TSet) : TS := fun D σ H => to σ H fun o H1 => ti σ H1 fun i H2 => tget o i H2 fun x H3 => te σ H3 fun y H4 => tip x y H4 fun z H5 => tset o i z H5 fun H6 => D.nx σ H6
/-- o[i], by values -/
def PGet (X : Cx) (t : V → V → Hp → VK → Prop) : Prop :=
  ∀ (pins : List (Addr × Obj)) (s : Shared) (σ : St) (H : Hp) (o i : V) (ov iv : Value) (Q : VK), Inv X pins σ H s → RelV o ov → RelV i iv → t o i H Q →
    wpAny (model X.prog X.w) X.A (getItem ov iv) (EP X pins σ Q) X.xe s
/-- ints -/
def ipI (f : Int → Int → Int) : TIp := fun x y H Q => ∃ i j, x = .int i ∧ y = .int j ∧ Q (.int (f i j)) H
end

/-! ### while -/
section
variable {X : Cx} {pos : Pos}
/-- the invariant W with its measure -/
def tWhile (c : TT) (tb : TS) : TS := fun D σ H => ∃ W : Nat → St → Hp → Prop, (∃ m, W m σ H) ∧ ∀ m σ H, W m σ H →
  c σ H fun b H1 => if b = true then ∃ N : St → Hp → Prop, (∀ σ' H', N σ' H' → ∃ m', m' < m ∧ W m' σ' H') ∧ tb { D with nx := N, ct := N, bk := D.nx } σ H1 else D.nx σ H1
theorem ps_while {c : Expr} {body : List Stmt} {tc : TT} {tb : TS} (hp : PassesOwn (model X.prog X.w) X.A X.env X.xe) (hc : PT X c tc) (hb : PSs X body tb) : PS X (.While c body [] pos) (tWhile tc tb) := by
  intro pins s σ H D I h
  obtain ⟨W, ⟨m0, w0⟩, turn⟩ := h
  refine wpAny_While (codeAny_whileLoop (fun n s' => ∃ σ' H', Inv X pins σ' H' s' ∧ W n σ' H') ?_ m0 ⟨σ, H, I, w0⟩)
  rintro n s1 ⟨σ1, H1, I1, w1⟩
  refine wpAny_passesOwn hp (thn (hc pins s1 σ1 H1 _ I1 (turn n σ1 H1 w1)) fun b s2 ⟨H2, I2, q2⟩ => ?_)
  cases b with
  | true =>
    obtain ⟨N, hN, q2⟩ := q2
    rw [if_pos rfl]
    refine wpAny_passesOwn hp (thn (hb pins s2 σ1 H2 _ I2 q2) fun f s3 q3 => ?_)
    cases f with
    | next =>
      obtain ⟨σ3, H3, I3, n3⟩ := q3
      obtain ⟨m', hm, w3⟩ := hN σ3 H3 n3
      exact ⟨m', hm, σ3, H3, I3, w3⟩
    | cont =>
      obtain ⟨σ3, H3, I3, n3⟩ := q3
      obtain ⟨m', hm, w3⟩ := hN σ3 H3 n3
      exact ⟨m', hm, σ3, H3, I3, w3⟩
    | brk => exact q3
    | ret v => exact q3
  | false =>
    rw [if_neg Bool.false_ne_true]
    exact wpAny_execs_nil ⟨σ1, H2, I2, q2⟩
end

/-! ### what a loop or a comprehension walks -/
/-- at turn i: it yields x (the heap may grow), or it stops -/
structure It where
  go : Nat → Hp → Prop
  yld : Nat → Hp → V → Hp → Prop
  stop : Nat → Hp → Prop
/-- the iterator's own objects may turn: they are not the frame's, not pinned, younger than the entry (or a comprehension's own) -/
def FpOk (X : Cx) (pins : List (Addr × Obj)) (H : Hp) (b : Addr) : Prop :=
  H b = none ∧ b ≠ X.env.locals ∧ b ∉ X.fs ∧ (b ∈ X.ex ∨ X.s_0.heap.objs.size ≤ b) ∧ (∀ x c, X.env.cells.lookup x = some c → c ≠ b) ∧ ∀ p ∈ X.pn ++ pins, p.1 ≠ b
theorem Inv.fpOk {X : Cx} {pins : List (Addr × Obj)} {σ : St} {H H' : Hp} {s : Shared} {b : Addr} (I : Inv X pins σ H s) (hb : s.heap.objs.size ≤ b) (hn : H' b = none) : FpOk X pins H' b := by
  refine ⟨hn, Nat.ne_of_gt (Nat.lt_of_lt_of_le I.lt hb), I.nofs hb, .inr (Nat.le_trans I.sz hb), fun x c e z => ?_, fun p hp z => ?_⟩
  · obtain ⟨v, q⟩ := I.cell x c e
    exact absurd (Nat.lt_of_lt_of_le q.lt (by rw [z]; exact hb)) (Nat.lt_irrefl _)
  · exact absurd (Nat.lt_of_lt_of_le (Heap.lt_size (I.pin p hp).1) (by rw [z]; exact hb)) (Nat.lt_irrefl _)
structure Turn (P : Program) (w : World) (K : PySem.W.Frag) (tg : Expr) (J : It) (fp : List Addr) (it : Addr) (tn : Nat → Heap → Prop) : Prop where
  mem : it ∈ fp
  obj : ∀ i h, tn i h → ∀ b ∈ fp, ∃ o, h.get? b = some o ∧ ∀ v, o.data ≠ .cell v
  keep : ∀ i h h', tn i h → (∀ b ∈ fp, ∀ o, h.get? b = some o → h'.get? b = some o) → tn i h'
  item : ∀ (X : Cx), X.prog = P → X.w = w → X.K = K → X.calm = true → ∀ (i : Nat) (pins : List (Addr × Obj)) (s : Shared) (σ : St) (H : Hp) (E : Value → Shared → Prop), Inv X pins σ H s → (∀ b ∈ fp, FpOk X pins H b) → tn i s.heap → J.go i H →
    wpAny (model P w) X.A (pyNext (.ref it)) (fun r s1 => ∃ u, r = some u ∧
      wpAny (model P w) X.A (letOwnedTupleGo tg (.ref it) u) (fun _ s2 => ∃ x H', Inv X pins σ H' s2 ∧ RelV x u ∧ J.yld i H x H' ∧ tn (i + 1) s2.heap ∧ ∀ b ∈ fp, H' b = none) E s1) E s
  done : ∀ (X : Cx), X.prog = P → X.w = w → X.K = K → X.calm = true → ∀ (i : Nat) (pins : List (Addr × Obj)) (s : Shared) (σ : St) (H : Hp) (E : Value → Shared → Prop), Inv X pins σ H s → (∀ b ∈ fp, FpOk X pins H b) → tn i s.heap → J.stop i H →
    wpAny (model P w) X.A (pyNext (.ref it)) (fun r s1 => r = none ∧ Inv X pins σ H s1) E s
  self : ∀ (A : Around) (i : Nat) (s : Shared) (Q : Value → Shared → Prop) (E : Value → Shared → Prop), tn i s.heap → Q (.ref it) s → wpAny (model P w) A (pyIter (.ref it)) Q E s
abbrev TI := St → Hp → (It → Hp → Prop) → Prop
/-- an iterator has come -/
def PIE (X : Cx) (pins : List (Addr × Obj)) (σ : St) (tg : Expr) (R : It → Hp → Prop) (itv : Value) (s2 : Shared) : Prop :=
  ∃ (it : Addr) (fp : List Addr) (tn : Nat → Heap → Prop) (J : It) (H' : Hp), itv = .ref it ∧ Inv X pins σ H' s2 ∧ Turn X.prog X.w X.K tg J fp it tn ∧ tn 0 s2.heap ∧ (∀ b ∈ fp, FpOk X pins H' b) ∧ R J H'
def PI (X : Cx) (tg iter : Expr) (wi : TI) : Prop :=
  ∀ (pins : List (Addr × Obj)) (s : Shared) (σ : St) (H : Hp) (R : It → Hp → Prop), Inv X pins σ H s → wi σ H R →
    wpAny (model X.prog X.w) X.A (eval iter X.env) (fun v s1 => wpAny (model X.prog X.w) X.A (pyIter v) (PIE X pins σ tg R) X.xe s1) X.xe s

/-- the step ahead of the store is nothing for an iterator that keeps no tuple -/
theorem go_of {M : Model} {A : Around} {E : Value → Shared → Prop} {s : Shared} {tg : Expr} {it : Addr} {u : Value} {o : Obj} {n : String} {vs : Array Value} {Q : Unit → Shared → Prop} (ho : s.heap.get? it = some o) (hc : o.cls = .type n) (hd : o.data = .fields vs)
    (hn : ["enumerate", "zip", "dict_itemiterator", "dict_reverseitemiterator", "odict_iterator", "itertools.zip_longest", "itertools.pairwise"].contains n = false) (hQ : Q () s) : wpAny M A (letOwnedTupleGo tg (.ref it) u) Q E s := by
  unfold letOwnedTupleGo
  cases tg <;> first
    | exact wpAny_pure hQ
    | (cases u <;> first
        | exact wpAny_pure hQ
        | (refine wpAny_bind (wpAny_load ho ?_)
           rw [hc, hd]
           show wpAny M A (if (["enumerate", "zip", "dict_itemiterator", "dict_reverseitemiterator", "odict_iterator", "itertools.zip_longest", "itertools.pairwise"].contains n && vs[0]? == some (rawInt _)) = true then _ else _) Q E s
           rw [if_neg (by intro h; rw [hn, Bool.false_and] at h; cases h)]
           exact wpAny_pure hQ))

/-- the list at a, as it stands at each turn (a loop may append to it) -/
def Itl (K : PySem.W.Frag) (a : Addr) : It :=
  ⟨fun i H => ∃ xs x, SqL K H a xs ∧ xs[i]? = some x, fun i H x H' => H' = H ∧ ∀ xs, SqL K H a xs → xs[i]? = some x, fun i H => ∃ xs, SqL K H a xs ∧ xs.length ≤ i⟩
def Itt (K : PySem.W.Frag) (a : Addr) : It :=
  ⟨fun i H => ∃ xs x, SqT K H a xs ∧ xs[i]? = some x, fun i H x H' => H' = H ∧ ∀ xs, SqT K H a xs → xs[i]? = some x, fun i H => ∃ xs, SqT K H a xs ∧ xs.length ≤ i⟩
/-- lo, lo + 1, .. (n of them) -/
def Itr (lo : Int) (n : Nat) : It := ⟨fun i _ => i < n, fun i H x H' => H' = H ∧ x = .int (lo + i), fun i _ => n ≤ i⟩
theorem turn_list {P : Program} {w : World} {K : PySem.W.Frag} {tg : Expr} (a it : Addr) : Turn P w K tg (Itl K a) [it] it (fun i h => h.IsListIter it a i) where
  mem := by simp
  obj := fun i h st b hb => by
    have e : b = it := by simpa using hb
    subst e
    obtain ⟨o, e, c, d⟩ := st
    exact ⟨o, e, fun v z => by rw [d] at z; cases z⟩
  keep := fun i h h' st k => st.at fun o e => k it (by simp) o e
  item := by
    intro X hP hw hK hc i pins s σ H E I hf st hg
    subst hP hw hK
    obtain ⟨xs, x, hq, hx⟩ := hg
    obtain ⟨its, rv, p, hz⟩ := I.list hq
    obtain ⟨u, hu, ru⟩ := rv.get hx
    obtain ⟨f0, f1, f2, f3, f4, f5⟩ := hf it (by simp)
    refine wpAny_pyNext_list_item st p.isList (x := u) (by simpa using hu) fun h' st' sb => ?_
    have I1 : Inv X pins σ H { s with heap := h' } := I.turned (t' := s.toks) (fun b o hb e => (sb.2 b hb).trans e) f0 f1 f3 f4 f5
    obtain ⟨o, e, c, d⟩ := id st'
    exact ⟨u, rfl, go_of (s := { s with heap := h' }) e c d (by decide) ⟨x, H, I1, ru, ⟨rfl, fun ys hy => by rw [I.list_inj hy hq]; exact hx⟩, st', fun b hb => (hf b hb).1⟩⟩
  done := by
    intro X hP hw hK hc i pins s σ H E I hf st hg
    subst hP hw hK
    obtain ⟨xs, hq, hx⟩ := hg
    obtain ⟨its, rv, p, hz⟩ := I.list hq
    obtain ⟨f0, f1, f2, f3, f4, f5⟩ := hf it (by simp)
    have hl := rv.length
    exact wpAny_pyNext_list_end (I.ok.hd hc) st p.isList (by simp; omega) fun h' eb => ⟨rfl, I.turned (t' := s.toks) (fun b o hb e => eb b o hb e) f0 f1 f3 f4 f5⟩
  self := fun _ _ _ _ _ st h => wpAny_pyIter_listiter st h
end L2

namespace L2
open PySem PySem.Spec PyProof.Rows
section
variable {X : Cx} {tg : Expr}
def iList (K : PySem.W.Frag) (tl : TE) : TI := fun σ H R => tl σ H fun x H1 => ∃ a, x = .ref a ∧ (∃ xs, SqL K H1 a xs) ∧ R (Itl K a) H1
def iTup (K : PySem.W.Frag) (tl : TE) : TI := fun σ H R => tl σ H fun x H1 => ∃ a, x = .ref a ∧ (∃ xs, SqT K H1 a xs) ∧ R (Itt K a) H1
theorem pi_list {l : Expr} {tl : TE} (hl : PE X l tl) : PI X tg l (iList X.K tl) := by
  intro pins s σ H R I h
  refine thn (hl pins s σ H _ I h) fun v s1 ⟨x, H1, I1, r1, q1⟩ => ?_
  obtain ⟨a, e, ⟨xs, hq⟩, q⟩ := q1
  subst e
  cases r1
  obtain ⟨its, rv, p, hz⟩ := I1.list hq
  refine wpAny_pyIter_list p.isList ?_
  refine ⟨s1.heap.objs.size, [s1.heap.objs.size], _, _, H1, rfl, I1.kept (t' := s1.toks) fun b o e => Heap.get?_push_of_some _ e, turn_list a _, ⟨_, Heap.get?_push_size _ rfl, rfl, rfl⟩, fun b hb => ?_, q⟩
  have e : b = s1.heap.objs.size := by simpa using hb
  subst e
  exact I1.fpOk (Nat.le_refl _) (I1.hok.fresh (Nat.le_refl _))
def iRng1 (ta : TA) : TI := fun σ H R => ta σ H fun vs H1 => ∃ j : Int, vs = [.int j] ∧ -(2 ^ 62) ≤ j ∧ j < 2 ^ 62 ∧ R (Itr 0 j.toNat) H1
def iRng2 (ta : TA) : TI := fun σ H R => ta σ H fun vs H1 => ∃ i j : Int, vs = [.int i, .int j] ∧ (-(2 ^ 62) ≤ i ∧ i < 2 ^ 62 ∧ -(2 ^ 62) ≤ j ∧ j < 2 ^ 62) ∧ R (Itr i (j - i).toNat) H1

/-! ### for -/
/-- W: the invariant by the turn and a measure; N: what the body is to reach -/
def tFor (wi : TI) (g : TG) (tb : TS) : TS := fun D σ H => wi σ H fun J H1 => ∃ W : Nat → Nat → St → Hp → Prop, (∃ m, W 0 m σ H1) ∧ ∀ i m σ H, W i m σ H →
  (J.stop i H ∧ D.nx σ H) ∨ (J.go i H ∧ ∃ N : St → Hp → Prop, (∀ σ' H', N σ' H' → ∃ m', m' < m ∧ W (i + 1) m' σ' H') ∧ ∀ x H', J.yld i H x H' → g x σ H' fun σ2 H2 => tb { D with nx := N, ct := N, bk := D.nx } σ2 H2)
/-- the records at fp as they stand -/
def pinsAt (fp : List Addr) (h : Heap) : List (Addr × Obj) := fp.filterMap fun b => (h.get? b).map fun o => (b, o)
theorem mem_pinsAt {fp : List Addr} {h : Heap} {b : Addr} {o : Obj} (hb : b ∈ fp) (e : h.get? b = some o) : (b, o) ∈ pinsAt fp h := List.mem_filterMap.mpr ⟨b, hb, by rw [e]; rfl⟩
theorem of_pinsAt {fp : List Addr} {h : Heap} {p : Addr × Obj} (hp : p ∈ pinsAt fp h) : p.1 ∈ fp ∧ h.get? p.1 = some p.2 := by
  obtain ⟨b, hb, e⟩ := List.mem_filterMap.mp hp
  cases q : h.get? b with
  | none => rw [q] at e; cases e
  | some o =>
    rw [q] at e
    have e' : (b, o) = p := Option.some.inj e
    subst e'
    exact ⟨hb, q⟩
theorem Inv.pinned {pins : List (Addr × Obj)} {σ : St} {H : Hp} {s : Shared} {fp : List Addr} (I : Inv X pins σ H s) (hf : ∀ b ∈ fp, FpOk X pins H b) (ho : ∀ b ∈ fp, ∃ o, s.heap.get? b = some o ∧ ∀ v, o.data ≠ .cell v) : Inv X (pins ++ pinsAt fp s.heap) σ H s :=
  I.pins_of fun p hp => (List.mem_append.mp hp).elim (fun z => I.pin p (List.mem_append_right _ z)) fun z => by
    obtain ⟨hb, e⟩ := of_pinsAt z
    obtain ⟨f0, f1, f2, _⟩ := hf p.1 hb
    obtain ⟨o, e', d⟩ := ho p.1 hb
    rw [e] at e'; cases e'
    exact ⟨e, f0, f1, f2, d⟩
theorem Inv.unpinned {pins pl : List (Addr × Obj)} {σ : St} {H : Hp} {s : Shared} (I : Inv X (pins ++ pl) σ H s) : Inv X pins σ H s := I.pins_of fun p hp => I.pin p (List.mem_append_right _ (List.mem_append_left _ hp))
theorem ps_for {iter : Expr} {body : List Stmt} {wi : TI} {g : TG} {tb : TS} {pos : Pos} (hp : PassesOwn (model X.prog X.w) X.A X.env X.xe) (hc : X.calm = true) (hi : PI X tg iter wi) (hg : PG X tg g) (hb : PSs X body tb)
    (hs : ∀ x, foldedSetIterable iter X.env x = pure x := by intro _; rfl) : PS X (.For tg iter body [] pos) (tFor wi g tb) := by
  intro pins s σ H D I h
  refine wpAny_For (thn (hi pins s σ H _ I h) fun v s1 h1 => thn h1 fun itv s2 h2 => ?_) hs
  obtain ⟨it, fp, tn, J, H2, e, I2, T, st2, f2, W, ⟨m0, w0⟩, turn⟩ := h2
  subst e
  -- what stays true of the iterator's objects through the loop
  have stat : ∀ {H' : Hp}, (∀ b ∈ fp, H' b = none) → ∀ b ∈ fp, FpOk X pins H' b := fun hn b hb => ⟨hn b hb, (f2 b hb).2⟩
  refine codeAny_forLoop_any (fun n s' => ∃ i σ' H', Inv X pins σ' H' s' ∧ tn i s'.heap ∧ (∀ b ∈ fp, H' b = none) ∧ W i n σ' H') ?_ m0 ⟨0, σ, H2, I2, st2, fun b hb => (f2 b hb).1, w0⟩
  rintro n s3 ⟨i, σ3, H3, I3, st3, fr3, w3⟩
  rcases turn i n σ3 H3 w3 with ⟨stop, qn⟩ | ⟨go, N, hN, step⟩
  · refine wpAny_passesOwn hp (thn (T.done X rfl rfl rfl hc i pins s3 σ3 H3 X.xe I3 (stat fr3) st3 stop) fun r s4 ⟨hr, I4⟩ => ?_)
    subst hr
    exact wpAny_execs_nil ⟨σ3, H3, I4, qn⟩
  · refine wpAny_passesOwn hp (thn (T.item X rfl rfl rfl hc i pins s3 σ3 H3 X.xe I3 (stat fr3) st3 go) fun r s4 ⟨u, hr, h4⟩ => ?_)
    subst hr
    refine wpAny_passesOwn hp (thn h4 fun _ s5 ⟨x, H5, I5, r5, y5, st5, fr5⟩ => ?_)
    have I5' := I5.pinned (stat fr5) (T.obj _ _ st5)
    refine wpAny_passesOwn hp (thn (hg _ s5 σ3 H5 x u _ I5' r5 (step x H5 y5)) fun _ s6 ⟨σ6, H6, I6, q6⟩ => ?_)
    refine wpAny_passesOwn hp (thn (hb _ s6 σ6 H6 _ I6 q6) fun f s7 q7 => ?_)
    have again : ∀ {σ7 : St} {H7 : Hp}, Inv X (pins ++ pinsAt fp s5.heap) σ7 H7 s7 → N σ7 H7 → ∃ m, m < n ∧ ∃ i σ' H', Inv X pins σ' H' s7 ∧ tn i s7.heap ∧ (∀ b ∈ fp, H' b = none) ∧ W i m σ' H' := fun {σ7 H7} I7 n7 => by
      obtain ⟨m', hm, w7⟩ := hN σ7 H7 n7
      refine ⟨m', hm, i + 1, σ7, H7, I7.unpinned, T.keep _ _ _ st5 fun b hb o e => (I7.pin (b, o) (List.mem_append_right _ (List.mem_append_right _ (mem_pinsAt hb e)))).1, fun b hb => ?_, w7⟩
      obtain ⟨o, e, d⟩ := T.obj _ _ st5 b hb
      exact (I7.pin (b, o) (List.mem_append_right _ (List.mem_append_right _ (mem_pinsAt hb e)))).2.1
    cases f with
    | next => obtain ⟨σ7, H7, I7, n7⟩ := q7; exact again I7 n7
    | cont => obtain ⟨σ7, H7, I7, n7⟩ := q7; exact again I7 n7
    | brk => obtain ⟨σ7, H7, I7, q7⟩ := q7; exact ⟨σ7, H7, I7.unpinned, q7⟩
    | ret v => obtain ⟨x7, σ7, H7, I7, r7, q7⟩ := q7; exact ⟨x7, σ7, H7, I7.unpinned, r7, q7⟩
end

/-! ### the forms one uses -/
/-- over a list that the body leaves as it is -/
theorem for_list {K : PySem.W.Frag} {a : Addr} {xs : List V} {g : TG} {tb : TS} {D : Ends} {σ : St} {H : Hp} (Pv : Nat → St → Hp → Prop) (h0 : Pv 0 σ H) (hl : ∀ i σ H, i ≤ xs.length → Pv i σ H → SqL K H a xs)
    (hs : ∀ i x σ H, xs[i]? = some x → Pv i σ H → g x σ H fun σ2 H2 => tb { D with nx := Pv (i + 1), ct := Pv (i + 1), bk := D.nx } σ2 H2) (hd : ∀ σ H, Pv xs.length σ H → D.nx σ H) :
    ∃ W : Nat → Nat → St → Hp → Prop, (∃ m, W 0 m σ H) ∧ ∀ i m σ H, W i m σ H →
      ((Itl K a).stop i H ∧ D.nx σ H) ∨ ((Itl K a).go i H ∧ ∃ N : St → Hp → Prop, (∀ σ' H', N σ' H' → ∃ m', m' < m ∧ W (i + 1) m' σ' H') ∧ ∀ x H', (Itl K a).yld i H x H' → g x σ H' fun σ2 H2 => tb { D with nx := N, ct := N, bk := D.nx } σ2 H2) := by
  refine ⟨fun i m σ H => m = xs.length - i ∧ i ≤ xs.length ∧ Pv i σ H, ⟨xs.length, by simp, Nat.zero_le _, h0⟩, ?_⟩
  rintro i m σ H ⟨rfl, hi, p⟩
  have q := hl i σ H hi p
  by_cases hlt : i < xs.length
  · refine .inr ⟨⟨xs, xs[i], q, by simp [hlt]⟩, Pv (i + 1), fun σ' H' p' => ⟨xs.length - (i + 1), by omega, rfl, hlt, p'⟩, fun x H' y => ?_⟩
    obtain ⟨e, y⟩ := y
    subst e
    exact hs i x σ _ (y xs q) p
  · have e : i = xs.length := by omega
    subst e
    exact .inl ⟨⟨xs, q, Nat.le_refl _⟩, hd σ H p⟩
/-- while, by a word and a measure of the state -/
theorem while_by {c : TT} {tb : TS} {D : Ends} {σ : St} {H : Hp} (Pv : St → Hp → Prop) (μ : St → Hp → Nat) (h0 : Pv σ H)
    (hs : ∀ σ H, Pv σ H → c σ H fun b H1 => if b = true then tb { D with nx := fun σ' H' => Pv σ' H' ∧ μ σ' H' < μ σ H, ct := fun σ' H' => Pv σ' H' ∧ μ σ' H' < μ σ H, bk := D.nx } σ H1 else D.nx σ H1)
    (mono : ∀ σ H Q Q', (∀ b H1, Q b H1 → Q' b H1) → c σ H Q → c σ H Q') : tWhile c tb D σ H := by
  refine ⟨fun m σ H => m = μ σ H ∧ Pv σ H, ⟨_, rfl, h0⟩, ?_⟩
  rintro m σ H ⟨rfl, p⟩
  refine mono σ H _ _ (fun b H1 q => ?_) (hs σ H p)
  cases b with
  | true => exact ⟨_, fun σ' H' ⟨p', l⟩ => ⟨_, l, rfl, p'⟩, q⟩
  | false => exact q
end L2

namespace L2
open PySem PySem.Spec PyProof.Rows

abbrev R2 := V → V → Hp → VK → Prop
/-- a two-place operation on values: f is binaryOp op, inplaceOp op or compareOp op -/
def OpR (X : Cx) (f : Value → Value → Sem Value) (r : R2) : Prop :=
  ∀ (pins : List (Addr × Obj)) (s : Shared) (σ : St) (H : Hp) (x y : V) (v u : Value) (Q : VK), Inv X pins σ H s → RelV x v → RelV y u → r x y H Q →
    wpAny (model X.prog X.w) X.A (f v u) (EP X pins σ Q) X.xe s
/-- a one-place operation -/
def UnR (X : Cx) (f : Value → Sem Value) (r : V → Hp → VK → Prop) : Prop :=
  ∀ (pins : List (Addr × Obj)) (s : Shared) (σ : St) (H : Hp) (x : V) (v : Value) (Q : VK), Inv X pins σ H s → RelV x v → r x H Q →
    wpAny (model X.prog X.w) X.A (f v) (EP X pins σ Q) X.xe s
/-- a call of a value that is known (a builtin, a type) with values -/
def CallR (X : Cx) (f : Value) (r : List V → Hp → VK → Prop) : Prop :=
  ∀ (pins : List (Addr × Obj)) (s : Shared) (σ : St) (H : Hp) (xs : List V) (us : List Value) (Q : VK), Inv X pins σ H s → Vals xs us → r xs H Q →
    wpAny (model X.prog X.w) X.A (call f us) (EP X pins σ Q) X.xe s
/-- a value's truth -/
def TruR (X : Cx) (r : V → Hp → (Bool → Hp → Prop) → Prop) : Prop :=
  ∀ (pins : List (Addr × Obj)) (s : Shared) (σ : St) (H : Hp) (x : V) (v : Value) (Q : Bool → Hp → Prop), Inv X pins σ H s → RelV x v → r x H Q →
    wpAny (model X.prog X.w) X.A (truthy v) (TP X pins σ Q) X.xe s

def tOp (r : R2) (ta tb : TE) : TE := fun σ H Q => ta σ H fun x H1 => tb σ H1 fun y H2 => r x y H2 Q
def tUn (r : V → Hp → VK → Prop) (ta : TE) : TE := fun σ H Q => ta σ H fun x H1 => r x H1 Q
/-- ints in, under C, and a value out -/
def rI (C : Int → Int → Prop) (g : Int → Int → V) : R2 := fun x y H Q => ∃ i j, x = .int i ∧ y = .int j ∧ C i j ∧ Q (g i j) H
def rI0 (g : Int → Int → V) : R2 := fun x y H Q => ∃ i j, x = .int i ∧ y = .int j ∧ Q (g i j) H
def rU (g : Int → V) : V → Hp → VK → Prop := fun x H Q => ∃ i, x = .int i ∧ Q (g i) H

section
variable {X : Cx} {a b c : Expr} {ta tb tc : TE} {pos : Pos}

theorem binT (ha : PE X a ta) (hb : PE X b tb) {pins : List (Addr × Obj)} {s : Shared} {σ : St} {H : Hp} {R : V → V → Hp → Prop} (I : Inv X pins σ H s)
    (h : ta σ H fun x H1 => tb σ H1 fun y H2 => R x y H2) {Q : Value → Shared → Prop} {f : Value → Value → Sem Value}
    (hf : ∀ v u s2 x y H2, Inv X pins σ H2 s2 → RelV x v → RelV y u → R x y H2 → wpAny (model X.prog X.w) X.A (f v u) Q X.xe s2) :
    wpAny (model X.prog X.w) X.A (eval a X.env) (fun v s₁ => wpAny (model X.prog X.w) X.A (eval b X.env) (fun u s₂ => wpAny (model X.prog X.w) X.A (f v u) Q X.xe s₂) X.xe s₁) X.xe s := by
  refine thn (ha pins s σ H _ I h) fun v s1 ⟨x, H1, I1, r1, q1⟩ => ?_
  refine thn (hb pins s1 σ H1 _ I1 q1) fun u s2 ⟨y, H2, I2, r2, q2⟩ => ?_
  exact hf v u s2 x y H2 I2 r1 r2 q2

theorem pe_op {op : Operator} {r : R2} (ho : OpR X (binaryOp op) r) (ha : PE X a ta) (hb : PE X b tb) : PE X (.BinOp a op b pos) (tOp r ta tb) := by
  intro pins s σ H Q I h
  exact wpAny_BinOp (binT ha hb I h fun v u s2 x y H2 I2 rx ry q => ho pins s2 σ H2 x y v u Q I2 rx ry q)

/-! ### ints -/
theorem opI {f : Value → Value → Sem Value} {C : Int → Int → Prop} {g : Int → Int → Int}
    (rule : ∀ (i j : Int) (t u : Tok) (s : Shared) (Q : Value → Shared → Prop) (E : Value → Shared → Prop), C i j → Q (.int (g i j) s.toks) { s with toks := s.toks + 1 } → wpAny (model X.prog X.w) X.A (f (.int i t) (.int j u)) Q E s) :
    OpR X f (rI C fun i j => .int (g i j)) := by
  intro pins s σ H x y v u Q I rx ry h
  obtain ⟨i, j, rfl, rfl, hc, q⟩ := h
  obtain ⟨t, rfl⟩ := rx
  obtain ⟨t', rfl⟩ := ry
  exact rule i j t t' s _ _ hc ⟨.int (g i j), H, I.tok _, ⟨_, rfl⟩, q⟩
theorem opI0 {f : Value → Value → Sem Value} {g : Int → Int → Int}
    (rule : ∀ (i j : Int) (t u : Tok) (s : Shared) (Q : Value → Shared → Prop) (E : Value → Shared → Prop), Q (.int (g i j) s.toks) { s with toks := s.toks + 1 } → wpAny (model X.prog X.w) X.A (f (.int i t) (.int j u)) Q E s) :
    OpR X f (rI0 fun i j => .int (g i j)) := by
  intro pins s σ H x y v u Q I rx ry h
  obtain ⟨i, j, rfl, rfl, q⟩ := h
  obtain ⟨t, rfl⟩ := rx
  obtain ⟨t', rfl⟩ := ry
  exact rule i j t t' s _ _ ⟨.int (g i j), H, I.tok _, ⟨_, rfl⟩, q⟩
theorem opB0 {f : Value → Value → Sem Value} {g : Int → Int → Bool}
    (rule : ∀ (i j : Int) (t u : Tok) (s : Shared) (Q : Value → Shared → Prop) (E : Value → Shared → Prop), Q (.bool (g i j)) s → wpAny (model X.prog X.w) X.A (f (.int i t) (.int j u)) Q E s) :
    OpR X f (rI0 fun i j => .bl (g i j)) := by
  intro pins s σ H x y v u Q I rx ry h
  obtain ⟨i, j, rfl, rfl, q⟩ := h
  obtain ⟨t, rfl⟩ := rx
  obtain ⟨t', rfl⟩ := ry
  exact rule i j t t' s _ _ ⟨.bl (g i j), H, I, rfl, q⟩

def CDiv (i j : Int) : Prop := 0 < j ∧ j < 1073741824
def CDivN (i j : Int) : Prop := j ≠ 0 ∧ j.natAbs < 1073741824
def CPow (i j : Int) : Prop := 0 ≤ j ∧ j ≤ 1000000 ∧ i.natAbs < 2 ^ 64
def CMul (i j : Int) : Prop := (-(2 ^ 64) < i ∧ i < 2 ^ 64) ∨ (-(2 ^ 64) < j ∧ j < 2 ^ 64)
theorem CMul.ok {i j : Int} (h : CMul i j) : IntMulOk i j := by
  rcases h with ⟨h1, h2⟩ | ⟨h1, h2⟩
  · exact .of_left (intBits_le_64 h1 h2)
  · exact .of_right (intBits_le_64 h1 h2)

theorem op_add : OpR X (binaryOp .Add) (rI0 fun i j => .int (i + j)) := opI0 fun _ _ _ _ _ _ _ q => add_int q
theorem op_sub : OpR X (binaryOp .Sub) (rI0 fun i j => .int (i - j)) := opI0 fun _ _ _ _ _ _ _ q => sub_int q
theorem op_mul : OpR X (binaryOp .Mult) (rI CMul fun i j => .int (i * j)) := opI fun _ _ _ _ _ _ _ hc q => mul_int q hc.ok
/-- // by a positive divisor -/
theorem op_fdiv : OpR X (binaryOp .FloorDiv) (rI CDiv fun i j => .int (i / j)) := opI fun i j _ _ _ _ _ hc q => by
  have h1 : (0 : Int) < j := hc.1
  have h2 : j < 1073741824 := hc.2
  exact floordiv_int (by omega) (by rw [Int.fdiv_eq_ediv_of_nonneg i (by omega)]; exact q) (.inl (PyProof.noPylong_small (by omega)))
/-- % by a positive divisor of any size -/
theorem op_mod : OpR X (binaryOp .Mod) (rI (fun _ j => 0 < j) fun i j => .int (i % j)) := opI fun i j _ _ _ _ _ hc q => by
  have h1 : (0 : Int) < j := hc
  exact mod_int' (by omega) (by rw [Int.fmod_eq_emod_of_nonneg i (by omega)]; exact q)



/-! ### bools among ints: n += (a < b) -/
end

/-! ### comparisons -/
/-- the scalars that == tells apart as data does -/
def scal : V → V → Bool
  | .non, .non => true | .non, .int _ => true | .int _, .non => true | .non, .bl _ => true | .bl _, .non => true | .non, .str _ => true | .str _, .non => true
  | .int _, .int _ => true | .bl _, .bl _ => true | .str _, .str _ => true | .byt _, .byt _ => true
  | .int _, .str _ => true | .str _, .int _ => true | .bl _, .str _ => true | .str _, .bl _ => true
  | _, _ => false
def rEq : R2 := fun x y H Q => scal x y = true ∧ Q (.bl (decide (x = y))) H
def rNe : R2 := fun x y H Q => scal x y = true ∧ Q (.bl (!decide (x = y))) H

theorem dec_int {i j : Int} : decide (V.int i = V.int j) = (i == j) := by
  rw [Bool.eq_iff_iff]
  simp
theorem dec_bl {i j : Bool} : decide (V.bl i = V.bl j) = (i == j) := by
  rw [Bool.eq_iff_iff]
  simp
theorem dec_str {i j : Str} : decide (V.str i = V.str j) = (i == j) := by
  rw [Bool.eq_iff_iff]
  simp
theorem dec_byt {i j : Array UInt8} : decide (V.byt i = V.byt j) = (i.toList == j.toList) := by
  rw [Bool.eq_iff_iff]
  cases i
  cases j
  simp

section
variable {X : Cx} {a b c : Expr} {ta tb tc : TE} {pos : Pos}
theorem fin_bl {pins : List (Addr × Obj)} {σ : St} {H : Hp} {s : Shared} {Q : VK} {k k' : Bool} (I : Inv X pins σ H s) (q : Q (.bl k) H) (e : k = k') : EP X pins σ Q (.bool k') s := by
  subst e
  exact ⟨.bl k, H, I, rfl, q⟩
theorem op_eq : OpR X (compareOp .Eq) rEq := by
  intro pins s σ H x y v u Q I rx ry h
  obtain ⟨hs, q⟩ := h
  cases x with
  | non =>
    cases rx
    cases y with
    | non => cases ry; exact PySem.EqNone.eq_none_none (fin_bl I q (by simp))
    | bl j => cases ry; exact PySem.EqNone.eq_none_bool (fin_bl I q (by simp))
    | int j => obtain ⟨t', rfl⟩ := ry; exact PySem.EqNone.eq_none_int (fin_bl I q (by simp))
    | str j => obtain ⟨t', rfl⟩ := ry; exact PySem.EqNone.eq_none_str (fin_bl I q (by simp))
    | _ => exact absurd (show false = true from hs) Bool.false_ne_true
  | bl i =>
    cases rx
    cases y with
    | non => cases ry; exact PySem.EqNone.eq_bool_none (fin_bl I q (by simp))
    | bl j => cases ry; exact eq_bool (fin_bl I q dec_bl)
    | str j => obtain ⟨t', rfl⟩ := ry; exact PySem.EqMixed.eq_bool_str (fin_bl I q (by simp))
    | _ => exact absurd (show false = true from hs) Bool.false_ne_true
  | int i =>
    obtain ⟨t, rfl⟩ := rx
    cases y with
    | non => cases ry; exact PySem.EqNone.eq_int_none (fin_bl I q (by simp))
    | int j => obtain ⟨t', rfl⟩ := ry; exact eq_int (fin_bl I q dec_int)
    | str j => obtain ⟨t', rfl⟩ := ry; exact PySem.EqMixed.eq_int_str (fin_bl I q (by simp))
    | _ => exact absurd (show false = true from hs) Bool.false_ne_true
  | str i =>
    obtain ⟨t, rfl⟩ := rx
    cases y with
    | non => cases ry; exact PySem.EqNone.eq_str_none (fin_bl I q (by simp))
    | bl j => cases ry; exact PySem.EqMixed.eq_str_bool (fin_bl I q (by simp))
    | int j => obtain ⟨t', rfl⟩ := ry; exact PySem.EqMixed.eq_str_int (fin_bl I q (by simp))
    | str j => obtain ⟨t', rfl⟩ := ry; exact eq_str (fin_bl I q dec_str)
    | _ => exact absurd (show false = true from hs) Bool.false_ne_true
  | byt i =>
    obtain ⟨t, rfl⟩ := rx
    cases y with
    | byt j => obtain ⟨t', rfl⟩ := ry; exact PySem.W.eq_bytes (fin_bl I q dec_byt)
    | _ => exact absurd (show false = true from hs) Bool.false_ne_true
  | _ => cases y <;> exact absurd (show false = true from hs) Bool.false_ne_true
theorem op_ne : OpR X (compareOp .NotEq) rNe := by
  intro pins s σ H x y v u Q I rx ry h
  obtain ⟨hs, q⟩ := h
  cases x with
  | non =>
    cases rx
    cases y with
    | non => cases ry; exact PySem.EqNone.ne_none_none (fin_bl I q (by simp))
    | bl j => cases ry; exact PySem.EqNone.ne_none_bool (fin_bl I q (by simp))
    | int j => obtain ⟨t', rfl⟩ := ry; exact PySem.EqNone.ne_none_int (fin_bl I q (by simp))
    | str j => obtain ⟨t', rfl⟩ := ry; exact PySem.EqNone.ne_none_str (fin_bl I q (by simp))
    | _ => exact absurd (show false = true from hs) Bool.false_ne_true
  | bl i =>
    cases rx
    cases y with
    | non => cases ry; exact PySem.EqNone.ne_bool_none (fin_bl I q (by simp))
    | bl j => cases ry; exact ne_bool (fin_bl I q (congrArg not dec_bl))
    | str j => obtain ⟨t', rfl⟩ := ry; exact PySem.EqMixed.ne_bool_str (fin_bl I q (by simp))
    | _ => exact absurd (show false = true from hs) Bool.false_ne_true
  | int i =>
    obtain ⟨t, rfl⟩ := rx
    cases y with
    | non => cases ry; exact PySem.EqNone.ne_int_none (fin_bl I q (by simp))
    | int j => obtain ⟨t', rfl⟩ := ry; exact ne_int (fin_bl I q (congrArg not dec_int))
    | str j => obtain ⟨t', rfl⟩ := ry; exact PySem.EqMixed.ne_int_str (fin_bl I q (by simp))
    | _ => exact absurd (show false = true from hs) Bool.false_ne_true
  | str i =>
    obtain ⟨t, rfl⟩ := rx
    cases y with
    | non => cases ry; exact PySem.EqNone.ne_str_none (fin_bl I q (by simp))
    | bl j => cases ry; exact PySem.EqMixed.ne_str_bool (fin_bl I q (by simp))
    | int j => obtain ⟨t', rfl⟩ := ry; exact PySem.EqMixed.ne_str_int (fin_bl I q (by simp))
    | str j => obtain ⟨t', rfl⟩ := ry; exact ne_str (fin_bl I q (congrArg not dec_str))
    | _ => exact absurd (show false = true from hs) Bool.false_ne_true
  | byt i =>
    obtain ⟨t, rfl⟩ := rx
    cases y with
    | byt j => obtain ⟨t', rfl⟩ := ry; exact PySem.W.ne_bytes (fin_bl I q (congrArg not dec_byt))
    | _ => exact absurd (show false = true from hs) Bool.false_ne_true
  | _ => cases y <;> exact absurd (show false = true from hs) Bool.false_ne_true

theorem op_lt : OpR X (compareOp .Lt) (rI0 fun i j => .bl (decide (i < j))) := opB0 fun _ _ _ _ _ _ _ q => lt_int q
theorem op_le : OpR X (compareOp .LtE) (rI0 fun i j => .bl (decide (i ≤ j))) := opB0 fun _ _ _ _ _ _ _ q => le_int q
theorem op_gt : OpR X (compareOp .Gt) (rI0 fun i j => .bl (decide (j < i))) := opB0 fun _ _ _ _ _ _ _ q => gt_int q
theorem op_ge : OpR X (compareOp .GtE) (rI0 fun i j => .bl (decide (j ≤ i))) := opB0 fun _ _ _ _ _ _ _ q => ge_int q


/-- is, is not of two objects that are tracked lists or instances -/
def isObj : HO → Bool
  | .lst _ => true
  | .ins _ _ _ => true
  | _ => false

/-- two rules for one operation: by cases -/
theorem OpR.or {f : Value → Value → Sem Value} {r r' : R2} (h : OpR X f r) (h' : OpR X f r') : OpR X f (fun x y H Q => r x y H Q ∨ r' x y H Q) := by
  intro pins s σ H x y v u Q I rx ry q
  rcases q with q | q
  · exact h pins s σ H x y v u Q I rx ry q
  · exact h' pins s σ H x y v u Q I rx ry q

theorem nomark (b : Expr) {op : CmpOp} (h : op ≠ .In := by decide) (h2 : op ≠ .NotIn := by decide) : behindInMarks op b = false := by
  have e1 : (op == CmpOp.In) = false := by cases op <;> first | rfl | exact absurd rfl h
  have e2 : (op == CmpOp.NotIn) = false := by cases op <;> first | rfl | exact absurd rfl h2
  cases b <;> simp [behindInMarks, e1, e2]
/-- a comparison as a value; hm: nomark b, or (for in, not in) by with_unfolding_all rfl -/
theorem pe_cmpR {op : CmpOp} {r : R2} (ho : OpR X (compareOp op) r) (ha : PE X a ta) (hb : PE X b tb) (hm : behindInMarks op b = false) : PE X (.Compare a [op] [b] pos) (tOp r ta tb) := by
  intro pins s σ H Q I h
  exact wpAny_Compare1 (binT ha hb I h fun v u s2 x y H2 I2 rx ry q => ho pins s2 σ H2 x y v u Q I2 rx ry q) hm
/-- a reading of a value as a test -/
def tTest (t : TE) : TT := fun σ H Q => t σ H fun x H' => ∃ k, x = .bl k ∧ Q k H'
theorem pt_cmpR {op : CmpOp} {r : R2} (ho : OpR X (compareOp op) r) (ha : PE X a ta) (hb : PE X b tb) (hm : behindInMarks op b = false) : PT X (.Compare a [op] [b] pos) (tTest (tOp r ta tb)) := by
  intro pins s σ H Q I h
  refine wpAny_isTrue_Compare1 (thn (ha pins s σ H _ I h) fun v s1 ⟨x, H1, I1, r1, q1⟩ => thn (hb pins s1 σ H1 _ I1 q1) fun u s2 ⟨y, H2, I2, r2, q2⟩ =>
    thn (ho pins s2 σ H2 x y v u _ I2 r1 r2 q2) fun c s3 ⟨z, H3, I3, r3, k, e, q3⟩ => ?_) hm
  subst e
  cases r3
  exact wpAny_truthy_bool ⟨H3, I3, q3⟩
/-- a op1 b op2 c -/
def tChain (r r' : R2) (ta tb tc : TE) : TE := fun σ H Q => ta σ H fun x H1 => tb σ H1 fun y H2 => r x y H2 fun z H3 => ∃ k, z = .bl k ∧
  (if k = true then tc σ H3 fun w' H4 => r' y w' H4 Q else Q (.bl false) H3)

/-! ### truth -/
/-- a value's truth by the abstract heap -/
def TruV (K : PySem.W.Frag) (x : V) (H : Hp) (k : Bool) : Prop :=
  match x with
  | .non => k = false
  | .bl b => k = b
  | .int i => k = (i != 0)
  | .str y => y.length ≤ sizeLine ∧ k = ((y.length : Int) != 0)
  | .byt y => y.size ≤ sizeLine ∧ k = ((y.size : Int) != 0)
  | .ref p => (∃ xs, SqL K H p xs ∧ k = !xs.isEmpty) ∨ (∃ xs, SqT K H p xs ∧ k = !xs.isEmpty) ∨ ∃ kvs, H p = some (.dK kvs) ∧ k = !kvs.isEmpty
  | _ => False
theorem line63 : (sizeLine : Nat) < 2 ^ 63 := by rw [sizeLine_eq]; decide

/-! ### strs and bytes -/

def PlainIxT (b : Expr) : Prop := ∀ o i, subscripted b false o i = operate [o, i] (getItem o i)

/-! ### scalar builtins, by CallR -/
theorem vals1 {x : V} {us : List Value} (r : Vals [x] us) : ∃ u, us = [u] ∧ RelV x u := by
  cases r with
  | cons r1 r2 => cases r2; exact ⟨_, rfl, r1⟩
/-- len of a str, a bytes, a list, a tuple -/
def LenV (K : PySem.W.Frag) (x : V) (H : Hp) (n : Nat) : Prop :=
  match x with
  | .str y => y.length ≤ sizeLine ∧ n = y.length
  | .byt y => y.size ≤ sizeLine ∧ n = y.size
  | .ref p => (∃ xs, SqL K H p xs ∧ n = xs.length) ∨ ∃ xs, SqT K H p xs ∧ n = xs.length
  | _ => False
end
end L2

namespace L2
open PySem PySem.Spec PyProof.Rows

/-! ### an instance, its attributes a map -/
structure ObjM (h : Heap) (x dx C : Addr) (mA : Str → Option Value) : Prop where
  obj : h.get? x = some (PySem.W.instObj C dx)
  ns : h.Ns1 dx mA
  ne : dx ≠ x

theorem lookIn_ns {h : Heap} {dx : Addr} {mA : Str → Option Value} (n : h.Ns1 dx mA) : ∃ od, h.get? dx = some od ∧ ∀ name, PySem.W.lookIn name od = some (mA name) := by
  obtain ⟨o, es, ep, ho, hd, hk, _, hm⟩ := n
  refine ⟨o, ho, fun name => ?_⟩
  have e := hm name
  unfold nsFind findBy at e
  rw [← Array.find?_toList] at e
  unfold PySem.W.lookIn
  rw [hd]
  dsimp only
  split
  · rename_i y q
    rw [q] at e
    exact congrArg some e
  · rename_i q
    rw [q] at e
    have a : es.toList.any (·.refKey) = false := by
      rw [List.any_eq_false]
      intro y hy
      obtain ⟨z, t, hkey⟩ := hk y (Array.mem_toList_iff.mp hy)
      simp [DictEntry.refKey, hkey]
    have a' : ¬ es.toList.any (·.refKey) = true := by rw [a]; exact Bool.false_ne_true
    rw [if_neg a']
    exact congrArg some e

theorem ObjM.look {h : Heap} {x dx C : Addr} {mA : Str → Option Value} (I : ObjM h x dx C mA) : ∃ od, PySem.W.InstAt h x (PySem.W.instObj C dx) C (some od) ∧ ∀ name, PySem.W.lookIn name od = some (mA name) :=
  let ⟨od, ho, hl⟩ := lookIn_ns I.ns
  ⟨od, ⟨I.obj, rfl, rfl, ho⟩, hl⟩

section
variable {prog : Program} {w : World} {A : Around} {E : Value → Shared → Prop} {s : Shared} {K : PySem.W.Frag} {x dx C f : Addr} {mA : Str → Option Value} {name : Str} {v : Value}

theorem get_map {expr : Bool} {Q : Value → Shared → Prop} (X : K.In s.heap) (I : ObjM s.heap x dx C mA) (hg : PySem.W.plainGet K C name = true) (hh : PySem.W.hasDictIn K C = true)
    (ha : PySem.W.findIn K (.ref C) name = some none) (hv : mA name = some v) (hv' : PySem.W.handedIn v = true) (h : Q v { s with toks := s.toks + 1 }) :
    wpAny (model prog w) A (getAttr (.ref x) name expr) Q E s := by
  obtain ⟨od, J, hl⟩ := I.look
  exact PySem.W.get_value X J (PySem.W.plainGet_of hg).1 (PySem.W.findObj_own hh ha rfl (by rw [hl, hv])) hv' h


theorem get_meth {pl : Sem Bool} {Q : Value × List Value → Shared → Prop} (X : K.In s.heap) (I : ObjM s.heap x dx C mA) (hg : PySem.W.plainGet K C name = true)
    (hf : PySem.W.findIn K (.ref C) name = some (some (.ref f))) (ht : PySem.W.isFn K (.ref f) = true) (hv : mA name = none) (h : Q (.ref f, [.ref x]) s) :
    wpAny (model prog w) A (getMethod (.ref x) name pl) Q E s := by
  obtain ⟨od, J, hl⟩ := I.look
  exact PySem.W.method_fn X J (PySem.W.plainGet_of hg).1 (PySem.W.plainGet_of hg).2 hf (beq_iff_eq.mp ht) (by show (PySem.W.lookIn name od).map (·.isSome) = some false; rw [hl, hv]; rfl) h

theorem set_map {ns : List Str} {Q : Unit → Shared → Prop} (X : K.In s.heap) (I : ObjM s.heap x dx C mA)
    (hs : PySem.W.findIn K (.ref C) "__setattr__" = some (some (.builtin "object.__setattr__"))) (hp : PySem.W.plainOver K C = true) (ht : PySem.W.takerIn K C name = some none) (hh : PySem.W.hasDictIn K C = true)
    (hw : PySem.Within mA ns) (hsz : ns.length ≤ sizeLine)
    (h : ∀ h', ObjM h' x dx C (fun y => if y = name then some v else mA y) → Heap.SameBut dx s.heap h' → Q () { s with heap := h', toks := s.toks + 2 }) :
    wpAny (model prog w) A (setAttr (.ref x) name v) Q E s := by
  obtain ⟨od, J, hl⟩ := I.look
  refine PySem.W.set_plain X J hs (PySem.W.osa_open (s := { s with toks := s.toks + 1 }) (r := none) X J hp ht fun b => ?_)
  obtain ⟨cd, hc, hd'⟩ := PySem.W.any_some hh
  have hx : s.heap.get? x = some ⟨.ref C, some dx, .plain, #[]⟩ := I.obj
  refine wpAny_bind (wpAny_pure (wpAny_bind (wpAny_bind (wpAny_loadPart hx (wpAny_bind (PySem.W.Looks.here (s := { s with toks := s.toks + 1 }) (PySem.W.looks_clsIn X hc) ?_))))))
  rw [hd']
  refine wpAny_pure (a := some dx) (wpAny_bind (wpAny_pure (wpAny_bind ?_)))
  refine wpAny_nsSet1 (s := { s with toks := s.toks + 1 }) I.ns fun h' hn2 hs2 => ?_
  obtain ⟨oD, esD, epD, hoD, hdD, hcD⟩ := hn2.count (PySem.Within.cons name v hw)
  refine wpAny_bind (wpAny_lookBehind hoD (by rw [hdD]; exact pastItsLine_dict (Nat.le_trans hcD (by rw [List.length_cons]; omega))) ?_)
  exact wpAny_pure (h _ ⟨(hs2.2 _ (Ne.symm I.ne)).trans I.obj, hn2, I.ne⟩ hs2)

/-- C(..): the dict at the heap's end, the instance behind it; then its __init__ -/
theorem make_map {R : Result → Shared → Prop} {vs : List Value} {kw : List (Str × Value)} (X : K.In s.heap) (hm : PySem.W.makesIn K C = true)
    (hi : PySem.W.findIn K (.ref C) "__init__" = some (some (.ref f))) (hf : PySem.W.typeIn K (.ref f) = some (.type "function"))
    (h : codeAny (model prog w) (A.under (.builtin "type.__call__" ⟨.ref C :: vs, kw⟩)) (.call (.ref f) ⟨.ref (s.heap.objs.size + 1) :: vs, kw⟩) (PySem.W.InitBack (s.heap.objs.size + 1) R)
      { s with heap := (s.heap.push PySem.W.emptyDict).push (PySem.W.instObj C s.heap.objs.size) }) :
    codeAny (model prog w) A (.call (.ref C) ⟨vs, kw⟩) R s := by
  obtain ⟨hh, g, d, t, os⟩ := s
  exact PySem.W.make_core (PySem.W.makes_of X hm) (PySem.W.looks_findIn X hi) (fun self => PySem.W.bind_fn X self hf) (.inl rfl) h
end

/-! ### the attributes as a list of pairs -/
def putF (f : Str) (v : V) : List (Str × V) → List (Str × V)
  | [] => [(f, v)]
  | (g, x) :: r => if g = f then (g, v) :: r else (g, x) :: putF f v r
theorem lookup_putF (f g : Str) (v : V) : ∀ fs : List (Str × V), (putF f v fs).lookup g = if g = f then some v else fs.lookup g
  | [] => by
    show List.lookup g [(f, v)] = _
    by_cases h : g = f
    · have hb : (g == f) = true := beq_iff_eq.mpr h
      simp only [List.lookup, hb, if_pos h]
    · have hb : (g == f) = false := beq_eq_false_iff_ne.mpr h
      simp only [List.lookup, hb, if_neg h]
  | (k, x) :: r => by
    have ih := lookup_putF f g v r
    rw [show putF f v ((k, x) :: r) = (if k = f then (k, v) :: r else (k, x) :: putF f v r) from rfl]
    by_cases hk : k = f
    · rw [if_pos hk]
      by_cases h : g = k
      · have hb : (g == k) = true := beq_iff_eq.mpr h
        simp only [List.lookup, hb, if_pos (h.trans hk)]
      · have hb : (g == k) = false := beq_eq_false_iff_ne.mpr h
        simp only [List.lookup, hb, if_neg (fun e : g = f => h (e.trans hk.symm))]
    · rw [if_neg hk]
      by_cases h : g = k
      · have hb : (g == k) = true := beq_iff_eq.mpr h
        simp only [List.lookup, hb, if_neg (fun e : g = f => hk (h.symm.trans e))]
      · have hb : (g == k) = false := beq_eq_false_iff_ne.mpr h
        simp only [List.lookup, hb]
        exact ih
theorem keys_putF (f : Str) (v : V) : ∀ fs : List (Str × V), f ∈ (putF f v fs).map (·.1) ∧ ∀ g, g ∈ fs.map (·.1) → g ∈ (putF f v fs).map (·.1)
  | [] => ⟨by simp [putF], fun g h => by simp at h⟩
  | (k, x) :: r => by
    obtain ⟨i1, i2⟩ := keys_putF f v r
    rw [show putF f v ((k, x) :: r) = (if k = f then (k, v) :: r else (k, x) :: putF f v r) from rfl]
    by_cases hk : k = f
    · rw [if_pos hk]
      subst hk
      exact ⟨by simp, fun g h => by simpa using h⟩
    · rw [if_neg hk]
      refine ⟨?_, fun g h => ?_⟩
      · rw [List.map_cons]
        exact List.mem_cons_of_mem _ i1
      · rw [List.map_cons] at h ⊢
        rcases List.mem_cons.mp h with e | e
        · exact List.mem_cons.mpr (.inl e)
        · exact List.mem_cons_of_mem _ (i2 g e)
theorem length_putF (f : Str) (v : V) : ∀ fs : List (Str × V), (putF f v fs).length ≤ fs.length + 1
  | [] => by simp [putF]
  | (k, x) :: r => by
    have ih := length_putF f v r
    rw [show putF f v ((k, x) :: r) = (if k = f then (k, v) :: r else (k, x) :: putF f v r) from rfl]
    by_cases hk : k = f
    · rw [if_pos hk, List.length_cons, List.length_cons]; omega
    · rw [if_neg hk, List.length_cons, List.length_cons]; omega

theorem RelO.some_of {v : V} {o : Option Value} (r : RelO (some v) o) : ∃ u, o = some u ∧ RelV v u := by
  cases o with
  | none => exact (show False from r).elim
  | some u => exact ⟨u, rfl, r⟩
theorem RelO.none_of {o : Option Value} (r : RelO none o) : o = none := by
  cases o with
  | none => rfl
  | some u => exact (show False from r).elim
theorem handed_of {v : V} {u : Value} (r : RelV v u) : PySem.W.handedIn u = true := by
  cases v with
  | non => cases (show u = Value.none from r); rfl
  | bl b => cases (show u = Value.bool b from r); rfl
  | int i => obtain ⟨t, e⟩ := (show ∃ t, u = Value.int i t from r); cases e; rfl
  | str x => obtain ⟨t, e⟩ := (show ∃ t, u = Value.str x t from r); cases e; rfl
  | byt b => obtain ⟨t, e⟩ := (show ∃ t, u = Value.bytes b t from r); cases e; rfl
  | flt b => obtain ⟨t, e⟩ := (show ∃ t, u = Value.float b t from r); cases e; rfl
  | ref a => cases (show u = Value.ref a from r); rfl
  | ty n => cases (show u = Value.type n from r); rfl

section
variable {P : Program} {w : World} {H H' : Hp} {h h' : Heap} {a C dx : Addr} {fs fs' : List (Str × V)}
theorem ins_get (hok : HOk P w H h) (e : H a = some (.ins C dx fs)) : ∃ mA, ObjM h a dx C mA ∧ (∀ f, RelO (fs.lookup f) (mA f)) ∧ PySem.Within mA (fs.map (·.1)) ∧ fs.length ≤ 1000 ∧ H dx = some (.own a) := by
  obtain ⟨d, z, ne, ob, mA, n, r, q⟩ := (show ObjOk P w H h a (.ins C dx fs) from hok a _ e)
  exact ⟨mA, ⟨ob, n, ne⟩, r, q, z, d⟩
end

/-! ### what of the text a class must have -/
structure Cls (K : PySem.W.Frag) (C : Addr) : Prop where
  pg : PySem.W.plainGet K C Str.empty = true
  hd : PySem.W.hasDictIn K C = true
  po : PySem.W.plainOver K C = true
  sa : PySem.W.findIn K (.ref C) "__setattr__" = some (some (.builtin "object.__setattr__"))
theorem Cls.get {K : PySem.W.Frag} {C : Addr} (c : Cls K C) (f : Str) : PySem.W.plainGet K C f = true := c.pg
/-- no class of it has the name -/
def NoAttr (K : PySem.W.Frag) (C : Addr) (f : Str) : Prop := PySem.W.findIn K (.ref C) f = some none
theorem NoAttr.taker {K : PySem.W.Frag} {C : Addr} {f : Str} (n : NoAttr K C f) : PySem.W.takerIn K C f = some none := by
  unfold PySem.W.takerIn
  rw [show PySem.W.findIn K (.ref C) f = some none from n]
  rfl
/-- a constant of the class -/
structure Con (K : PySem.W.Frag) (C : Addr) (f : Str) (v : V) (u : Value) : Prop where
  at_ : PySem.W.findIn K (.ref C) f = some (some u)
  rel : RelV v u
  get : PySem.W.specialIn K u "__get__" = some none
  cp : PySem.W.copiedNames.contains f = false
/-- a method: a plain def of the class or of one above it -/
structure Meth (K : PySem.W.Frag) (C : Addr) (m : Str) (f : Addr) : Prop where
  at_ : PySem.W.findIn K (.ref C) m = some (some (.ref f))
  fn : PySem.W.isFn K (.ref f) = true
  kp : PySem.W.keepIn K (.ref f) = true

section
variable {X : Cx} {pins : List (Addr × Obj)} {σ : St} {H : Hp} {s : Shared} {a C dx : Addr} {fs : List (Str × V)} {f : Str} {v : V} {A : Around} {E : Value → Shared → Prop}

theorem getattr_ok {b : Bool} {Q : Value → Shared → Prop} (I : Inv X pins σ H s) (e : H a = some (.ins C dx fs)) (c : Cls X.K C) (n : NoAttr X.K C f) (l : fs.lookup f = some v)
    (h : ∀ u s', Inv X pins σ H s' → RelV v u → Q u s') : wpAny (model X.prog X.w) A (getAttr (.ref a) f b) Q E s := by
  obtain ⟨mA, O, r, _, _, _⟩ := ins_get I.hok e
  obtain ⟨u, hu, ru⟩ := RelO.some_of (v := v) (o := mA f) (by rw [← l]; exact r f)
  exact get_map I.kIn O (c.get f) c.hd n hu (handed_of ru) (h u _ (I.tok _) ru)


theorem getmeth_ok {m : Str} {g : Addr} {pl : Sem Bool} {Q : Value × List Value → Shared → Prop} (I : Inv X pins σ H s) (e : H a = some (.ins C dx fs)) (c : Cls X.K C) (k : Meth X.K C m g) (l : fs.lookup m = none)
    (h : Q (.ref g, [.ref a]) s) : wpAny (model X.prog X.w) A (getMethod (.ref a) m pl) Q E s := by
  obtain ⟨mA, O, r, _, _, _⟩ := ins_get I.hok e
  have hn : mA m = none := RelO.none_of (by rw [← l]; exact r m)
  exact get_meth I.kIn O (c.get m) k.at_ k.fn hn h

theorem setattr_ok {y : V} {u : Value} {Q : Unit → Shared → Prop} (I : Inv X pins σ H s) (e : H a = some (.ins C dx fs)) (c : Cls X.K C) (n : NoAttr X.K C f) (hl : fs.length < 1000) (ry : RelV y u)
    (h : ∀ s', Inv X pins σ (upd H a (.ins C dx (putF f y fs))) s' → Q () s') : wpAny (model X.prog X.w) A (setAttr (.ref a) f u) Q E s := by
  obtain ⟨mA, O, r, wi, _, ho⟩ := ins_get I.hok e
  have hz : (fs.map (·.1)).length ≤ sizeLine := by rw [List.length_map, sizeLine_eq]; omega
  refine set_map I.kIn O c.sa c.po n.taker c.hd wi hz fun h' O' sb => h _ ?_
  have hd : ∃ o, h'.get? dx = some o := let ⟨o, _, _, e', _⟩ := O'.ns; ⟨o, e'⟩
  refine I.write (x := a) (e := dx) (by rw [e]; exact True.intro) (.inr ho) (fun b q hb z => (sb.2 b hb).trans z) hd ?_
  refine ⟨by rw [upd_ne O.ne]; exact ho, ?_, O.ne, O'.obj, _, O'.ns, fun g => ?_, fun g hg => ?_⟩
  · have := length_putF f y fs; omega
  · show RelO ((putF f y fs).lookup g) (if g = f then some u else mA g)
    rw [lookup_putF]
    by_cases q : g = f
    · rw [if_pos q, if_pos q]; exact ry
    · rw [if_neg q, if_neg q]; exact r g
  · by_cases q : g = f
    · rw [q]; exact (keys_putF f y fs).1
    · refine (keys_putF f y fs).2 g (wi g fun z => hg ?_)
      show (if g = f then some u else mA g) = none
      rw [if_neg q]; exact z

/-- a new instance, tracked, without attributes -/
theorem Inv.made (I : Inv X pins σ H s) : Inv X pins σ (upd (upd H s.heap.objs.size (.own (s.heap.objs.size + 1))) (s.heap.objs.size + 1) (.ins C s.heap.objs.size []))
    { s with heap := (s.heap.push PySem.W.emptyDict).push (PySem.W.instObj C s.heap.objs.size) } := by
  have e1 : (s.heap.push PySem.W.emptyDict).get? s.heap.objs.size = some PySem.W.emptyDict := Heap.get?_push_size s.heap rfl
  have e2 : ((s.heap.push PySem.W.emptyDict).push (PySem.W.instObj C s.heap.objs.size)).get? (s.heap.objs.size + 1) = some (PySem.W.instObj C s.heap.objs.size) := by
    have := Heap.get?_push_size (s.heap.push PySem.W.emptyDict) (o := PySem.W.instObj C s.heap.objs.size) rfl
    rwa [Heap.size_push] at this
  have e3 : (s.heap.push PySem.W.emptyDict).Ns s.heap.objs.size (fun _ => none) := ⟨PySem.W.emptyDict, #[], _, e1, rfl, (fun e he => absurd he (by simp)), fun _ => rfl⟩
  have I1 := I.laid (a := s.heap.objs.size) (o := .own (s.heap.objs.size + 1)) (h' := s.heap.push PySem.W.emptyDict) (t' := s.toks) (fun b u q => Heap.get?_push_of_some _ q) (Nat.le_refl _) ⟨_, e1⟩
  refine I1.laid (a := s.heap.objs.size + 1) (o := .ins C s.heap.objs.size []) (t' := s.toks) (fun b u q => Heap.get?_push_of_some _ q) (Nat.le_of_eq (Heap.size_push _ _)) ?_
  have ne : s.heap.objs.size ≠ s.heap.objs.size + 1 := Nat.ne_of_lt (Nat.lt_succ_self _)
  refine ⟨by rw [upd_ne ne, upd_same], Nat.zero_le _, ne, e2, fun _ => none, (Heap.Ns1.of_empty e3).at fun o q => Heap.get?_push_of_some _ q, fun _ => True.intro, fun y hy => absurd rfl hy⟩

/-- e.f where nothing but the object is asked: through attributeBase (super) and the last hold -/
theorem attr_of {prog : Program} {w : World} {env : Env} {e : Expr} {f : Str} {pos : Pos} {s : Shared} {Q : Value → Shared → Prop} (hb : attributeBase e f env (eval e env) = eval e env)
    (h : wpAny (model prog w) A (eval e env) (fun o s₁ => wpAny (model prog w) A (getAttr o f true) Q E s₁) E s) : wpAny (model prog w) A (eval (.Attribute e f pos) env) Q E s :=
  Attribute_any_ h (by rw [arm_eval_Attribute, hb])
end

/-! ### readings and rules -/
/-- e.f, an attribute of the instance -/
def tFld (K : PySem.W.Frag) (ta : TE) (f : Str) : TE := fun σ H Q => ta σ H fun x H1 => ∃ a C dx fs v, x = .ref a ∧ H1 a = some (.ins C dx fs) ∧ Cls K C ∧ NoAttr K C f ∧ fs.lookup f = some v ∧ Q v H1
/-- e.f, a constant of the class -/
def tCon (K : PySem.W.Frag) (ta : TE) (f : Str) : TE := fun σ H Q => ta σ H fun x H1 => ∃ a C dx fs v u, x = .ref a ∧ H1 a = some (.ins C dx fs) ∧ Cls K C ∧ Con K C f v u ∧ fs.lookup f = none ∧ Q v H1
/-- e.f = value -/
def sFld (K : PySem.W.Frag) (ta tv : TE) (f : Str) : TS := fun D σ H => tv σ H fun y H1 => ta σ H1 fun x H2 => ∃ a C dx fs, x = .ref a ∧ H2 a = some (.ins C dx fs) ∧ Cls K C ∧ NoAttr K C f ∧ fs.length < 1000 ∧
  D.nx σ (upd H2 a (.ins C dx (putF f y fs)))
/-- an augmented operator on two values -/
def InOp (X : Cx) (op : Operator) (rd : V → V → Hp → VK → Prop) : Prop :=
  ∀ (pins : List (Addr × Obj)) (s : Shared) (σ : St) (H : Hp) (x y : V) (u v : Value) (Q : VK), Inv X pins σ H s → RelV x u → RelV y v → rd x y H Q → wpAny (model X.prog X.w) X.A (inplaceOp op u v) (EP X pins σ Q) X.xe s
/-- e.f op= value -/
def sFldAug (K : PySem.W.Frag) (ta tv : TE) (rd : V → V → Hp → VK → Prop) (f : Str) : TS := fun D σ H => ta σ H fun x H1 => ∃ a C dx fs v, x = .ref a ∧ H1 a = some (.ins C dx fs) ∧ Cls K C ∧ NoAttr K C f ∧ fs.lookup f = some v ∧
  tv σ H1 fun y H2 => rd v y H2 fun z H3 => ∃ dx' fs', H3 a = some (.ins C dx' fs') ∧ fs'.length < 1000 ∧ D.nx σ (upd H3 a (.ins C dx' (putF f z fs')))

section
variable {X : Cx} {o e value : Expr} {f : Str} {pos pos' tpos : Pos} {ta tv : TE}
theorem pe_fld (he : PE X e ta) (hb : attributeBase e f X.env (eval e X.env) = eval e X.env) : PE X (.Attribute e f pos) (tFld X.K ta f) := by
  intro pins s σ H Q I h
  refine attr_of hb (thn (he pins s σ H _ I h) fun u s1 ⟨x, H1, I1, rx, a, C, dx, fs, v, ex, ea, c, n, l, q⟩ => ?_)
  subst ex
  obtain rfl : u = Value.ref a := rx
  exact getattr_ok I1 ea c n l fun u' s2 I2 ru => ⟨v, H1, I2, ru, q⟩
theorem ps_fld (ha : PE X o ta) (hv : PE X value tv) (hs : swapsWith value (some (.Attribute o f pos')) pos.line X.env = pure false) : PS X (.Assign [.Attribute o f pos'] value pos) (sFld X.K ta tv f) := by
  intro pins s σ H D I h
  refine plainObj_wpAny_Assign_Attribute (thn (hv pins s σ H _ I h) fun u s1 ⟨y, H1, I1, ry, q⟩ => thn (ha pins s1 σ H1 _ I1 q) fun ov s2 ⟨x, H2, I2, rx, a, C, dx, fs, ex, ea, c, n, l, q2⟩ => ?_) hs
  subst ex
  obtain rfl : ov = Value.ref a := rx
  exact setattr_ok I2 ea c n l ry fun s3 I3 => ⟨σ, _, I3, q2⟩
def rAdd : V → V → Hp → VK → Prop := fun x y H Q => ∃ i j, x = .int i ∧ y = .int j ∧ Q (.int (i + j)) H
def rSub : V → V → Hp → VK → Prop := fun x y H Q => ∃ i j, x = .int i ∧ y = .int j ∧ Q (.int (i - j)) H

end

/-! ### isinstance -/
section
variable {X : Cx} {pins : List (Addr × Obj)} {σ : St} {H : Hp} {s : Shared} {A : Around} {E : Value → Shared → Prop} {Q : Value → Shared → Prop} {c : Value} {b : Bool}
/-- the type of a value, as the fragment's deciders take it; for an instance its class -/
inductive TyOf (K : PySem.W.Frag) (H : Hp) : V → Value → Prop where
  | non : TyOf K H .non (.type "NoneType")
  | bl (x : Bool) : TyOf K H (.bl x) (.type "bool")
  | int (i : Int) : TyOf K H (.int i) (.type "int")
  | str (x : Str) : TyOf K H (.str x) (.type "str")
  | flt (x : UInt64) : TyOf K H (.flt x) (.type "float")
  | lst {a : Addr} {xs : List V} (e : H a = some (.lst xs)) : TyOf K H (.ref a) (.type "list")
  | frz {a : Addr} {o : Obj} {xs : List V} (e : H a = some (.frz o (.lst xs))) : TyOf K H (.ref a) (.type "list")
  | tup {a : Addr} {xs : List V} (e : H a = some (.tup xs)) : TyOf K H (.ref a) (.type "tuple")
  | dK {a : Addr} {kvs : List (Key × V)} (e : H a = some (.dK kvs)) : TyOf K H (.ref a) (.type "dict")
  | dT {a : Addr} {kvs : List (List Key × V)} (e : H a = some (.dT kvs)) : TyOf K H (.ref a) (.type "dict")
  | ins {a C dx : Addr} {fs : List (Str × V)} (e : H a = some (.ins C dx fs)) (cl : Cls K C) (ha : PySem.W.findIn K (.ref C) "__class__" = some (some (.builtin "object.__class__")))
      (hn : PySem.W.specialIn K (.builtin "object.__class__") "__get__" = some (some (.builtin "getset_descriptor.__get__"))) (htk : PySem.W.takesIn K (.builtin "object.__class__") = some true)
      (hm : PySem.W.mroIn K C (.type "object") = some true) : TyOf K H (.ref a) (.ref C)
end
end L2

namespace L2
open PySem PySem.Spec PyProof.Rows

/-! ### room -/
structure Room (k : Nat) (A : Around) : Prop where
  hd : A.handled = none
  dp : A.depth + 3 * k + 5 < recursionLimit
  un : A.units + 16 * k + 200 < cLine
theorem Room.mono {j k : Nat} {A : Around} (r : Room k A) (h : j ≤ k) : Room j A := ⟨r.hd, by have := r.dp; omega, by have := r.un; omega⟩
theorem Room.deeper {k : Nat} {A : Around} (r : Room (k + 1) A) (env : Env) : Room k (A.deeper env) :=
  ⟨r.hd, by have := r.dp; show A.depth + 1 + 3 * k + 5 < _; omega, by have := r.un; show A.units + 3 + 16 * k + 200 < _; omega⟩
theorem make_depth {A : Around} {C : Addr} {us : List Value} {kw : List (Str × Value)} : (A.under (.builtin "type.__call__" ⟨.ref C :: us, kw⟩)).depth = A.depth + 1 := by
  first | rfl | simp [Around.under, Code.weight, Code.isCreation, Code.isGuard, Code.isCaller, Code.frames, Code.isFrame, guardIds]
theorem make_units {A : Around} {C : Addr} {us : List Value} {kw : List (Str × Value)} : (A.under (.builtin "type.__call__" ⟨.ref C :: us, kw⟩)).units = A.units + 1 := by
  first | rfl | simp [Around.under, Code.cUnits, Code.frames, Code.isFrame]
theorem Room.make {k : Nat} {A : Around} (r : Room (k + 1) A) (C : Addr) (us : List Value) (kw : List (Str × Value)) : Room k (A.under (.builtin "type.__call__" ⟨.ref C :: us, kw⟩)) :=
  ⟨r.hd, by have := r.dp; rw [make_depth]; omega, by have := r.un; rw [make_units]; omega⟩
theorem Room.depth {k : Nat} {A : Around} (r : Room k A) : A.depth < recursionLimit := by have := r.dp; omega
theorem Room.units {k : Nat} {A : Around} (r : Room k A) : A.units + 64 < cLine := by have := r.un; omega

/-! ### argument lists and displays -/
def tNil : TA := fun _ H Q => Q [] H
def tCons (ta : TE) (tr : TA) : TA := fun σ H Q => ta σ H fun x H1 => tr σ H1 fun xs H2 => Q (x :: xs) H2
section
variable {X : Cx} {e : Expr} {es : List Expr} {te : TE} {t : TA} {pos : Pos}
theorem pa_nil : PA X [] tNil := fun _ _ _ _ H Q I h => Calls.spliced_nil ⟨[], H, I, .nil, h⟩
theorem pa_cons (ha : PE X e te) (hr : PA X es t) (hs : starEach (e :: es) X.env = (false, eval e X.env) :: starEach es X.env := by rfl) : PA X (e :: es) (tCons te t) := by
  intro pos pins s σ H Q I h
  rw [hs]
  show wpAny _ _ (spliced ((false, eval e X.env) :: backTo pos (starEach es X.env))) _ _ s
  refine Calls.spliced_cons (thn (ha pins s σ H _ I h) fun u s1 ⟨x, H1, I1, r1, q1⟩ => ?_)
  exact thn (hr pos pins s1 σ H1 _ I1 q1) fun us s2 ⟨xs, H2, I2, r2, q2⟩ => ⟨x :: xs, H2, I2, .cons r1 r2, q2⟩

/-- a tuple, a list of written items -/
def tTup (t : TA) : TE := fun σ H Q => t σ H fun xs H1 => xs.length ≤ sizeLine ∧ ∀ p, H1 p = none → Q (.ref p) (upd H1 p (.tup xs))
def tLst (t : TA) : TE := fun σ H Q => t σ H fun xs H1 => xs.length ≤ sizeLine ∧ ∀ p, H1 p = none → Q (.ref p) (upd H1 p (.lst xs))
theorem pe_lst (h : PA X es t) : PE X (.List es pos) (tLst t) := by
  intro pins s σ H Q I hq
  refine wpAny_List_spliced (thn (h pos pins s σ H _ I hq) fun us s1 ⟨xs, H1, I1, r, z, q⟩ => ⟨by rw [← r.length]; exact z, ?_⟩)
  have hf : H1 s1.heap.objs.size = none := I1.hok.fresh (Nat.le_refl _)
  refine ⟨.ref s1.heap.objs.size, upd H1 s1.heap.objs.size (.lst xs), I1.laid (t' := s1.toks) (fun b u e => Heap.get?_push_of_some _ e) (Nat.le_refl _) ?_, rfl, q _ hf⟩
  exact ⟨z, us, 0, r, Heap.get?_push_size _ rfl⟩
end

/-! ### what a def promises -/
/-- a def's promise: the bound arguments in the parameters' order, the heap, the wanted end, the wanted exception -/
abbrev Sp := List V → Hp → VK → XK → Prop
/-- how an exception lies behind a call (file 08 gives it): the callers' frames, abstract heap and state ahead of the call, the wish, the exception, the state -/
abbrev CXT := List Env → Hp → Shared → XK → Value → Shared → Prop

/-- the state at a call -/
structure Env0 (P : Program) (w : World) (K : PySem.W.Frag) (mg : Str → Option Value) (base : Heap) (A : Around) (outer : List Env) (s : Shared) (H : Hp) : Prop where
  frames : A.frames = some outer
  mod : Mod K mg base
  bs : ∀ b o, base.get? b = some o → s.heap.get? b = some o ∧ H b = none
  bsz : base.objs.size ≤ s.heap.objs.size
  funs : s.heap.FunFrames base outer
  frf : ∀ b ∈ frs outer, H b = none
  hok : HOk P w H s.heap
  bare : AllBare s.gens
/-- a call's end -/
def CE (outer : List Env) (P : Program) (w : World) (H : Hp) (s : Shared) (Q : VK) (u : Value) (s' : Shared) : Prop :=
  ∃ v H', s'.os = s.os ∧ AllBare s'.gens ∧ Un (frs outer) [] H H' s.heap s'.heap ∧ HOk P w H' s'.heap ∧ RelV v u ∧ Q v H'
def CR (CX : CXT) (outer : List Env) (P : Program) (w : World) (H : Hp) (s : Shared) (Q : VK) (E : XK) (r : Result) (s' : Shared) : Prop :=
  match r with
  | .ok (.ret u) => CE outer P w H s Q u s'
  | .ok _ => False
  | .error e => CX outer H s E e s'
structure FnOk (P : Program) (w : World) (K : PySem.W.Frag) (mg : Str → Option Value) (base : Heap) (CX : CXT) (k : Nat) (f : Addr) (fd : FuncData) (ps : List Str) (sp : Sp) : Prop where
  len : ∀ vs H Q E, sp vs H Q E → vs.length = ps.length
  run : ∀ (A : Around) (outer : List Env) (s : Shared) (H : Hp) (args : Args) (us : List Value) (vs : List V) (Q : VK) (E : XK), Room k A → Env0 P w K mg base A outer s H → BindsTo s fd args (ps.zip us) → Vals vs us → sp vs H Q E →
    codeAny (model P w) A (.call (.ref f) args) (CR CX outer P w H s Q E) s
theorem FnOk.mono {P : Program} {w : World} {K : PySem.W.Frag} {mg : Str → Option Value} {base : Heap} {CX : CXT} {j k : Nat} {f : Addr} {fd : FuncData} {ps : List Str} {sp : Sp} (F : FnOk P w K mg base CX j f fd ps sp) (h : j ≤ k) :
    FnOk P w K mg base CX k f fd ps sp := ⟨F.len, fun A outer s H args us vs Q E hr => F.run A outer s H args us vs Q E (hr.mono h)⟩

theorem Env0.make {P : Program} {w : World} {K : PySem.W.Frag} {mg : Str → Option Value} {base : Heap} {A : Around} {outer : List Env} {s : Shared} {H : Hp} (e : Env0 P w K mg base A outer s H) (C : Addr) (us : List Value) (kw : List (Str × Value)) :
    Env0 P w K mg base (A.under (.builtin "type.__call__" ⟨.ref C :: us, kw⟩)) outer s H := ⟨by first | exact e.frames | (simpa [Around.under, Code.envs, Code.isFrame, pushEnvs] using e.frames), e.mod, e.bs, e.bsz, e.funs, e.frf, e.hok, e.bare⟩

section
variable {X : Cx} {pins : List (Addr × Obj)} {σ : St} {H : Hp} {s s' : Shared}
/-- from a body: what a callee wants -/
theorem Inv.env0 (I : Inv X pins σ H s) : Env0 X.prog X.w X.K X.mg X.base X.A X.stack s H :=
  ⟨I.ok.frames, I.ok.mod, I.bs, Nat.le_trans I.ok.bsz I.sz, I.stack, I.stkFree, I.hok, I.bare⟩
/-- behind a call -/
theorem Inv.after {Q : VK} {u : Value} (I : Inv X pins σ H s) (h : CE X.stack X.prog X.w H s Q u s') : EP X pins σ Q u s' := by
  obtain ⟨v, H', os, bare, un, hok, r, q⟩ := h
  obtain ⟨hh, g, d, t, os'⟩ := s'
  obtain rfl : os' = s.os := os
  exact ⟨v, H', I.call (h' := hh) (g' := g) (d' := d) (t' := t) (ch := []) un hok bare (fun b z => absurd z (by simp)), r, q⟩
end

/-! ### calls -/
/-- f(..): the written arguments, then the defaults dvs; E: what is wanted of an exception -/
def tCall (sp : Sp) (dvs : List V) (E : XK) (t : TA) : TE := fun σ H Q => t σ H fun vs H1 => sp (vs ++ dvs) H1 Q E
/-- o.m(..) of an instance of the class at C -/
def tMeth (C : Addr) (m : Str) (sp : Sp) (dvs : List V) (E : XK) (ta : TE) (t : TA) : TE := fun σ H Q => ta σ H fun x H1 => ∃ a dx fs, x = .ref a ∧ H1 a = some (.ins C dx fs) ∧ fs.lookup m = none ∧
  t σ H1 fun vs H2 => sp (x :: (vs ++ dvs)) H2 Q E
/-- C(..): a new instance and its dict, then __init__ -/
def tMake (C : Addr) (sp : Sp) (dvs : List V) (E : XK) (t : TA) : TE := fun σ H Q => t σ H fun vs H1 => ∀ x dx, H1 x = none → H1 dx = none → dx ≠ x →
  sp (.ref x :: (vs ++ dvs)) (upd (upd H1 dx (.own x)) x (.ins C dx [])) (fun v H2 => v = .non ∧ Q (.ref x) H2) E

/-- how the parameters are bound: us the positional arguments, kw the keywords' values by name, ds the defaults that fill up -/
def Binds (K : PySem.W.Frag) (fd : FuncData) (ps : List Str) (ds : List Value) : Prop :=
  ∀ (s : Shared) (us : List Value), K.In s.heap → (us ++ ds).length = ps.length → BindsTo s fd ⟨us, []⟩ (ps.zip (us ++ ds))
/-- every parameter is given -/
theorem Binds.all {K : PySem.W.Frag} {fd : FuncData} {ps : List Str} (h : ∀ us : List Value, us.length = ps.length → bindArgs fd ⟨us, []⟩ = pure (ps.zip us)) : Binds K fd ps [] := fun s us _ hl => by
  rw [List.append_nil] at hl ⊢
  exact .of_eq (h us hl)

/-- an exception of a callee reaches what this body wants of exceptions -/
def Passes (CX : CXT) (X : Cx) (E : XK) : Prop := ∀ (pins : List (Addr × Obj)) (σ : St) (H : Hp) (s : Shared) (e : Value) (s' : Shared), Inv X pins σ H s → CX X.stack H s E e s' → X.xe e s'

section
variable {X : Cx} {CX : CXT} {k : Nat} {f C : Addr} {fd : FuncData} {ps : List Str} {sp : Sp} {dvs : List V} {ds : List Value} {E : XK} {x m : Str} {p pos apos : Pos} {e o : Expr} {es : List Expr} {ta : TE} {t : TA}

/-- the callee runs -/
theorem run_fn {pins : List (Addr × Obj)} {σ : St} {H : Hp} {s : Shared} {Q : VK} {us : List Value} {vs : List V} (F : FnOk X.prog X.w X.K X.mg X.base CX k f fd ps sp) (hr : Room k X.A) (hb : Binds X.K fd ps ds) (hd : Vals dvs ds) (hx : Passes CX X E)
    (I : Inv X pins σ H s) (r : Vals vs us) (h : sp (vs ++ dvs) H Q E) : wpAny (model X.prog X.w) X.A (call (.ref f) us) (EP X pins σ Q) X.xe s := by
  have r2 : Vals (vs ++ dvs) (us ++ ds) := r.append hd
  have hl : (us ++ ds).length = ps.length := by rw [← r2.length]; exact F.len _ _ _ _ h
  refine wpAny_call (codeAny_mono (F.run X.A X.stack s H ⟨us, []⟩ (us ++ ds) (vs ++ dvs) Q E hr I.env0 (hb s us I.kIn hl) r2 h) fun r s' hq => ?_)
  cases r with
  | error e => exact hx pins σ H s e s' I hq
  | ok fl =>
    cases fl with
    | ret u => exact I.after hq
    | next => exact False.elim hq
    | brk => exact False.elim hq
    | cont => exact False.elim hq

theorem pe_call (F : FnOk X.prog X.w X.K X.mg X.base CX k f fd ps sp) (hr : Room k X.A) (hg : Gl X x) (hm : X.mg x = some (.ref f)) (hk : PySem.W.keepIn X.K (.ref f) = true) (hb : Binds X.K fd ps ds) (hd : Vals dvs ds) (hx : Passes CX X E)
    (ha : PA X (e :: es) t) (hdb : (x == ("__debug__" : Str)) = false := by decide) (he : starEach (e :: es) X.env = (false, eval e X.env) :: starEach es X.env := by rfl) (hpl : (backTo pos (starEach es X.env)).any (·.1) = false := by rfl) :
    PE X (.Call (.Name x p) (e :: es) [] pos) (tCall sp dvs E t) := by
  intro pins s σ H Q I h
  refine wpAny_Call_Name_kw (ld_glob I hg hm ?_ hdb)
  refine PySem.W.callWith_K (h₀ := X.base) I.ok.mod.kin hk (thn (ha pos pins s σ H _ I h) fun us s1 ⟨vs, H1, I1, r, q⟩ => ⟨I1.kIn, ?_⟩) he hpl
  exact run_fn F hr hb hd hx I1 r q

/-- o.m(e, ..) -/
theorem pe_meth {pl : Sem Bool} (he : PE X o ta) (c : Cls X.K C) (hm : Meth X.K C m f) (F : FnOk X.prog X.w X.K X.mg X.base CX k f fd ps sp) (hr : Room k X.A) (hb : Binds X.K fd ps ds) (hd : Vals dvs ds) (hx : Passes CX X E) (ha : PA X (e :: es) t)
    (hst : starEach (e :: es) X.env = (false, eval e X.env) :: starEach es X.env := by rfl) (hpl : (backTo pos (starEach es X.env)).any (·.1) = false := by rfl)
    (ht : eval (.Call (.Attribute o m apos) (e :: es) [] pos) X.env = (do
      let ov ← eval o X.env
      standAt apos.atName
      let (f, first) ← holding [ov] (getMethod ov m pl)
      callWith pos f first (backTo pos (starEach (e :: es) X.env)) (backToKw pos (keywordEach [] X.env))) := by rfl) :
    PE X (.Call (.Attribute o m apos) (e :: es) [] pos) (tMeth C m sp dvs E ta t) := by
  intro pins s σ H Q I h
  refine PySem.W.methodCall_KW (pl := pl) (thn (he pins s σ H _ I h) fun u s1 ⟨x, H1, I1, rx, a, dx, fs, ex, ea, l, q⟩ => ?_) ht
  subst ex
  obtain rfl : u = Value.ref a := rx
  refine getmeth_ok I1 ea c hm l ?_
  refine PySem.W.callWith_K (first := [.ref a]) (h₀ := X.base) I.ok.mod.kin hm.kp (thn (ha pos pins s1 σ H1 _ I1 q) fun us s2 ⟨vs, H2, I2, r, q2⟩ => ⟨I2.kIn, ?_⟩) hst hpl
  exact run_fn (us := .ref a :: us) (vs := .ref a :: vs) F hr hb hd hx I2 (.cons rfl r) q2

/-- what a class must have to be made -/
structure Mk (K : PySem.W.Frag) (C f : Addr) : Prop where
  makes : PySem.W.makesIn K C = true
  init : PySem.W.findIn K (.ref C) "__init__" = some (some (.ref f))
  fn : PySem.W.isFn K (.ref f) = true
  kp : PySem.W.keepIn K (.ref C) = true

theorem run_make {pins : List (Addr × Obj)} {σ : St} {H : Hp} {s : Shared} {Q : VK} {us : List Value} {vs : List V} (M : Mk X.K C f) (F : FnOk X.prog X.w X.K X.mg X.base CX k f fd ps sp) (hr : Room (k + 1) X.A) (hb : Binds X.K fd ps ds) (hd : Vals dvs ds)
    (hx : Passes CX X E) (I : Inv X pins σ H s) (r : Vals vs us)
    (h : ∀ x dx, H x = none → H dx = none → dx ≠ x → sp (.ref x :: (vs ++ dvs)) (upd (upd H dx (.own x)) x (.ins C dx [])) (fun v H2 => v = .non ∧ Q (.ref x) H2) E) :
    wpAny (model X.prog X.w) X.A (call (.ref C) us) (EP X pins σ Q) X.xe s := by
  have hq := h (s.heap.objs.size + 1) s.heap.objs.size (I.hok.fresh (Nat.le_succ _)) (I.hok.fresh (Nat.le_refl _)) (Nat.ne_of_lt (Nat.lt_succ_self _))
  have I2 := Inv.made (C := C) I
  have r2 : Vals (V.ref (s.heap.objs.size + 1) :: (vs ++ dvs)) (Value.ref (s.heap.objs.size + 1) :: (us ++ ds)) := .cons rfl (r.append hd)
  have hl : (Value.ref (s.heap.objs.size + 1) :: us ++ ds).length = ps.length := by
    have e := r2.length
    rw [F.len _ _ _ _ hq] at e
    exact e.symm
  refine wpAny_call (make_map (f := f) I.kIn M.makes M.init (beq_iff_eq.mp M.fn) (codeAny_mono (F.run _ X.stack _ _ ⟨Value.ref (s.heap.objs.size + 1) :: us, []⟩ (Value.ref (s.heap.objs.size + 1) :: (us ++ ds)) _ _ E (hr.make C us [])
    (I2.env0.make C us []) (hb _ (Value.ref (s.heap.objs.size + 1) :: us) I2.kIn hl) r2 hq) fun r s' hq' => ?_))
  cases r with
  | error e => exact hx pins σ _ _ e s' I2 hq'
  | ok fl =>
    cases fl with
    | ret u =>
      obtain ⟨v, H', I3, rv, ev, q3⟩ := I2.after hq'
      subst ev
      exact ⟨rv, ⟨V.ref (s.heap.objs.size + 1), H', I3, rfl, q3⟩⟩
    | next => exact False.elim hq'
    | brk => exact False.elim hq'
    | cont => exact False.elim hq'
theorem pe_make (M : Mk X.K C f) (F : FnOk X.prog X.w X.K X.mg X.base CX k f fd ps sp) (hr : Room (k + 1) X.A) (hg : Gl X x) (hm : X.mg x = some (.ref C)) (hb : Binds X.K fd ps ds) (hd : Vals dvs ds) (hx : Passes CX X E)
    (ha : PA X (e :: es) t) (hdb : (x == ("__debug__" : Str)) = false := by decide) (he : starEach (e :: es) X.env = (false, eval e X.env) :: starEach es X.env := by rfl) (hpl : (backTo pos (starEach es X.env)).any (·.1) = false := by rfl) :
    PE X (.Call (.Name x p) (e :: es) [] pos) (tMake C sp dvs E t) := by
  intro pins s σ H Q I h
  refine wpAny_Call_Name_kw (ld_glob I hg hm ?_ hdb)
  refine PySem.W.callWith_K (h₀ := X.base) I.ok.mod.kin M.kp (thn (ha pos pins s σ H _ I h) fun us s1 ⟨vs, H1, I1, r, q⟩ => ⟨I1.kIn, ?_⟩) he hpl
  exact run_make M F hr hb hd hx I1 r q
theorem pe_make0 (M : Mk X.K C f) (F : FnOk X.prog X.w X.K X.mg X.base CX k f fd ps sp) (hr : Room (k + 1) X.A) (hg : Gl X x) (hm : X.mg x = some (.ref C)) (hb : Binds X.K fd ps ds) (hd : Vals dvs ds) (hx : Passes CX X E)
    (hdb : (x == ("__debug__" : Str)) = false := by decide) : PE X (.Call (.Name x p) [] [] pos) (tMake C sp dvs E tNil) := by
  intro pins s σ H Q I h
  refine wpAny_Call_Name_kw (ld_glob I hg hm ?_ hdb)
  exact PySem.W.callWith_K0 I.kIn M.kp (run_make (us := []) M F hr hb hd hx I .nil h)
end

/-! ### keywords -/
/-- the values of the keywords, from the left -/
def PK (X : Cx) (kws : List Keyword) (t : TA) : Prop :=
  ∀ (pos : Pos) (pins : List (Addr × Obj)) (s : Shared) (σ : St) (H : Hp) (Q : List V → Hp → Prop), Inv X pins σ H s → t σ H Q → wpAny (model X.prog X.w) X.A (evalAll ((backToKw pos (keywordEach kws X.env)).map (·.2))) (AP X pins σ Q) X.xe s
section
variable {X : Cx} {CX : CXT} {k : Nat} {f C : Addr} {fd : FuncData} {ps ks : List Str} {sp : Sp} {E : XK} {x m : Str} {p pos apos kpos : Pos} {e o : Expr} {es : List Expr} {kws : List Keyword} {te ta : TE} {t tk : TA} {nm : Option Str}

/-- how a call with keywords binds: g puts the positional values us and the keywords' values ws (names ks) in the parameters' order, defaults among them -/
structure KBinds (K : PySem.W.Frag) (fd : FuncData) (ps ks : List Str) (g : List Value → List Value → List Value) (gV : List V → List V → List V) : Prop where
  to : ∀ (s : Shared) (us ws : List Value), K.In s.heap → (g us ws).length = ps.length → BindsTo s fd ⟨us, ks.zip ws⟩ (ps.zip (g us ws))
  rel : ∀ {vs : List V} {us : List Value} {zs : List V} {ws : List Value}, Vals vs us → Vals zs ws → Vals (gV vs zs) (g us ws)
def tCallK (sp : Sp) (gV : List V → List V → List V) (E : XK) (t tk : TA) : TE := fun σ H Q => t σ H fun vs H1 => tk σ H1 fun zs H2 => sp (gV vs zs) H2 Q E
variable {g : List Value → List Value → List Value} {gV : List V → List V → List V}
end

/-! ### a def's body keeps its promise -/
/-- names: the parameters first -/
structure FnScope (N P : List Str) (sc : Scope) : Prop where
  kind : sc.kind = .function
  co : sc.isCoroutine = false
  gen : sc.isGenerator = false
  nd : N.Nodup
  pre : N.take P.length = P
  par : ∀ x ∈ P, sc.names.lookup x = some .local ∨ sc.names.lookup x = some .cell
  nofree : ∀ y ∈ sc.names, y.2 ≠ .free

theorem bindL_out {kindOf : Str → Option NameKind} {x : Str} : ∀ {binds : List (Str × Value)} {m : Str → Option Value}, (∀ v, (x, v) ∉ binds) → bindL kindOf binds m x = m x
  | [], _, _ => rfl
  | (n, v) :: r, m, h => by
    unfold bindL
    rw [bindL_out fun w hw => h w (List.mem_cons_of_mem _ hw)]
    split
    · have : x ≠ n := by rintro rfl; exact h v List.mem_cons_self
      simp [this]
    · rfl
theorem bindC_out {kindOf : Str → Option NameKind} {x : Str} : ∀ {binds : List (Str × Value)} {m : Str → Option Value}, (∀ v, (x, v) ∉ binds) → bindC kindOf binds m x = m x
  | [], _, _ => rfl
  | (n, v) :: r, m, h => by
    unfold bindC
    rw [bindC_out fun w hw => h w (List.mem_cons_of_mem _ hw)]
    split
    · rfl
    · have : x ≠ n := by rintro rfl; exact h v List.mem_cons_self
      simp [this]
theorem bindL_get {kindOf : Str → Option NameKind} {x : Str} {v : Value} : ∀ {P : List Str} {vs : List Value} {i : Nat} {m : Str → Option Value}, P.Nodup → P[i]? = some x → vs[i]? = some v → kindOf x = some .local →
    bindL kindOf (P.zip vs) m x = some v
  | [], _, _, _, _, h, _, _ => by simp at h
  | _ :: _, [], _, _, _, _, h, _ => by simp at h
  | p :: P, w :: vs, 0, m, nd, h1, h2, hk => by
    simp at h1 h2; subst h1; subst h2
    show bindL kindOf ((p, w) :: P.zip vs) m p = _
    unfold bindL
    rw [bindL_out fun v hv => (List.nodup_cons.mp nd).1 (List.of_mem_zip hv).1, if_pos hk]
    simp
  | p :: P, w :: vs, i + 1, m, nd, h1, h2, hk => by
    show bindL kindOf ((p, w) :: P.zip vs) m x = _
    unfold bindL
    exact bindL_get (i := i) (List.nodup_cons.mp nd).2 (by simpa using h1) (by simpa using h2) hk
theorem bindC_get {kindOf : Str → Option NameKind} {x : Str} {v : Value} : ∀ {P : List Str} {vs : List Value} {i : Nat} {m : Str → Option Value}, P.Nodup → P[i]? = some x → vs[i]? = some v → kindOf x ≠ some .local →
    bindC kindOf (P.zip vs) m x = some v
  | [], _, _, _, _, h, _, _ => by simp at h
  | _ :: _, [], _, _, _, _, h, _ => by simp at h
  | p :: P, w :: vs, 0, m, nd, h1, h2, hk => by
    simp at h1 h2; subst h1; subst h2
    show bindC kindOf ((p, w) :: P.zip vs) m p = _
    unfold bindC
    rw [bindC_out fun v hv => (List.nodup_cons.mp nd).1 (List.of_mem_zip hv).1, if_neg hk]
    simp
  | p :: P, w :: vs, i + 1, m, nd, h1, h2, hk => by
    show bindC kindOf ((p, w) :: P.zip vs) m x = _
    unfold bindC
    exact bindC_get (i := i) (List.nodup_cons.mp nd).2 (by simpa using h1) (by simpa using h2) hk

/-- the names' values at the entry -/
def start (N : List Str) (vs : List V) : St := vs.map some ++ List.replicate (N.length - vs.length) none

/-- the context of a def's body, at its entry; an exception leaves the frame, then lies as CX says -/
def cxOf (CX : CXT) (P : Program) (w : World) (K : PySem.W.Frag) (mg : Str → Option Value) (base : Heap) (N : List Str) (qual : Str) (scope : Scope) (f : Addr) (cd : Value) (A : Around) (outer : List Env) (s : Shared) (H : Hp) (E : XK) : Cx where
  prog := P
  w := w
  K := K
  mg := mg
  base := base
  A := A.deeper (envOfC qual scope s.heap.objs.size f cd)
  N := N
  s_0 := s
  H_0 := H
  env := envOfC qual scope s.heap.objs.size f cd
  outer := outer
  stack := envOfC qual scope s.heap.objs.size f cd :: outer
  ex := []
  calm := true
  fn := fun _ => true
  pn := []
  xe := fun e s' => wpAny (model P w) (A.deeper (envOfC qual scope s.heap.objs.size f cd)) (leaving (envOfC qual scope s.heap.objs.size f cd) e) (fun _ s'' => CX outer H s E e s'') (fun e' s'' => CX outer H s E e' s'') s'

theorem cell_has {sc : Scope} {n : Nat} {x : Str} (h : sc.names.lookup x = some .cell) : ∃ c, (cellsFrom n sc.names []).lookup x = some c := by
  have q := PySem.W.cellsFrom_some sc.names n [] (.inl h)
  exact Option.isSome_iff_exists.mp q

theorem inv_start {CX : CXT} {P : Program} {w : World} {K : PySem.W.Frag} {mg : Str → Option Value} {base : Heap} {N ps : List Str} {qual : Str} {scope : Scope} {f : Addr} {cd : Value} {A : Around} {outer : List Env} {s s1 : Shared} {H : Hp} {E : XK} {us : List Value} {vs : List V}
    (S : FnScope N ps scope) (hd : A.handled = none) (e0 : Env0 P w K mg base A outer s H) (hl : vs.length = ps.length) (r : Vals vs us)
    (x : InCallC s s.heap.objs.size (bindL (envOfC qual scope s.heap.objs.size f cd).kindOf (ps.zip us) fun _ => none) (cellsFrom (s.heap.objs.size + 1) scope.names []) (bindC (envOfC qual scope s.heap.objs.size f cd).kindOf (ps.zip us) fun _ => none) s1) :
    Inv (cxOf CX P w K mg base N qual scope f cd A outer s H E) [] (start N vs) H s1 := by
  have hpl : ps.length ≤ N.length := by have := congrArg List.length S.pre; rw [List.length_take] at this; omega
  obtain ⟨h1, tk, rfl, hk⟩ := x.done
  have noA : ∀ b : Addr, b ∉ (cxOf CX P w K mg base N qual scope f cd A outer s H E).ex := fun b z => absurd (show b ∈ ([] : List Addr) from z) (by simp)
  refine ⟨⟨e0.mod, S.kind, rfl, rfl, Nat.le_refl _, fun y z c h1 h2 => ?_, fun y hy => ?_, fun y c _ h => ?_, fun _ => hd, Around.frames_deeper e0.frames, .inr ⟨rfl, rfl⟩, fun b z => absurd z (noA b), e0.bs, e0.bsz, fun b _ _ => noA b, fun b z => absurd z (noA b), e0.funs, e0.frf⟩,
    rfl, e0.bare, Un.kept hk, ⟨_, x.toInCall.ns, fun i y v h1 h2 h3 => ?_⟩, fun y c h => ⟨_, x.cell y c h⟩, e0.hok.fresh (Nat.le_refl _), fun y c h => ?_, fun p hp => absurd (show p ∈ ([] : List (Addr × Obj)) from hp) (by simp), e0.hok.kept hk, ?_⟩
  · exact name_of_addr x.apart (PySem.mem_of_lookup h1) (PySem.mem_of_lookup h2)
  · have hy : scope.names.lookup y = some .cell ∨ scope.names.lookup y = some .free := hy
    rcases hy with hy | hy
    · exact cell_has hy
    · exact absurd rfl (S.nofree _ (PySem.mem_of_lookup hy))
  · exact Nat.le_of_lt (x.above y c (PySem.mem_of_lookup h))
  · have hi : i < vs.length := by
      unfold start at h2
      by_cases hi : i < vs.length
      · exact hi
      · rw [List.getElem?_append_right (by simpa using hi)] at h2
        rw [List.getElem?_replicate] at h2
        split at h2 <;> cases h2
    have ha : vs[i]? = some v := by
      unfold start at h2
      rw [List.getElem?_append_left (by simpa using hi), List.getElem?_map] at h2
      cases e : vs[i]? with
      | none => rw [e] at h2; cases h2
      | some a => rw [e] at h2; cases h2; rfl
    obtain ⟨u, hu, rv⟩ := r.get ha
    have hp : ps[i]? = some y := by
      rw [← S.pre, List.getElem?_take_of_lt (by omega)]; exact h1
    have ndP : ps.Nodup := by rw [← S.pre]; exact S.nd.sublist (List.take_sublist _ _)
    refine ⟨u, rv, ?_⟩
    rcases S.par y (List.mem_of_getElem? hp) with k | k
    · exact .inl ⟨k, bindL_get ndP hp hu k⟩
    · obtain ⟨c, e⟩ := cell_has (n := s.heap.objs.size + 1) k
      refine .inr ⟨.inl k, c, e, ?_⟩
      have q := x.cell y c e
      rw [bindC_get ndP hp hu (by show scope.names.lookup y ≠ _; rw [k]; decide)] at q
      exact q
  · exact e0.hok.fresh (Nat.le_of_lt (x.above y c (PySem.mem_of_lookup h)))
  · unfold start
    show _ = N.length
    rw [List.length_append, List.length_map, List.length_replicate]
    omega

/-- THE RULE: a def (or a method) of the text, by its body. The body's reading t is chosen for each entry; it is run at the parameters' values -/
theorem fn_of {CX : CXT} {P : Program} {w : World} {K : PySem.W.Frag} {mg : Str → Option Value} {base : Heap} {k : Nat} {f : Addr} {name qual : Str} {params : Arguments} {body : List Stmt} {scope : Scope} {dV kV doc pm cdv ct oc : Value} {an od : Option Addr}
    {osl : Array (Option Value)} {N ps : List Str} {sp : Sp} (lk : K.lookup f = some ⟨oc, od, .func (PySem.W.fnOf name qual params body scope dV kV doc pm an cdv ct), osl⟩) (hcd : PySem.W.codeIn K cdv qual = true) (S : FnScope N ps scope)
    (len : ∀ vs H Q E, sp vs H Q E → vs.length = ps.length)
    (hbody : ∀ (A : Around) (outer : List Env) (s : Shared) (H : Hp) (vs : List V) (Q : VK) (E : XK), Room k (A.deeper (envOfC qual scope s.heap.objs.size f cdv)) → sp vs H Q E →
      ∃ t, PSs (cxOf CX P w K mg base N qual scope f cdv A outer s H E) body t ∧ t { nx := fun _ H' => Q .non H', rt := Q } (start N vs) H) :
    FnOk P w K mg base CX (k + 1) f (PySem.W.fnOf name qual params body scope dV kV doc pm an cdv ct) ps sp := by
  refine ⟨len, fun A outer s H args us vs Q E hr e0 hb r hsp => ?_⟩
  have hl := len _ _ _ _ hsp
  have KX : K.In s.heap := e0.mod.kin.keeps fun b o e => (e0.bs b o e).1
  have lim : s.heap.NoLimit := e0.mod.nolimit.keeps fun b o e => (e0.bs b o e).1
  have hkind : ∀ y ∈ ps.zip us, scope.names.lookup y.1 = some .local ∨ (scope.names.lookup y.1 = some .cell ∧ ((cellsFrom (s.heap.objs.size + 1) scope.names []).lookup y.1).isSome = true) := fun ⟨n, v⟩ hy => by
    rcases S.par n (List.of_mem_zip hy).1 with q | q
    · exact .inl q
    · exact .inr ⟨q, PySem.W.cellsFrom_some _ _ _ (.inl q)⟩
  refine codeAny_call_function hr.depth (KX _ _ lk) rfl S.co S.gen rfl (PySem.W.codeRec_of KX hcd) (hb _ _ _ _ ?_)
  refine wpAny_newFunctionEnv_cells S.kind hkind fun env he s1 x => ?_
  subst he
  refine ⟨lim.keeps x.toInCall.keep, codeAny_func ?_⟩
  obtain ⟨t, ht, hq⟩ := hbody A outer s H vs Q E (hr.deeper _) hsp
  have I : Inv (cxOf CX P w K mg base N qual scope f cdv A outer s H E) [] (start N vs) H s1 := inv_start S hr.hd e0 hl r x
  refine wpAny_mono (ht [] s1 (start N vs) H _ I hq) (fun fl s' hs => ?_) fun e s' hs => hs
  have fin : ∀ {σ' : St} {H' : Hp} {v : V} {u : Value}, Inv (cxOf CX P w K mg base N qual scope f cdv A outer s H E) [] σ' H' s' → RelV v u → Q v H' → CE outer P w H s Q u s' :=
    fun {σ' H' v u} J rv q => ⟨v, H', J.os, J.bare, J.base, J.hok, rv, q⟩
  cases fl with
  | ret u =>
    obtain ⟨v, σ', H', J, rv, q⟩ := hs
    exact fin J rv q
  | next =>
    obtain ⟨σ', H', J, q⟩ := hs
    exact fin (v := V.non) (u := Value.none) J rfl q
  | brk =>
    obtain ⟨_, _, _, q⟩ := hs
    exact False.elim q
  | cont =>
    obtain ⟨_, _, _, q⟩ := hs
    exact False.elim q
end L2

namespace L2
open PySem PySem.Spec PyProof.Rows
section
variable {X : Cx} {x : Str} {p pos : Pos} {e : Expr} {es : List Expr} {t : TA} {id T : String} {r : List V → Hp → VK → Prop}

def tCB (r : List V → Hp → VK → Prop) (t : TA) : TE := fun σ H Q => t σ H fun vs H1 => r vs H1 Q
/-- f(e, ..), f a built-in function -/
theorem pe_callB (hc : CallR X (.builtin id) r) (hg : Gl X x) (hm : X.mg x = none) (hv : bootBuiltins x = some (.builtin id)) (ha : PA X (e :: es) t) (hn : x ≠ "__name__" := by decide) (hdb : (x == ("__debug__" : Str)) = false := by decide)
    (he : starEach (e :: es) X.env = (false, eval e X.env) :: starEach es X.env := by rfl) (hpl : (backTo pos (starEach es X.env)).any (·.1) = false := by rfl) : PE X (.Call (.Name x p) (e :: es) [] pos) (tCB r t) := by
  intro pins s σ H Q I h
  refine wpAny_Call_Name_kw (ld_blt I hg hm hv ?_ hn hdb)
  exact PyProof.Rows.callWith_builtin1 (thn (ha pos pins s σ H _ I h) fun us s1 ⟨vs, H1, I1, r1, q1⟩ => hc pins s1 σ H1 vs us Q I1 r1 q1) he hpl
end
end L2

namespace HT
open PySem PyProof.Rows

/-- t < u of tuples of ints -/
def lexLt : List Int → List Int → Bool
  | [], [] => false
  | [], _ :: _ => true
  | _ :: _, [] => false
  | x :: xs, y :: ys => if x = y then lexLt xs ys else decide (x < y)


section
open PySem.SeqAt
open PySem.AutoSeq1 (wpAny_loadPart')
open PySem.MeetsSeq PySem.MeetsSeq2 PySem.MeetsSeq3

end

section
variable {prog : Program} {w : World} {A : Around} {E : Value → Shared → Prop} {s : Shared}



/-! ### t[a:b], not the whole -/
/-- a slice's bound as a place among n (d where it is left out) -/
def sIx (n d : Nat) : Option Int → Nat
  | none => d
  | some v => if v < 0 then (v + (n : Int)).toNat else min v.toNat n
theorem sIx_none (n d : Nat) : sIx n d none = d := rfl
theorem sIx_nat (n d k : Nat) : sIx n d (some (k : Int)) = min k n := by
  show (if (k : Int) < 0 then ((k : Int) + (n : Int)).toNat else min (k : Int).toNat n) = min k n
  rw [if_neg (by omega), Int.toNat_natCast]

end
end HT

namespace L2
open PySem PySem.Spec PyProof.Rows

/-! ### the parts of a slice -/
abbrev TO := St → Hp → (Option Int → Hp → Prop) → Prop
/-- a slice's part (left out, or an int) -/
def PO (X : Cx) (e : Option Expr) (t : TO) : Prop :=
  ∀ (pins : List (Addr × Obj)) (s : Shared) (σ : St) (H : Hp) (Q : Option Int → Hp → Prop), Inv X pins σ H s → t σ H Q →
    wpAny (model X.prog X.w) X.A (evalPart e X.env) (fun u s' => ∃ o H', Inv X pins σ H' s' ∧ IsPart u o ∧ Q o H') X.xe s
def tNoPart : TO := fun _ H Q => Q none H
def tPart (t : TE) : TO := fun σ H Q => t σ H fun x H1 => ∃ i, x = .int i ∧ Q (some i) H1


section
variable {X : Cx} {e : Expr} {te : TE} {lo hi : Option Expr} {tl th : TO} {pos p2 : Pos}

theorem po_none : PO X none tNoPart := by
  intro pins s σ H Q I h
  rw [evalPart_none]
  exact wpAny_pure ⟨none, H, I, .none, h⟩
theorem po_some (h : PE X e te) : PO X (some e) (tPart te) := by
  intro pins s σ H Q I hw
  rw [evalPart_some]
  refine thn (h pins s σ H _ I hw) fun u s1 ⟨x, H1, I1, r1, q1⟩ => ?_
  obtain ⟨i, rfl, q⟩ := q1
  obtain ⟨t, rfl⟩ := r1
  exact ⟨some i, H1, I1, .int i t, q⟩

/-- what a slice of a value is, by values: the slice object stands at sl -/
def SlR (X : Cx) (r : V → Option Int → Option Int → Hp → VK → Prop) : Prop :=
  ∀ (pins : List (Addr × Obj)) (s : Shared) (σ : St) (H : Hp) (x : V) (v vl vu : Value) (lo hi : Option Int) (sl : Addr) (Q : VK), Inv X pins σ H s → RelV x v → s.heap.IsSliceOf sl vl vu .none → IsPart vl lo → IsPart vu hi → r x lo hi H Q →
    ∃ T id, typeLookup (.type T) "__getitem__" = pure (some (.builtin id)) ∧ s.TypeIs v T ∧ wpAny (model X.prog X.w) X.A (getItem v (.ref sl)) (EP X pins σ Q) X.xe s
theorem SlR.or {r r' : V → Option Int → Option Int → Hp → VK → Prop} (h : SlR X r) (h' : SlR X r') : SlR X (fun x lo hi H Q => r x lo hi H Q ∨ r' x lo hi H Q) := by
  intro pins s σ H x v vl vu lo hi sl Q I rx hs pl pu q
  rcases q with q | q
  · exact h pins s σ H x v vl vu lo hi sl Q I rx hs pl pu q
  · exact h' pins s σ H x v vl vu lo hi sl Q I rx hs pl pu q
def tSl (r : V → Option Int → Option Int → Hp → VK → Prop) (te : TE) (tl th : TO) : TE := fun σ H Q => te σ H fun x H1 => tl σ H1 fun l H2 => th σ H2 fun u H3 => r x l u H3 Q
/-- a[lo:hi], any a -/
theorem pe_slice {r : V → Option Int → Option Int → Hp → VK → Prop} (hr : SlR X r) (he : PE X e te) (hl : PO X lo tl) (hu : PO X hi th) : PE X (.Subscript e (.Slice lo hi none p2) pos) (tSl r te tl th) := by
  intro pins s σ H Q I h
  refine Subscript_ (thn (he pins s σ H _ I h) fun v s1 ⟨x, H1, I1, r1, q1⟩ => ?_)
  refine wpAny_Slice (thn (hl pins s1 σ H1 _ I1 q1) fun vl s2 ⟨l, H2, I2, pl, q2⟩ => thn (hu pins s2 σ H2 _ I2 q2) fun vu s3 ⟨u, H3, I3, pu, q3⟩ => ?_)
  rw [evalPart_none]
  refine wpAny_pure ?_
  have I4 : Inv X pins σ H3 { s3 with heap := s3.heap.push { cls := .type "slice", data := .fields #[vl, vu, .none] } } := I3.kept (t' := s3.toks) fun b ob q => Heap.get?_push_of_some _ q
  obtain ⟨T, id, hT, ht, hg⟩ := hr pins { s3 with heap := s3.heap.push { cls := .type "slice", data := .fields #[vl, vu, .none] } } σ H3 x v vl vu l u s3.heap.objs.size Q I4 r1 (Heap.IsSliceOf.new ..) pl pu q3
  show wpAny (model X.prog X.w) X.A (subscriptTail e (.Slice lo hi none p2) v (.ref s3.heap.objs.size)) (EP X pins σ Q) X.xe { s3 with heap := s3.heap.push { cls := .type "slice", data := .fields #[vl, vu, .none] } }
  exact tail_any (ops := [.ref s3.heap.objs.size, v]) ht hT hg (by with_unfolding_all rfl)

/-- the items of xs[lo:hi] -/
def cutV (xs : List V) (lo hi : Option Int) : List V := (xs.drop (HT.sIx xs.length 0 lo)).take (HT.sIx xs.length xs.length hi - HT.sIx xs.length 0 lo)
theorem cutV_length (xs : List V) (lo hi : Option Int) : (cutV xs lo hi).length ≤ xs.length := by
  unfold cutV
  rw [List.length_take, List.length_drop]
  omega
/-- t[lo:hi], not the whole of it (the whole would be t itself) -/
def rSlT (K : PySem.W.Frag) : V → Option Int → Option Int → Hp → VK → Prop := fun x lo hi H Q => ∃ a xs, x = .ref a ∧ SqT K H a xs ∧
  ¬ (HT.sIx xs.length 0 lo = 0 ∧ HT.sIx xs.length xs.length hi = xs.length) ∧ ∀ p, H p = none → Q (.ref p) (upd H p (.tup (cutV xs lo hi)))

/-! ### t < u, t + u -/
def rLtT (K : PySem.W.Frag) : R2 := fun x y H Q => ∃ a b ns ms, x = .ref a ∧ y = .ref b ∧ SqT K H a (ns.map V.int) ∧ SqT K H b (ms.map V.int) ∧ Q (.bl (HT.lexLt ns ms)) H
/-- t + u, t not empty: u empty gives t itself -/
def rCatT (K : PySem.W.Frag) : R2 := fun x y H Q => ∃ a b xs ys, x = .ref a ∧ y = .ref b ∧ SqT K H a xs ∧ SqT K H b ys ∧ xs ≠ [] ∧ xs.length + ys.length ≤ sizeLine ∧
  (ys = [] → Q (.ref a) H) ∧ (ys ≠ [] → ∀ p, H p = none → Q (.ref p) (upd H p (.tup (xs ++ ys))))
end
end L2

namespace L2
open PySem PySem.Spec PyProof.Rows

/-! ### places -/
/-- the place that an index of any sign means -/
def ixN (n : Nat) (i : Int) : Option Nat := if 0 ≤ i then (if i < n then some i.toNat else none) else if -(n : Int) ≤ i then some (i + n).toNat else none
def atI {α : Type} (xs : List α) (i : Int) : Option α := (ixN xs.length i).bind fun j => xs[j]?
theorem ixN_seq {n : Nat} {i : Int} {j : Nat} (h : ixN n i = some j) : seqIndex? i n = some j ∧ j < n ∧ -(n : Int) ≤ i ∧ i < n := by
  unfold ixN at h
  by_cases h0 : 0 ≤ i
  · rw [if_pos h0] at h
    by_cases h1 : i < n
    · rw [if_pos h1] at h
      have e : i.toNat = j := Option.some.inj h
      exact ⟨by rw [seqIndex_of h0 h1, e], by omega, by omega, h1⟩
    · rw [if_neg h1] at h; cases h
  · rw [if_neg h0] at h
    by_cases h1 : -(n : Int) ≤ i
    · rw [if_pos h1] at h
      have e : (i + n).toNat = j := Option.some.inj h
      exact ⟨by rw [seqIndex_neg (by omega) h1, e], by omega, h1, by omega⟩
    · rw [if_neg h1] at h; cases h
theorem atI_get {α : Type} {xs : List α} {i : Int} {v : α} (h : atI xs i = some v) : ∃ j, seqIndex? i xs.length = some j ∧ xs[j]? = some v ∧ j < xs.length ∧ -(xs.length : Int) ≤ i ∧ i < xs.length := by
  unfold atI at h
  cases e : ixN xs.length i with
  | none => rw [e] at h; cases h
  | some j =>
    rw [e] at h
    obtain ⟨h1, h2, h3, h4⟩ := ixN_seq e
    exact ⟨j, h1, h, h2, h3, h4⟩
theorem atI_nat {α : Type} {xs : List α} {j : Nat} {v : α} (h : xs[j]? = some v) : atI xs (j : Int) = some v := by
  have hj : j < xs.length := (List.getElem?_eq_some_iff.mp h).1
  have e : ixN xs.length (j : Int) = some j := by
    unfold ixN
    rw [if_pos (by omega), if_pos (by omega)]; simp
  unfold atI; rw [e]; exact h

/-! ### what may be subscripted -/
/-- what stands as an index of a plain subscript -/
def PlainIx (b : Expr) : Prop := ∀ o i, subscripted b false o i = operate [o, i] (getItem o i)
/-- a subscript by values -/
def IxR (X : Cx) (r : R2) : Prop :=
  ∀ (value slice : Expr) (pins : List (Addr × Obj)) (s : Shared) (σ : St) (H : Hp) (x y : V) (v u : Value) (Q : VK), Inv X pins σ H s → RelV x v → RelV y u → r x y H Q →
    subscripted slice false v u = operate [v, u] (getItem v u) → wpAny (model X.prog X.w) X.A (subscriptTail value slice v u) (EP X pins σ Q) X.xe s
/-- a call of a builtin's method by values: the receiver, the arguments -/
def MtR (X : Cx) (id : String) (r : V → List V → Hp → VK → Prop) : Prop :=
  ∀ (pins : List (Addr × Obj)) (s : Shared) (σ : St) (H : Hp) (x : V) (xs : List V) (v : Value) (us : List Value) (Q : VK), Inv X pins σ H s → RelV x v → Vals xs us → r x xs H Q →
    wpAny (model X.prog X.w) X.A (call (.builtin id) (v :: us)) (EP X pins σ Q) X.xe s
section
variable {X : Cx} {a b : Expr} {ta tb : TE} {pos : Pos}
theorem IxR.or {r r' : R2} (h : IxR X r) (h' : IxR X r') : IxR X (fun x y H Q => r x y H Q ∨ r' x y H Q) := by
  intro value slice pins s σ H x y v u Q I rx ry q hs
  rcases q with q | q
  · exact h value slice pins s σ H x y v u Q I rx ry q hs
  · exact h' value slice pins s σ H x y v u Q I rx ry q hs
theorem MtR.or {id : String} {r r' : V → List V → Hp → VK → Prop} (h : MtR X id r) (h' : MtR X id r') : MtR X id (fun x xs H Q => r x xs H Q ∨ r' x xs H Q) := by
  intro pins s σ H x xs v us Q I rx rs q
  rcases q with q | q
  · exact h pins s σ H x xs v us Q I rx rs q
  · exact h' pins s σ H x xs v us Q I rx rs q
/-- a[b] -/
theorem pe_ix {r : R2} (hr : IxR X r) (ha : PE X a ta) (hb : PE X b tb) (hs : PlainIx b) : PE X (.Subscript a b pos) (tOp r ta tb) := by
  intro pins s σ H Q I h
  exact Subscript_ (binT ha hb I h fun v u s2 x y H2 I2 rx ry q => hr a b pins s2 σ H2 x y v u Q I2 rx ry q (hs _ _))

def rIxL (K : PySem.W.Frag) : R2 := fun x y H Q => ∃ p xs i v, x = .ref p ∧ y = .int i ∧ SqL K H p xs ∧ atI xs i = some v ∧ Q v H
def rIxT (K : PySem.W.Frag) : R2 := fun x y H Q => ∃ p xs i v, x = .ref p ∧ y = .int i ∧ SqT K H p xs ∧ atI xs i = some v ∧ Q v H
def rIxS : R2 := fun x y H Q => ∃ z i c, x = .str z ∧ y = .int i ∧ z.length ≤ sizeLine ∧ atI z.cps.toList i = some c ∧ Q (.str ⟨#[c]⟩) H
theorem ix_list : IxR X (rIxL X.K) := by
  intro value slice pins s σ H x y v u Q I rx ry h hs
  obtain ⟨p, xs, i, z, rfl, rfl, hq, he, q⟩ := h
  cases rx
  obtain ⟨t, rfl⟩ := ry
  obtain ⟨its, r, pl, hz⟩ := I.list hq
  obtain ⟨j, h1, h2, h3, h4, h5⟩ := atI_get he
  obtain ⟨w, ew, rw'⟩ := r.get h2
  have hl := r.length
  have hn := line63
  have fin : EP X pins σ Q w s := ⟨z, H, I, rw', q⟩
  by_cases h0 : 0 ≤ i
  · have hj : i.toNat = j := by
      rw [seqIndex_of h0 h5] at h1
      exact Option.some.inj h1
    exact item_listR pl.isList h0 (by omega) (by rw [hj]; simpa using ew) fin hs
  · have hj : (i + (its.toArray.size : Int)).toNat = j := by
      rw [seqIndex_neg (by omega) h4] at h1
      rw [List.size_toArray, ← hl]
      exact Option.some.inj h1
    exact subscriptTail_builtinR (x := w) pl.isList.typeIs slot_list_getitem.lookup
      (wpAny_getItem_list_neg (Q := fun r s' => r = w ∧ EP X pins σ Q r s') pl.isList (by omega) (by rw [List.size_toArray] <;> omega) (by omega) (by rw [hj]; simpa using ew) ⟨rfl, fin⟩) hs
theorem ix_tup : IxR X (rIxT X.K) := by
  intro value slice pins s σ H x y v u Q I rx ry h hs
  obtain ⟨p, xs, i, z, rfl, rfl, hq, he, q⟩ := h
  cases rx
  obtain ⟨t, rfl⟩ := ry
  obtain ⟨its, r, pl, hz⟩ := I.tuple hq
  obtain ⟨j, h1, h2, h3, h4, h5⟩ := atI_get he
  obtain ⟨w, ew, rw'⟩ := r.get h2
  have hl := r.length
  have hn := line63
  have fin : EP X pins σ Q w s := ⟨z, H, I, rw', q⟩
  exact subscriptTail_builtinR (x := w) pl.typeIs slot_tuple_getitem.lookup
    (getItem_tuple (j := j) (Q := fun r s' => r = w ∧ EP X pins σ Q r s') pl (by omega) (by omega) (by rw [List.size_toArray, ← hl]; exact h1) (by simpa using ew) ⟨rfl, fin⟩) hs
/-- list, tuple or str -/
def rIx (K : PySem.W.Frag) : R2 := fun x y H Q => rIxL K x y H Q ∨ rIxT K x y H Q ∨ rIxS x y H Q

/-! ### xs[i] = v, any sign -/
/-- the list's object behind a store -/
theorem mapSeq_set (its : List Value) (n j : Nat) (u : Value) : Obj.mapSeq (·.setIfInBounds j u) { cls := .type "list", data := .seq its.toArray n } = { cls := .type "list", data := .seq (its.set j u).toArray n } := by
  simp [Obj.mapSeq]
theorem Inv.lst {pins : List (Addr × Obj)} {σ : St} {H : Hp} {s : Shared} {p : Addr} {xs : List V} (I : Inv X pins σ H s) (h : H p = some (.lst xs)) :
    ∃ (its : List Value) (n : Nat), Vals xs its ∧ s.heap.get? p = some { cls := .type "list", data := .seq its.toArray n } ∧ xs.length ≤ sizeLine := by
  obtain ⟨z, its, n, r, e⟩ := I.hok p _ h
  exact ⟨its, n, r, e, z⟩
/-- the list at p is written by an update of its object -/
theorem Inv.lstUpd {pins : List (Addr × Obj)} {σ : St} {H : Hp} {s : Shared} {p : Addr} {xs ys : List V} {its its' : List Value} {n n' : Nat} {f : Obj → Obj} (I : Inv X pins σ H s) (h : H p = some (.lst xs))
    (ho : s.heap.get? p = some { cls := .type "list", data := .seq its.toArray n }) (hf : f { cls := .type "list", data := .seq its.toArray n } = { cls := .type "list", data := .seq its'.toArray n' }) (r : Vals ys its') (hz : ys.length ≤ sizeLine) (t : Nat) :
    Inv X pins σ (upd H p (.lst ys)) { s with heap := s.heap.update p f, toks := t } := by
  have e : (s.heap.update p f).get? p = some { cls := .type "list", data := .seq its'.toArray n' } := by
    rw [Heap.get?_update_self f ho (by rw [hf] <;> rfl), hf]
  refine I.write (x := p) (e := p) (by rw [h]; trivial) (.inl rfl) (fun b u hb q => (Heap.get?_update_other _ _ (Ne.symm hb)).trans q) ⟨_, e⟩ ?_
  exact ⟨hz, its', n', r, e⟩
def rSetL : V → V → V → Hp → (Hp → Prop) → Prop := fun o i v H Q => ∃ p xs k j, o = .ref p ∧ i = .int k ∧ H p = some (.lst xs) ∧ ixN xs.length k = some j ∧ Q (upd H p (.lst (xs.set j v)))
theorem set_list : PSet X rSetL := by
  intro pins s σ H o i v ov iv u Q I ro ri rv h
  obtain ⟨p, xs, k, j, rfl, rfl, hp, hj, q⟩ := h
  cases ro
  obtain ⟨t, rfl⟩ := ri
  obtain ⟨its, n, r, ho, hz⟩ := I.lst hp
  obtain ⟨h1, h2, h3, h4⟩ := ixN_seq hj
  have hl := r.length
  have hn := line63
  have I' : Inv X pins σ (upd H p (.lst (xs.set j v))) { s with heap := s.heap.update p (Obj.mapSeq (·.setIfInBounds j u)) } :=
    I.lstUpd hp ho (mapSeq_set its n j u) (r.set rv j) (by rw [List.length_set]; exact hz) s.toks
  by_cases h0 : 0 ≤ k
  · have hk : k.toNat = j := by
      rw [seqIndex_of h0 h4] at h1
      exact Option.some.inj h1
    exact PySem.W.ki_setAt ho h0 (by omega) (by rw [List.size_toArray, ← hl]; exact h4) (by rw [hk]; exact ⟨_, I', q⟩)
  · have hk : (k + (its.toArray.size : Int)).toNat = j := by
      rw [seqIndex_neg (by omega) h3] at h1
      rw [List.size_toArray, ← hl]
      exact Option.some.inj h1
    exact PySem.W.ki_setBack ho (by omega) (by rw [List.size_toArray, ← hl]; exact h3) (by omega) (by rw [hk]; exact ⟨_, I', q⟩)

/-! ### slices -/
theorem slice_bounds (lo hi : Option Int) (n : Nat) : (sliceBounds lo hi none n).1 = ((HT.sIx n 0 lo : Nat) : Int) ∧ (sliceBounds lo hi none n).2.1 = ((HT.sIx n n hi : Nat) : Int) ∧ (sliceBounds lo hi none n).2.2 = 1 := by
  refine ⟨?_, ?_, rfl⟩
  · cases lo with
    | none => simp [sliceBounds, HT.sIx]
    | some i =>
      simp only [sliceBounds, HT.sIx, Option.getD_none, show (1 : Int) > 0 by decide, if_true]
      by_cases h : i < 0
      · simp only [h, if_true] <;> omega
      · simp only [h, if_false] <;> omega
  · cases hi with
    | none => simp [sliceBounds, HT.sIx]
    | some i =>
      simp only [sliceBounds, HT.sIx, Option.getD_none, show (1 : Int) > 0 by decide, if_true]
      by_cases h : i < 0
      · simp only [h, if_true] <;> omega
      · simp only [h, if_false] <;> omega
theorem slicePick_cut (its : List Value) (lo hi : Option Int) : slicePick its.toArray lo hi none = ((its.drop (HT.sIx its.length 0 lo)).take (HT.sIx its.length its.length hi - HT.sIx its.length 0 lo)).toArray := by
  obtain ⟨h1, h2, h3⟩ := slice_bounds lo hi its.toArray.size
  unfold slicePick
  rw [h1, h2, h3]
  simp only [sliceRange_one, pick_run, List.size_toArray] <;> rfl
/-- xs[lo:hi] of a list: a new list -/
def rSlL (K : PySem.W.Frag) : V → Option Int → Option Int → Hp → VK → Prop := fun x lo hi H Q => ∃ a xs, x = .ref a ∧ SqL K H a xs ∧ ∀ p, H p = none → Q (.ref p) (upd H p (.lst (cutV xs lo hi)))
theorem sl_list : SlR X (rSlL X.K) := by
  intro pins s σ H x v vl vu lo hi sl Q I rx hs pl pu h
  obtain ⟨a, xs, rfl, hx, q⟩ := h
  cases rx
  obtain ⟨its, r, ht, hz⟩ := I.list hx
  have hlen := r.length
  refine ⟨"list", _, slot_list_getitem.lookup, ht.isList.typeIs, ?_⟩
  refine wpAny_getItem_list_slice ht.isList hs pl pu .none (by simp) ?_ (by rw [List.size_toArray] <;> omega)
  rw [slicePick_cut, ← hlen]
  refine ⟨.ref s.heap.objs.size, _, I.laid (t' := s.toks) (o := .lst (cutV xs lo hi)) (fun b ob q => Heap.get?_push_of_some _ q) (Nat.le_refl _) ?_, rfl, q _ (I.hok.fresh (Nat.le_refl _))⟩
  exact ⟨Nat.le_trans (cutV_length xs lo hi) hz, _, 0, (r.drop (HT.sIx xs.length 0 lo)).take (HT.sIx xs.length xs.length hi - HT.sIx xs.length 0 lo), Heap.get?_push_size _ rfl⟩

/-! ### in, not in: flat items -/
def flatV : V → Bool
  | .non => true
  | .bl _ => true
  | .int _ => true
  | .str _ => true
  | _ => false
/-- == of flat values -/
def eqV : V → V → Bool
  | .non, .non => true
  | .bl a, .bl b => a == b
  | .bl a, .int b => (if a then 1 else 0) == b
  | .int a, .bl b => a == (if b then 1 else 0)
  | .int a, .int b => a == b
  | .str a, .str b => a == b
  | _, _ => false
theorem eqAt_V {A : Around} {s : Shared} {y x : V} {u v : Value} (ry : RelV y u) (rx : RelV x v) (fy : flatV y = true) (fx : flatV x = true) : SeqAt.EqAt A s u v (eqV y x) := by
  cases y with
  | non =>
    cases ry
    cases x with
    | non => cases rx; exact SeqAt.EqAt.same _
    | bl b => cases rx; exact SeqAt.EqAt.none_bool b
    | int b => obtain ⟨t, rfl⟩ := rx; exact SeqAt.EqAt.none_int b t
    | str b => obtain ⟨t, rfl⟩ := rx; exact SeqAt.EqAt.none_str b t
    | _ => exact absurd (show false = true from fx) Bool.false_ne_true
  | bl a =>
    cases ry
    cases x with
    | non => cases rx; exact SeqAt.EqAt.bool_none a
    | bl b => cases rx; exact SeqAt.EqAt.bool_bool a b
    | int b => obtain ⟨t, rfl⟩ := rx; exact SeqAt.EqAt.bool_int a b t
    | str b => obtain ⟨t, rfl⟩ := rx; exact SeqAt.EqAt.bool_str a b t
    | _ => exact absurd (show false = true from fx) Bool.false_ne_true
  | int a =>
    obtain ⟨t', rfl⟩ := ry
    cases x with
    | non => cases rx; exact SeqAt.EqAt.int_none a t'
    | bl b => cases rx; exact SeqAt.EqAt.int_bool a t' b
    | int b => obtain ⟨t, rfl⟩ := rx; exact SeqAt.EqAt.int_int a t' b t
    | str b => obtain ⟨t, rfl⟩ := rx; exact SeqAt.EqAt.int_str a t' b t
    | _ => exact absurd (show false = true from fx) Bool.false_ne_true
  | str a =>
    obtain ⟨t', rfl⟩ := ry
    cases x with
    | non => cases rx; exact SeqAt.EqAt.str_none a t'
    | bl b => cases rx; exact SeqAt.EqAt.str_bool a t' b
    | int b => obtain ⟨t, rfl⟩ := rx; exact SeqAt.EqAt.str_int a t' b t
    | str b => obtain ⟨t, rfl⟩ := rx; exact SeqAt.EqAt.str_str a t' b t
    | _ => exact absurd (show false = true from fx) Bool.false_ne_true
  | _ => exact absurd (show false = true from fy) Bool.false_ne_true
/-- the items' answers, read off the values (a value's own answer does not lean on its token) -/
def eqU (x : V) (u : Value) : Bool := match u with
  | .none => eqV .non x
  | .bool b => eqV (.bl b) x
  | .int i _ => eqV (.int i) x
  | .str z _ => eqV (.str z) x
  | _ => false
theorem eqU_of {x y : V} {u : Value} (r : RelV y u) (f : flatV y = true) : eqU x u = eqV y x := by
  cases y with
  | non => cases r; rfl
  | bl b => cases r; rfl
  | int i => obtain ⟨t, rfl⟩ := r; rfl
  | str z => obtain ⟨t, rfl⟩ := r; rfl
  | _ => exact absurd (show false = true from f) Bool.false_ne_true
theorem any_eqU {x : V} : ∀ {xs : List V} {us : List Value}, Vals xs us → xs.all flatV = true → us.any (eqU x) = xs.any fun y => eqV y x
  | _, _, .nil, _ => rfl
  | y :: xs, u :: us, .cons r t, f => by
    rw [List.all_cons, Bool.and_eq_true] at f
    rw [List.any_cons, List.any_cons, eqU_of r f.1, any_eqU t f.2]
theorem mem_eqAt {A : Around} {s : Shared} {x : V} {v : Value} (rx : RelV x v) (fx : flatV x = true) : ∀ {xs : List V} {us : List Value}, Vals xs us → xs.all flatV = true → ∀ u ∈ us, SeqAt.EqAt A s u v (eqU x u)
  | _, _, .nil, _ => fun u hu => by cases hu
  | y :: xs, u :: us, .cons r t, f => fun u' hu => by
    rw [List.all_cons, Bool.and_eq_true] at f
    rcases List.mem_cons.mp hu with rfl | hu
    · rw [eqU_of r f.1]; exact eqAt_V r rx f.1 fx
    · exact mem_eqAt rx fx t f.2 u' hu
def inV (x : V) (xs : List V) : Bool := xs.any fun y => eqV y x
/-- x in a list or tuple of flat items -/
def rIn (K : PySem.W.Frag) (neg : Bool) : R2 := fun x y H Q => ∃ p xs, y = .ref p ∧ (SqL K H p xs ∨ SqT K H p xs) ∧ flatV x = true ∧ xs.all flatV = true ∧ Q (.bl (if neg then !inV x xs else inV x xs)) H
theorem op_in_seq : OpR X (compareOp .In) (rIn X.K false) := by
  intro pins s σ H x y v u Q I rx ry h
  obtain ⟨p, xs, rfl, hq, fx, fs, q⟩ := h
  cases ry
  rcases hq with hq | hq
  · obtain ⟨its, r, pl, hz⟩ := I.list hq
    refine SeqAt.in_listAt (eqU x) pl.isList (fun w hw => mem_eqAt rx fx r fs w (by simpa using hw)) ⟨.bl _, H, I, rfl, ?_⟩
    rw [show its.toArray.any (eqU x) = its.any (eqU x) by simp, any_eqU r fs]
    exact q
  · obtain ⟨its, r, pl, hz⟩ := I.tuple hq
    refine SeqAt.in_tupleAt (eqU x) pl (fun w hw => mem_eqAt rx fx r fs w (by simpa using hw)) ⟨.bl _, H, I, rfl, ?_⟩
    rw [show its.toArray.any (eqU x) = its.any (eqU x) by simp, any_eqU r fs]
    exact q
theorem op_notIn_seq : OpR X (compareOp .NotIn) (rIn X.K true) := by
  intro pins s σ H x y v u Q I rx ry h
  obtain ⟨p, xs, rfl, hq, fx, fs, q⟩ := h
  cases ry
  rcases hq with hq | hq
  · obtain ⟨its, r, pl, hz⟩ := I.list hq
    refine SeqAt.notIn_listAt (eqU x) pl.isList (fun w hw => mem_eqAt rx fx r fs w (by simpa using hw)) ⟨.bl _, H, I, rfl, ?_⟩
    rw [show its.toArray.any (eqU x) = its.any (eqU x) by simp, any_eqU r fs]
    exact q
  · obtain ⟨its, r, pl, hz⟩ := I.tuple hq
    refine SeqAt.notIn_tupleAt (eqU x) pl (fun w hw => mem_eqAt rx fx r fs w (by simpa using hw)) ⟨.bl _, H, I, rfl, ?_⟩
    rw [show its.toArray.any (eqU x) = its.any (eqU x) by simp, any_eqU r fs]
    exact q

/-! ### len, list(x), tuple(x) of any list or tuple that is read -/
theorem call_len_seq : CallR X (.builtin "len") (fun xs H Q => ∃ p ys, xs = [.ref p] ∧ (SqL X.K H p ys ∨ SqT X.K H p ys) ∧ Q (.int ys.length) H) := by
  intro pins s σ H xs us Q I r h
  obtain ⟨p, ys, rfl, hq, q⟩ := h
  obtain ⟨u, rfl, rx⟩ := vals1 r
  cases rx
  have hn := line63
  rcases hq with hq | hq
  · obtain ⟨its, r', pl, hz⟩ := I.list hq
    have hlen := r'.length
    exact Calls.call_len_list pl.isList (by simp only [List.size_toArray] <;> omega) ⟨.int ys.length, H, I.tok _, ⟨s.toks + 1, by rw [List.size_toArray, hlen]⟩, q⟩
  · obtain ⟨its, r', pl, hz⟩ := I.tuple hq
    have hlen := r'.length
    exact len_tuple pl (by simp only [List.size_toArray] <;> omega) ⟨.int ys.length, H, I.tok _, ⟨s.toks + 1, by rw [List.size_toArray, hlen]⟩, q⟩
theorem CallR.or {f : Value} {r r' : List V → Hp → VK → Prop} (h : CallR X f r) (h' : CallR X f r') : CallR X f (fun xs H Q => r xs H Q ∨ r' xs H Q) := by
  intro pins s σ H xs us Q I rs q
  rcases q with q | q
  · exact h pins s σ H xs us Q I rs q
  · exact h' pins s σ H xs us Q I rs q

/-! ### the call of a builtin's method: o.m(..) -/
/-- the value is of that builtin type -/
def tyV (K : PySem.W.Frag) (T : String) (x : V) (H : Hp) : Prop := match x with
  | .str _ => T = "str"
  | .int _ => T = "int"
  | .ref p => (T = "list" ∧ ∃ xs, SqL K H p xs) ∨ (T = "tuple" ∧ ∃ o, K.lookup p = some o ∧ o.cls = .type "tuple" ∧ o.dict = none) ∨
      (T = "dict" ∧ ((∃ kvs, H p = some (.dK kvs)) ∨ ∃ kvs, H p = some (.dT kvs))) ∨ (T = "set" ∧ ∃ S n, H p = some (.set S n))
  | _ => False
theorem tyV_is {pins : List (Addr × Obj)} {σ : St} {H : Hp} {s : Shared} {T : String} {x : V} {v : Value} (I : Inv X pins σ H s) (r : RelV x v) (ty : tyV X.K T x H) :
    s.TypeIs v T ∧ ∀ a, v = .ref a → ∃ ob, s.heap.get? a = some ob ∧ ob.dict = none := by
  cases x with
  | str z =>
    obtain ⟨t, rfl⟩ := r
    cases (show T = "str" from ty)
    exact ⟨typeIs_str s z t, fun _ e => nomatch e⟩
  | int i =>
    obtain ⟨t, rfl⟩ := r
    cases (show T = "int" from ty)
    exact ⟨typeIs_int s i t, fun _ e => nomatch e⟩
  | ref p =>
    cases r
    rcases ty with ⟨rfl, xs, hq⟩ | ⟨rfl, o, hk, hc, hd⟩ | ⟨rfl, hk⟩ | ⟨rfl, S, n, hk⟩
    · obtain ⟨its, _, pl, _⟩ := I.list hq
      refine ⟨pl.isList.typeIs, fun a e => ?_⟩
      cases e
      obtain ⟨o, n, e, c, hd, _⟩ := pl
      exact ⟨o, e, hd⟩
    · refine ⟨⟨o, I.kIn p o hk, hc⟩, fun a e => ?_⟩
      cases e
      exact ⟨o, I.kIn _ o hk, hd⟩
    · have z : ∃ o, s.heap.get? p = some o ∧ o.ExactDict := by
        rcases hk with ⟨kvs, hk⟩ | ⟨kvs, hk⟩
        · obtain ⟨_, _, _, _, o, _, _, e, ex, _⟩ := I.hok p _ hk
          exact ⟨o, e, ex⟩
        · obtain ⟨_, _, _, _, o, _, _, e, ex, _⟩ := I.hok p _ hk
          exact ⟨o, e, ex⟩
      obtain ⟨o, e, ex⟩ := z
      refine ⟨⟨o, e, ex.1⟩, fun a e2 => ?_⟩
      cases e2
      exact ⟨o, e, ex.2.1⟩
    · obtain ⟨o, _, _, _, e, ex, _⟩ := I.hok p _ hk
      refine ⟨⟨o, e, ex.1⟩, fun a e2 => ?_⟩
      cases e2
      exact ⟨o, e, ex.2.1⟩
  | _ => exact False.elim ty
def tBM0 (K : PySem.W.Frag) (T : String) (r : V → List V → Hp → VK → Prop) (to : TE) : TE := fun σ H Q => to σ H fun x H1 => tyV K T x H1 ∧ r x [] H1 Q
def tBM (K : PySem.W.Frag) (T : String) (r : V → List V → Hp → VK → Prop) (to : TE) (t : TA) : TE := fun σ H Q => to σ H fun x H1 => tyV K T x H1 ∧ t σ H1 fun xs H2 => r x xs H2 Q
variable {o e : Expr} {es : List Expr} {to : TE} {t : TA} {name : Str} {apos cpos : Pos} {T id : String} {r : V → List V → Hp → VK → Prop}
theorem pe_bm (pa : PlainAttrs T) (slot : Slot T name id) (hty : typeOf (.builtin id) = pure (.type "method_descriptor")) (hm : MtR X id r) (ho : PE X o to) (ha : PA X (e :: es) t)
    (hbase : attributeBase o name X.env (eval o X.env) = eval o X.env := by rfl)
    (hfew : ((backTo cpos (starEach (e :: es) X.env)).all (fun x => !x.1) && (backToKw cpos (keywordEach [] X.env)).all (fun x => x.1.isSome)
      && decide ((e :: es).length + ([] : List Keyword).length + (if ([] : List Keyword).isEmpty then 0 else 1) < 30)) = true := by rfl)
    (hline : (apos.endLine == cpos.line) = true := by rfl) (hs : starEach (e :: es) X.env = (false, eval e X.env) :: starEach es X.env := by rfl) (hplain : (backTo cpos (starEach es X.env)).any (·.1) = false := by rfl) :
    PE X (.Call (.Attribute o name apos) (e :: es) [] cpos) (tBM X.K T r to t) := by
  intro pins s σ H Q I h
  refine wpAny_Call_method_late hbase hfew hline rfl (thn (ho pins s σ H _ I h) fun v s1 ⟨x, H1, I1, r1, ty, q1⟩ => ?_)
  obtain ⟨h1, h2⟩ := tyV_is I1 r1 ty
  refine ⟨T, id, pa, slot, hty, h1, h2, ?_⟩
  have hA := ha cpos pins s1 σ H1 _ I1 q1
  rw [hs] at hA ⊢
  refine Calls.callWith_builtin (by show (false || (backTo cpos (starEach es X.env)).any (·.1)) = false; rw [hplain] <;> rfl) (Calls.evalArgs_plain ?_)
  exact thn hA fun us s2 ⟨vs, H2, I2, r2, q2⟩ => hm pins s2 σ H2 x vs v us Q I2 r1 r2 q2
/- xs.append(e), list.index on a module's tuple .. are MtR facts of 06m -/
end
end L2

namespace L2
open PySem PySem.Spec PyProof.Rows

def MtM (X : Cx) (id : String) (r : V → List V → Hp → VK → Prop) : Prop :=
  ∀ (pins : List (Addr × Obj)) (s : Shared) (σ : St) (H : Hp) (x : V) (xs : List V) (v : Value) (us : List Value) (Q : VK), Inv X pins σ H s → RelV x v → Vals xs us → r x xs H Q →
    wpAny (model X.prog X.w) X.A (call (.builtin id) (v :: us)) (EP X pins σ Q) X.xe s

/-! ### lists of values -/
theorem Vals.one : ∀ {x : V} {us : List Value}, Vals [x] us → ∃ u, us = [u] ∧ RelV x u
  | _, _, .cons r .nil => ⟨_, rfl, r⟩
theorem Vals.two : ∀ {x y : V} {us : List Value}, Vals [x, y] us → ∃ u v, us = [u, v] ∧ RelV x u ∧ RelV y v
  | _, _, _, .cons r (.cons q .nil) => ⟨_, _, rfl, r, q⟩
theorem Vals.dropLast {xs : List V} {us : List Value} (h : Vals xs us) : Vals xs.dropLast us.dropLast := by
  induction h with
  | nil => exact .nil
  | cons r t ih =>
    cases t with
    | nil => exact .nil
    | cons q t' => exact .cons r ih
theorem Vals.eraseIdx : ∀ {xs : List V} {us : List Value} (i : Nat), Vals xs us → Vals (xs.eraseIdx i) (us.eraseIdx i)
  | _, _, _, .nil => .nil
  | _, _, 0, .cons _ t => t
  | _, _, i + 1, .cons r t => .cons r (Vals.eraseIdx i t)
theorem Vals.reverse {xs : List V} {us : List Value} (h : Vals xs us) : Vals xs.reverse us.reverse := by
  induction h with
  | nil => exact .nil
  | cons r t ih => rw [List.reverse_cons, List.reverse_cons]; exact Vals.append ih (.cons r .nil)

section
variable {X : Cx} {pins : List (Addr × Obj)} {σ : St} {H : Hp} {s : Shared} {l b : Addr} {xs ys zs : List V}

/-! ### the two steps: a tracked list is rewritten, a new list is laid -/
theorem Inv.lset {its its' : List Value} {n : Nat} {f : Array Value → Array Value} {t' : Nat} (I : Inv X pins σ H s) (hH : H l = some (.lst xs))
    (e : s.heap.get? l = some { cls := .type "list", data := .seq its.toArray n }) (hf : f its.toArray = its'.toArray) (hv : Vals ys its') (hz : ys.length ≤ sizeLine) :
    Inv X pins σ (upd H l (.lst ys)) { s with heap := s.heap.update l (Obj.mapSeq f), toks := t' } := by
  have q := PySem.IsL.update e f
  rw [hf] at q
  refine I.write (x := l) (e := l) (by rw [hH]; exact trivial) (.inl rfl) (fun b' u hb hu => (Heap.get?_update_other s.heap (Obj.mapSeq f) (Ne.symm hb)).trans hu) ⟨_, q⟩ ?_
  exact ⟨hz, its', _, hv, q⟩
theorem Inv.lnew {its : List Value} {t' : Nat} (I : Inv X pins σ H s) (hv : Vals ys its) (hz : ys.length ≤ sizeLine) :
    Inv X pins σ (upd H s.heap.objs.size (.lst ys)) { s with heap := s.heap.push { cls := .type "list", data := .seq its.toArray }, toks := t' } :=
  I.laid (fun _ _ q => Heap.get?_push_of_some _ q) (Nat.le_refl _) ⟨hz, its, 0, hv, Heap.get?_push_size _ rfl⟩
theorem Inv.fresh (I : Inv X pins σ H s) : H s.heap.objs.size = none := I.hok.fresh (Nat.le_refl _)
theorem Inv.lstM (I : Inv X pins σ H s) (hH : H l = some (.lst xs)) : xs.length ≤ sizeLine ∧ ∃ (its : List Value) (n : Nat), Vals xs its ∧ xs.length = its.length ∧ s.heap.get? l = some { cls := .type "list", data := .seq its.toArray n } := by
  obtain ⟨z, its, n, r, e⟩ := I.hok l _ hH
  exact ⟨z, its, n, r, r.length, e⟩

theorem notLongL {n : Nat} (h : n ≤ sizeLine) : Builtin.List.listTooLong n = false := by
  unfold Builtin.List.listTooLong
  exact decide_eq_false (by omega)
end

section
variable {X : Cx}

/-! ### methods -/
def rAppend : V → List V → Hp → VK → Prop := fun x vs H Q => ∃ l xs y, x = .ref l ∧ vs = [y] ∧ H l = some (.lst xs) ∧ xs.length < sizeLine ∧ Q .non (upd H l (.lst (xs ++ [y])))
theorem mt_append : MtM X "list.append" rAppend := by
  intro pins s σ H x vs v us Q I rx rv h
  obtain ⟨l, xs, y, rfl, rfl, hH, hz, q⟩ := h
  cases rx
  obtain ⟨u, rfl, ru⟩ := rv.one
  obtain ⟨z, its, n, r, hl, e⟩ := I.lstM hH
  refine call_meets F.slot_list_append ⟨_, e, rfl⟩ F.entry_list_append (F.args_list_append_2 _ _) (PySem.list_append l its.toArray n u (by rw [List.size_toArray]; omega)) ⟨e, ?_⟩
  refine ⟨.non, _, I.lset (its' := its ++ [u]) hH e (by simp) (r.append (.cons ru .nil)) ?_, rfl, q⟩
  rw [List.length_append, List.length_singleton]
  omega

def rExtend : V → List V → Hp → VK → Prop := fun x vs H Q => ∃ l b xs zs, x = .ref l ∧ vs = [.ref b] ∧ H l = some (.lst xs) ∧ H b = some (.lst zs) ∧ xs.length + zs.length ≤ sizeLine ∧ Q .non (upd H l (.lst (xs ++ zs)))
theorem mt_extend : MtM X "list.extend" rExtend := by
  intro pins s σ H x vs v us Q I rx rv h
  obtain ⟨l, b, xs, zs, rfl, rfl, hH, hB, hz, q⟩ := h
  cases rx
  obtain ⟨u, rfl, ru⟩ := rv.one
  cases ru
  obtain ⟨z, its, n, r, hl, e⟩ := I.lstM hH
  obtain ⟨z2, its2, n2, r2, hl2, e2⟩ := I.lstM hB
  have hsz : its.toArray.size + its2.toArray.size ≤ sizeLine := by rw [List.size_toArray, List.size_toArray]; omega
  have hlong : ¬ (!its.toArray.isEmpty && Builtin.List.listTooLong (its.toArray.size + its2.toArray.size)) = true := by
    rw [notLongL hsz, Bool.and_false]
    exact Bool.false_ne_true
  refine call_meets F.slot_list_extend ⟨_, e, rfl⟩ F.entry_list_extend (F.args_list_extend_2 _ _)
    (AutoSeq1.list_extend_list_list_0 l its.toArray n b its2.toArray n2 hlong (by rw [List.size_toArray]; omega) (by omega)) ⟨e, e2, ?_⟩
  refine ⟨.non, _, I.lset (its' := its ++ its2) hH e (by simp) (r.append r2) ?_, rfl, q⟩
  rw [List.length_append]
  omega

def rPop : V → List V → Hp → VK → Prop := fun x vs H Q => ∃ l xs y, x = .ref l ∧ vs = [] ∧ H l = some (.lst xs) ∧ xs[xs.length - 1]? = some y ∧ Q y (upd H l (.lst xs.dropLast))

def rPopAt : V → List V → Hp → VK → Prop := fun x vs H Q => ∃ l xs i k y, x = .ref l ∧ vs = [.int i] ∧ H l = some (.lst xs) ∧ -(2 ^ 63) ≤ i ∧ i < 2 ^ 63 ∧ seqIndex? i xs.length = some k ∧ xs[k]? = some y ∧ Q y (upd H l (.lst (xs.eraseIdx k)))

def rReverse : V → List V → Hp → VK → Prop := fun x vs H Q => ∃ l xs, x = .ref l ∧ vs = [] ∧ H l = some (.lst xs) ∧ Q .non (upd H l (.lst xs.reverse))

def rClear : V → List V → Hp → VK → Prop := fun x vs H Q => ∃ l xs, x = .ref l ∧ vs = [] ∧ H l = some (.lst xs) ∧ Q .non (upd H l (.lst []))

/-! ### list + list, list += list, list * int -/
def rCat : R2 := fun x y H Q => ∃ l b xs zs, x = .ref l ∧ y = .ref b ∧ H l = some (.lst xs) ∧ H b = some (.lst zs) ∧ xs.length + zs.length ≤ sizeLine ∧ ∀ p, H p = none → Q (.ref p) (upd H p (.lst (xs ++ zs)))
theorem op_cat : OpR X (binaryOp .Add) rCat := by
  intro pins s σ H x y v u Q I rx ry h
  obtain ⟨l, b, xs, zs, rfl, rfl, hH, hB, hz, q⟩ := h
  cases rx
  cases ry
  obtain ⟨z, its, n, r, hl, e⟩ := I.lstM hH
  obtain ⟨z2, its2, n2, r2, hl2, e2⟩ := I.lstM hB
  refine PySem.P.add_list e e2 ?_ (by rw [List.size_toArray, List.size_toArray]; omega)
  have ea : its.toArray ++ its2.toArray = (its ++ its2).toArray := by simp
  rw [ea]
  exact ⟨.ref _, _, I.lnew (t' := s.toks) (r.append r2) (by rw [List.length_append]; omega), rfl, q _ I.fresh⟩
/-- a list times an int (a negative one is nothing) -/
def rRep : R2 := fun x y H Q => ∃ l k xs, x = .ref l ∧ y = .int k ∧ H l = some (.lst xs) ∧ -(2 ^ 63) ≤ k ∧ k < 2 ^ 63 ∧ xs.length * k.toNat ≤ sizeLine ∧
  ∀ p, H p = none → Q (.ref p) (upd H p (.lst (List.replicate k.toNat xs).flatten))

/-! ### del xs[i] -/
end

/-! ### xs[a:b] = ys -/
section
variable {prog : Program} {w : World} {A : Around} {E : Value → Shared → Prop} {s : Shared}
end

section
variable {X : Cx}
end
end L2

namespace L2
open PySem PySem.Spec PyProof.Rows

theorem Vals.ints : ∀ {ns : List Int} {us : List Value}, Vals (ns.map V.int) us → IntsAre us ns
  | [], us, h => by
    rw [List.map_nil] at h
    cases h
    exact IntsAre.nil
  | n :: ns, us, h => by
    rw [List.map_cons] at h
    cases h with
    | cons r t =>
      obtain ⟨k, rfl⟩ := r
      exact IntsAre.cons n k (Vals.ints t)
theorem Vals.strs : ∀ {xs : List Str} {us : List Value}, Vals (xs.map V.str) us → StrsAre us xs
  | [], us, h => by
    rw [List.map_nil] at h
    cases h
    exact StrsAre.nil
  | x :: xs, us, h => by
    rw [List.map_cons] at h
    cases h with
    | cons r t =>
      obtain ⟨k, rfl⟩ := r
      exact StrsAre.cons x k (Vals.strs t)

/-! ### the library's walks over a list of ints, kept objects alone -/
section
variable {prog : Program} {w : World} {A : Around} {E : Value → Shared → Prop} {s : Shared} {l : Addr} {its : List Value} {ns : List Int} {Q : Value → Shared → Prop}
end

/-! ### the calls, by values (CallR of 03t; MtR of 06l) -/
section
variable {X : Cx}
/-- sum(xs) of a list of ints -/
def rSum (K : PySem.W.Frag) : List V → Hp → VK → Prop := fun vs H Q => ∃ (a : Addr) (ns : List Int), vs = [V.ref a] ∧ SqL K H a (ns.map V.int) ∧ Q (.int ns.sum) H
/-- max(xs), min(xs) of a list of ints -/
def rMax (K : PySem.W.Frag) : List V → Hp → VK → Prop := fun vs H Q => ∃ (a : Addr) (ns : List Int), vs = [V.ref a] ∧ SqL K H a (ns.map V.int) ∧ 0 < ns.length ∧ ∀ m, m ∈ ns → (∀ y, y ∈ ns → y ≤ m) → Q (.int m) H
def rMin (K : PySem.W.Frag) : List V → Hp → VK → Prop := fun vs H Q => ∃ (a : Addr) (ns : List Int), vs = [V.ref a] ∧ SqL K H a (ns.map V.int) ∧ 0 < ns.length ∧ ∀ m, m ∈ ns → (∀ y, y ∈ ns → m ≤ y) → Q (.int m) H

/-! sorted, sort (fewer than 64 items: the library's own bound) -/
def rSorted (K : PySem.W.Frag) : List V → Hp → VK → Prop := fun vs H Q => ∃ (a : Addr) (ns : List Int), vs = [V.ref a] ∧ SqL K H a (ns.map V.int) ∧ ns.length < 64 ∧
  ∀ (ns' : List Int) (p : Addr), ns'.Perm ns → ns'.Pairwise (· ≤ ·) → H p = none → Q (.ref p) (upd H p (.lst (ns'.map V.int)))
def rSortedS (K : PySem.W.Frag) : List V → Hp → VK → Prop := fun vs H Q => ∃ (a : Addr) (xs : List Str), vs = [V.ref a] ∧ SqL K H a (xs.map V.str) ∧ xs.length < 64 ∧
  ∀ (ys : List Str) (p : Addr), ys.Perm xs → sortedS ys = true → H p = none → Q (.ref p) (upd H p (.lst (ys.map V.str)))
/-- xs.sort(), ints -/
def rSort : V → List V → Hp → VK → Prop := fun x xs H Q => ∃ (a : Addr) (ns : List Int), x = V.ref a ∧ xs = [] ∧ H a = some (.lst (ns.map V.int)) ∧ ns.length < 64 ∧
  ∀ ns' : List Int, ns'.Perm ns → ns'.Pairwise (· ≤ ·) → Q .non (upd H a (.lst (ns'.map V.int)))
end

/-! ### list.index, flat items -/
section
variable {X : Cx}
def rIndex (K : PySem.W.Frag) : V → List V → Hp → VK → Prop := fun x xs H Q => ∃ (a : Addr) (ys : List V) (y : V) (j : Nat) (z : V), x = V.ref a ∧ xs = [y] ∧ SqL K H a ys ∧ flatV y = true ∧ ys.all flatV = true ∧ ys[j]? = some z ∧ eqV z y = true ∧
  (∀ (m : Nat) (z' : V), m < j → ys[m]? = some z' → eqV z' y = false) ∧ Q (.int (j : Nat)) H
end

/-! ### type(x) of an own instance; is, is not of a module's class -/
section
variable {X : Cx}
end

/-! ### any(xs), all(xs) of a list of bools -/
section
variable {X : Cx}
def rAny (K : PySem.W.Frag) : List V → Hp → VK → Prop := fun vs H Q => ∃ (a : Addr) (bs : List Bool), vs = [V.ref a] ∧ SqL K H a (bs.map V.bl) ∧ Q (.bl (bs.any id)) H
def rAll (K : PySem.W.Frag) : List V → Hp → VK → Prop := fun vs H Q => ∃ (a : Addr) (bs : List Bool), vs = [V.ref a] ∧ SqL K H a (bs.map V.bl) ∧ Q (.bl (bs.all id)) H
end

/-! ### == and != of data at any depth: none, bools, ints, texts, lists, tuples -/
mutual
inductive Dp (K : PySem.W.Frag) (H : Hp) : V → PyData → Prop
  | non : Dp K H .non .none
  | bl (b : Bool) : Dp K H (.bl b) (.bool b)
  | int (i : Int) : Dp K H (.int i) (.int i)
  | str (x : Str) : Dp K H (.str x) (.str x)
  | lst {a : Addr} {xs : List V} {ds : List PyData} : SqL K H a xs → DpAll K H xs ds → Dp K H (.ref a) (.list ds)
  | tup {a : Addr} {xs : List V} {ds : List PyData} : SqT K H a xs → DpAll K H xs ds → Dp K H (.ref a) (.tuple ds)
inductive DpAll (K : PySem.W.Frag) (H : Hp) : List V → List PyData → Prop
  | nil : DpAll K H [] []
  | cons {v : V} {vs : List V} {d : PyData} {ds : List PyData} : Dp K H v d → DpAll K H vs ds → DpAll K H (v :: vs) (d :: ds)
end
section
variable {X : Cx} {pins : List (Addr × Obj)} {σ : St} {H : Hp} {s : Shared}
mutual
theorem Dp.reads (I : Inv X pins σ H s) : ∀ (d : PyData) (v : V) (u : Value), Dp X.K H v d → RelV v u → ∃ as, Reads s.heap u d as
  | .none, _, _, h, r => by
    cases h
    cases r
    exact ⟨_, Reads.none⟩
  | .bool b, _, _, h, r => by
    cases h
    cases r
    exact ⟨_, Reads.bool b⟩
  | .int i, _, _, h, r => by
    cases h
    obtain ⟨t, rfl⟩ := r
    exact ⟨_, Reads.int i t⟩
  | .str x, _, _, h, r => by
    cases h
    obtain ⟨t, rfl⟩ := r
    exact ⟨_, Reads.str x t⟩
  | .list ds, _, _, h, r => by
    cases h with
    | lst hs ha =>
      cases r
      obtain ⟨its, rv, ⟨o, n, ho, hc, _, hd⟩, _⟩ := I.list hs
      obtain ⟨as, hr⟩ := Dp.readsAll I ds _ its ha rv
      exact ⟨_, Reads.list ho hc hd hr⟩
  | .tuple ds, _, _, h, r => by
    cases h with
    | tup hs ha =>
      cases r
      obtain ⟨its, rv, ⟨o, ho, hc, n, hd⟩, _⟩ := I.tuple hs
      obtain ⟨as, hr⟩ := Dp.readsAll I ds _ its ha rv
      exact ⟨_, Reads.tuple ho hc hd hr⟩
  | .dict _, _, _, h, _ => by cases h
theorem Dp.readsAll (I : Inv X pins σ H s) : ∀ (ds : List PyData) (vs : List V) (us : List Value), DpAll X.K H vs ds → Vals vs us → ∃ as, ReadsAll s.heap us ds as
  | [], _, _, h, r => by
    cases h
    cases r
    exact ⟨_, ReadsAll.nil⟩
  | d :: ds, _, _, h, r => by
    cases h with
    | cons h1 h2 =>
      cases r with
      | cons r1 r2 =>
        obtain ⟨as, q1⟩ := Dp.reads I d _ _ h1 r1
        obtain ⟨bs, q2⟩ := Dp.readsAll I ds _ _ h2 r2
        exact ⟨_, ReadsAll.cons q1 q2⟩
end
end
section
variable {X : Cx}
def rEqD (K : PySem.W.Frag) : R2 := fun x y H Q => ∃ d e, Dp K H x d ∧ Dp K H y e ∧ SeqAt.shaped d = true ∧ SeqAt.shaped e = true ∧ Q (.bl (PyData.eqv d e)) H
def rNeD (K : PySem.W.Frag) : R2 := fun x y H Q => ∃ d e, Dp K H x d ∧ Dp K H y e ∧ SeqAt.shaped d = true ∧ SeqAt.shaped e = true ∧ Q (.bl (!PyData.eqv d e)) H
end
end L2

namespace L2
open PySem PySem.Spec PyProof.Rows
abbrev CellAt (h : Heap) (c : Addr) (v : Option Value) : Prop := h.IsCell c v
def relS (scope sc : Scope) : Scope :=
  { scope with names := scope.names.map fun (n, k) => if (k == .free && sc.kind == .function && sc.names.lookup n == some .cell) then (n, .cell) else (n, k) }

def cloFrom (cells : List (Str × Addr)) : List (Str × NameKind) → List (Str × Addr) → List (Str × Addr)
  | [], acc => acc
  | (n, k) :: r, acc => if k == .free then cloFrom cells r ((n, (cells.lookup n).getD 0) :: acc) else cloFrom cells r acc

theorem closure_loop (env : Env) (f : Str × NameKind → List (Str × Addr) → Sem (ForInStep (List (Str × Addr))))
    (hf : ∀ n k c, f (n, k) c = if k == .free then (do let a ← cellOf env n; pure (.yield ((n, a) :: c))) else pure (.yield c)) :
    ∀ (names : List (Str × NameKind)) (acc : List (Str × Addr)), (∀ y ∈ names, y.2 = .free → ∃ c, env.cells.lookup y.1 = some c) → forIn names acc f = pure (cloFrom env.cells names acc)
  | [], acc, _ => by rw [List.forIn_nil]; rfl
  | (n, k) :: r, acc, h => by
    rw [List.forIn_cons, hf]
    have ih := fun acc => closure_loop env f hf r acc fun y hy => h y (List.mem_cons_of_mem _ hy)
    unfold cloFrom
    by_cases hk : (k == NameKind.free) = true
    · rw [if_pos hk, if_pos hk]
      obtain ⟨c, hc⟩ := h (n, k) List.mem_cons_self (by simpa using hk)
      have e : cellOf env n = pure c := by unfold cellOf; rw [hc]
      rw [e]
      have e2 : (env.cells.lookup n).getD 0 = c := by rw [hc]; rfl
      rw [e2]
      exact ih _
    · rw [if_neg hk, if_neg hk]
      exact ih _
theorem closure_ok {scope : Scope} {env : Env} (h : ∀ y ∈ scope.names, y.2 = .free → ∃ c, env.cells.lookup y.1 = some c) : closureFor scope env = pure (cloFrom env.cells scope.names []) := by
  simp only [closureFor]
  rw [closure_loop env _ (fun n k c => rfl) scope.names [] h]
  rfl

theorem mem_lookup {α : Type} : ∀ {l : List (Str × α)} {n : Str} {c : α}, (n, c) ∈ l → ∃ c', l.lookup n = some c'
  | (k, v) :: r, n, c, h => by
    rw [List.lookup_cons]
    cases hb : n == k with
    | true => exact ⟨_, rfl⟩
    | false =>
      rcases List.mem_cons.mp h with e | h
      · cases e; simp at hb
      · exact mem_lookup h

theorem cloFrom_mem {cells : List (Str × Addr)} : ∀ {names : List (Str × NameKind)} {acc : List (Str × Addr)} {n : Str} {c : Addr}, (n, c) ∈ cloFrom cells names acc → (n, c) ∈ acc ∨ ((n, .free) ∈ names ∧ c = (cells.lookup n).getD 0)
  | [], _, _, _, h => .inl h
  | (m, k) :: r, acc, n, c, h => by
    unfold cloFrom at h
    split at h
    · rename_i hk
      have hk : k = .free := by simpa using hk
      rcases cloFrom_mem h with h | ⟨h1, h2⟩
      · rcases List.mem_cons.mp h with e | h
        · cases e; exact .inr ⟨hk ▸ List.mem_cons_self, rfl⟩
        · exact .inl h
      · exact .inr ⟨List.mem_cons_of_mem _ h1, h2⟩
    · rcases cloFrom_mem h with h | ⟨h1, h2⟩
      · exact .inl h
      · exact .inr ⟨List.mem_cons_of_mem _ h1, h2⟩
theorem cloFrom_acc {cells : List (Str × Addr)} : ∀ {names : List (Str × NameKind)} {acc : List (Str × Addr)} {p : Str × Addr}, p ∈ acc → p ∈ cloFrom cells names acc
  | [], _, _, h => h
  | (m, k) :: r, acc, p, h => by
    unfold cloFrom
    split
    · exact cloFrom_acc (List.mem_cons_of_mem _ h)
    · exact cloFrom_acc h
theorem cloFrom_has {cells : List (Str × Addr)} : ∀ {names : List (Str × NameKind)} {acc : List (Str × Addr)} {n : Str}, (n, .free) ∈ names → (n, (cells.lookup n).getD 0) ∈ cloFrom cells names acc
  | (m, k) :: r, acc, n, h => by
    unfold cloFrom
    rcases List.mem_cons.mp h with e | h
    · cases e
      exact cloFrom_acc List.mem_cons_self
    · split
      · exact cloFrom_has h
      · exact cloFrom_has h

theorem cells_mem : ∀ {names : List (Str × NameKind)} {h : Heap} {acc : List (Str × Addr)} {x : Str} {c : Addr}, (x, c) ∈ cellsFrom h.objs.size names acc →
    (x, c) ∈ acc ∨ ((x, .cell) ∈ names ∧ h.objs.size ≤ c ∧ CellAt (pushCells h names) c none)
  | [], _, _, _, _, h => .inl h
  | (n, k) :: r, h, acc, x, c, hm => by
    unfold cellsFrom at hm
    unfold pushCells
    split at hm
    · rename_i hk
      rw [if_pos hk]
      have hk : k = .cell := by simpa using hk
      rw [← Heap.size_push h { cls := .type "cell", data := .cell none }] at hm
      rcases cells_mem hm with hm | ⟨h1, h2, h3⟩
      · rcases List.mem_cons.mp hm with e | hm
        · cases e
          exact .inr ⟨hk ▸ List.mem_cons_self, Nat.le_refl _, _, pushCells_keeps r _ _ _ (Heap.get?_push_size _ rfl), rfl⟩
        · exact .inl hm
      · rw [Heap.size_push] at h2
        exact .inr ⟨List.mem_cons_of_mem _ h1, Nat.le_of_succ_le h2, h3⟩
    · rename_i hk
      rw [if_neg hk]
      rcases cells_mem hm with hm | ⟨h1, h2, h3⟩
      · exact .inl hm
      · exact .inr ⟨List.mem_cons_of_mem _ h1, h2, h3⟩
theorem cells_acc : ∀ {names : List (Str × NameKind)} {n : Nat} {acc : List (Str × Addr)} {p : Str × Addr}, p ∈ acc → p ∈ cellsFrom n names acc
  | [], _, _, _, h => h
  | (m, k) :: r, n, acc, p, h => by
    unfold cellsFrom
    split
    · exact cells_acc (List.mem_cons_of_mem _ h)
    · exact cells_acc h
theorem cells_has : ∀ {names : List (Str × NameKind)} {n : Nat} {acc : List (Str × Addr)} {x : Str}, (x, .cell) ∈ names → ∃ c, (x, c) ∈ cellsFrom n names acc
  | (m, k) :: r, n, acc, x, h => by
    unfold cellsFrom
    rcases List.mem_cons.mp h with e | h
    · cases e
      exact ⟨n, cells_acc List.mem_cons_self⟩
    · split
      · exact cells_has h
      · exact cells_has h
theorem cells_inj : ∀ {names : List (Str × NameKind)} {h : Heap} {acc : List (Str × Addr)} {x y : Str} {c : Addr}, (∀ p ∈ acc, p.2 < h.objs.size) → (∀ x y c, (x, c) ∈ acc → (y, c) ∈ acc → x = y) →
    (x, c) ∈ cellsFrom h.objs.size names acc → (y, c) ∈ cellsFrom h.objs.size names acc → x = y
  | [], _, _, _, _, _, _, hi, h1, h2 => hi _ _ _ h1 h2
  | (n, k) :: r, h, acc, x, y, c, hl, hi, h1, h2 => by
    unfold cellsFrom at h1 h2
    split at h1
    · rename_i hk
      rw [if_pos hk] at h2
      rw [← Heap.size_push h { cls := .type "cell", data := .cell none }] at h1 h2
      refine cells_inj (h := h.push _) (fun p hp => ?_) (fun x y c a b => ?_) h1 h2
      · rw [Heap.size_push]
        rcases List.mem_cons.mp hp with rfl | hp
        · exact Nat.lt_succ_self _
        · exact Nat.lt_succ_of_lt (hl p hp)
      · rcases List.mem_cons.mp a with e | a <;> rcases List.mem_cons.mp b with e' | b
        · cases e; cases e'; rfl
        · cases e; exact absurd (hl _ b) (Nat.lt_irrefl _)
        · cases e'; exact absurd (hl _ a) (Nat.lt_irrefl _)
        · exact hi _ _ _ a b
    · rename_i hk
      rw [if_neg hk] at h2
      exact cells_inj hl hi h1 h2

theorem newEnv_comp {M : Model} {A : Around} {E : Value → Shared → Prop} {s : Shared} {scope : Scope} {globals : Addr} {closure : List (Str × Addr)} {qual : Str} {func : Option Addr} {code : Value} {around : Env} {builtins : Addr} {Q : Env → Shared → Prop}
    (h : Q (newEnv scope s.heap.objs.size globals (cellsFrom (s.heap.objs.size + 1) scope.names closure) qual func code (some around) builtins)
      { s with heap := pushCells (s.heap.push { cls := .type "dict", data := .dict #[] }) scope.names }) :
    wpAny M A (newFunctionEnv scope globals closure [] qual func code (some around) builtins) Q E s := by
  simp only [newFunctionEnv, Option.isSome_some, if_true]
  refine wpAny_bind (wpAny_alloc ?_)
  refine wpAny_bind (wpAny_layCells _ (fun n k c => rfl) scope.names closure _ _ ?_)
  rw [show ({ s with heap := s.heap.push { cls := .type "dict", data := .dict #[] } } : Shared).heap.objs.size = s.heap.objs.size + 1 from Heap.size_push ..]
  rw [List.forIn_nil]
  exact wpAny_bind (wpAny_pure (wpAny_pure h))

/-- every name of the written scope, in the scope that runs -/
theorem lookup_relS {sc : Scope} : ∀ {names : List (Str × NameKind)} {x : Str} {k : NameKind},
    (names.map fun (n, k) => if (k == NameKind.free && sc.kind == .function && sc.names.lookup n == some .cell) then (n, NameKind.cell) else (n, k)).lookup x = some k →
    ∃ k', names.lookup x = some k' ∧ (k = k' ∨ (k' = .free ∧ k = .cell))
  | [], _, _, h => by simp at h
  | (n, k₀) :: r, x, k, h => by
    have ih := @lookup_relS sc r x k
    have h' : List.lookup x ((if (k₀ == NameKind.free && sc.kind == .function && sc.names.lookup n == some .cell) = true then (n, NameKind.cell) else (n, k₀)) :: (r.map _)) = some k := h
    cases hx : x == n with
    | true =>
      simp only [List.lookup_cons, hx]
      by_cases hc : (k₀ == NameKind.free && sc.kind == .function && sc.names.lookup n == some .cell) = true
      · rw [if_pos hc] at h'
        simp only [List.lookup_cons, hx] at h'
        cases h'
        simp only [Bool.and_eq_true, beq_iff_eq] at hc
        exact ⟨k₀, rfl, .inr ⟨hc.1.1, rfl⟩⟩
      · rw [if_neg hc] at h'
        simp only [List.lookup_cons, hx] at h'
        cases h'
        exact ⟨_, rfl, .inl rfl⟩
    | false =>
      simp only [List.lookup_cons, hx]
      by_cases hc : (k₀ == NameKind.free && sc.kind == .function && sc.names.lookup n == some .cell) = true
      · rw [if_pos hc] at h'
        simp only [List.lookup_cons, hx] at h'
        exact ih h'
      · rw [if_neg hc] at h'
        simp only [List.lookup_cons, hx] at h'
        exact ih h'



/-- the names of a comprehension's block: its own (with their places in N), or captured -/
structure BlkOk (N : List Str) (sc scope : Scope) (own : List (Str × Nat)) : Prop where
  kind : scope.kind = .function
  uniq : ∀ y ∈ scope.names, scope.names.lookup y.1 = some y.2
  ix : ∀ p ∈ own, N[p.2]? = some p.1
  free : ∀ y ∈ scope.names, y.2 = .free → sc.names.lookup y.1 = some .cell ∨ sc.names.lookup y.1 = some .free
  own : ∀ y ∈ scope.names, y.2 = .local ∨ y.2 = .cell → y.1 ∈ own.map (·.1) ∨ y.1 ∉ N
/-- the slots of the block's own names forgotten -/
def wipe (σ : St) : List Nat → St
  | [] => σ
  | v :: vs => (wipe σ vs).set v none
theorem wipe_length (σ : St) : ∀ vs : List Nat, (wipe σ vs).length = σ.length
  | [] => rfl
  | v :: vs => by unfold wipe; rw [List.length_set, wipe_length σ vs]
theorem wipe_some {σ : St} {i : Nat} {x : V} : ∀ {vs : List Nat}, (wipe σ vs)[i]? = some (some x) → σ[i]? = some (some x) ∧ i ∉ vs
  | [], h => ⟨h, by simp⟩
  | v :: vs, h => by
    unfold wipe at h
    by_cases hi : v = i
    · subst hi
      by_cases hv : v < (wipe σ vs).length
      · rw [List.getElem?_set_self hv] at h; cases h
      · rw [List.getElem?_eq_none (by simpa using hv)] at h; cases h
    · rw [List.getElem?_set_ne hi] at h
      obtain ⟨h1, h2⟩ := wipe_some h
      exact ⟨h1, by simp only [List.mem_cons, not_or]; exact ⟨fun e => hi e.symm, h2⟩⟩

/-- the context of a block that starts at s, its iterator's objects at fp -/
abbrev Cx.blk (X : Cx) (s : Shared) (H : Hp) (scope : Scope) (cenv : Env) (fp : List Addr) : Cx := { X with s_0 := s, H_0 := H, env := cenv, outer := X.stack, ex := fp, fn := fun x => scope.names.lookup x == some .cell, pn := [], xe := fun _ _ => False }
section
variable {X : Cx} {pins : List (Addr × Obj)} {σ : St} {H : Hp} {s : Shared}
theorem block_start {scope : Scope} {own : List (Str × Nat)} {fp : List Addr} (I : Inv X pins σ H s) (ok : BlkOk X.N X.env.scope scope own) (hN : X.N.Nodup) (hfp : ∀ b ∈ fp, FpOk X pins H b ∧ b < s.heap.objs.size) :
    Inv (X.blk s H scope (compEnvC scope (cellsFrom (s.heap.objs.size + 1) scope.names (cloFrom X.env.cells scope.names [])) s.heap.objs.size X.env) fp) [] (wipe σ (own.map (·.2))) H { s with heap := pushCells (s.heap.push { cls := .type "dict", data := .dict #[] }) scope.names } := by
  have hfree : ∀ y ∈ scope.names, y.2 = .free → ∃ c, X.env.cells.lookup y.1 = some c := fun y hy e => by
    rcases ok.free y hy e with k | k
    · exact I.ok.has _ (.inl k)
    · exact I.ok.has _ (.inr k)
  generalize hcenv : compEnvC scope (cellsFrom (s.heap.objs.size + 1) scope.names (cloFrom X.env.cells scope.names [])) s.heap.objs.size X.env = cenv
  have kp : ∀ b o, s.heap.get? b = some o → (pushCells (s.heap.push { cls := .type "dict", data := .dict #[] }) scope.names).get? b = some o := fun b o e => pushCells_keeps _ _ _ _ (Heap.get?_push_of_some _ e)
  have hL : cenv.locals = s.heap.objs.size := by rw [← hcenv]; rfl
  have hcl : cenv.cells = cellsFrom (s.heap.objs.size + 1) scope.names (cloFrom X.env.cells scope.names []) := by rw [← hcenv]; rfl
  have hsc : cenv.scope = relS scope X.env.scope := by rw [← hcenv]; rfl
  rw [← Heap.size_push s.heap { cls := .type "dict", data := .dict #[] }] at hcl
  have cm : ∀ {y c}, (y, c) ∈ cloFrom X.env.cells scope.names [] → X.env.cells.lookup y = some c ∧ c < s.heap.objs.size := fun {y c} hm => by
    rcases cloFrom_mem hm with hm | ⟨h1, rfl⟩
    · cases hm
    · obtain ⟨c, hc⟩ := hfree _ h1 rfl
      rw [hc]
      obtain ⟨w, z⟩ := I.cell _ _ hc
      exact ⟨rfl, z.lt⟩
  have mem : ∀ {y c}, cenv.cells.lookup y = some c → (X.env.cells.lookup y = some c ∧ c < s.heap.objs.size) ∨ (s.heap.objs.size + 1 ≤ c ∧ CellAt (pushCells (s.heap.push { cls := .type "dict", data := .dict #[] }) scope.names) c none) := fun {y c} e => by
    rw [hcl] at e
    rcases cells_mem (PySem.mem_of_lookup e) with hm | ⟨_, h2, h3⟩
    · exact .inl (cm hm)
    · rw [Heap.size_push] at h2; exact .inr ⟨h2, h3⟩
  have look : ∀ {y}, scope.names.lookup y = some .free → ∃ c, cenv.cells.lookup y = some c ∧ X.env.cells.lookup y = some c := fun {y} hl => by
    have hy : (y, NameKind.free) ∈ scope.names := PySem.mem_of_lookup hl
    obtain ⟨c', e'⟩ := mem_lookup (cells_acc (names := scope.names) (n := (s.heap.push { cls := .type "dict", data := .dict #[] }).objs.size) (cloFrom_has (cells := X.env.cells) (acc := []) hy))
    rw [← hcl] at e'
    refine ⟨c', e', ?_⟩
    rw [hcl] at e'
    rcases cells_mem (PySem.mem_of_lookup e') with hm | ⟨h1, _, _⟩
    · exact (cm hm).1
    · have := ok.uniq _ h1
      rw [hl] at this; cases this
  have okB : (X.blk s H scope cenv fp).Ok := by
    refine ⟨I.ok.mod, by show cenv.scope.kind = _; rw [hsc]; exact ok.kind, by show cenv.globals = _; rw [← hcenv]; exact I.ok.glob, by show cenv.builtins = _; rw [← hcenv]; exact I.ok.blt, by show s.heap.objs.size ≤ cenv.locals; rw [hL]; exact Nat.le_refl _,
      fun y z c e1 e2 => ?_, fun y hy => ?_, fun y c z e => ?_, I.ok.hd, I.ok.frames, .inl rfl, fun b hb => ⟨?_, fun y c e z => ?_⟩, I.bs, Nat.le_trans I.ok.bsz I.sz, fun b o e hb => ?_, fun b hb z => ?_, I.stack, I.stkFree⟩
    · have e1 : cenv.cells.lookup y = some c := e1
      have e2 : cenv.cells.lookup z = some c := e2
      rw [hcl] at e1 e2
      refine cells_inj (fun p hp => ?_) (fun y z c a b => I.ok.inj y z c (cm a).1 (cm b).1) (PySem.mem_of_lookup e1) (PySem.mem_of_lookup e2)
      rw [Heap.size_push]
      exact Nat.lt_succ_of_lt (cm (y := p.1) (c := p.2) hp).2
    · show ∃ c, cenv.cells.lookup y = some c
      have key : ∀ k, cenv.kindOf y = some k → (k = .cell ∨ k = .free) → ∃ c, cenv.cells.lookup y = some c := fun k hk hk' => by
        unfold Env.kindOf at hk
        rw [hsc] at hk
        obtain ⟨k', e, r⟩ := lookup_relS hk
        have : k' = .cell ∨ k' = .free := by
          rcases r with rfl | ⟨rfl, _⟩
          · exact hk'
          · exact .inr rfl
        rcases this with rfl | rfl
        · obtain ⟨c, hm⟩ := cells_has (n := (s.heap.push { cls := .type "dict", data := .dict #[] }).objs.size) (acc := cloFrom X.env.cells scope.names []) (PySem.mem_of_lookup e)
          obtain ⟨c', e'⟩ := mem_lookup hm
          exact ⟨c', by rw [hcl]; exact e'⟩
        · obtain ⟨c, h1, _⟩ := look e
          exact ⟨c, h1⟩
      rcases hy with hy | hy
      · exact key _ hy (.inl rfl)
      · exact key _ hy (.inr rfl)
    · have z : (scope.names.lookup y == some NameKind.cell) = true := z
      have z : scope.names.lookup y = some .cell := by simpa using z
      have e : cenv.cells.lookup y = some c := e
      rw [hcl] at e
      rcases cells_mem (PySem.mem_of_lookup e) with hm | ⟨_, h2, _⟩
      · rcases cloFrom_mem hm with hm | ⟨h1, _⟩
        · cases hm
        · have q := ok.uniq _ h1
          rw [z] at q; cases q
      · rw [Heap.size_push] at h2
        exact Nat.le_of_succ_le h2
    · show b ≠ cenv.locals
      rw [hL]; exact Nat.ne_of_lt (hfp b hb).2
    · have e : cenv.cells.lookup y = some c := e
      rcases mem e with ⟨h1, _⟩ | ⟨h1, _⟩
      · exact (hfp b hb).1.2.2.2.2.1 y c h1 z
      · have h2 : s.heap.objs.size + 1 ≤ b := by rw [← z]; exact h1
        exact absurd (Nat.lt_of_lt_of_le (hfp b hb).2 (Nat.le_of_succ_le h2)) (Nat.lt_irrefl _)
    · rcases (hfp b hb).1.2.2.2.1 with z | z
      · exact I.ok.noex b o e z
      · exact absurd (Nat.lt_of_lt_of_le (Heap.lt_size e) (Nat.le_trans I.ok.bsz z)) (Nat.lt_irrefl _)
    · rcases List.mem_cons.mp (I.stkSub b z) with z | z
      · exact (hfp b hb).1.2.1 z
      · exact (hfp b hb).1.2.2.1 z
  refine ⟨okB, rfl, I.bare, Un.kept kp, ⟨fun _ => none, ?_, fun i y av e1 e2 e3 => ?_⟩, fun y c e => ?_, ?_, fun y c e => ?_, fun p hp => ?_, I.hok.kept kp, by rw [wipe_length]; exact I.len⟩
  · show Heap.Ns _ cenv.locals _
    rw [hL]
    exact Heap.Ns.keeps (Heap.Ns.new ..) fun b o e => pushCells_keeps _ _ _ _ e
  · obtain ⟨e2, hne⟩ := wipe_some e2
    have hfr : scope.names.lookup y = some .free ∧ (cenv.kindOf y = some .cell ∨ cenv.kindOf y = some .free) := by
      have key : ∀ k, cenv.scope.names.lookup y = some k → k = .local ∨ k = .cell ∨ k = .free → scope.names.lookup y = some .free ∧ (cenv.kindOf y = some .cell ∨ cenv.kindOf y = some .free) := fun k hk hk' => by
        have hk0 := hk
        rw [hsc] at hk
        obtain ⟨k', e, r⟩ := lookup_relS hk
        have no : ¬ (k' = .local ∨ k' = .cell) := fun hh => by
          rcases ok.own _ (PySem.mem_of_lookup e) hh with e' | e'
          · obtain ⟨p, hp, hpy⟩ := List.mem_map.mp e'
            have e3 := ok.ix p hp
            have : p.1 = y := hpy
            rw [this] at e3
            exact hne (List.mem_map.mpr ⟨p, hp, nodup_ix hN e3 e1⟩)
          · exact e' (List.mem_of_getElem? e1)
        rcases r with rfl | ⟨rfl, rfl⟩
        · rcases hk' with rfl | rfl | rfl
          · exact absurd (.inl rfl) no
          · exact absurd (.inr rfl) no
          · exact ⟨e, .inr hk0⟩
        · exact ⟨e, .inl hk0⟩
      have e3 : Vis cenv.scope y := e3
      rcases e3 with e3 | e3 | e3
      · exact key _ e3 (.inl rfl)
      · exact key _ e3 (.inr (.inl rfl))
      · exact key _ e3 (.inr (.inr rfl))
    obtain ⟨m, hn, hl⟩ := I.loc
    have hvis : Vis X.env.scope y := (ok.free _ (PySem.mem_of_lookup hfr.1) rfl).elim (fun k => .inr (.inl k)) (fun k => .inr (.inr k))
    obtain ⟨w, r, q⟩ := hl i y av e1 e2 hvis
    refine ⟨w, r, .inr ⟨hfr.2, ?_⟩⟩
    obtain ⟨c, h1, h2⟩ := look hfr.1
    rcases q with ⟨k, _⟩ | ⟨_, c', e', z⟩
    · have k : X.env.scope.names.lookup y = some .local := k
      rcases ok.free _ (PySem.mem_of_lookup hfr.1) rfl with k' | k' <;> rw [show X.env.scope.names.lookup y = _ from k'] at k <;> cases k
    · rw [h2] at e'; cases e'
      exact ⟨c, h1, z.keeps kp⟩
  · have e : cenv.cells.lookup y = some c := e
    rcases mem e with ⟨h1, _⟩ | ⟨_, z⟩
    · obtain ⟨w, z⟩ := I.cell y c h1
      exact ⟨w, z.keeps kp⟩
    · exact ⟨_, z⟩
  · show H cenv.locals = none
    rw [hL]; exact I.hok.fresh (Nat.le_refl _)
  · have e : cenv.cells.lookup y = some c := e
    rcases mem e with ⟨h1, _⟩ | ⟨h1, _⟩
    · exact I.freeC y c h1
    · exact I.hok.fresh (Nat.le_of_succ_le h1)
  · exact absurd (show p ∈ ([] : List (Addr × Obj)) ++ [] from hp) (by simp)

/-- an item appended to a tracked list -/
theorem app_ok {E : Value → Shared → Prop} {D : Addr} {xs : List V} {y : V} {v : Value} {Q : Value → Shared → Prop} (I : Inv X pins σ H s) (hD : H D = some (.lst xs)) (hz : xs.length < sizeLine) (r : RelV y v)
    (h : ∀ s', Inv X pins σ (upd H D (.lst (xs ++ [y]))) s' → Q .none s') : wpAny (model X.prog X.w) X.A (call (.builtin "list.append") [.ref D, v]) Q E s := by
  obtain ⟨hz', its, n, ri, e⟩ := I.hok D _ hD
  have hl := ri.length
  refine append_at (hsz := by rw [List.size_toArray]; omega) e fun h' sb ho' => ?_
  refine h { s with heap := h' } (I.write (t' := s.toks) (by rw [hD]; trivial) (.inl rfl) (fun b u hb q => (sb.2 b hb).trans q) ⟨_, ho'⟩ ⟨by rw [List.length_append]; exact hz, its ++ [v], n + 1, ri.append (.cons r .nil), ?_⟩)
  rw [ho']
  simp

/-- a clause's tests -/
def PTs (X : Cx) (ifs : List Expr) (t : TT) : Prop :=
  ∀ (pins : List (Addr × Obj)) (s : Shared) (σ : St) (H : Hp) (Q : Bool → Hp → Prop), Inv X pins σ H s → t σ H Q →
    wpAny (model X.prog X.w) X.A (forIn ifs true fun c r => if r = true then do let ok ← isTrue c X.env (eval c X.env); pure (ForInStep.yield ok) else pure (ForInStep.yield r)) (TP X pins σ Q) X.xe s
def tYes : TT := fun _ H Q => Q true H
theorem pts_one {c : Expr} {t : TT} (h : PT X c t) : PTs X [c] t := fun pins s σ H Q I hw => wpAny_tests_one (h pins s σ H Q I hw)
end

theorem thnF {α : Type} {t : Sem α} {Q Q' : α → Shared → Prop} {M : Model} {A : Around} {E : Value → Shared → Prop} {s : Shared} (h : wpAny M A t Q (fun _ _ => False) s) (hQ : ∀ a s, Q a s → Q' a s) : wpAny M A t Q' E s := wpAny_mono h hQ fun _ _ z => False.elim z

/-- the loop of a list comprehension's block, the target of any form (codeAny_compLoop_tests asks a target that no tuple goes to; statement and proof follow it, PyProof/CompMap.lean:41-61, with the step letOwnedTupleGo kept) -/
theorem compLoop_any {prog : Program} {w : World} {A : Around} {R : Result → Shared → Prop} {s : Shared} {elt target iter : Expr} {ifs : List Expr} {scope : Scope} {pos : Pos} {it acc : Value} {env : Env} (I : Nat → Shared → Prop)
    (turn : ∀ n s, I n s → wpAny (model prog w) A (pyNext it) (fun r s₁ => match r with
      | none => R (.ok .next) s₁
      | some v => wpAny (model prog w) A (letOwnedTupleGo target it v) (fun _ s₁' => wpAny (model prog w) A (assign target env v) (fun _ s₂ =>
          wpAny (model prog w) A (forIn ifs true fun c r => if r = true then do let ok ← isTrue c env (eval c env); pure (ForInStep.yield ok) else pure (ForInStep.yield r)) (fun ok s₃ =>
            if ok = true then wpAny (model prog w) A (eval elt env) (fun x s₄ =>
              wpAny (model prog w) A (call (.builtin "list.append") [acc, x]) (fun _ s₅ => ∃ m, m < n ∧ I m s₅) (notedBy (model prog w) A env fun e s' => R (.error e) s') s₄) (notedBy (model prog w) A env fun e s' => R (.error e) s') s₃
            else ∃ m, m < n ∧ I m s₃) (notedBy (model prog w) A env fun e s' => R (.error e) s') s₂) (notedBy (model prog w) A env fun e s' => R (.error e) s') s₁') (notedBy (model prog w) A env fun e s' => R (.error e) s') s₁) (notedBy (model prog w) A env fun e s' => R (.error e) s') s)
    (n : Nat) (h : I n s) :
    codeAny (model prog w) A (.compLoop (.ListComp elt [⟨target, iter, ifs, 0⟩] scope pos) 0 it acc env) R s := by
  refine codeAny_loop rfl I (fun n s hI => ?_) n h
  show wpAny _ A ((compTurn (.ListComp elt [⟨target, iter, ifs, 0⟩] scope pos) 0 it acc env).onRaise (fun x => do noteFrame x env; theTreesLotGoes x)) _ _ s
  refine wpAny_noted ?_
  rw [compTurn_list]
  refine wpAny_bind (wpAny_standAt (wpAny_bind (wpAny_mono (turn n s hI) (fun r s₁ h₁ => ?_) fun _ _ h' => h')))
  cases r with
  | none => exact wpAny_pure h₁
  | some v =>
    refine wpAny_bind (wpAny_mono h₁ (fun _ s₁' h₁' => ?_) fun _ _ h' => h')
    refine wpAny_bind (wpAny_mono h₁' (fun _ s₂ h₂ => wpAny_bind (wpAny_mono h₂ (fun ok s₃ h₃ => ?_) fun _ _ h' => h')) fun _ _ h' => h')
    cases ok with
    | false => exact wpAny_pure ⟨rfl, h₃⟩
    | true =>
      exact wpAny_bind (wpAny_bind (wpAny_mono h₃ (fun x s₄ h₄ => wpAny_bind (wpAny_mono h₄ (fun _ s₅ h₅ => wpAny_pure (wpAny_pure ⟨rfl, h₅⟩)) fun _ _ h' => h')) fun _ _ h' => h'))

section
variable {X : Cx}
/-- [elt for target in iter if ..]: D the new list; W by the turn and a measure, Nx what a turn is to reach -/
def tLc (wi : TI) (g : TG) (tt : TT) (te : TE) (vs : List Nat) : TE := fun σ H Q => wi σ H fun J H1 => ∀ D, H1 D = none → ∃ W : Nat → Nat → Hp → Prop, (∃ m, W 0 m (upd H1 D (.lst []))) ∧ ∀ i m H, W i m H →
  (J.stop i H ∧ Q (.ref D) H) ∨ (J.go i H ∧ ∃ Nx : Hp → Prop, (∀ H', Nx H' → ∃ m', m' < m ∧ W (i + 1) m' H') ∧ ∀ x H', J.yld i H x H' → g x (wipe σ vs) H' fun σ2 H2 => wipe σ2 vs = wipe σ vs ∧ tt σ2 H2 fun b H3 =>
    if b = true then te σ2 H3 fun y H4 => ∃ acc, H4 D = some (.lst acc) ∧ acc.length < sizeLine ∧ Nx (upd H4 D (.lst (acc ++ [y]))) else Nx H3)
theorem lc_core {pins : List (Addr × Obj)} {s : Shared} {σ : St} {H : Hp} {Q : VK} {elt tg iter : Expr} {ifs : List Expr} {scope : Scope} {own : List (Str × Nat)} {pos pos' : Pos} {wi : TI} {g : TG} {tt : TT} {te : TE} {use : Option (Value → Sem Unit)} {Qf : Value → Shared → Prop}
    (hc : X.calm = true) (hN : X.N.Nodup) (I : Inv X pins σ H s) (hi : PI X tg iter wi) (ok : BlkOk X.N X.env.scope scope own)
    (hg : ∀ (s : Shared) (H : Hp) (C : Addr) (cl : List (Str × Addr)) (fp : List Addr), PG (X.blk s H scope (compEnvC scope cl C X.env) fp) tg g) (ht : ∀ (s : Shared) (H : Hp) (C : Addr) (cl : List (Str × Addr)) (fp : List Addr), PTs (X.blk s H scope (compEnvC scope cl C X.env) fp) ifs tt)
    (he : ∀ (s : Shared) (H : Hp) (C : Addr) (cl : List (Str × Addr)) (fp : List Addr), PE (X.blk s H scope (compEnvC scope cl C X.env) fp) elt te) (hs : ∀ x, foldedSetIterable iter X.env x = pure x)
    (h : tLc wi g tt te (own.map (·.2)) σ H Q)
    (hRR : ∀ D C s' m H', Inv X pins σ H' s' → Q (.ref D) H' → s'.heap.Ns C m → FpOk X pins H' C → compPost (model X.prog X.w) X.A X.xe use Qf (.ref D) C (.ok .next) s') :
    wpAny (model X.prog X.w) X.A (comprehension (.ListComp elt [⟨tg, iter, ifs, 0⟩] scope pos) scope X.env pos' (newList []) false (eval iter X.env) use) Qf X.xe s := by
  have hfree : ∀ y ∈ scope.names, y.2 = .free → ∃ c, X.env.cells.lookup y.1 = some c := fun y hy e => by
    rcases ok.free y hy e with k | k
    · exact I.ok.has _ (.inl k)
    · exact I.ok.has _ (.inr k)
  refine wpAny_comprehension_free (use := use) rfl hs (closure_ok hfree) ok.kind (fun y hy e => by rw [ok.uniq y hy, e])
    (thn (hi pins s σ H _ I h) fun xv s1 hx => thn hx fun itv s2 h2 => ?_)
  obtain ⟨it, fp, tn, J, H2, e, I2, T, st2, f2, q⟩ := h2
  subst e
  refine wpAny_newObj_type (newEnv_comp ?_) (by show 0 ≤ sizeLine; decide)
  generalize hD : s2.heap.objs.size = D
  have hDn : H2 D = none := I2.hok.fresh (Nat.le_of_eq hD)
  obtain ⟨W, ⟨m0, w0⟩, turn⟩ := q D hDn
  -- the new list
  generalize hs3 : ({ s2 with heap := s2.heap.push { cls := .type "list", data := .seq ([] : List Value).toArray } } : Shared) = s3
  have I3 : Inv X pins σ (upd H2 D (.lst [])) s3 := by
    rw [← hs3]
    refine I2.laid (t' := s2.toks) (fun b o e => Heap.get?_push_of_some _ e) (Nat.le_of_eq hD) ⟨Nat.zero_le _, [], 0, .nil, ?_⟩
    rw [← hD]
    exact Heap.get?_push_size _ rfl
  have h3 : s3.heap = s2.heap.push { cls := .type "list", data := .seq ([] : List Value).toArray } := by rw [← hs3]
  have sz : ∀ b ∈ fp, b < s2.heap.objs.size := fun b hb => by
    obtain ⟨o, e, _⟩ := T.obj _ _ st2 b hb
    exact Heap.lt_size e
  have f3 : ∀ b ∈ fp, FpOk X pins (upd H2 D (.lst [])) b ∧ b < s3.heap.objs.size := fun b hb => by
    have hlt := sz b hb
    refine ⟨⟨?_, (f2 b hb).2⟩, by rw [h3, Heap.size_push]; exact Nat.lt_succ_of_lt hlt⟩
    rw [upd_ne (by rw [← hD]; exact Nat.ne_of_lt hlt)]
    exact (f2 b hb).1
  have st3 : tn 0 s3.heap := T.keep _ _ _ st2 fun b _ o e => by rw [h3]; exact Heap.get?_push_of_some _ e
  have I4 := block_start I3 ok hN f3
  have pg := hg s3 (upd H2 D (.lst [])) s3.heap.objs.size (cellsFrom (s3.heap.objs.size + 1) scope.names (cloFrom X.env.cells scope.names [])) fp
  have pt := ht s3 (upd H2 D (.lst [])) s3.heap.objs.size (cellsFrom (s3.heap.objs.size + 1) scope.names (cloFrom X.env.cells scope.names [])) fp
  have pe := he s3 (upd H2 D (.lst [])) s3.heap.objs.size (cellsFrom (s3.heap.objs.size + 1) scope.names (cloFrom X.env.cells scope.names [])) fp
  show codeAny _ _ (.compStart (.ListComp elt [⟨tg, iter, ifs, 0⟩] scope pos) 0 (.ref it) (.ref D) (compEnvC scope (cellsFrom (s3.heap.objs.size + 1) scope.names (cloFrom X.env.cells scope.names [])) s3.heap.objs.size X.env)) (compPost (model X.prog X.w) X.A X.xe use Qf (.ref D) s3.heap.objs.size) { s3 with heap := pushCells (s3.heap.push { cls := .type "dict", data := .dict #[] }) scope.names }
  have nfp : ∀ b ∈ fp, (upd H2 D (.lst [])) b = none := fun b hb => (f3 b hb).1.1
  generalize hce : compEnvC scope (cellsFrom (s3.heap.objs.size + 1) scope.names (cloFrom X.env.cells scope.names [])) s3.heap.objs.size X.env = ce at I4 pg pt pe ⊢
  have cL : ce.locals = s3.heap.objs.size := by subst hce; rfl
  generalize hH3 : upd H2 D (.lst []) = H3 at I3 I4 pg pt pe w0 nfp f3
  generalize hs4 : ({ s3 with heap := pushCells (s3.heap.push { cls := .type "dict", data := .dict #[] }) scope.names } : Shared) = s4 at I4 ⊢
  have st4 : tn 0 s4.heap := T.keep _ _ _ st3 fun b _ o e => by rw [← hs4]; exact pushCells_keeps _ _ _ _ (Heap.get?_push_of_some _ e)
  have stat : ∀ {σ' : St} {H' : Hp} {s' : Shared}, Inv (X.blk s3 H3 scope ce fp) [] σ' H' s' → (∀ b ∈ fp, H' b = none) → ∀ b ∈ fp, FpOk (X.blk s3 H3 scope ce fp) [] H' b := fun {σ' H' s'} I' hn b hb =>
    ⟨hn b hb, (I'.ok.exf b hb).1, I'.ok.exfs b hb, .inl hb, fun x c e => (I'.ok.exf b hb).2 x c e, fun p hp => absurd (show p ∈ ([] : List (Addr × Obj)) ++ [] from hp) (by simp)⟩
  have loop : codeAny (model X.prog X.w) X.A (.compLoop (.ListComp elt [⟨tg, iter, ifs, 0⟩] scope pos) 0 (.ref it) (.ref D) ce) (compPost (model X.prog X.w) X.A X.xe use Qf (.ref D) s3.heap.objs.size) s4 := by
    refine compLoop_any (fun n s' => ∃ i H', Inv (X.blk s3 H3 scope ce fp) [] (wipe σ (own.map (·.2))) H' s' ∧ tn i s'.heap ∧ (∀ b ∈ fp, H' b = none) ∧ W i n H') ?_ m0 ⟨0, H3, I4, st4, nfp, w0⟩
    rintro n s5 ⟨i, H5, I5, st5, n5, w5⟩
    rcases turn i n H5 w5 with ⟨stop, qq⟩ | ⟨go, Nx, hNx, step⟩
    · have td := T.done (X.blk s3 H3 scope ce fp) rfl rfl rfl hc i [] s5 _ H5 (fun _ _ => False) I5 (stat I5 n5) st5 stop
      refine thnF td fun r s6 ⟨hr, I6⟩ => ?_
      subst hr
      -- back in the def's context
      have I7 : Inv X pins σ H5 s6 := I3.call' (ch := fp) I6.os I6.base I6.hok I6.bare fun b hb => ⟨(f3 b hb).1.2.2.2.1, (f3 b hb).1.2.1, (f3 b hb).1.2.2.2.2.1, (f3 b hb).1.2.2.2.2.2⟩
      have nC : H5 s3.heap.objs.size = none := by
        have z : H5 ce.locals = none := I6.free
        rw [cL] at z
        exact z
      obtain ⟨m, hn, _⟩ := I6.loc
      have hn : s6.heap.Ns ce.locals m := hn
      rw [cL] at hn
      exact hRR D s3.heap.objs.size s6 m H5 I7 qq hn (I3.fpOk (Nat.le_refl _) nC)
    · have ti := T.item (X.blk s3 H3 scope ce fp) rfl rfl rfl hc i [] s5 _ H5 (fun _ _ => False) I5 (stat I5 n5) st5 go
      refine thnF ti fun r s6 ⟨u, hr, h6⟩ => ?_
      subst hr
      refine thnF h6 fun _ s7 ⟨x, H7, I7, r7, y7, st7, n7⟩ => ?_
      have I7' := I7.pinned (stat I7 n7) (T.obj _ _ st7)
      refine thnF (pg _ s7 _ H7 x u _ I7' r7 (step x H7 y7)) fun _ s8 ⟨σ8, H8, I8, hw8, q8⟩ => ?_
      refine thnF (pt _ s8 σ8 H8 _ I8 q8) fun b s9 ⟨H9, I9, q9⟩ => ?_
      -- the turn's end
      have fin : ∀ {s' : Shared} {H' : Hp}, Inv (X.blk s3 H3 scope ce fp) ([] ++ pinsAt fp s7.heap) σ8 H' s' → Nx H' → ∃ m, m < n ∧ ∃ i H', Inv (X.blk s3 H3 scope ce fp) [] (wipe σ (own.map (·.2))) H' s' ∧ tn i s'.heap ∧ (∀ b ∈ fp, H' b = none) ∧ W i m H' := fun {s' H'} I' nx => by
        obtain ⟨m', hm, w'⟩ := hNx H' nx
        have pin' : ∀ b ∈ fp, ∀ o, s7.heap.get? b = some o → s'.heap.get? b = some o ∧ H' b = none := fun b hb o e =>
          let z := I'.pin (b, o) (List.mem_append_right _ (List.mem_append_right _ (mem_pinsAt hb e)))
          ⟨z.1, z.2.1⟩
        have hl : (wipe σ (own.map (·.2))).length = σ8.length := by rw [← hw8, wipe_length]
        refine ⟨m', hm, i + 1, H', (I'.unpinned (pins := [])).weak hl (fun j v e => ?_), T.keep _ _ _ st7 fun b hb o e => (pin' b hb o e).1, fun b hb => ?_, w'⟩
        · rw [← hw8] at e
          exact (wipe_some e).1
        · obtain ⟨o, e, _⟩ := T.obj _ _ st7 b hb
          exact (pin' b hb o e).2
      cases b with
      | false =>
        simp only [Bool.false_eq_true, if_false] at q9 ⊢
        exact fin I9 q9
      | true =>
        simp only [if_true] at q9 ⊢
        refine thnF (pe _ s9 σ8 H9 _ I9 q9) fun z s10 ⟨yv, H10, I10, r10, acc, hD10, hz10, nx⟩ => ?_
        exact app_ok (X := X.blk s3 H3 scope ce fp) I10 hD10 hz10 r10 fun s11 I11 => fin I11 nx
  exact codeAny_compStart_list loop (T.self X.A 0 _ _ _ st4 loop)
/-- as a value -/
theorem pe_lc {elt tg iter : Expr} {ifs : List Expr} {scope : Scope} {own : List (Str × Nat)} {pos : Pos} {wi : TI} {g : TG} {tt : TT} {te : TE} (hc : X.calm = true) (hN : X.N.Nodup) (hi : PI X tg iter wi) (ok : BlkOk X.N X.env.scope scope own)
    (hg : ∀ (s : Shared) (H : Hp) (C : Addr) (cl : List (Str × Addr)) (fp : List Addr), PG (X.blk s H scope (compEnvC scope cl C X.env) fp) tg g) (ht : ∀ (s : Shared) (H : Hp) (C : Addr) (cl : List (Str × Addr)) (fp : List Addr), PTs (X.blk s H scope (compEnvC scope cl C X.env) fp) ifs tt)
    (he : ∀ (s : Shared) (H : Hp) (C : Addr) (cl : List (Str × Addr)) (fp : List Addr), PE (X.blk s H scope (compEnvC scope cl C X.env) fp) elt te) (hs : ∀ x, foldedSetIterable iter X.env x = pure x := by intro _; rfl) :
    PE X (.ListComp elt [⟨tg, iter, ifs, 0⟩] scope pos) (tLc wi g tt te (own.map (·.2))) := by
  intro pins s σ H Q I h
  rw [eval_ListComp]
  refine lc_core hc hN I hi ok hg ht he hs h fun D C s' m H' I' q hn f => ⟨m, hn, fun h'' sb => ?_⟩
  obtain ⟨f0, f1, f2, f3, f4, f5⟩ := f
  exact ⟨.ref D, H', I'.turned (t' := s'.toks) (fun b o hb e => (sb.2 b hb).trans e) f0 f1 f3 f4 f5, rfl, q⟩
/-- name = [..] on one line, the name a local -/
theorem ps_setLc {i : Nat} {y : Str} {py : Pos} {elt tg iter : Expr} {ifs : List Expr} {scope : Scope} {own : List (Str × Nat)} {pos spos : Pos} {wi : TI} {g : TG} {tt : TT} {te : TE} (hc : X.calm = true) (hN : X.N.Nodup) (hy : X.N[i]? = some y) (hyl : X.env.scope.names.lookup y = some .local)
    (hsw : swapsWith (.ListComp elt [⟨tg, iter, ifs, 0⟩] scope pos) (some (.Name y py)) spos.line X.env = pure true) (hi : PI X tg iter wi) (ok : BlkOk X.N X.env.scope scope own)
    (hg : ∀ (s : Shared) (H : Hp) (C : Addr) (cl : List (Str × Addr)) (fp : List Addr), PG (X.blk s H scope (compEnvC scope cl C X.env) fp) tg g) (ht : ∀ (s : Shared) (H : Hp) (C : Addr) (cl : List (Str × Addr)) (fp : List Addr), PTs (X.blk s H scope (compEnvC scope cl C X.env) fp) ifs tt)
    (he : ∀ (s : Shared) (H : Hp) (C : Addr) (cl : List (Str × Addr)) (fp : List Addr), PE (X.blk s H scope (compEnvC scope cl C X.env) fp) elt te) (hs : ∀ x, foldedSetIterable iter X.env x = pure x := by intro _; rfl) :
    PS X (.Assign [.Name y py] (.ListComp elt [⟨tg, iter, ifs, 0⟩] scope pos) spos) (tAsg (tLc wi g tt te (own.map (·.2))) (gName i)) := by
  intro pins s σ H D I h
  rw [exec_Assign_Name_used _ _ _ _ hsw]
  refine wpAny_bind (wpAny_standAt (wpAny_bind ?_))
  show wpAny _ X.A (do let _ ← comprehension (.ListComp elt [⟨tg, iter, ifs, 0⟩] scope pos) scope X.env (firstIterPos [⟨tg, iter, ifs, 0⟩] pos) (newList []) false (eval iter X.env) (some (assign (.Name y py) X.env))) _ _ s
  have h : tLc wi g tt te (own.map (·.2)) σ H (fun x H1 => gName i x σ H1 D.nx) := h
  refine wpAny_bind (thn (lc_core (Qf := fun _ s' => SP X pins D .next s') hc hN I hi ok hg ht he hs h fun L C s' m H' I' q hn f => ?_) fun _ s' hq => wpAny_pure (wpAny_pure hq))
  show wpAny _ _ (assign (.Name y py) X.env (.ref L)) _ _ _
  refine wpAny_assign_Name (store_ok2 (v := V.ref L) I' hN hy (.inl hyl) rfl (fun s2 I2 ⟨a, sb, ha⟩ => ?_) (.inr hyl))
  obtain ⟨f0, f1, f2, f3, f4, f5⟩ := f
  have haC : C ≠ a := by
    rcases ha with z | z
    · rw [z]; exact f1
    · exact fun e => f4 y a z e.symm
  refine ⟨m, hn.sameBut sb haC, fun h3 sb3 => ?_⟩
  exact ⟨_, H', I2.turned (t' := s2.toks) (fun b o hb e => (sb3.2 b hb).trans e) f0 f1 f3 f4 f5, q⟩
theorem sw_true {elt : Expr} {gs : List Comprehension} {scope : Scope} {pos py : Pos} {y : Str} {l : Nat} {env : Env} (hk : env.scope.kind = .function) (hy : env.scope.names.lookup y = some .local) (hl : (py.line == pos.line) = true)
    (ha : (scope.names.any fun (n, k) => n == y && (k == .local || k == .cell)) = false) : swapsWith (.ListComp elt gs scope pos) (some (.Name y py)) l env = pure true := by
  have ky : env.kindOf y = some .local := hy
  have hb : env.blockKind = .function := by unfold Env.blockKind; rw [hk]; rfl
  unfold swapsWith
  simp only [hb, ky, ha, Expr.pos, hl]
  rfl
end

/-! ### the forms one uses -/
/-- over a list that the block leaves as it is -/
theorem lc_list {K : PySem.W.Frag} {a : Addr} {xs : List V} {g : TG} {tt : TT} {te : TE} {vs : List Nat} {σ : St} {H1 : Hp} {D : Addr} {Qd : Hp → Prop} (Pv : Nat → Hp → Prop) (h0 : Pv 0 (upd H1 D (.lst []))) (hl : ∀ i H, i ≤ xs.length → Pv i H → SqL K H a xs)
    (hs : ∀ i x H, xs[i]? = some x → Pv i H → g x (wipe σ vs) H fun σ2 H2 => wipe σ2 vs = wipe σ vs ∧ tt σ2 H2 fun b H3 =>
      if b = true then te σ2 H3 fun y H4 => ∃ acc, H4 D = some (.lst acc) ∧ acc.length < sizeLine ∧ Pv (i + 1) (upd H4 D (.lst (acc ++ [y]))) else Pv (i + 1) H3) (hd : ∀ H, Pv xs.length H → Qd H) :
    ∃ W : Nat → Nat → Hp → Prop, (∃ m, W 0 m (upd H1 D (.lst []))) ∧ ∀ i m H, W i m H →
      ((Itl K a).stop i H ∧ Qd H) ∨ ((Itl K a).go i H ∧ ∃ Nx : Hp → Prop, (∀ H', Nx H' → ∃ m', m' < m ∧ W (i + 1) m' H') ∧ ∀ x H', (Itl K a).yld i H x H' → g x (wipe σ vs) H' fun σ2 H2 => wipe σ2 vs = wipe σ vs ∧ tt σ2 H2 fun b H3 =>
        if b = true then te σ2 H3 fun y H4 => ∃ acc, H4 D = some (.lst acc) ∧ acc.length < sizeLine ∧ Nx (upd H4 D (.lst (acc ++ [y]))) else Nx H3) := by
  refine ⟨fun i m H => m = xs.length - i ∧ i ≤ xs.length ∧ Pv i H, ⟨xs.length, by simp, Nat.zero_le _, h0⟩, ?_⟩
  rintro i m H ⟨rfl, hi, p⟩
  have q := hl i H hi p
  by_cases hlt : i < xs.length
  · refine .inr ⟨⟨xs, xs[i], q, by simp [hlt]⟩, Pv (i + 1), fun H' p' => ⟨xs.length - (i + 1), by omega, rfl, hlt, p'⟩, fun x H' y => ?_⟩
    obtain ⟨e, y⟩ := y
    subst e
    exact hs i x _ (y xs q) p
  · have e : i = xs.length := by omega
    subst e
    exact .inl ⟨⟨xs, q, Nat.le_refl _⟩, hd H p⟩
def blkC (N : List Str) (sc scope : Scope) (own : List (Str × Nat)) : Bool :=
  (match scope.kind with | .function => true | _ => false) && (scope.names.all fun y => decide (scope.names.lookup y.1 = some y.2)) && (own.all fun p => decide (N[p.2]? = some p.1)) &&
    (scope.names.all fun y => match y.2 with
      | .free => (match sc.names.lookup y.1 with | some .cell => true | some .free => true | _ => false)
      | .local => decide (y.1 ∈ own.map (·.1)) || decide (y.1 ∉ N)
      | .cell => decide (y.1 ∈ own.map (·.1)) || decide (y.1 ∉ N)
      | _ => true)
theorem blkOk_by {N : List Str} {sc scope : Scope} {own : List (Str × Nat)} (h : blkC N sc scope own = true) : BlkOk N sc scope own := by
  unfold blkC at h
  simp only [Bool.and_eq_true, List.all_eq_true, decide_eq_true_eq] at h
  obtain ⟨⟨⟨h1, h2⟩, h3⟩, h4⟩ := h
  refine ⟨?_, h2, h3, fun y hy e => ?_, fun y hy e => ?_⟩
  · split at h1
    · assumption
    · cases h1
  · have q := h4 y hy
    simp only [e] at q
    split at q <;> first | exact .inl (by assumption) | exact .inr (by assumption) | cases q
  · have q := h4 y hy
    rcases e with e | e <;> (simp only [e, Bool.or_eq_true, decide_eq_true_eq] at q; exact q)
end L2

namespace L2
open PySem PySem.Spec PyProof.Rows


section
variable {prog : Program} {w : World} {A : Around} {R : Result → Shared → Prop} {s : Shared} {elt t0 i0 t1 i1 : Expr} {ifs0 ifs1 : List Expr} {scope : Scope} {pos : Pos} {it acc : Value} {env : Env}
end

section
variable {X : Cx}
/-- [elt for tg in iter if .. for tg1 in iter1 if ..]: behind the first clause's store and tests the second source's own loop, from which Nx is reached. vs: the block's names; vs1: those of the second target -/
def tLc2 (wi : TI) (g : TG) (tt : TT) (wi1 : TI) (g1 : TG) (tt1 : TT) (te : TE) (vs vs1 : List Nat) : TE := fun σ H Q => wi σ H fun J H1 => ∀ D, H1 D = none → ∃ W : Nat → Nat → Hp → Prop, (∃ m, W 0 m (upd H1 D (.lst []))) ∧ ∀ i m H, W i m H →
  (J.stop i H ∧ Q (.ref D) H) ∨ (J.go i H ∧ ∃ Nx : Hp → Prop, (∀ H', Nx H' → ∃ m', m' < m ∧ W (i + 1) m' H') ∧ ∀ x H', J.yld i H x H' → g x (wipe σ vs) H' fun σ2 H2 => wipe σ2 vs = wipe σ vs ∧ tt σ2 H2 fun b H3 =>
    if b = true then wi1 σ2 H3 fun J1 H4 => ∃ W1 : Nat → Nat → Hp → Prop, (∃ m, W1 0 m H4) ∧ ∀ j k H, W1 j k H →
      (J1.stop j H ∧ Nx H) ∨ (J1.go j H ∧ ∃ Nx1 : Hp → Prop, (∀ H', Nx1 H' → ∃ k', k' < k ∧ W1 (j + 1) k' H') ∧ ∀ x H', J1.yld j H x H' → g1 x (wipe σ2 vs1) H' fun σ3 H5 => wipe σ3 vs1 = wipe σ2 vs1 ∧ tt1 σ3 H5 fun b H6 =>
        if b = true then te σ3 H6 fun y H7 => ∃ acc, H7 D = some (.lst acc) ∧ acc.length < sizeLine ∧ Nx1 (upd H7 D (.lst (acc ++ [y]))) else Nx1 H6)
    else Nx H3)
end
end L2

namespace L2
open PySem PySem.Spec PyProof.Rows

/-! ### lists of pairs as tables -/
section
variable {κ : Type} [DecidableEq κ]
def valV (kvs : List (κ × V)) (k : κ) : Option V := (kvs.find? fun kv => decide (kv.1 = k)).map (·.2)
/-- in its place, or at the end -/
def putK (kvs : List (κ × V)) (k : κ) (v : V) : List (κ × V) :=
  if (kvs.any fun kv => decide (kv.1 = k)) = true then kvs.map (fun kv => if kv.1 = k then (kv.1, v) else kv) else kvs ++ [(k, v)]
def dropK (kvs : List (κ × V)) (k : κ) : List (κ × V) := kvs.filter fun kv => decide (kv.1 ≠ k)

theorem valV_pos {p : κ × V} {r : List (κ × V)} {k : κ} (e : p.1 = k) : valV (p :: r) k = some p.2 := by simp [valV, List.find?_cons, e]
theorem valV_neg {p : κ × V} {r : List (κ × V)} {k : κ} (e : ¬ p.1 = k) : valV (p :: r) k = valV r k := by simp [valV, List.find?_cons, e]
theorem valV_any (k : κ) : ∀ kvs : List (κ × V), (kvs.any fun kv => decide (kv.1 = k)) = (valV kvs k).isSome
  | [] => rfl
  | p :: r => by
    rw [List.any_cons]
    by_cases e : p.1 = k
    · simp only [valV_pos e, decide_eq_true e, Bool.true_or, Option.isSome_some]
    · rw [valV_neg e, decide_eq_false e, Bool.false_or]; exact valV_any k r

theorem RelO.isSome_eq {o : Option V} {u : Option Value} (r : RelO o u) : o.isSome = u.isSome := by
  cases o with
  | none => cases u with
    | none => rfl
    | some _ => exact (show False from r).elim
  | some _ => cases u with
    | none => exact (show False from r).elim
    | some _ => rfl
theorem RelO.getD {o : Option V} {u : Option Value} {d : V} {d' : Value} (r : RelO o u) (rd : RelV d d') : RelV (o.getD d) (u.getD d') := by
  cases o with
  | none => cases u with
    | none => exact rd
    | some _ => exact (show False from r).elim
  | some _ => cases u with
    | none => exact (show False from r).elim
    | some _ => exact r

/-- raw tables of the same keys -/
theorem KV.val {kvs : List (κ × V)} {vs : List (κ × Value)} (r : KV kvs vs) (k : κ) : RelO (valV kvs k) (valueAt vs k) := by
  unfold KV at r
  induction r with
  | nil => exact True.intro
  | @cons p q ps qs h t ih =>
    obtain ⟨h1, h2⟩ := h
    by_cases e : p.1 = k
    · have e' : q.1 = k := h1.symm.trans e
      have b : valueAt (q :: qs) k = some q.2 := by simp [valueAt, List.find?_cons, e']
      rw [valV_pos e, b]; exact h2
    · have e' : ¬ q.1 = k := fun z => e (h1.trans z)
      have b : valueAt (q :: qs) k = valueAt qs k := by simp [valueAt, List.find?_cons, e']
      rw [valV_neg e, b]; exact ih
theorem KV.any {kvs : List (κ × V)} {vs : List (κ × Value)} (r : KV kvs vs) (k : κ) : (kvs.any fun kv => decide (kv.1 = k)) = vs.any fun kv => decide (kv.1 = k) := by
  unfold KV at r
  induction r with
  | nil => rfl
  | cons h t ih => rw [List.any_cons, List.any_cons, ih, h.1]
theorem KV.repl {kvs : List (κ × V)} {vs : List (κ × Value)} (r : KV kvs vs) (k : κ) {y : V} {u : Value} (ry : RelV y u) :
    KV (kvs.map fun kv => if kv.1 = k then (kv.1, y) else kv) (vs.map fun kv => if kv.1 = k then (kv.1, u) else kv) := by
  unfold KV at r ⊢
  induction r with
  | nil => exact .nil
  | @cons p q ps qs h t ih =>
    rw [List.map_cons, List.map_cons]
    refine .cons ?_ ih
    obtain ⟨h1, h2⟩ := h
    by_cases e : p.1 = k
    · rw [if_pos e, if_pos (h1.symm.trans e)]; exact ⟨h1, ry⟩
    · rw [if_neg e, if_neg (fun z => e (h1.trans z))]; exact ⟨h1, h2⟩
theorem KV.put {kvs : List (κ × V)} {vs : List (κ × Value)} (r : KV kvs vs) (k : κ) {y : V} {u : Value} (ry : RelV y u) : KV (putK kvs k y) (stored vs k u) := by
  unfold putK stored
  rw [r.any k]
  by_cases e : (vs.any fun kv => decide (kv.1 = k)) = true
  · rw [if_pos e, if_pos e]; exact r.repl k ry
  · rw [if_neg e, if_neg e]; exact Paired.snoc r ⟨rfl, ry⟩
theorem KV.drop {kvs : List (κ × V)} {vs : List (κ × Value)} (r : KV kvs vs) (k : κ) : KV (dropK kvs k) (without vs k) := by
  unfold KV at r ⊢
  unfold dropK without
  induction r with
  | nil => exact .nil
  | @cons p q ps qs h t ih =>
    obtain ⟨h1, h2⟩ := h
    rw [List.filter_cons, List.filter_cons]
    by_cases e : p.1 = k
    · have a : ¬ decide (p.1 ≠ k) = true := by simp [e]
      have b : ¬ decide (q.1 ≠ k) = true := by simp [h1.symm.trans e]
      rw [if_neg a, if_neg b]; exact ih
    · have e' : ¬ q.1 = k := fun z => e (h1.trans z)
      have a : decide (p.1 ≠ k) = true := by simp [e]
      have b : decide (q.1 ≠ k) = true := by simp [e']
      rw [if_pos a, if_pos b]; exact .cons ⟨h1, h2⟩ ih
theorem KV.keys {kvs : List (κ × V)} {vs : List (κ × Value)} (r : KV kvs vs) : kvs.map (·.1) = vs.map (·.1) := by
  unfold KV at r
  induction r with
  | nil => rfl
  | cons h t ih => rw [List.map_cons, List.map_cons, ih, h.1]
theorem KV.length {kvs : List (κ × V)} {vs : List (κ × Value)} (r : KV kvs vs) : kvs.length = vs.length := Paired.length r
end


/-! ### a tracked dict, its keys ints and texts or tuples of these -/

/-- raw entries of a dict with tuple keys -/
abbrev KT (H : Hp) : List (List Key × V) → List (List Key × Addr × Value) → Prop := Paired fun p q => p.1 = q.1 ∧ H q.2.1 = some (.tup (p.1.map kV)) ∧ RelV p.2 q.2.2
theorem KT.val {H : Hp} {kvs : List (List Key × V)} {xs : List (List Key × Addr × Value)} (r : KT H kvs xs) (k : List Key) : RelO (valV kvs k) ((atKey xs k).map (·.2)) := by
  induction r with
  | nil => exact True.intro
  | @cons p q ps qs h t ih =>
    obtain ⟨h1, _, h2⟩ := h
    by_cases e : p.1 = k
    · have e' : q.1 = k := h1.symm.trans e
      have b : atKey (q :: qs) k = some q.2 := by simp [atKey, List.find?_cons, e']
      rw [valV_pos e, b]; exact h2
    · have e' : ¬ q.1 = k := fun z => e (h1.trans z)
      have b : atKey (q :: qs) k = atKey qs k := by simp [atKey, List.find?_cons, e']
      rw [valV_neg e, b]; exact ih
theorem KT.repl {H : Hp} {kvs : List (List Key × V)} {xs : List (List Key × Addr × Value)} (r : KT H kvs xs) (k : List Key) {y : V} {u : Value} (ry : RelV y u) :
    KT H (kvs.map fun kv => if kv.1 = k then (kv.1, y) else kv) (xs.map (putAt k u)) := by
  induction r with
  | nil => exact .nil
  | @cons p q ps qs h t ih =>
    rw [List.map_cons, List.map_cons]
    refine .cons ?_ ih
    obtain ⟨h1, h2, h3⟩ := h
    unfold putAt
    by_cases e : p.1 = k
    · rw [if_pos e, if_pos (h1.symm.trans e)]; exact ⟨h1, h2, ry⟩
    · rw [if_neg e, if_neg (fun z => e (h1.trans z))]; exact ⟨h1, h2, h3⟩
theorem KT.put {H : Hp} {kvs : List (List Key × V)} {xs : List (List Key × Addr × Value)} (r : KT H kvs xs) (k : List Key) {b : Addr} {y : V} {u : Value} (hb : H b = some (.tup (k.map kV))) (ry : RelV y u) :
    KT H (putK kvs k y) (storedH xs k b u) := by
  have e : (kvs.any fun kv => decide (kv.1 = k)) = (atKey xs k).isSome := by
    rw [valV_any, (r.val k).isSome_eq, Option.isSome_map]
  unfold putK storedH
  rw [e]
  by_cases q : (atKey xs k).isSome = true
  · rw [if_pos q, if_pos q]; exact r.repl k ry
  · rw [if_neg q, if_neg q]; exact Paired.snoc r ⟨rfl, hb, ry⟩
theorem KT.keeps {H H' : Hp} {kvs : List (List Key × V)} {xs : List (List Key × Addr × Value)} (r : KT H kvs xs) (ht : ∀ b ys, H b = some (.tup ys) → H' b = some (.tup ys)) : KT H' kvs xs :=
  Paired.mapP r fun _ _ z => ⟨z.1, ht _ _ z.2.1, z.2.2⟩

section
variable {P : Program} {w : World} {H : Hp} {h : Heap} {a : Addr}
end

/-- what the dict at a holds at the key y -/
def DGet (H : Hp) (a : Addr) (y : V) (r : Option V) : Prop :=
  (∃ kvs k, Rd H a (.dK kvs) ∧ y = kV k ∧ r = valV kvs k) ∨ ∃ kvs k b, Rd H a (.dT kvs) ∧ y = .ref b ∧ H b = some (.tup (k.map kV)) ∧ r = valV kvs k
/-- the heap behind a[y] = v -/
def DPut (H : Hp) (a : Addr) (y v : V) (H' : Hp) : Prop :=
  (∃ kvs k, H a = some (.dK kvs) ∧ y = kV k ∧ kvs.length < sizeLine ∧ H' = upd H a (.dK (putK kvs k v))) ∨
  ∃ kvs k b, H a = some (.dT kvs) ∧ y = .ref b ∧ H b = some (.tup (k.map kV)) ∧ kvs.length < sizeLine ∧ H' = upd H a (.dT (putK kvs k v))
theorem DGet.k {H : Hp} {a : Addr} {kvs : List (Key × V)} {k : Key} (e : H a = some (.dK kvs)) : DGet H a (kV k) (valV kvs k) := .inl ⟨kvs, k, .inl e, rfl, rfl⟩
theorem DGet.t {H : Hp} {a b : Addr} {kvs : List (List Key × V)} {k : List Key} (e : H a = some (.dT kvs)) (eb : H b = some (.tup (k.map kV))) : DGet H a (.ref b) (valV kvs k) := .inr ⟨kvs, k, b, .inl e, rfl, eb, rfl⟩
theorem DPut.k {H : Hp} {a : Addr} {kvs : List (Key × V)} {k : Key} {v : V} (e : H a = some (.dK kvs)) (hl : kvs.length < sizeLine) : DPut H a (kV k) v (upd H a (.dK (putK kvs k v))) := .inl ⟨kvs, k, e, rfl, hl, rfl⟩
theorem DPut.t {H : Hp} {a b : Addr} {kvs : List (List Key × V)} {k : List Key} {v : V} (e : H a = some (.dT kvs)) (eb : H b = some (.tup (k.map kV))) (hl : kvs.length < sizeLine) :
    DPut H a (.ref b) v (upd H a (.dT (putK kvs k v))) := .inr ⟨kvs, k, b, e, rfl, eb, hl, rfl⟩


section
variable {X : Cx} {pins : List (Addr × Obj)} {σ : St} {H : Hp} {s : Shared} {a : Addr} {y v : V} {u r : Value} {o : Option V} {A : Around} {E : Value → Shared → Prop}


end

section
variable {X : Cx} {pins : List (Addr × Obj)} {σ : St} {H : Hp} {s : Shared} {a : Addr} {kvs : List (Key × V)} {k : Key} {u : Value} {A : Around} {E : Value → Shared → Prop}
end


/-! ### readings and rules -/
/-- the element of a subscription, not a slice -/
def NoSl (i : Expr) : Prop := ∀ ov iv, subscripted i false ov iv = operate [ov, iv] (getItem ov iv)


/-- d[y] -/
def tDGet (td ty : TE) : TE := fun σ H Q => td σ H fun x H1 => ty σ H1 fun y H2 => ∃ a v, x = .ref a ∧ DGet H2 a y (some v) ∧ Q v H2
/-- y in d, y not in d -/
def tDIn (ty td : TE) : TE := fun σ H Q => ty σ H fun y H1 => td σ H1 fun x H2 => ∃ a o, x = .ref a ∧ DGet H2 a y o ∧ Q (.bl o.isSome) H2
def tDNotIn (ty td : TE) : TE := fun σ H Q => ty σ H fun y H1 => td σ H1 fun x H2 => ∃ a o, x = .ref a ∧ DGet H2 a y o ∧ Q (.bl (!o.isSome)) H2
/-- d[y] = v -/
def sDPut (td ty tv : TE) : TS := fun D σ H => tv σ H fun v H1 => td σ H1 fun x H2 => ty σ H2 fun y H3 => ∃ a H4, x = .ref a ∧ DPut H3 a y v H4 ∧ D.nx σ H4
/-- d[y] op= v -/
def sDAug (td ty tv : TE) (rd : V → V → Hp → VK → Prop) : TS := fun D σ H => td σ H fun x H1 => ty σ H1 fun y H2 => ∃ a v, x = .ref a ∧ DGet H2 a y (some v) ∧
  tv σ H2 fun y2 H3 => rd v y2 H3 fun z H4 => ∃ H5, DPut H4 a y z H5 ∧ D.nx σ H5
/-- del d[y] -/
def sDDel (td ty : TE) : TS := fun D σ H => td σ H fun x H1 => ty σ H1 fun y H2 => ∃ a kvs k, x = .ref a ∧ H2 a = some (.dK kvs) ∧ y = kV k ∧ (valV kvs k).isSome = true ∧ D.nx σ (upd H2 a (.dK (dropK kvs k)))

section
variable {X : Cx} {o i e value : Expr} {pos pos' tpos : Pos} {td ty tv : TE}
end


/-! ### displays -/
/-- {}, to be a dict of the kind that is wanted -/
def tDNewK : TE := fun _ H Q => ∀ p, H p = none → Q (.ref p) (upd H p (.dK []))
def tDNewT : TE := fun _ H Q => ∀ p, H p = none → Q (.ref p) (upd H p (.dT []))
section
variable {X : Cx} {pos : Pos}
end

/-- the pairs of a display, from the left -/
def tPairs : List (TE × TE) → St → Hp → (List (V × V) → Hp → Prop) → Prop
  | [], _, H, Q => Q [] H
  | (tk, tv) :: r, σ, H, Q => tk σ H fun x H1 => tv σ H1 fun y H2 => tPairs r σ H2 fun ps H3 => Q ((x, y) :: ps) H3
abbrev VV : List (V × V) → List (Value × Value) → Prop := Paired fun p q => RelV p.1 q.1 ∧ RelV p.2 q.2
def PPs (X : Cx) (pos : Pos) (keys : List (Option Expr)) (values : List Expr) (trs : List (TE × TE)) : Prop :=
  ∀ (pins : List (Addr × Obj)) (s : Shared) (σ : St) (H : Hp) (Q : List (V × V) → Hp → Prop), Inv X pins σ H s → tPairs trs σ H Q →
    wpAny (model X.prog X.w) X.A (evalPairs (pairTrees keys values X.env pos)) (fun vs s' => ∃ ps H', Inv X pins σ H' s' ∧ VV ps vs ∧ Q ps H') X.xe s

def mergeK (kvs more : List (Key × V)) : List (Key × V) := more.foldl (fun acc kv => putK acc kv.1 kv.2) kvs
/-- {k: v, ..} with keys ints and texts; the new dict stands empty while the pairs are made -/
def tDisp (trs : List (TE × TE)) : TE := fun σ H Q => ∀ p, H p = none → tPairs trs σ (upd H p (.dK [])) fun ps H2 => H2 p = some (.dK []) ∧ ∃ kvs : List (Key × V), ps = kvs.map (fun kv => (kV kv.1, kv.2)) ∧ kvs.length ≤ 15 ∧ Q (.ref p) (upd H2 p (.dK (mergeK [] kvs)))


/-! ### methods -/
/-- a method call o.m(e) of a built-in, with one argument: what must be seen of the text -/
structure M1 (X : Cx) (o : Expr) (m : Str) (apos : Pos) (e : Expr) (cpos : Pos) : Prop where
  base : attributeBase o m X.env (eval o X.env) = eval o X.env
  few : ((backTo cpos (starEach [e] X.env)).all (fun x => !x.1) && (backToKw cpos (keywordEach [] X.env)).all (fun x => x.1.isSome)
    && decide (([e] : List Expr).length + ([] : List Keyword).length + (if ([] : List Keyword).isEmpty then 0 else 1) < 30)) = true
  line : (apos.endLine == cpos.line) = true
  trees : backTo cpos (starEach [e] X.env) = [(false, eval e X.env)]
structure M2 (X : Cx) (o : Expr) (m : Str) (apos : Pos) (e f : Expr) (cpos : Pos) : Prop where
  base : attributeBase o m X.env (eval o X.env) = eval o X.env
  few : ((backTo cpos (starEach [e, f] X.env)).all (fun x => !x.1) && (backToKw cpos (keywordEach [] X.env)).all (fun x => x.1.isSome)
    && decide (([e, f] : List Expr).length + ([] : List Keyword).length + (if ([] : List Keyword).isEmpty then 0 else 1) < 30)) = true
  line : (apos.endLine == cpos.line) = true
  trees : backTo cpos (starEach [e, f] X.env) = [(false, eval e X.env), (false, eval f X.env)]

/-- a is a dict, whatever its keys -/
def IsD (H : Hp) (a : Addr) : Prop := (∃ kvs, Rd H a (.dK kvs)) ∨ ∃ kvs, Rd H a (.dT kvs)

section
variable {X : Cx} {pins : List (Addr × Obj)} {σ : St} {H : Hp} {s : Shared} {a : Addr} {y d : V} {u r : Value} {o : Option V} {A : Around} {E : Value → Shared → Prop}
end

def tDGet1 (td ty : TE) : TE := fun σ H Q => td σ H fun x H1 => ∃ a, x = .ref a ∧ IsD H1 a ∧ ty σ H1 fun y H2 => ∃ o, DGet H2 a y o ∧ Q (o.getD .non) H2
def tDGet2 (td ty tx : TE) : TE := fun σ H Q => td σ H fun x H1 => ∃ a, x = .ref a ∧ IsD H1 a ∧ ty σ H1 fun y H2 => tx σ H2 fun z H3 => ∃ o, DGet H3 a y o ∧ Q (o.getD z) H3
/-- d.pop(k): there; d.pop(k, x): there or not -/
def tDPop1 (td ty : TE) : TE := fun σ H Q => td σ H fun x H1 => ∃ a, x = .ref a ∧ IsD H1 a ∧ ty σ H1 fun y H2 => ∃ kvs k v, H2 a = some (.dK kvs) ∧ y = kV k ∧ valV kvs k = some v ∧ Q v (upd H2 a (.dK (dropK kvs k)))
def tDPop2 (td ty tx : TE) : TE := fun σ H Q => td σ H fun x H1 => ∃ a, x = .ref a ∧ IsD H1 a ∧ ty σ H1 fun y H2 => tx σ H2 fun z H3 => ∃ kvs k, H3 a = some (.dK kvs) ∧ y = kV k ∧
  (∀ v, valV kvs k = some v → Q v (upd H3 a (.dK (dropK kvs k)))) ∧ (valV kvs k = none → Q z H3)
section
variable {X : Cx} {o e f : Expr} {apos cpos : Pos} {td ty tx : TE}
end

/-! ### dict(d): a copy -/
section
variable {X : Cx} {pins : List (Addr × Obj)} {σ : St} {H : Hp} {s : Shared} {a : Addr} {kvs : List (Key × V)} {A : Around} {E : Value → Shared → Prop}
end


section
variable {X : Cx} {pins : List (Addr × Obj)} {σ : St} {H : Hp} {s : Shared} {a : Addr} {y : V} {u : Value} {A : Around} {E : Value → Shared → Prop}
end
end L2

namespace L2
open PySem PySem.Spec PyProof.Rows


section
variable {prog : Program} {w : World} {A : Around} {E : Value → Shared → Prop}


end

section
variable {X : Cx}
end
end L2

namespace L2
open PySem PySem.Spec PyProof.Rows


section
variable {X : Cx} {pins : List (Addr × Obj)} {σ : St} {H : Hp} {s : Shared} {h' : Heap}

/-! ### locking a thing while a statement runs -/
end
/-- the statement runs while the thing at d is locked (read, not written); d and what stands there are the reading's choice -/
def tLock (t : TS) : TS := fun D σ H => ∃ d u, H d = some u ∧ Mut (some u) ∧ ∀ od, t ⟨fun σ' H' => H' d = some (.frz od u) ∧ D.nx σ' (upd H' d u), fun v H' => H' d = some (.frz od u) ∧ D.rt v (upd H' d u), fun σ' H' => H' d = some (.frz od u) ∧ D.bk σ' (upd H' d u), fun σ' H' => H' d = some (.frz od u) ∧ D.ct σ' (upd H' d u)⟩ σ (upd H d (.frz od u))
def tLockE (t : TE) : TE := fun σ H Q => ∃ d u, H d = some u ∧ Mut (some u) ∧ ∀ od, t σ (upd H d (.frz od u)) fun v H' => H' d = some (.frz od u) ∧ Q v (upd H' d u)
section
variable {X : Cx}

/-! ### one iterator just laid -/
theorem pi_one {tg : Expr} {pins : List (Addr × Obj)} {σ : St} {H : Hp} {s : Shared} {R : It → Hp → Prop} {J : It} {tn : Nat → Heap → Prop} {tk : Nat} (I : Inv X pins σ H s) (o : Obj)
    (T : Turn X.prog X.w X.K tg J [s.heap.objs.size] s.heap.objs.size tn) (st : tn 0 (s.heap.push o)) (q : R J H) : PIE X pins σ tg R (.ref s.heap.objs.size) { s with heap := s.heap.push o, toks := tk } := by
  refine ⟨s.heap.objs.size, [s.heap.objs.size], tn, J, H, rfl, I.kept fun b ob e => Heap.get?_push_of_some _ e, T, st, fun b hb => ?_, q⟩
  have e : b = s.heap.objs.size := by simpa using hb
  subst e
  exact I.fpOk (Nat.le_refl _) (I.hok.fresh (Nat.le_refl _))
end

/-! ### range with a step -/
/-- lo, lo + c, .. (n of them) -/
def Itc (lo c : Int) (n : Nat) : It := ⟨fun i _ => i < n, fun i H x H' => H' = H ∧ x = .int (lo + (i : Nat) * c), fun i _ => n ≤ i⟩
theorem turn_rangeC {P : Program} {w : World} {K : PySem.W.Frag} {tg : Expr} (it : Addr) (lo c : Int) (n : Nat) : Turn P w K tg (Itc lo c n) [it] it (fun i h => IsRangeIter h it (lo + (i : Nat) * c) ((n : Int) - (i : Nat)) c) where
  mem := by simp
  obj := fun i h st b hb => by
    have e : b = it := by simpa using hb
    subst e
    exact ⟨_, st, fun v z => nomatch z⟩
  keep := fun i h h' st k => k it (by simp) _ st
  item := by
    intro X hP hw hK hc i pins s σ H E I hf st hg
    subst hP hw hK
    obtain ⟨f0, f1, f2, f3, f4, f5⟩ := hf it (by simp)
    have W := Walks.range (prog := X.prog) (w := X.w) (I.ok.hd hc) it lo c n
    refine W.item i s _ _ hg st fun v h' tk hv st' kk => ?_
    obtain ⟨t, rfl⟩ := hv
    have I1 : Inv X pins σ H { s with heap := h', toks := tk } := I.turned (fun b o hb e => kk b o (by simpa using hb) e) f0 f1 f3 f4 f5
    exact ⟨_, rfl, go_of (s := { s with heap := h', toks := tk }) (n := "range_iterator") st' rfl rfl (by decide) ⟨.int (lo + (i : Nat) * c), H, I1, ⟨t, rfl⟩, ⟨rfl, rfl⟩, st', fun b hb => (hf b hb).1⟩⟩
  done := by
    intro X hP hw hK hc i pins s σ H E I hf st hg
    subst hP hw hK
    obtain ⟨f0, f1, f2, f3, f4, f5⟩ := hf it (by simp)
    exact wpAny_pyNext_range_end (I.ok.hd hc) st (by have : n ≤ i := hg; omega) fun h' eb => ⟨rfl, I.turned (t' := s.toks) (fun b o hb e => eb b o hb e) f0 f1 f3 f4 f5⟩
  self := fun A i s Q E st h => wpAny_pyIter_rangeiter st h
/-- range(i, j, c): small bounds, n items -/
def RgC (i j c : Int) (n : Nat) : Prop := c ≠ 0 ∧ c.natAbs < 1073741824 ∧ Builtin.Range.small i j c = true ∧ Builtin.Range.rangeSize i j c = n
theorem RgC.neg {i j : Int} (ha : -(2 ^ 62) ≤ i) (ha' : i < 2 ^ 62) (hb : -(2 ^ 62) ≤ j) (hb' : j < 2 ^ 62) : RgC i j (-1) (i - j).toNat :=
  ⟨by decide, by decide, PySem.W.small_down ha ha' hb hb', PySem.W.rangeSize_downNat i j⟩
def iRng3 (ta : TA) : TI := fun σ H R => ta σ H fun vs H1 => ∃ (i j c : Int) (n : Nat), vs = [.int i, .int j, .int c] ∧ RgC i j c n ∧ R (Itc i c n) H1
section
variable {X : Cx} {tg : Expr}
theorem pi_range3 {a b c : Expr} {ta : TA} {p pos : Pos} (hg : Gl X "range") (hm : X.mg "range" = none) (ha : PA X [a, b, c] ta)
    (hs : starEach [a, b, c] X.env = (false, eval a X.env) :: starEach [b, c] X.env := by rfl) (hpl : (backTo pos (starEach [b, c] X.env)).any (·.1) = false := by rfl) :
    PI X tg (.Call (.Name "range" p) [a, b, c] [] pos) (iRng3 ta) := by
  intro pins s σ H R I h
  refine Call_ (ld_blt I hg hm boot_range (PyProof.Rows.callWith_type1 (thn (ha pos pins s σ H _ I h) fun us s1 ⟨vs, H1, I1, r1, q1⟩ => ?_) hs hpl))
  obtain ⟨i, j, k, n, e, ⟨c0, c1, c2, c3⟩, q⟩ := q1
  subst e
  cases r1 with
  | cons r rr =>
    cases rr with
    | cons r' rr =>
      cases rr with
      | cons r'' rr =>
        cases rr
        obtain ⟨t, rfl⟩ := r
        obtain ⟨t', rfl⟩ := r'
        obtain ⟨t'', rfl⟩ := r''
        refine call_range_3 c0 ?_ (.inl (PyProof.noPylong_small c1))
        refine wpAny_pyIter_range (IsRange.new ..) c2 ?_
        have I2 : Inv X pins σ H1 { s1 with heap := s1.heap.push { cls := .type "range", data := .fields #[.int i t, .int j t', .int k t''] } } := I1.kept (t' := s1.toks) fun b o e => Heap.get?_push_of_some _ e
        refine pi_one (tk := s1.toks) I2 _ (turn_rangeC _ i k n) ?_ q
        have e1 : i + ((0 : Nat) : Int) * k = i := by simp
        have e2 : (n : Int) - ((0 : Nat) : Int) = Builtin.Range.rangeSize i j k := by rw [c3]; simp
        show IsRangeIter _ _ (i + ((0 : Nat) : Int) * k) ((n : Int) - ((0 : Nat) : Int)) k
        rw [e1, e2]
        exact Heap.get?_push_size _ rfl
end
/-- the turns of a step range, for the for loop -/
theorem for_rangeC {lo c : Int} {n : Nat} {g : TG} {tb : TS} {D : Ends} {σ : St} {H : Hp} (Pv : Nat → St → Hp → Prop) (h0 : Pv 0 σ H)
    (hs : ∀ i σ H, i < n → Pv i σ H → g (.int (lo + (i : Nat) * c)) σ H fun σ2 H2 => tb { D with nx := Pv (i + 1), ct := Pv (i + 1), bk := D.nx } σ2 H2) (hd : ∀ σ H, Pv n σ H → D.nx σ H) :
    ∃ W : Nat → Nat → St → Hp → Prop, (∃ m, W 0 m σ H) ∧ ∀ i m σ H, W i m σ H →
      ((Itc lo c n).stop i H ∧ D.nx σ H) ∨ ((Itc lo c n).go i H ∧ ∃ N : St → Hp → Prop, (∀ σ' H', N σ' H' → ∃ m', m' < m ∧ W (i + 1) m' σ' H') ∧ ∀ x H', (Itc lo c n).yld i H x H' → g x σ H' fun σ2 H2 => tb { D with nx := N, ct := N, bk := D.nx } σ2 H2) := by
  refine ⟨fun i m σ H => m = n - i ∧ i ≤ n ∧ Pv i σ H, ⟨n, by simp, Nat.zero_le _, h0⟩, ?_⟩
  rintro i m σ H ⟨rfl, hi, p⟩
  by_cases hlt : i < n
  · refine .inr ⟨hlt, Pv (i + 1), fun σ' H' p' => ⟨n - (i + 1), by omega, rfl, hlt, p'⟩, fun x H' y => ?_⟩
    obtain ⟨e, y⟩ := y
    subst e y
    exact hs i σ _ hlt p
  · have e : i = n := by omega
    subst e
    exact .inl ⟨Nat.le_refl _, hd σ H p⟩

/-! ### reversed(list) -/
/-- the list at a (n items at the start, which the loop leaves there), from its end -/
def Itv (K : PySem.W.Frag) (a : Addr) (n : Nat) : It :=
  ⟨fun i H => i < n ∧ ∃ (xs : List V) (x : V), SqL K H a xs ∧ xs[n - 1 - i]? = some x, fun i H x H' => H' = H ∧ ∀ xs, SqL K H a xs → xs[n - 1 - i]? = some x, fun i _ => n ≤ i⟩
def iRev (K : PySem.W.Frag) (ta : TA) : TI := fun σ H R => ta σ H fun vs H1 => ∃ (a : Addr) (xs : List V), vs = [.ref a] ∧ SqL K H1 a xs ∧ R (Itv K a xs.length) H1
section
variable {X : Cx} {tg : Expr}
end

/-! ### a str -/
def Its (x : Str) : It := ⟨fun i _ => i < x.cps.size, fun i H v H' => H' = H ∧ ∃ c, x.cps[i]? = some c ∧ v = .str ⟨#[c]⟩, fun i _ => x.cps.size ≤ i⟩
def iStr (te : TE) : TI := fun σ H R => te σ H fun v H1 => ∃ x, v = .str x ∧ R (Its x) H1

/-! ### a dict's keys: any dict's entries -/
section
variable {prog : Program} {w : World} {A : Around} {E : Value → Shared → Prop} {s : Shared}
end

/-! ### a locked dict -/
section
variable {X : Cx} {pins : List (Addr × Obj)} {σ : St} {H : Hp} {s : Shared} {d : Addr} {o : Obj}
end

/-- the keys of the locked dict at d, in their order -/
def Itk (d : Addr) (o : Obj) (kvs : List (Key × V)) : It :=
  ⟨fun i H => H d = some (.frz o (.dK kvs)) ∧ i < kvs.length, fun i H x H' => H' = H ∧ ∃ k v, kvs[i]? = some (k, v) ∧ x = kV k, fun i H => H d = some (.frz o (.dK kvs)) ∧ kvs.length ≤ i⟩
/-- .. of tuple keys: the key's own tuple -/
def Itkt (d : Addr) (o : Obj) (kvs : List (List Key × V)) : It :=
  ⟨fun i H => H d = some (.frz o (.dT kvs)) ∧ i < kvs.length, fun i H x H' => H' = H ∧ ∃ (k : List Key) (v : V) (q : Addr), kvs[i]? = some (k, v) ∧ x = .ref q ∧ H q = some (.tup (k.map kV)), fun i H => H d = some (.frz o (.dT kvs)) ∧ kvs.length ≤ i⟩
/-- the values -/
def Itd (d : Addr) (o : Obj) (kvs : List (Key × V)) : It :=
  ⟨fun i H => H d = some (.frz o (.dK kvs)) ∧ i < kvs.length, fun i H x H' => H' = H ∧ ∃ k, kvs[i]? = some (k, x), fun i H => H d = some (.frz o (.dK kvs)) ∧ kvs.length ≤ i⟩
/-- the pairs, each a new tuple -/
def Iti (d : Addr) (o : Obj) (kvs : List (Key × V)) : It :=
  ⟨fun i H => H d = some (.frz o (.dK kvs)) ∧ i < kvs.length, fun i H x H' => ∃ T k v, kvs[i]? = some (k, v) ∧ x = .ref T ∧ H T = none ∧ H' = upd H T (.tup [kV k, v]), fun i H => H d = some (.frz o (.dK kvs)) ∧ kvs.length ≤ i⟩
section
variable {P : Program} {w : World} {K : PySem.W.Frag} {tg : Expr} {d : Addr} {o : Obj} {es : Array DictEntry} {ep : Nat}
end

/-! ### for k in d, d.keys(), d.values(), d.items() -/
/-- the dict is locked (tLock, or by the caller) -/
def iKeys (td : TE) : TI := fun σ H R => td σ H fun x H1 => ∃ d o, x = .ref d ∧ ((∃ kvs, H1 d = some (.frz o (.dK kvs)) ∧ R (Itk d o kvs) H1) ∨ ∃ kvs, H1 d = some (.frz o (.dT kvs)) ∧ R (Itkt d o kvs) H1)
def iVals (td : TE) : TI := fun σ H R => td σ H fun x H1 => ∃ d o kvs, x = .ref d ∧ H1 d = some (.frz o (.dK kvs)) ∧ R (Itd d o kvs) H1
def iItems (td : TE) : TI := fun σ H R => td σ H fun x H1 => ∃ d o kvs, x = .ref d ∧ H1 d = some (.frz o (.dK kvs)) ∧ R (Iti d o kvs) H1
def iKeysM (td : TE) : TI := fun σ H R => td σ H fun x H1 => ∃ d o kvs, x = .ref d ∧ H1 d = some (.frz o (.dK kvs)) ∧ R (Itk d o kvs) H1
section
variable {X : Cx} {tg e : Expr} {td : TE} {apos cpos : Pos}
end

/-! ### enumerate(list) -/
/-- the list at a as it stands at each turn, each item in a new pair -/
def Ite (K : PySem.W.Frag) (a : Addr) : It :=
  ⟨fun i H => ∃ (xs : List V) (x : V), SqL K H a xs ∧ xs[i]? = some x, fun i H v H' => ∃ T x, v = .ref T ∧ H T = none ∧ H' = upd H T (.tup [.int (i : Nat), x]) ∧ ∀ xs, SqL K H a xs → xs[i]? = some x, fun i H => ∃ xs : List V, SqL K H a xs ∧ xs.length ≤ i⟩
def iEnum (K : PySem.W.Frag) (ta : TA) : TI := fun σ H R => ta σ H fun vs H1 => ∃ a xs, vs = [.ref a] ∧ SqL K H1 a xs ∧ R (Ite K a) H1
/-! ### zip(list, list) -/
/-- the lists at a and b as they stand at each turn, the items in new pairs -/
def Itz (K : PySem.W.Frag) (a b : Addr) : It :=
  ⟨fun i H => ∃ (xs ys : List V) (x y : V), SqL K H a xs ∧ SqL K H b ys ∧ xs[i]? = some x ∧ ys[i]? = some y,
    fun i H v H' => ∃ T x y, v = .ref T ∧ H T = none ∧ H' = upd H T (.tup [x, y]) ∧ (∀ xs, SqL K H a xs → xs[i]? = some x) ∧ ∀ ys, SqL K H b ys → ys[i]? = some y,
    fun i H => ∃ xs ys : List V, SqL K H a xs ∧ SqL K H b ys ∧ (xs.length ≤ i ∨ ys.length ≤ i)⟩
def iZip (K : PySem.W.Frag) (ta : TA) : TI := fun σ H R => ta σ H fun vs H1 => ∃ a b xs ys, vs = [.ref a, .ref b] ∧ SqL K H1 a xs ∧ SqL K H1 b ys ∧ R (Itz K a b) H1
end L2

section 
namespace Bits
open PySem PyProof.Rows








end Bits
end 

section 
namespace TL
open PySem PySem.Builtin PySem.Builtin.Str PySem.StrLaws

abbrev tl (x : Str) : List Nat := x.cps.toList
theorem len_tl (x : Str) : x.length = (tl x).length := by simp [tl, Str.length]

/-! ### the list functions -/
/-- S stands at the head of l -/
def pre (S l : List Nat) : Bool := l.take S.length == S
/-- l cut at each S from the left; k signs are still to be passed over -/
def spl (S : List Nat) : Nat → List Nat → List Nat → List (List Nat)
  | _, acc, [] => [acc]
  | 0, acc, c :: r => if pre S (c :: r) = true then acc :: spl S (S.length - 1) [] r else spl S 0 (acc ++ [c]) r
  | k + 1, acc, _ :: r => spl S k acc r
/-- what stands before the first S, and behind it -/
def par (S : List Nat) : List Nat → List Nat → Option (List Nat × List Nat)
  | _, [] => none
  | acc, c :: r => if pre S (c :: r) = true then some (acc, (c :: r).drop S.length) else par S (acc ++ [c]) r




/-! ### the model's split and partition are these -/
theorem len1 {y : Str} (hy : tl y ≠ []) : 1 ≤ y.length := by
  have e2 : 0 < (tl y).length := List.length_pos_iff.mpr hy
  rw [len_tl y]
  exact e2




/-! ### computing spl and par -/

/-- joined lists -/
def joinL (S : List Nat) : List (List Nat) → List Nat
  | [] => []
  | [p] => p
  | p :: q :: r => p ++ (S ++ joinL S (q :: r))

/-! ### digits -/
/-- the signs of a number -/
def numL (n : Nat) : List Nat := (Nat.toDigits 10 n).map Char.toNat

/-! ### words: x.split() -/
def wstep (st : List (List Nat) × List Nat) (c : Nat) : List (List Nat) × List Nat :=
  if Unicode.isSpace c = true then (if st.2 = [] then st else (st.1 ++ [st.2], [])) else (st.1, st.2 ++ [c])
def wfin (st : List (List Nat) × List Nat) : List (List Nat) := if st.2 = [] then st.1 else st.1 ++ [st.2]
end TL
end 

namespace L2
open PySem PySem.Spec PyProof.Rows



/-- a new list of texts, tracked -/
def rNewStrs (ys : List Str) : Hp → VK → Prop := fun H Q => ∀ p, H p = none → Q (.ref p) (upd H p (.lst (ys.map V.str)))

section
variable {X : Cx} {pins : List (Addr × Obj)} {σ : St} {H : Hp} {s : Shared} {Q : VK}
end

section
variable {X : Cx}





/-! ### of a text alone -/

/-! ### of a text and a text -/

end

section
variable {X : Cx} {o e : Expr} {to te : TE}
def tM0 (r : V → List V → Hp → VK → Prop) (to : TE) : TE := fun σ H Q => to σ H fun x H1 => (∃ a, x = .str a) ∧ r x [] H1 Q
def tM1 (r : V → List V → Hp → VK → Prop) (to te : TE) : TE := fun σ H Q => to σ H fun x H1 => (∃ a, x = .str a) ∧ te σ H1 fun y H2 => r x [y] H2 Q

end
end L2

namespace L2
open PySem PySem.Spec PyProof.Rows

section
variable {X : Cx}
end

/-! ### slices of a text -/
theorem IsPart.raw {v : Value} {o : Option Int} (p : IsPart v o) : ∃ l : Option (Int × Tok), v = partValue l ∧ l.map (·.1) = o := by
  cases p with
  | none => exact ⟨none, rfl, rfl⟩
  | int i t => exact ⟨some (i, t), rfl, rfl⟩

/-- a part, clipped, as the text's slice reckons it -/
def clipS (n d : Nat) : Option Int → Int
  | none => (d : Int)
  | some i => max 0 (min (if i < 0 then i + (n : Int) else i) (n : Int))

/-- z[lo:hi] -/
def cutS (z : Str) (lo hi : Option Int) : Str :=
  ⟨((z.cps.toList.drop (HT.sIx z.length 0 lo)).take (HT.sIx z.length z.length hi - HT.sIx z.length 0 lo)).toArray⟩
def rSlS : V → Option Int → Option Int → Hp → VK → Prop := fun x lo hi H Q => ∃ z, x = .str z ∧ z.length ≤ sizeLine ∧ Q (.str (cutS z lo hi)) H
end L2

namespace Att
open PySem PySem.W PySem.Calls PyProof.Rows

/-! ### the script -/
theorem ints_of_wellAll {P : Params} {h : Heap} : ∀ (ns : List Int) (vs : List Value), WellAll P h vs (ns.map WData.int) → IntsAre vs ns := by
  intro ns
  induction ns with
  | nil =>
    intro vs w
    rw [List.map_nil] at w
    cases w
    exact .nil
  | cons n ns ih =>
    intro vs w
    rw [List.map_cons] at w
    cases w with
    | cons a b =>
      cases a
      exact .cons _ _ (ih _ b)

theorem script_of {l : OpenLaw} {n : Nat} (hn : l.most = some n) {P : Params} {h : Heap} {args : List WData} {vals : List Value}
    (hpre : l.row.toRowW.claim.pre args = true) (hwl : WellAll P h vals args) :
    ∃ a vs ns, vals = [Value.ref a] ∧ args = [WData.list (ns.map WData.int)] ∧ h.get? a = some { cls := .type "list", data := .seq vs.toArray } ∧ IntsAre vs ns ∧ ns.length ≤ n := by
  have hsh : WShape.hasAll [] args [.list .int] = true := (pre_splitW hpre).1
  have hc : l.pre.holds [] { args := args } = true := (pre_splitW hpre).2
  obtain ⟨d, r, rfl, h1, h2⟩ := hasAllW_cons hsh
  obtain rfl := hasAllW_nil h2
  obtain ⟨xs, rfl, h3⟩ := hasW_list h1
  obtain ⟨ns, rfl⟩ := items_int h3
  have hlen : ns.length ≤ n := by
    unfold OpenLaw.pre at hc
    have h4 : (WTm.not (.lt (.lit (.int (n : Int))) (.len (.arg 0)))).holds [] { args := [.list (ns.map .int)] } = true := by
      have h4 := (holds_andW hc).1
      rw [hn] at h4
      exact h4
    have h5 := condW_of h4 (w_not (w_lt w_lit (w_len_list (w_arg rfl))))
    rw [List.length_map] at h5
    refine Nat.le_of_not_lt fun q => ?_
    have q' : (n : Int) < ((ns.length : Nat) : Int) := by omega
    first
      | (rw [decide_eq_true q'] at h5; exact absurd h5 (by decide))
      | (simp at h5; omega)
  cases hwl with
  | cons w1 w2 =>
    cases w2
    cases w1 with
    | list ho hall => exact ⟨_, _, ns, rfl, rfl, ho, ints_of_wellAll ns _ hall, hlen⟩

theorem post_true (l : OpenLaw) (args : List WData) : l.row.toRowW.claim.post args (.bool true) args = true :=
  postW_of (r := l.row.toRowW) (X := (true == true))
    (show WShape.has [] (.bool true) .bool = true by first | rfl | decide | simp [WShape.has, WShape.arms, WShape.armsAll])
    (show (WTm.eq .res (.lit (.bool true))).value [] { args := args, res := some (.bool true), after := args } = some (.bool (true == true)) from w_eq_bool (w_res rfl) w_lit) rfl

/-! ### the attachment: holds_open's last premise (the goal 'hc' behind k_head) from a wpAny of the law's body -/

/-- the same from a codeAny of the CALL (for a layer whose function contracts speak of calls) -/
theorem attach_call {l : OpenLaw} {n : Nat} {q : Program} {loose : List Str} {XP : (Str → Option Value) → Heap → Prop} {YP : World → Heap → Prop} {d : DefRec}
    (hn : l.most = some n) (hdf : d.params.defaults = [])
    (call : ∀ (w : World) (s₀ s₁ : Shared) (mg mb : Str → Option Value) (fa : Addr) (o : Obj) (pm cd doc : Value) (a : Addr) (vs : List Value) (ns : List Int),
      Ground q loose [] XP w s₀ mg mb s₁.heap → YP w s₁.heap →
      s₁.heap.get? fa = some o → o.data = .func (docDef d.name d.params d.body d.scope pm cd doc) → s₁.heap.CodeRec cd d.name → mg d.name = some (.ref fa) →
      s₁.heap.get? a = some { cls := .type "list", data := .seq vs.toArray } → IntsAre vs ns → ns.length ≤ n → s₁.gens = #[] →
      codeAny (model l.prog w) callerA (.call (.ref fa) ⟨[.ref a], []⟩) (fun r s' => r = .ok (.ret (.bool true)) ∧ OldK s₁.heap s'.heap ∧ s'.os = s₁.os ∧ AllBare s'.gens) s₁) :
    WalkO q loose XP YP l.row.toRowW d [] (fun f vs => PySem.call f vs) := by
  intro w s₀ s₁ mg mb G Y fa o pm cd doc dV kV ho hd hcd hD hmg hg args vals as hpre hlay hrd hwl hlo
  obtain rfl : dV = .none := Dflts.none hD hdf
  obtain rfl : kV = .none := Dflts.noKw hD
  obtain ⟨a, vs, ns, rfl, rfl, hobj, hints, hlen⟩ := script_of hn hpre hwl
  refine enter_call (codeAny_mono (call w s₀ s₁ mg mb fa o pm cd doc a vs ns G Y ho (fd_plain hd) hcd hmg hobj hints hlen hg) fun r s' hq => ?_)
  obtain ⟨rfl, h2, h3, h4⟩ := hq
  exact ⟨.inl ⟨.bool true, .bool true, [], rfl, fun _ => rfl, .bool true, post_true l _, fun _ => ⟨List.Pairwise.nil, fun _ hm => (nomatch hm)⟩⟩, h2, h3, h4⟩


/-! ### rules over ANY heap (no ledger) from facts about the written part K: the library's own take a ledger (News) for what they write -/
section
variable {prog : Program} {w : World} {A : Around} {E : Value → Shared → Prop} {s : Shared} {K : Frag}





/-! the whole heap as the ledger: makes every rule that writes through a ledger a rule over any heap -/
def noObjs (h : Heap) : Heap := { h with objs := #[] }
def ledger (h : Heap) (L d : Addr) : List (Addr × Obj) := (List.range h.objs.size).filterMap fun a => if a = L ∨ a = d then none else (h.get? a).map fun o => (a, o)

end
end Att

namespace L2
open PySem PySem.Spec PyProof.Rows

theorem vals_ints : ∀ {vs : List Value} {ns : List Int}, IntsAre vs ns → Vals (ns.map V.int) vs
  | _, _, .nil => .nil
  | _, _, .cons n t h => .cons ⟨t, rfl⟩ (vals_ints h)

/-- nothing is tracked but the script, known to the object (or it is an object of the module) -/
def Only (H : Hp) : Prop := ∀ b, H b = none ∨ ∃ o xs, H b = some (.frz o (.lst xs))

/-- THE HEAD: the law's promise, at the heap behind the top. F, the promise of the law's def, may use that base is part of the heap (so K.In base, base.Ns mainGlobals mg stand in Mod) -/
theorem law_call {P : Program} {w : World} {K : PySem.W.Frag} {mg mb : Str → Option Value} {CX : CXT} {k : Nat} {fa a : Addr} {fd : FuncData} {x : Str} {sp : Sp} {s₁ : Shared} {vs : List Value} {ns : List Int}
    (KX : K.In s₁.heap) (hns : s₁.heap.Ns mainGlobals mg) (hb : s₁.heap.Ns builtinsNs mb) (hbb : ∀ x : Str, x ≠ "__name__" → mb x = bootBuiltins x) (hlim : s₁.heap.NoLimit) (hg : s₁.gens = #[])
    (ha : s₁.heap.get? a = some { cls := .type "list", data := .seq vs.toArray }) (hi : IntsAre vs ns) (hl : ns.length ≤ sizeLine) (hr : Room k callerA)
    (F : ∀ base : Heap, K.In base → base.Ns mainGlobals mg → FnOk P w K mg base CX k fa fd [x] sp) (hbind : ∀ (s : Shared) (u : Value), BindsTo s fd ⟨[u], []⟩ [(x, u)])
    (hsp : ∀ H : Hp, Only H → SqL K H a (ns.map V.int) → sp [.ref a] H (fun v _ => v = .bl true) fun _ _ _ => False)
    (hCX : ∀ H e s', CX [] H s₁ (fun _ _ _ => False) e s' → False) :
    codeAny (model P w) callerA (.call (.ref fa) ⟨[.ref a], []⟩) (fun r s' => r = .ok (.ret (.bool true)) ∧ OldK s₁.heap s'.heap ∧ s'.os = s₁.os ∧ AllBare s'.gens) s₁ := by
  have rv := vals_ints hi
  have lenV := hi.length
  -- from an abstract heap in which nothing but the script may be tracked
  have core : ∀ H : Hp, Only H → SqL K H a (ns.map V.int) → HOk P w H s₁.heap → (∀ b, H b ≠ none → b = a) → (H a ≠ none → K.lookup a = none) →
      codeAny (model P w) callerA (.call (.ref fa) ⟨[.ref a], []⟩) (fun r s' => r = .ok (.ret (.bool true)) ∧ OldK s₁.heap s'.heap ∧ s'.os = s₁.os ∧ AllBare s'.gens) s₁ := by
    intro H hO hS hok hA hK
    have base_of : ∀ {b : Addr} {o : Obj}, s₁.heap.get? b = some o → H b = none → (hidT s₁.heap H).get? b = some o := fun e n => hidT_get e n
    have noA : ∀ {b : Addr} {o : Obj} {es : Array DictEntry} {ep : Nat}, s₁.heap.get? b = some o → o.data = .dict es ep → H b = none := fun {b o es ep} e d => by
      cases q : H b with
      | none => rfl
      | some u =>
        have e' : b = a := hA b (by rw [q]; simp)
        subst e'
        rw [ha] at e; cases e
        have d' : Data.seq vs.toArray _ = Data.dict es ep := d
        cases d'
    have nsK : ∀ {b : Addr} {m : Str → Option Value}, s₁.heap.Ns b m → (hidT s₁.heap H).Ns b m := fun {b m} ⟨o, es, ep, e, d, r⟩ => ⟨o, es, ep, base_of e (noA e d), d, r⟩
    have hKb : K.In (hidT s₁.heap H) := fun b o e => base_of (KX b o e) (by
      cases q : H b with
      | none => rfl
      | some u =>
        have e' : b = a := hA b (by rw [q]; simp)
        subst e'
        rw [hK (by rw [q]; simp)] at e; cases e)
    have hM : Mod K mg (hidT s₁.heap H) := ⟨hKb, nsK hns, ⟨mb, nsK hb, hbb⟩, let ⟨mc, h1, h2⟩ := hlim; ⟨mc, nsK h1, h2⟩⟩
    have e0 : Env0 P w K mg (hidT s₁.heap H) callerA [] s₁ H := ⟨rfl, hM, fun b o e => of_hidT e, Nat.le_of_eq (hidT_size _ _), trivial, fun b hb => absurd (show b ∈ ([] : List Addr) from hb) (by simp), hok, .of_eq hg⟩
    refine codeAny_mono ((F _ hKb (nsK hns)).run callerA [] s₁ H ⟨[.ref a], []⟩ [.ref a] [.ref a] _ _ hr e0 (hbind s₁ (.ref a)) (.cons rfl .nil) (hsp H hO hS)) fun r s' h => ?_
    cases r with
    | error e => exact (hCX H e s' h).elim
    | ok fl =>
      cases fl with
      | next => exact False.elim h
      | brk => exact False.elim h
      | cont => exact False.elim h
      | ret u =>
        obtain ⟨v, H', os, bare, un, hok', r', q⟩ := h
        have q' : v = .bl true := q
        subst q'
        obtain rfl : u = Value.bool true := r'
        refine ⟨rfl, OldK.of_keep fun b o e => ?_, os, bare⟩
        cases q : H b with
        | none => exact un.keep b o e q (by intro z; exact absurd (show b ∈ ([] : List Addr) from z) (by simp)) (by simp)
        | some u =>
          rcases hO b with z | ⟨ob, xs, z⟩
          · rw [q] at z; cases z
          · have z2 := un.frzs b ob _ z
            obtain ⟨e1, _⟩ := hok b _ z
            obtain ⟨e2, _⟩ := hok' b _ z2
            rw [e] at e1; cases e1
            exact e2
  cases hk : K.lookup a with
  | some o =>
    -- the script is one of the module's own objects
    have e := KX a o hk
    rw [ha] at e
    cases e
    refine core (fun _ => none) (fun _ => .inl rfl) (.inr ⟨_, vs.toArray, _, hk, rfl, rfl, rfl, by rw [List.size_toArray, lenV]; exact hl, by simpa using rv⟩) (fun b u z => by have z' : (none : Option HO) = some u := z; cases z') (fun b z => absurd rfl z) fun z => absurd rfl z
  | none =>
    refine core (fun b => if b = a then some (.frz { cls := .type "list", data := .seq vs.toArray } (.lst (ns.map V.int))) else none) (fun b => ?_) (.inl (.inr ⟨{ cls := .type "list", data := .seq vs.toArray }, if_pos rfl⟩)) (fun b u z => ?_) (fun b z => ?_) fun _ => hk
    · by_cases hb : b = a
      · exact .inr ⟨_, _, if_pos hb⟩
      · exact .inl (if_neg hb)
    · by_cases hb : b = a
      · have z' := (if_pos hb).symm.trans z
        cases z'
        subst hb
        exact ⟨ha, by rw [List.length_map]; exact hl, vs, _, rv, ha⟩
      · have z' := (if_neg hb).symm.trans z
        cases z'
    · by_cases hb : b = a
      · exact hb
      · exact absurd (if_neg hb) z
end L2

namespace L2
open PySem PySem.Spec PyProof.Rows

abbrev KOf {K : PySem.W.Frag} {h : Heap} (_ : K.In h) : PySem.W.Frag := K

/-- the goal that k_head leaves (case hc), from the law's promise. F gives the function object fd (K's own) once, then the promise over every base -/
theorem walk_of {l : PySem.W.OpenLaw} {n k : Nat} {q : Program} {loose : List Str} {XP : (Str → Option Value) → Heap → Prop} {YP : World → Heap → Prop} {d : DefRec} {K : Params → PySem.W.Frag} {CX : World → CXT} {sp : World → Sp} {x : Str}
    (hn : l.most = some n) (hn2 : n ≤ sizeLine) (hdf : d.params.defaults = []) (hr : Room k callerA)
    (hY : ∀ (w : World) (h : Heap), YP w h → (K w.params).In h)
    (F : ∀ (w : World) (mg : Str → Option Value) (fa : Addr) (h : Heap), (K w.params).In h → h.Ns mainGlobals mg → mg d.name = some (.ref fa) →
      ∃ fd : FuncData, (∀ (s : Shared) (u : Value), BindsTo s fd ⟨[u], []⟩ [(x, u)]) ∧
        ∀ base : Heap, (K w.params).In base → base.Ns mainGlobals mg → FnOk l.prog w (K w.params) mg base (CX w) k fa fd [x] (sp w))
    (hsp : ∀ (w : World) (H : Hp) (a : Addr) (ns : List Int), ns.length ≤ n → Only H → SqL (K w.params) H a (ns.map V.int) → sp w [.ref a] H (fun v _ => v = .bl true) fun _ _ _ => False)
    (hCX : ∀ (w : World) (H : Hp) (s : Shared) (e : Value) (s' : Shared), CX w [] H s (fun _ _ _ => False) e s' → False) :
    PySem.W.WalkO q loose XP YP l.row.toRowW d [] (fun f vs => PySem.call f vs) := by
  refine Att.attach_call hn hdf fun w s₀ s₁ mg mb fa o pm cd doc a vs ns G Y ho hd hcd hmg hobj hints hlen hg => ?_
  have KX := hY w _ Y
  obtain ⟨fd, hb, hF⟩ := F w mg fa _ KX G.T.g hmg
  exact law_call KX G.T.g G.T.b G.T.builtins G.T.nolimit hg hobj hints (Nat.le_trans hlen hn2) hr hF hb (fun H hO hS => hsp w H a ns hlen hO hS) fun H e s' => hCX w H s₁ e s'
end L2

/- THE LAST THEOREM (shape; LID, My.* are yours):
   My.Adr: a structure of the addresses that your layer names (classes, functions); My.Txt K t: a structure (Prop) of the equations over K;
   My.txt_mk : {K} {implicit addresses ..} (e1 : nsIn K mainGlobals "law" = some (some (.ref f))) (e2 : K.lookup f = some ⟨oc, od, .func (fnOf "law" "law" params body scope dV kV doc pm an cdv ct), sl⟩) (e3 : codeIn K cdv "law" = true) .. : ∃ t, My.Txt K t

set_option maxRecDepth 100000 in
set_option maxHeartbeats 0 in
theorem PySem.Challenge.cw_LID_holds : PySem.Challenge.rw_LID.Holds := by
  w_on; o_law; k_head; (case hw => w_witness2)
  k_fill
  refine L2.walk_of (l := PySem.Challenge.rw_LID) (n := 63) (k := 40) (x := "script") (CX := fun w => ..) (sp := fun _ => My.sp_law) rfl (by decide) rfl ⟨rfl, by decide, by decide⟩ (fun w h Y => PySem.W.kIn_of Y) ?F ?S ?C
  case F =>
    intro w mg fa h KX G hmg
    have T : ∃ t, My.Txt (L2.KOf KX) t := by
      dsimp only [L2.KOf]                          -- K must stand as «<heap const> w.params» for k_is
      refine' My.txt_mk ?e1 ?e2 ?e3 ..
      (case e1 => PySem.W.k_is)                    -- in the order: a name -> its address -> its object -> its parts
      (case e2 => PySem.W.k_is)
      ..
    obtain ⟨t, T⟩ := T
    have e0 := hmg.symm.trans (PySem.W.mg_of KX G T.law)
    cases e0                                       -- fa is the law's own address
    exact ⟨_, fun s u => .of_eq rfl, fun base kb nb => My.law_fn T kb nb⟩     -- if «.of_eq rfl» comes too early: refine' ⟨_, ?b, fun base kb nb => My.law_fn T kb nb⟩; exact fun s u => .of_eq rfl
  case S => exact fun w H a ns hl hO hS => ..
  case C => exact ..
(the tactic k_is has no namespace: write k_is) -/

/-! SHORT WORDS over the layer: a def of the text, its body, what a loop and a test want. -/
namespace L2
open PySem PySem.Spec PyProof.Rows

/-! ### the text by places -/
/-- the j-th statement of a class's body -/
def inClass (s : Stmt) (j : Nat) : Stmt := match s with
  | .ClassDef _ _ _ body _ _ _ _ _ _ _ => body.getD j (.Pass ⟨0, 0, 0, 0⟩)
  | _ => .Pass ⟨0, 0, 0, 0⟩
def defArgs (s : Stmt) : Arguments := match s with
  | .FunctionDef _ a _ _ _ _ _ _ _ _ => a
  | _ => { posonlyargs := [], args := [], vararg := none, kwonlyargs := [], kw_defaults := [], kwarg := none, defaults := [] }
def defBody (s : Stmt) : List Stmt := match s with
  | .FunctionDef _ _ b _ _ _ _ _ _ _ => b
  | _ => []
def defScope (s : Stmt) : Scope := match s with
  | .FunctionDef _ _ _ _ _ _ sc _ _ _ => sc
  | _ => { kind := .function, names := [], isGenerator := false, isCoroutine := false }

/-! ### no exception leaves a def -/
abbrev CX0 : CXT := fun _ _ _ _ _ _ => False
abbrev E0 : XK := fun _ _ _ => False
theorem pass0 {X : Cx} : Passes CX0 X E0 := fun _ _ _ _ _ _ _ h => h.elim

/-! ### a def (or method) of the text as it stands behind the top -/
structure Fun (K : PySem.W.Frag) (x qual : Str) (st : Stmt) (f : Addr) (fd : FuncData) : Prop where
  ex : ∃ (oc : Value) (od : Option Addr) (kV doc pm : Value) (an : Option Addr) (cdv ct : Value) (osl : Array (Option Value)),
    fd = PySem.W.fnOf x qual (defArgs st) (defBody st) (defScope st) .none kV doc pm an cdv ct ∧ K.lookup f = some ⟨oc, od, .func fd, osl⟩ ∧ PySem.W.codeIn K cdv qual = true
  kp : PySem.W.keepIn K (.ref f) = true
section
variable {P : Program} {w : World} {K : PySem.W.Frag} {mg : Str → Option Value} {base : Heap}
/-- THE RULE for a def: its body as a term of rules, and the reading of that term -/
theorem Fun.ok {x qual : Str} {st : Stmt} {f : Addr} {fd : FuncData} {N ps : List Str} {k : Nat} {sp : Sp} (F : Fun K x qual st f fd) (S : FnScope N ps (defScope st)) (len : ∀ vs H Q E, sp vs H Q E → vs.length = ps.length)
    (hbody : ∀ (cdv : Value) (A : Around) (outer : List Env) (s : Shared) (H : Hp) (vs : List V) (Q : VK) (E : XK), Room k (A.deeper (envOfC qual (defScope st) s.heap.objs.size f cdv)) → sp vs H Q E →
      ∃ t, PSs (cxOf CX0 P w K mg base N qual (defScope st) f cdv A outer s H E).nox (defBody st) t ∧ t { nx := fun _ H' => Q .non H', rt := Q } (start N vs) H) : FnOk P w K mg base CX0 (k + 1) f fd ps sp := by
  obtain ⟨oc, od, kV, doc, pm, an, cdv, ct, osl, rfl, lk, hcd⟩ := F.ex
  refine fn_of lk hcd S len fun A outer s H vs Q E hr hsp => ?_
  obtain ⟨t, h, q⟩ := hbody cdv A outer s H vs Q E hr hsp
  exact ⟨t, h.nox, q⟩
/-- how its arguments bind (no defaults): h is «fun _ _ _ _ _ _ us hl => match us, hl with | [_, _], _ => rfl», one _ a parameter -/
theorem Fun.binds {x qual : Str} {st : Stmt} {f : Addr} {fd : FuncData} {ps : List Str} (F : Fun K x qual st f fd)
    (h : ∀ (kV doc pm : Value) (an : Option Addr) (cdv ct : Value) (us : List Value), us.length = ps.length → bindArgs (PySem.W.fnOf x qual (defArgs st) (defBody st) (defScope st) .none kV doc pm an cdv ct) ⟨us, []⟩ = pure (ps.zip us)) : Binds K fd ps [] := by
  obtain ⟨oc, od, kV, doc, pm, an, cdv, ct, osl, rfl, lk, hcd⟩ := F.ex
  exact .all (h kV doc pm an cdv ct)
theorem fun_mk {x qual : Str} {st : Stmt} {f : Addr} {oc : Value} {od an : Option Addr} {osl : Array (Option Value)} {kV doc pm cdv ct : Value} (l : K.lookup f = some ⟨oc, od, .func (PySem.W.fnOf x qual (defArgs st) (defBody st) (defScope st) .none kV doc pm an cdv ct), osl⟩)
    (c : PySem.W.codeIn K cdv qual = true) (k : PySem.W.keepIn K (.ref f) = true) : Fun K x qual st f (PySem.W.fnOf x qual (defArgs st) (defBody st) (defScope st) .none kV doc pm an cdv ct) := ⟨⟨oc, od, kV, doc, pm, an, cdv, ct, osl, rfl, l, c⟩, k⟩
end

/-! ### expressions in short: the name that stands in the i-th slot -/
section
variable {X : Cx}
theorem pv (i : Nat) {x : Str} {pos : Pos} (hN : X.N[i]? = some x := by rfl) (hv : Vis X.env.scope x := by first | exact Or.inl rfl | exact Or.inr (Or.inl rfl) | exact Or.inr (Or.inr rfl)) (hd : (x == ("__debug__" : Str)) = false := by decide)
    (hcd : (x == ("__classdict__" : Str)) = false := by decide) : PE X (.Name x pos) (tVar i) := pe_var hN hv hd hcd
end

/-! ### tests -/
theorem iteF {A B : Prop} (h : B) : if false = true then A else B := by
  rw [if_neg Bool.false_ne_true]
  exact h
theorem iteT {A B : Prop} (h : A) : if true = true then A else B := by
  rw [if_pos rfl]
  exact h
theorem ite2 {c A B : Prop} [Decidable c] (h1 : c → A) (h2 : ¬ c → B) : if c then A else B := by
  by_cases h : c
  · rw [if_pos h]
    exact h1 h
  · rw [if_neg h]
    exact h2 h

/-! ### heaps -/
/-- all that was tracked is as it was -/
def Same (H H' : Hp) : Prop := ∀ b o, H b = some o → H' b = some o
theorem Same.refl (H : Hp) : Same H H := fun _ _ h => h
theorem Same.trans {H H1 H2 : Hp} (a : Same H H1) (b : Same H1 H2) : Same H H2 := fun c o h => b c o (a c o h)
theorem Same.free {H H' : Hp} (e : Same H H') {l : Addr} (h : H' l = Option.none) : H l = Option.none := by
  cases q : H l with
  | none => rfl
  | some o =>
    rw [e l o q] at h
    cases h
theorem Same.seq {K : PySem.W.Frag} {H H' : Hp} {a : Addr} {xs : List V} (e : Same H H') (h : SqL K H a xs) : SqL K H' a xs := by
  rcases h with (h | ⟨o, h⟩) | h
  · exact .inl (.inl (e _ _ h))
  · exact .inl (.inr ⟨o, e _ _ h⟩)
  · exact .inr h

/-! ### a dict's pairs: keys that differ -/
section
variable {κ : Type} [DecidableEq κ]
theorem nd_snoc : ∀ {l : List κ} {k : κ}, l.Nodup → ¬ k ∈ l → (l ++ [k]).Nodup
  | [], k, _, _ => by simp
  | a :: r, k, h, hk => by
    obtain ⟨h1, h2⟩ := List.nodup_cons.mp h
    show (a :: (r ++ [k])).Nodup
    refine List.nodup_cons.mpr ⟨fun m => ?_, nd_snoc h2 fun m => hk (List.mem_cons.mpr (Or.inr m))⟩
    rcases List.mem_append.mp m with q | q
    · exact h1 q
    · exact hk (List.mem_cons.mpr (Or.inl (List.mem_singleton.mp q).symm))
end
/-! ### lists -/
theorem at_of {xs : List V} {z : Int} {j : Nat} {v : V} (e : z = (j : Int)) (h : xs[j]? = some v) : atI xs z = some v := by
  rw [e]
  exact atI_nat h
theorem nd_ix {α : Type} {l : List α} (hN : l.Nodup) {i j : Nat} {x : α} (a : l[i]? = some x) (b : l[j]? = some x) : i = j := by
  obtain ⟨h1, e1⟩ := List.getElem?_eq_some_iff.mp a
  obtain ⟨h2, e2⟩ := List.getElem?_eq_some_iff.mp b
  exact (List.getElem_inj hN).mp (e1.trans e2.symm)
/-- a new instance and its __init__ leave all that was tracked as it was -/
theorem Same.made {H H1 : Hp} {x dx C : Addr} (nx : H x = Option.none) (nd : H dx = Option.none) (k : ∀ b o, (upd (upd H dx (.own x)) x (.ins C dx [])) b = some o → b ≠ x → H1 b = some o) : Same H H1 := fun b o e =>
  k b o (by rw [upd_ne (ne_of_none e nx), upd_ne (ne_of_none e nd)]; exact e) (ne_of_none e nx)
end L2

section
set_option Elab.async false
set_option linter.all false
set_option maxRecDepth 100000
set_option maxHeartbeats 2000000
namespace L2
open PySem PySem.Spec PyProof.Rows
open PySem.W (WData Codec OpenSpec Well WellAll ReadsW ReadsAllW)
/-! ### an answer as data -/
mutual
/-- x stands for the datum d, lists and tuples all the way -/
inductive Dw (K : PySem.W.Frag) (H : Hp) : V → WData → Prop
  | non : Dw K H .non .none
  | bl (b : Bool) : Dw K H (.bl b) (.bool b)
  | int (i : Int) : Dw K H (.int i) (.int i)
  | str (x : Str) : Dw K H (.str x) (.str x)
  | byt (b : Array UInt8) : Dw K H (.byt b) (.bytes b.toList)
  | lst {a : Addr} {xs : List V} {ds : List WData} : SqL K H a xs → DwAll K H xs ds → Dw K H (.ref a) (.list ds)
  | tup {a : Addr} {xs : List V} {ds : List WData} : SqT K H a xs → DwAll K H xs ds → Dw K H (.ref a) (.tuple ds)
inductive DwAll (K : PySem.W.Frag) (H : Hp) : List V → List WData → Prop
  | nil : DwAll K H [] []
  | cons {v : V} {vs : List V} {d : WData} {ds : List WData} : Dw K H v d → DwAll K H vs ds → DwAll K H (v :: vs) (d :: ds)
end
theorem dw_ints {K : PySem.W.Frag} {H : Hp} : ∀ ns : List Int, DwAll K H (ns.map V.int) (ns.map WData.int)
  | [] => .nil
  | n :: r => .cons (.int n) (dw_ints r)
theorem ints_dw {K : PySem.W.Frag} {H : Hp} : ∀ (ns : List Int) (xs : List V), DwAll K H xs (ns.map WData.int) → xs = ns.map V.int
  | [], xs, h => by
    cases h
    rfl
  | n :: r, xs, h => by
    cases h with
    | cons h1 h2 =>
      cases h1
      rw [ints_dw r _ h2] <;> rfl
section
variable {P : Program} {w : World} {K : PySem.W.Frag} {H : Hp} {h : Heap} {R : PySem.W.WRecords} {cl : Str → Option Addr}
theorem sqL_at {a : Addr} {xs : List V} (hok : HOk P w H h) (KX : K.In h) (q : SqL K H a xs) : ∃ (its : List Value) (o : Obj) (n : Nat), Vals xs its ∧ h.get? a = some o ∧ o.cls = .type "list" ∧ o.data = .seq its.toArray n := by
  rcases q with q | ⟨o, its, n, e, hc, _, hd, _, hv⟩
  · obtain ⟨_, its, n, hv, e⟩ := (show ObjOk P w H h a (.lst xs) from q.ok hok)
    exact ⟨its, _, n, hv, e, rfl, rfl⟩
  · exact ⟨its.toList, o, n, hv, KX _ _ e, hc, by simp [hd]⟩
theorem sqT_at {a : Addr} {xs : List V} (hok : HOk P w H h) (KX : K.In h) (q : SqT K H a xs) : ∃ (its : List Value) (o : Obj) (n : Nat), Vals xs its ∧ h.get? a = some o ∧ o.cls = .type "tuple" ∧ o.data = .seq its.toArray n := by
  rcases q with q | ⟨o, its, n, e, hc, hd, _, hv⟩
  · obtain ⟨_, its, hv, o, e, hc, n, hd⟩ := (show ObjOk P w H h a (.tup xs) from q.ok hok)
    exact ⟨its, o, n, hv, e, hc, hd⟩
  · exact ⟨its.toList, o, n, hv, KX _ _ e, hc, by simp [hd]⟩
mutual
theorem Dw.reads (hok : HOk P w H h) (KX : K.In h) : ∀ (d : WData) (v : V) (u : Value), Dw K H v d → RelV v u → ∃ as, ReadsW R cl h u d as
  | .none, _, _, x, r => by
    cases x
    cases r
    exact ⟨_, ReadsW.none⟩
  | .bool b, _, _, x, r => by
    cases x
    cases r
    exact ⟨_, ReadsW.bool b⟩
  | .int i, _, _, x, r => by
    cases x
    obtain ⟨t, rfl⟩ := r
    exact ⟨_, ReadsW.int i t⟩
  | .str s, _, _, x, r => by
    cases x
    obtain ⟨t, rfl⟩ := r
    exact ⟨_, ReadsW.str s t⟩
  | .bytes b, _, _, x, r => by
    cases x
    obtain ⟨t, rfl⟩ := r
    exact ⟨_, ReadsW.bytes _ t⟩
  | .list ds, _, _, x, r => by
    cases x with
    | lst hs ha =>
      cases r
      obtain ⟨its, o, n, rv, ho, hc, hd⟩ := sqL_at hok KX hs
      obtain ⟨as, hr⟩ := Dw.readsAll hok KX ds _ its ha rv
      exact ⟨_, ReadsW.list ho hc hd hr⟩
  | .tuple ds, _, _, x, r => by
    cases x with
    | tup hs ha =>
      cases r
      obtain ⟨its, o, n, rv, ho, hc, hd⟩ := sqT_at hok KX hs
      obtain ⟨as, hr⟩ := Dw.readsAll hok KX ds _ its ha rv
      exact ⟨_, ReadsW.tuple ho hc hd hr⟩
  | .float _, _, _, x, _ => by cases x
  | .dict _, _, _, x, _ => by cases x
  | .bytearray _, _, _, x, _ => by cases x
  | .set _, _, _, x, _ => by cases x
  | .frozenset _, _, _, x, _ => by cases x
  | .obj _ _, _, _, x, _ => by cases x
theorem Dw.readsAll (hok : HOk P w H h) (KX : K.In h) : ∀ (ds : List WData) (vs : List V) (us : List Value), DwAll K H vs ds → Vals vs us → ∃ as, ReadsAllW R cl h us ds as
  | [], _, _, x, r => by
    cases x
    cases r
    exact ⟨_, ReadsAllW.nil⟩
  | d :: ds, _, _, x, r => by
    cases x with
    | cons h1 h2 =>
      cases r with
      | cons r1 r2 =>
        obtain ⟨as, q1⟩ := Dw.reads hok KX d _ _ h1 r1
        obtain ⟨bs, q2⟩ := Dw.readsAll hok KX ds _ _ h2 r2
        exact ⟨_, ReadsAllW.cons q1 q2⟩
end
end
/-! ### the arguments -/
mutual
/-- data that a codec tells -/
def plW : WData → Bool
  | .none => true
  | .bool _ => true
  | .int _ => true
  | .str _ => true
  | .bytes _ => true
  | .list xs => plWs xs
  | .tuple xs => plWs xs
  | _ => false
def plWs : List WData → Bool
  | [] => true
  | x :: r => plW x && plWs r
end
theorem plWs_map {α : Type} {f : α → WData} (h : ∀ a, plW (f a) = true) : ∀ l : List α, plWs (l.map f) = true
  | [] => rfl
  | x :: r => by
    show (plW (f x) && plWs (r.map f)) = true
    rw [h x, plWs_map h r] <;> rfl
theorem pl_enc : ∀ (c : Codec) (a : c.denote), plW (c.enc a) = true
  | .unit, _ => rfl
  | .bool, _ => rfl
  | .int _ _, _ => rfl
  | .nat _ _, _ => rfl
  | .u8, _ => rfl
  | .bytes _ _, _ => rfl
  | .text _ _ _ _, _ => rfl
  | .list _ _ c, a => plWs_map (fun x => pl_enc c x) a
  | .pair c d, a => by
    show (plW (c.enc a.1) && (plW (d.enc a.2) && true)) = true
    rw [pl_enc c a.1, pl_enc d a.2] <;> rfl
  | .triple c d e, a => by
    show (plW (c.enc a.1) && (plW (d.enc a.2.1) && (plW (e.enc a.2.2) && true))) = true
    rw [pl_enc c a.1, pl_enc d a.2.1, pl_enc e a.2.2] <;> rfl
  | .option c, none => rfl
  | .option c, some x => pl_enc c x
theorem pl_encAll : ∀ (cs : List Codec) (a : Codec.denoteAll cs), plWs (Codec.encAll cs a) = true
  | [], _ => rfl
  | c :: cs, a => by
    show (plW (c.enc a.1) && plWs (Codec.encAll cs a.2)) = true
    rw [pl_enc c a.1, pl_encAll cs a.2] <;> rfl
theorem weight_mem : ∀ {xs : List WData} {d : WData}, d ∈ xs → d.weight ≤ WData.weightAll xs
  | [], d, h => absurd h (by simp)
  | x :: r, d, h => by
    show d.weight ≤ x.weight + 1 + WData.weightAll r
    rcases List.mem_cons.mp h with e | m
    · rw [e]
      omega
    · have z := weight_mem m
      omega
def toV : Value → V
  | .none => .non
  | .bool b => .bl b
  | .int i _ => .int i
  | .str x _ => .str x
  | .bytes b _ => .byt b
  | .ref a => .ref a
  | _ => .non
/-- a value of the arguments, its objects among A -/
def OkU (A : List Addr) : Value → Prop
  | .none => True
  | .bool _ => True
  | .int _ _ => True
  | .str _ _ => True
  | .bytes _ _ => True
  | .ref a => a ∈ A
  | _ => False
theorem OkU.mono {A B : List Addr} (h : ∀ a ∈ A, a ∈ B) : ∀ {u : Value}, OkU A u → OkU B u := fun {u} x => by
  cases u with
  | ref a => exact h a x
  | none => trivial
  | bool b => trivial
  | int i t => trivial
  | str s t => trivial
  | bytes b t => trivial
  | _ => exact False.elim x
theorem relV_toV {A : List Addr} {u : Value} (x : OkU A u) : RelV (toV u) u := by
  cases u with
  | ref a => rfl
  | none => rfl
  | bool b => rfl
  | int i t => exact ⟨t, rfl⟩
  | str s t => exact ⟨t, rfl⟩
  | bytes b t => exact ⟨t, rfl⟩
  | _ => exact False.elim x
theorem vals_toV {A : List Addr} : ∀ {vs : List Value}, (∀ u ∈ vs, OkU A u) → Vals (vs.map toV) vs
  | [], _ => .nil
  | u :: r, h => .cons (relV_toV (h u (List.mem_cons_self ..))) (vals_toV fun x hx => h x (List.mem_cons_of_mem _ hx))
/-- an object of the arguments -/
def ArgOb (h : Heap) (A : List Addr) (a : Addr) : Prop := ∃ vs : List Value, vs.length ≤ sizeLine ∧ (∀ u ∈ vs, OkU A u) ∧
  (h.get? a = some { cls := .type "list", data := .seq vs.toArray } ∨ h.get? a = some { cls := .type "tuple", data := .seq vs.toArray })
theorem ArgOb.mono {h : Heap} {A B : List Addr} {a : Addr} (k : ∀ a ∈ A, a ∈ B) (x : ArgOb h A a) : ArgOb h B a := by
  obtain ⟨vs, h1, h2, h3⟩ := x
  exact ⟨vs, h1, fun u hu => (h2 u hu).mono k, h3⟩
theorem wellAll_len {P : Params} {h : Heap} : ∀ {vs : List Value} {ds : List WData}, WellAll P h vs ds → vs.length = ds.length
  | _, _, .nil => rfl
  | _, _, .cons _ b => by
    show _ + 1 = _ + 1
    rw [wellAll_len b]
theorem well_list {P : Params} {h : Heap} {v : Value} {ds : List WData} (x : Well P h v (.list ds)) : ∃ (a : Addr) (vs : List Value), v = .ref a ∧ h.get? a = some { cls := .type "list", data := .seq vs.toArray } ∧ WellAll P h vs ds := by
  cases x with
  | list ho hall => exact ⟨_, _, rfl, ho, hall⟩
theorem well_tuple {P : Params} {h : Heap} {v : Value} {ds : List WData} (x : Well P h v (.tuple ds)) : ∃ (a : Addr) (vs : List Value), v = .ref a ∧ h.get? a = some { cls := .type "tuple", data := .seq vs.toArray } ∧ WellAll P h vs ds := by
  cases x with
  | tuple ho hall => exact ⟨_, _, rfl, ho, hall⟩
theorem well_cons {P : Params} {h : Heap} {us : List Value} {d : WData} {ds : List WData} (x : WellAll P h us (d :: ds)) : ∃ (v : Value) (vs : List Value), us = v :: vs ∧ Well P h v d ∧ WellAll P h vs ds := by
  cases x with
  | cons a b => exact ⟨_, _, rfl, a, b⟩
theorem line_of {n : Nat} (h : n ≤ 1048576) : n ≤ sizeLine := Nat.le_trans h (by decide)
section
variable {P : Params} {h : Heap}
mutual
theorem area_one : ∀ (d : WData) (v : Value), Well P h v d → plW d = true → d.weight ≤ 1048576 → ∃ A : List Addr, OkU A v ∧ ∀ a ∈ A, ArgOb h A a
  | .none, _, x, _, _ => by
    cases x
    exact ⟨[], trivial, fun a m => absurd m (by simp)⟩
  | .bool b, _, x, _, _ => by
    cases x
    exact ⟨[], trivial, fun a m => absurd m (by simp)⟩
  | .int i, _, x, _, _ => by
    cases x
    exact ⟨[], trivial, fun a m => absurd m (by simp)⟩
  | .str s, _, x, _, _ => by
    cases x
    exact ⟨[], trivial, fun a m => absurd m (by simp)⟩
  | .bytes b, _, x, _, _ => by
    cases x
    exact ⟨[], trivial, fun a m => absurd m (by simp)⟩
  | .list ds, _, x, p, z => by
    obtain ⟨a, vs, rfl, ho, hall⟩ := well_list x
    have z2 : WData.weightAll ds ≤ 1048576 := z
    obtain ⟨A, h1, h2⟩ := area_all ds _ hall p fun d hd => Nat.le_trans (weight_mem hd) z2
    have k : ∀ b ∈ A, b ∈ a :: A := fun b hb => List.mem_cons_of_mem _ hb
    refine ⟨a :: A, List.mem_cons_self .., fun b hb => ?_⟩
    rcases List.mem_cons.mp hb with e | m
    · rw [e]
      exact ⟨vs, line_of (by rw [wellAll_len hall]; exact Nat.le_trans (PySem.W.length_le_weightAllW ds) z2), fun u hu => (h1 u hu).mono k, .inl ho⟩
    · exact (h2 b m).mono k
  | .tuple ds, _, x, p, z => by
    obtain ⟨a, vs, rfl, ho, hall⟩ := well_tuple x
    have z2 : WData.weightAll ds ≤ 1048576 := z
    obtain ⟨A, h1, h2⟩ := area_all ds _ hall p fun d hd => Nat.le_trans (weight_mem hd) z2
    have k : ∀ b ∈ A, b ∈ a :: A := fun b hb => List.mem_cons_of_mem _ hb
    refine ⟨a :: A, List.mem_cons_self .., fun b hb => ?_⟩
    rcases List.mem_cons.mp hb with e | m
    · rw [e]
      exact ⟨vs, line_of (by rw [wellAll_len hall]; exact Nat.le_trans (PySem.W.length_le_weightAllW ds) z2), fun u hu => (h1 u hu).mono k, .inr ho⟩
    · exact (h2 b m).mono k
  | .float _, _, _, p, _ => Bool.noConfusion (show false = true from p)
  | .dict _, _, _, p, _ => Bool.noConfusion (show false = true from p)
  | .bytearray _, _, _, p, _ => Bool.noConfusion (show false = true from p)
  | .set _, _, _, p, _ => Bool.noConfusion (show false = true from p)
  | .frozenset _, _, _, p, _ => Bool.noConfusion (show false = true from p)
  | .obj _ _, _, _, p, _ => Bool.noConfusion (show false = true from p)
theorem area_all : ∀ (ds : List WData) (vs : List Value), WellAll P h vs ds → plWs ds = true → (∀ d ∈ ds, d.weight ≤ 1048576) → ∃ A : List Addr, (∀ u ∈ vs, OkU A u) ∧ ∀ a ∈ A, ArgOb h A a
  | [], _, x, _, _ => by
    cases x
    exact ⟨[], fun u m => absurd m (by simp), fun a m => absurd m (by simp)⟩
  | d :: ds, _, x, p, z => by
    obtain ⟨v, vs, rfl, x1, x2⟩ := well_cons x
    have q : plW d = true ∧ plWs ds = true := Bool.and_eq_true_iff.mp p
    obtain ⟨A, a1, a2⟩ := area_one d v x1 q.1 (z d (List.mem_cons_self ..))
    obtain ⟨B, b1, b2⟩ := area_all ds vs x2 q.2 fun e he => z e (List.mem_cons_of_mem _ he)
    have kA : ∀ b ∈ A, b ∈ A ++ B := fun b hb => List.mem_append.mpr (.inl hb)
    have kB : ∀ b ∈ B, b ∈ A ++ B := fun b hb => List.mem_append.mpr (.inr hb)
    refine ⟨A ++ B, fun u hu => ?_, fun b hb => ?_⟩
    · rcases List.mem_cons.mp hu with e | m
      · rw [e]
        exact a1.mono kA
      · exact (b1 u m).mono kB
    · rcases List.mem_append.mp hb with m | m
      · exact (a2 b m).mono kA
      · exact (b2 b m).mono kB
end
end
/-- what is tracked of an argument's object -/
def hoOf (o : Obj) : Option HO := match o.data with
  | .seq vs _ => if (o.cls == Value.type "list") = true then some (.frz o (.lst (vs.toList.map toV))) else some (.frz o (.tup (vs.toList.map toV)))
  | _ => none
def argH (K : PySem.W.Frag) (h : Heap) (A : List Addr) : Hp := fun b => if b ∈ A then (if (K.lookup b).isNone = true then (h.get? b).bind hoOf else none) else none
/-- nothing is tracked but what is known to the object -/
def OnlyF (H : Hp) : Prop := ∀ b, H b = none ∨ ∃ o u, H b = some (.frz o u)
theorem hoOf_lst (vs : List Value) : hoOf { cls := .type "list", data := .seq vs.toArray } = some (.frz { cls := .type "list", data := .seq vs.toArray } (.lst (vs.map toV))) := by
  show (if (Value.type "list" == Value.type "list") = true then some (HO.frz { cls := .type "list", data := .seq vs.toArray } (.lst (vs.toArray.toList.map toV))) else some (HO.frz { cls := .type "list", data := .seq vs.toArray } (.tup (vs.toArray.toList.map toV)))) = _
  rw [if_pos (beq_self_eq_true _)]
theorem hoOf_tup (vs : List Value) : hoOf { cls := .type "tuple", data := .seq vs.toArray } = some (.frz { cls := .type "tuple", data := .seq vs.toArray } (.tup (vs.map toV))) := by
  show (if (Value.type "tuple" == Value.type "list") = true then some (HO.frz { cls := .type "tuple", data := .seq vs.toArray } (.lst (vs.toArray.toList.map toV))) else some (HO.frz { cls := .type "tuple", data := .seq vs.toArray } (.tup (vs.toArray.toList.map toV)))) = _
  rw [if_neg (by decide)]
section
variable {P : Program} {w : World} {K : PySem.W.Frag} {h : Heap} {A : List Addr}
theorem argH_at {b : Addr} {o : Obj} (hb : b ∈ A) (hk : K.lookup b = none) (e : h.get? b = some o) : argH K h A b = hoOf o := by
  unfold argH
  rw [if_pos hb, hk, if_pos (show (none : Option Obj).isNone = true from rfl), e] <;> rfl
theorem of_argH {b : Addr} {u : HO} (q : argH K h A b = some u) : b ∈ A ∧ K.lookup b = none := by
  unfold argH at q
  by_cases hb : b ∈ A
  · rw [if_pos hb] at q
    cases hk : K.lookup b with
    | none => exact ⟨hb, rfl⟩
    | some o =>
      rw [hk, if_neg (by simp)] at q
      cases q
  · rw [if_neg hb] at q
    cases q
/-- what stands tracked -/
theorem argH_is (ar : ∀ a ∈ A, ArgOb h A a) {b : Addr} {u : HO} (q : argH K h A b = some u) : K.lookup b = none ∧ ∃ vs : List Value, vs.length ≤ sizeLine ∧ (∀ u ∈ vs, OkU A u) ∧
    ((h.get? b = some { cls := .type "list", data := .seq vs.toArray } ∧ u = .frz { cls := .type "list", data := .seq vs.toArray } (.lst (vs.map toV))) ∨
     (h.get? b = some { cls := .type "tuple", data := .seq vs.toArray } ∧ u = .frz { cls := .type "tuple", data := .seq vs.toArray } (.tup (vs.map toV)))) := by
  obtain ⟨hb, hk⟩ := of_argH q
  obtain ⟨vs, h1, h2, h3⟩ := ar b hb
  refine ⟨hk, vs, h1, h2, ?_⟩
  rcases h3 with e | e
  · rw [argH_at hb hk e, hoOf_lst] at q
    exact .inl ⟨e, (Option.some.inj q).symm⟩
  · rw [argH_at hb hk e, hoOf_tup] at q
    exact .inr ⟨e, (Option.some.inj q).symm⟩
theorem argH_only (ar : ∀ a ∈ A, ArgOb h A a) : OnlyF (argH K h A) := fun b => by
  cases q : argH K h A b with
  | none => exact .inl rfl
  | some u =>
    obtain ⟨_, vs, _, _, ⟨_, e⟩ | ⟨_, e⟩⟩ := argH_is ar q
    · exact .inr ⟨_, _, by rw [e]⟩
    · exact .inr ⟨_, _, by rw [e]⟩
theorem argH_ok (ar : ∀ a ∈ A, ArgOb h A a) : HOk P w (argH K h A) h := fun b u q => by
  obtain ⟨_, vs, h1, h2, ⟨e, rfl⟩ | ⟨e, rfl⟩⟩ := argH_is ar q
  · exact ⟨e, by rw [List.length_map]; exact h1, vs, _, vals_toV h2, e⟩
  · exact ⟨e, by rw [List.length_map]; exact h1, vs, vals_toV h2, _, e, rfl, _, rfl⟩
theorem seq_inj {c c' : Value} {vs us : List Value} (e : (some { cls := c, data := .seq vs.toArray } : Option Obj) = some { cls := c', data := .seq us.toArray }) : c = c' ∧ vs = us := by
  have e1 := Option.some.inj e
  have e2 : c = c' := congrArg Obj.cls e1
  have e3 : Data.seq vs.toArray = Data.seq us.toArray := congrArg Obj.data e1
  injection e3 with e4
  refine ⟨e2, ?_⟩
  have e5 := congrArg Array.toList e4
  simpa using e5
/-- a list argument -/
theorem argL (KX : K.In h) (ar : ∀ a ∈ A, ArgOb h A a) {a : Addr} {vs : List Value} (ha : a ∈ A) (e : h.get? a = some { cls := .type "list", data := .seq vs.toArray }) : (∀ u ∈ vs, OkU A u) ∧ SqL K (argH K h A) a (vs.map toV) := by
  obtain ⟨us, h1, h2, h3⟩ := ar a ha
  have hu : us = vs := by
    rcases h3 with q | q
    · rw [e] at q
      exact (seq_inj q).2.symm
    · rw [e] at q
      exact absurd (Value.type.inj (seq_inj q).1) (by decide)
  subst hu
  refine ⟨h2, ?_⟩
  cases hk : K.lookup a with
  | none => exact .inl (.inr ⟨_, by rw [argH_at ha hk e, hoOf_lst]⟩)
  | some o =>
    have e2 := KX a o hk
    rw [e] at e2
    obtain rfl := Option.some.inj e2
    exact .inr ⟨_, us.toArray, _, hk, rfl, rfl, rfl, by rw [List.size_toArray]; exact h1, by simpa using vals_toV h2⟩
theorem argT (KX : K.In h) (ar : ∀ a ∈ A, ArgOb h A a) {a : Addr} {vs : List Value} (ha : a ∈ A) (e : h.get? a = some { cls := .type "tuple", data := .seq vs.toArray }) : (∀ u ∈ vs, OkU A u) ∧ SqT K (argH K h A) a (vs.map toV) := by
  obtain ⟨us, h1, h2, h3⟩ := ar a ha
  have hu : us = vs := by
    rcases h3 with q | q
    · rw [e] at q
      exact absurd (Value.type.inj (seq_inj q).1) (by decide)
    · rw [e] at q
      exact (seq_inj q).2.symm
  subst hu
  refine ⟨h2, ?_⟩
  cases hk : K.lookup a with
  | none => exact .inl (.inr ⟨_, by rw [argH_at ha hk e, hoOf_tup]⟩)
  | some o =>
    have e2 := KX a o hk
    rw [e] at e2
    obtain rfl := Option.some.inj e2
    exact .inr ⟨_, us.toArray, _, hk, rfl, rfl, by rw [List.size_toArray]; exact h1, by simpa using vals_toV h2⟩
mutual
theorem dw_one {Pm : Params} (KX : K.In h) (ar : ∀ a ∈ A, ArgOb h A a) : ∀ (d : WData) (v : Value), Well Pm h v d → plW d = true → OkU A v → Dw K (argH K h A) (toV v) d
  | .none, _, x, _, _ => by
    cases x
    exact .non
  | .bool b, _, x, _, _ => by
    cases x
    exact .bl b
  | .int i, _, x, _, _ => by
    cases x
    exact .int i
  | .str s, _, x, _, _ => by
    cases x
    exact .str s
  | .bytes b, _, x, _, _ => by
    cases x
    have z := Dw.byt (K := K) (H := argH K h A) b.toArray
    exact z
  | .list ds, _, x, p, hu => by
    obtain ⟨a, vs, rfl, ho, hall⟩ := well_list x
    obtain ⟨h2, hs⟩ := argL KX ar hu ho
    exact .lst hs (dw_all KX ar ds _ hall p h2)
  | .tuple ds, _, x, p, hu => by
    obtain ⟨a, vs, rfl, ho, hall⟩ := well_tuple x
    obtain ⟨h2, hs⟩ := argT KX ar hu ho
    exact .tup hs (dw_all KX ar ds _ hall p h2)
  | .float _, _, _, p, _ => Bool.noConfusion (show false = true from p)
  | .dict _, _, _, p, _ => Bool.noConfusion (show false = true from p)
  | .bytearray _, _, _, p, _ => Bool.noConfusion (show false = true from p)
  | .set _, _, _, p, _ => Bool.noConfusion (show false = true from p)
  | .frozenset _, _, _, p, _ => Bool.noConfusion (show false = true from p)
  | .obj _ _, _, _, p, _ => Bool.noConfusion (show false = true from p)
theorem dw_all {Pm : Params} (KX : K.In h) (ar : ∀ a ∈ A, ArgOb h A a) : ∀ (ds : List WData) (vs : List Value), WellAll Pm h vs ds → plWs ds = true → (∀ u ∈ vs, OkU A u) → DwAll K (argH K h A) (vs.map toV) ds
  | [], _, x, _, _ => by
    cases x
    exact .nil
  | d :: ds, _, x, p, hu => by
    obtain ⟨v, vs, rfl, x1, x2⟩ := well_cons x
    have q : plW d = true ∧ plWs ds = true := Bool.and_eq_true_iff.mp p
    exact .cons (dw_one KX ar d v x1 q.1 (hu _ (List.mem_cons_self ..))) (dw_all KX ar ds vs x2 q.2 fun u m => hu u (List.mem_cons_of_mem _ m))
end
end
/-! ### the call -/
theorem spec_call {P : Program} {w : World} {K : PySem.W.Frag} {mg mb : Str → Option Value} {CX : CXT} {k : Nat} {fa : Addr} {fd : FuncData} {ps : List Str} {sp : Sp} {s₁ : Shared} {vals : List Value} {ds : List WData} {R : PySem.W.WRecords} {cl : Str → Option Addr} {d0 : WData}
    (KX : K.In s₁.heap) (hns : s₁.heap.Ns mainGlobals mg) (hb : s₁.heap.Ns builtinsNs mb) (hbb : ∀ x : Str, x ≠ "__name__" → mb x = bootBuiltins x) (hlim : s₁.heap.NoLimit) (hg : s₁.gens = #[])
    (hwl : WellAll w.params s₁.heap vals ds) (hpl : plWs ds = true) (hwt : ∀ d ∈ ds, d.weight ≤ 1048576) (hr : Room k callerA)
    (F : ∀ base : Heap, K.In base → base.Ns mainGlobals mg → FnOk P w K mg base CX k fa fd ps sp) (hbind : ∀ (s : Shared) (us : List Value), us.length = ps.length → BindsTo s fd ⟨us, []⟩ (ps.zip us)) (hlen : ds.length = ps.length)
    (hsp : ∀ (H : Hp) (xs : List V), OnlyF H → DwAll K H xs ds → sp xs H (fun v H' => Dw K H' v d0) fun _ _ _ => False)
    (hCX : ∀ H e s', CX [] H s₁ (fun _ _ _ => False) e s' → False) :
    codeAny (model P w) callerA (.call (.ref fa) ⟨vals, []⟩) (fun r s' => ∃ u as, r = .ok (.ret u) ∧ ReadsW R cl s'.heap u d0 as ∧ OldK s₁.heap s'.heap ∧ s'.os = s₁.os ∧ AllBare s'.gens) s₁ := by
  obtain ⟨A, ho, ar⟩ := area_all ds vals hwl hpl hwt
  have hO : OnlyF (argH K s₁.heap A) := argH_only ar
  have hok : HOk P w (argH K s₁.heap A) s₁.heap := argH_ok ar
  have hS := dw_all KX ar ds vals hwl hpl ho
  have hV := vals_toV ho
  have hK : ∀ b u, argH K s₁.heap A b = some u → K.lookup b = none := fun b u q => (argH_is ar q).1
  have noA : ∀ {b : Addr} {o : Obj} {es : Array DictEntry} {ep : Nat}, s₁.heap.get? b = some o → o.data = .dict es ep → argH K s₁.heap A b = none := fun {b o es ep} e d => by
    cases q : argH K s₁.heap A b with
    | none => rfl
    | some u =>
      obtain ⟨_, vs, _, _, ⟨e2, _⟩ | ⟨e2, _⟩⟩ := argH_is ar q
      · rw [e2] at e
        cases e
        have d' : Data.seq vs.toArray _ = Data.dict es ep := d
        cases d'
      · rw [e2] at e
        cases e
        have d' : Data.seq vs.toArray _ = Data.dict es ep := d
        cases d'
  generalize argH K s₁.heap A = H at hO hok hS hK noA
  have base_of : ∀ {b : Addr} {o : Obj}, s₁.heap.get? b = some o → H b = none → (hidT s₁.heap H).get? b = some o := fun e n => hidT_get e n
  have nsK : ∀ {b : Addr} {m : Str → Option Value}, s₁.heap.Ns b m → (hidT s₁.heap H).Ns b m := fun {b m} ⟨o, es, ep, e, d, r⟩ => ⟨o, es, ep, base_of e (noA e d), d, r⟩
  have nK : ∀ b o, K.lookup b = some o → H b = none := fun b o e => by
    cases q : H b with
    | none => rfl
    | some u =>
      rw [hK b u q] at e
      cases e
  have hKb : K.In (hidT s₁.heap H) := fun b o e => base_of (KX b o e) (nK b o e)
  have hM : Mod K mg (hidT s₁.heap H) := ⟨hKb, nsK hns, ⟨mb, nsK hb, hbb⟩, let ⟨mc, h1, h2⟩ := hlim; ⟨mc, nsK h1, h2⟩⟩
  have e0 : Env0 P w K mg (hidT s₁.heap H) callerA [] s₁ H := ⟨rfl, hM, fun b o e => of_hidT e, Nat.le_of_eq (hidT_size _ _), trivial, fun b hb => absurd (show b ∈ ([] : List Addr) from hb) (by simp), hok, .of_eq hg⟩
  have hl : vals.length = ps.length := by rw [wellAll_len hwl]; exact hlen
  refine codeAny_mono ((F _ hKb (nsK hns)).run callerA [] s₁ H ⟨vals, []⟩ vals (vals.map toV) _ _ hr e0 (hbind s₁ vals hl) hV (hsp H _ hO hS)) fun r s' x => ?_
  cases r with
  | error e => exact (hCX H e s' x).elim
  | ok fl =>
    cases fl with
    | next => exact False.elim x
    | brk => exact False.elim x
    | cont => exact False.elim x
    | ret u =>
      obtain ⟨v, H', os, bare, un, hok', r', q⟩ := x
      have kept : ∀ b o, s₁.heap.get? b = some o → s'.heap.get? b = some o := fun b o e => by
        cases q2 : H b with
        | none => exact un.keep b o e q2 (by intro z; exact absurd (show b ∈ ([] : List Addr) from z) (by simp)) (by simp)
        | some u2 =>
          rcases hO b with z | ⟨ob, u3, z⟩
          · rw [q2] at z
            cases z
          · have z2 := un.frzs b ob _ z
            obtain ⟨e1, _⟩ := hok b _ z
            obtain ⟨e2, _⟩ := hok' b _ z2
            rw [e] at e1
            cases e1
            exact e2
      have KX' : K.In s'.heap := fun b o e => kept b o (KX b o e)
      obtain ⟨as, hrd⟩ := Dw.reads (R := R) (cl := cl) hok' KX' d0 v u q r'
      exact ⟨u, as, rfl, hrd, OldK.of_keep kept, os, bare⟩
/-! ### the row -/
theorem layable_weight {ds : List WData} (h : WData.layableAll ds = true) : ∀ d ∈ ds, d.weight ≤ 1048576 := fun d hd =>
  (PySem.W.layableW_iff.mp (List.all_eq_true.mp h d hd)).2.2
theorem encAll_len : ∀ (cs : List Codec) (a : Codec.denoteAll cs), (Codec.encAll cs a).length = cs.length
  | [], _ => rfl
  | c :: cs, a => by
    show (Codec.encAll cs a.2).length + 1 = cs.length + 1
    rw [encAll_len cs a.2]
/-- the goal that k_headS leaves (case hc), from the promise of the row's def: whatever the arguments that the codecs let and the row asks for, the def gives what stands for enc (f ..) -/
theorem walk_spec {r : OpenSpec} {k : Nat} {q : Program} {loose : List Str} {XP : (Str → Option Value) → Heap → Prop} {YP : World → Heap → Prop} {d : DefRec} {K : Params → PySem.W.Frag} {CX : World → CXT} {ps : List Str} {sp : World → Sp}
    (hwell : r.wellSaid = true) (hdf : d.params.defaults = []) (hlen : r.args.length = ps.length) (hr : Room k callerA)
    (hY : ∀ (w : World) (h : Heap), YP w h → (K w.params).In h)
    (F : ∀ (w : World) (mg : Str → Option Value) (fa : Addr) (h : Heap), YP w h → (K w.params).In h → h.Ns mainGlobals mg → mg d.name = some (.ref fa) →
      ∃ fd : FuncData, (∀ (s : Shared) (us : List Value), us.length = ps.length → BindsTo s fd ⟨us, []⟩ (ps.zip us)) ∧
        ∀ base : Heap, (K w.params).In base → base.Ns mainGlobals mg → FnOk r.prog w (K w.params) mg base (CX w) k fa fd ps (sp w))
    (hsp : ∀ (w : World) (H : Hp) (xs : List V) (a : Codec.denoteAll r.args), OnlyF H → Codec.withinAll r.args a = true → Codec.app r.args r.asked a = true → DwAll (K w.params) H xs (Codec.encAll r.args a) →
      sp w xs H (fun v H' => Dw (K w.params) H' v (r.ret.enc (Codec.app r.args r.f a))) fun _ _ _ => False)
    (hCX : ∀ (w : World) (H : Hp) (s : Shared) (e : Value) (s' : Shared), CX w [] H s (fun _ _ _ => False) e s' → False) :
    PySem.W.WalkOS q loose XP YP r d [] (fun f vs => PySem.call f vs) := by
  intro w s_0 s₁ mg mb G Y fa o pm cd doc dV kV ho hd hcd hD hmg hg args vals as hpre hlay hrd hwl hlo
  obtain ⟨a, e1, e2⟩ := PySem.W.os_pre_some hpre
  obtain ⟨e3, hwi⟩ := Codec.encAll_of_decAll r.args args a e1
  subst e3
  have KX := hY w _ Y
  obtain ⟨fd, hb, hF⟩ := F w mg fa _ Y KX G.T.g hmg
  refine PySem.W.enter_call (codeAny_mono (spec_call (R := []) (cl := classAt s_0.heap) (d0 := r.ret.enc (Codec.app r.args r.f a)) KX G.T.g G.T.b G.T.builtins G.T.nolimit hg hwl (pl_encAll _ _) (layable_weight hlay) hr hF hb (by rw [encAll_len]; exact hlen)
    (fun H xs hO hS => hsp w H xs a hO hwi e2 hS) fun H e s' => hCX w H s₁ e s') fun r' s' hq => ?_)
  obtain ⟨u, as', rfl, h1, h2, h3, h4⟩ := hq
  exact ⟨.inl ⟨u, _, as', rfl, fun _ => rfl, h1, (OpenSpec.post_iff hwell hwi _ _).mpr rfl, fun z => Bool.noConfusion (show false = true from z)⟩, h2, h3, h4⟩
/-- the same where the promise hangs on the written part alone -/
theorem walk_specK {r : OpenSpec} {k : Nat} {q : Program} {loose : List Str} {XP : (Str → Option Value) → Heap → Prop} {YP : World → Heap → Prop} {d : DefRec} {K : Params → PySem.W.Frag} {CX : CXT} {ps : List Str} {sp : PySem.W.Frag → Sp}
    (hwell : r.wellSaid = true) (hdf : d.params.defaults = []) (hlen : r.args.length = ps.length) (hr : Room k callerA)
    (hY : ∀ (w : World) (h : Heap), YP w h → (K w.params).In h)
    (F : ∀ (w : World) (mg : Str → Option Value) (fa : Addr) (h : Heap), YP w h → (K w.params).In h → h.Ns mainGlobals mg → mg d.name = some (.ref fa) →
      ∃ fd : FuncData, (∀ (s : Shared) (us : List Value), us.length = ps.length → BindsTo s fd ⟨us, []⟩ (ps.zip us)) ∧
        ∀ base : Heap, (K w.params).In base → base.Ns mainGlobals mg → FnOk r.prog w (K w.params) mg base CX k fa fd ps (sp (K w.params)))
    (hsp : ∀ (K : PySem.W.Frag) (H : Hp) (xs : List V) (a : Codec.denoteAll r.args), OnlyF H → Codec.withinAll r.args a = true → Codec.app r.args r.asked a = true → DwAll K H xs (Codec.encAll r.args a) →
      sp K xs H (fun v H' => Dw K H' v (r.ret.enc (Codec.app r.args r.f a))) fun _ _ _ => False)
    (hCX : ∀ (H : Hp) (s : Shared) (e : Value) (s' : Shared), CX [] H s (fun _ _ _ => False) e s' → False) :
    PySem.W.WalkOS q loose XP YP r d [] (fun f vs => PySem.call f vs) :=
  walk_spec (K := K) (CX := fun _ => CX) (sp := fun w => sp (K w.params)) hwell hdf hlen hr hY F (fun w H xs a h1 h2 h3 h4 => hsp (K w.params) H xs a h1 h2 h3 h4) fun _ H s e s' => hCX H s e s'
end L2
end

set_option Elab.async false
set_option linter.all false
set_option maxRecDepth 100000
set_option maxHeartbeats 2000000
namespace Na
open Kg09
/-! ### bytes, words -/
theorem byte_lt (p : Bytes) (i : Nat) : byte p i < 256 := (p.getD i 0).toNat_lt
theorem word_lt (p : Bytes) (i : Nat) : word p i < 65536 := by
  have h1 := byte_lt p i
  have h2 := byte_lt p (i + 1)
  unfold word
  omega
theorem long_lt (p : Bytes) (i : Nat) : Kg09.long p i < 4294967296 := by
  have h1 := word_lt p i
  have h2 := word_lt p (i + 2)
  unfold Kg09.long
  omega
theorem len_setByte (p : Bytes) (i x : Nat) : (setByte p i x).length = p.length := List.length_set ..
theorem len_setWord (p : Bytes) (i x : Nat) : (setWord p i x).length = p.length := by
  unfold setWord
  rw [len_setByte, len_setByte]
theorem len_setLong (p : Bytes) (i x : Nat) : (setLong p i x).length = p.length := by
  unfold setLong
  rw [len_setWord, len_setWord]
theorem byte_setByte_ne (p : Bytes) {i j : Nat} (x : Nat) (h : i ≠ j) : byte (setByte p i x) j = byte p j := by
  unfold byte setByte
  rw [List.getD_eq_getElem?_getD, List.getD_eq_getElem?_getD, List.getElem?_set_ne h]
theorem byte_setByte_same (p : Bytes) {i : Nat} (x : Nat) (h : i < p.length) : byte (setByte p i x) i = x % 256 := by
  unfold byte setByte
  rw [List.getD_eq_getElem?_getD, List.getElem?_set_self h]
  show (UInt8.ofNat x).toNat = x % 256
  exact UInt8.toNat_ofNat'
theorem byte_setWord_ne (p : Bytes) {i j : Nat} (x : Nat) (h : i ≠ j) (h' : i + 1 ≠ j) : byte (setWord p i x) j = byte p j := by
  unfold setWord
  rw [byte_setByte_ne _ _ h', byte_setByte_ne _ _ h]
theorem word_setByte_ne (p : Bytes) {i j : Nat} (x : Nat) (h : i ≠ j) (h' : i ≠ j + 1) : word (setByte p i x) j = word p j := by
  unfold word
  rw [byte_setByte_ne _ _ h, byte_setByte_ne _ _ h']
theorem word_setWord_ne (p : Bytes) {i j : Nat} (x : Nat) (h : i + 1 < j ∨ j + 1 < i) : word (setWord p i x) j = word p j := by
  unfold word
  rw [byte_setWord_ne _ _ (by omega) (by omega), byte_setWord_ne _ _ (by omega) (by omega)]
theorem word_setWord_same (p : Bytes) {i : Nat} {x : Nat} (h : i + 1 < p.length) (hx : x < 65536) : word (setWord p i x) i = x := by
  unfold word setWord
  rw [byte_setByte_ne _ _ (by omega), byte_setByte_same _ _ (by omega), byte_setByte_same _ _ (by rw [len_setByte]; exact h)]
  omega
theorem setByte_comm (p : Bytes) {i j : Nat} (x y : Nat) (h : i ≠ j) : setByte (setByte p i x) j y = setByte (setByte p j y) i x := by
  unfold setByte
  exact List.set_comm _ _ h
theorem setWord_setByte (p : Bytes) {i s : Nat} (v c : Nat) (h : i ≠ s) (h' : i ≠ s + 1) : setWord (setByte p i v) s c = setByte (setWord p s c) i v := by
  unfold setWord
  rw [setByte_comm p _ _ h, setByte_comm _ _ _ h']
theorem setWord_comm (p : Bytes) {i s : Nat} (v c : Nat) (h : i + 1 < s ∨ s + 1 < i) : setWord (setWord p i v) s c = setWord (setWord p s c) i v := by
  have e : ∀ q : Bytes, setWord q i v = setByte (setByte q i (v / 256 % 256)) (i + 1) (v % 256) := fun _ => rfl
  rw [e p, e (setWord p s c), setWord_setByte _ _ _ (by omega) (by omega), setWord_setByte _ _ _ (by omega) (by omega)]
theorem setByte_twice (p : Bytes) (i x y : Nat) : setByte (setByte p i x) i y = setByte p i y := by
  unfold setByte
  exact List.set_set ..
theorem setWord_twice (p : Bytes) (i x y : Nat) : setWord (setWord p i x) i y = setWord p i y := by
  have e : ∀ (q : Bytes) (v : Nat), setWord q i v = setByte (setByte q i (v / 256 % 256)) (i + 1) (v % 256) := fun _ _ => rfl
  rw [e (setWord p i x) y, e p x, setByte_comm _ _ _ (show i + 1 ≠ i by omega), setByte_twice, setByte_twice, ← e p y]
theorem setByte_self (p : Bytes) (i : Nat) : setByte p i (byte p i) = p := by
  unfold setByte byte
  apply List.ext_getElem?
  intro j
  by_cases e : i = j
  · subst e
    by_cases hl : i < p.length
    · rw [List.getElem?_set_self hl, List.getElem?_eq_getElem hl, List.getD_eq_getElem?_getD, List.getElem?_eq_getElem hl]
      simp
    · rw [List.getElem?_eq_none (by rw [List.length_set]; omega), List.getElem?_eq_none (by omega)]
  · rw [List.getElem?_set_ne e]
theorem setWord_self (p : Bytes) (i : Nat) : setWord p i (word p i) = p := by
  have h1 := byte_lt p i
  have h2 := byte_lt p (i + 1)
  unfold setWord word
  rw [show (256 * byte p i + byte p (i + 1)) / 256 % 256 = byte p i by omega, show (256 * byte p i + byte p (i + 1)) % 256 = byte p (i + 1) by omega, setByte_self, setByte_self]
/-! ### summed -/
theorem summed_low {n : Nat} (h : n ≤ 65535) : summed n = n := by
  unfold summed
  by_cases h0 : n = 0
  · rw [if_pos h0, h0]
  · rw [if_neg h0]
    by_cases h1 : n % 65535 = 0
    · rw [if_pos h1]
      omega
    · rw [if_neg h1]
      omega
theorem summed_step {n : Nat} (h : 65535 < n) : summed (n % 65536 + n / 65536) = summed n := by
  have e : (n % 65536 + n / 65536) % 65535 = n % 65535 := by omega
  unfold summed
  rw [e, if_neg (show ¬ (n % 65536 + n / 65536 = 0) by omega), if_neg (show ¬ (n = 0) by omega)]
theorem summed_le (n : Nat) : summed n ≤ 65535 := by
  unfold summed
  by_cases h0 : n = 0
  · rw [if_pos h0]
    omega
  · rw [if_neg h0]
    by_cases h1 : n % 65535 = 0
    · rw [if_pos h1]
      exact Nat.le_refl _
    · rw [if_neg h1]
      omega
/-! ### the head's sum -/
def ws (p : Bytes) (i : Nat) : Nat := (List.range i).foldl (fun s i => s + word p (2 * i)) 0
theorem ws_succ (p : Bytes) (i : Nat) : ws p (i + 1) = ws p i + word p (2 * i) := by
  unfold ws
  rw [List.range_succ, List.foldl_append]
  rfl
theorem wordsOf_ws (p : Bytes) (n : Nat) : wordsOf p n = ws p (n / 2) := rfl
theorem ws_congr {p q : Bytes} : ∀ {n : Nat}, (∀ j, j < 2 * n → byte p j = byte q j) → ws p n = ws q n
  | 0, _ => rfl
  | n + 1, h => by
    rw [ws_succ, ws_succ, ws_congr (n := n) (fun j hj => h j (by omega))]
    unfold word
    rw [h (2 * n) (by omega), h (2 * n + 1) (by omega)]
theorem wordsOf_congr {p q : Bytes} {n : Nat} (h : ∀ j, j < n → byte p j = byte q j) : wordsOf p n = wordsOf q n := by
  rw [wordsOf_ws, wordsOf_ws]
  exact ws_congr fun j hj => h j (by omega)
theorem head_lt (p : Bytes) : head p < 64 := by
  unfold head
  omega
/-! ### the packet, as the program rewrites it -/
def protoN : Kind → Nat
  | .udp => 17
  | .tcp => 6
  | .echo => 1
theorem protoN_inj : ∀ {a b : Kind}, protoN a = protoN b → a = b := by
  intro a b h
  cases a <;> cases b <;> first | rfl | (exact absurd h (by decide))
def cov (p : Bytes) (ap q : Nat) : List Nat := if byte p 9 = 1 then [word p q] else [word p ap, word p (ap + 2), word p q]
def headSet (p : Bytes) : Bytes := setWord (setWord p 10 0) 10 (65535 - summed (wordsOf (setWord p 10 0) (head (setWord p 10 0))))
def sumPlace (p : Bytes) : Nat := if byte p 9 = 17 then head p + 6 else if byte p 9 = 6 then head p + 16 else head p + 2
def moved (c : Nat) (before after : List Nat) : Nat := 65535 - summed ((65535 - c) + (before.map (fun x => 65535 - x)).sum + after.sum)
def brought (p : Bytes) (before after : List Nat) : Bytes :=
  if byte p 9 = 17 ∧ word p (sumPlace p) = 0 then p
  else setWord p (sumPlace p) (if byte p 9 = 17 ∧ moved (word p (sumPlace p)) before after = 0 then 65535 else moved (word p (sumPlace p)) before after)
def moved2 (p : Bytes) (ap q address port : Nat) : Bytes := setWord (setLong p ap address) q port
def stepped (p : Bytes) : Bytes := setByte p 8 (byte p 8 - 1)
def rewM (p : Bytes) (ap q address port : Nat) : Bytes :=
  brought (headSet (stepped (moved2 p ap q address port))) (cov p ap q) (cov (moved2 p ap q address port) ap q)
/-- what the packet carries, the piece aside -/
def kin (p : Bytes) (out : Bool) : Option Kind :=
  if byte p 9 = 17 then (if 8 ≤ total p - head p ∧ 8 ≤ word p (head p + 4) ∧ word p (head p + 4) ≤ total p - head p then some .udp else none)
  else if byte p 9 = 6 then (if 20 ≤ total p - head p then some .tcp else none)
  else if byte p 9 = 1 then (if 8 ≤ total p - head p ∧ byte p (head p) = (if out = true then 8 else 0) ∧ byte p (head p + 1) = 0 then some .echo else none)
  else none
theorem kind_kin (p : Bytes) (out : Bool) : kind p out = if word p 6 % 16384 ≠ 0 then none else kin p out := rfl
/-- the facts of a packet that is not refused -/
structure Sound (p : Bytes) (k : Kind) (out : Bool) : Prop where
  hd : 20 ≤ head p
  len : head p + sumAt k + 1 < p.length
  por : head p + portAt k out + 1 < p.length
  pro : byte p 9 = protoN k
theorem whole_iff {p : Bytes} : whole p = true ↔ 20 ≤ p.length ∧ byte p 0 / 16 = 4 ∧ 20 ≤ head p ∧ head p ≤ total p ∧ total p ≤ p.length ∧ summed (wordsOf p (head p)) = 65535 := by
  unfold whole
  simp only [Bool.and_eq_true, decide_eq_true_eq, and_assoc]
theorem kin_sound {p : Bytes} {k : Kind} {out : Bool} (hw : whole p = true) (hk : kin p out = some k) : Sound p k out := by
  obtain ⟨h1, h2, h3, h4, h5, h6⟩ := whole_iff.mp hw
  unfold kin at hk
  by_cases a : byte p 9 = 17
  · rw [if_pos a] at hk
    by_cases b : 8 ≤ total p - head p ∧ 8 ≤ word p (head p + 4) ∧ word p (head p + 4) ≤ total p - head p
    · rw [if_pos b] at hk
      cases hk
      refine ⟨h3, ?_, ?_, a⟩
      · show head p + 6 + 1 < _
        omega
      · show head p + (if out = true then 0 else 2) + 1 < _
        split <;> omega
    · rw [if_neg b] at hk
      cases hk
  · rw [if_neg a] at hk
    by_cases a2 : byte p 9 = 6
    · rw [if_pos a2] at hk
      by_cases b : 20 ≤ total p - head p
      · rw [if_pos b] at hk
        cases hk
        refine ⟨h3, ?_, ?_, a2⟩
        · show head p + 16 + 1 < _
          omega
        · show head p + (if out = true then 0 else 2) + 1 < _
          split <;> omega
      · rw [if_neg b] at hk
        cases hk
    · rw [if_neg a2] at hk
      by_cases a3 : byte p 9 = 1
      · rw [if_pos a3] at hk
        by_cases b : 8 ≤ total p - head p ∧ byte p (head p) = (if out = true then 8 else 0) ∧ byte p (head p + 1) = 0
        · rw [if_pos b] at hk
          cases hk
          refine ⟨h3, ?_, ?_, a3⟩
          · show head p + 2 + 1 < _
            omega
          · show head p + 4 + 1 < _
            omega
        · rw [if_neg b] at hk
          cases hk
      · rw [if_neg a3] at hk
        cases hk
theorem kind_sound {p : Bytes} {k : Kind} {out : Bool} (hw : whole p = true) (hk : kind p out = some k) : Sound p k out := by
  rw [kind_kin] at hk
  by_cases a : word p 6 % 16384 ≠ 0
  · rw [if_pos a] at hk
    cases hk
  · rw [if_neg a] at hk
    exact kin_sound hw hk
theorem head_of {p q : Bytes} (h : byte p 0 = byte q 0) : head p = head q := by
  unfold head
  rw [h]
theorem byte_moved2 {p : Bytes} {ap q address port j : Nat} (h : j < ap ∨ ap + 3 < j) (h' : j < q ∨ q + 1 < j) : byte (moved2 p ap q address port) j = byte p j := by
  unfold moved2 setLong
  rw [byte_setWord_ne _ _ (by omega) (by omega), byte_setWord_ne _ _ (by omega) (by omega), byte_setWord_ne _ _ (by omega) (by omega)]
theorem len_moved2 (p : Bytes) (ap q address port : Nat) : (moved2 p ap q address port).length = p.length := by
  unfold moved2
  rw [len_setWord, len_setLong]
theorem cov_after {p : Bytes} {ap q address port : Nat} (ha : ap + 3 < q) (hq : q + 1 < p.length) (h9 : 9 < ap) (had : address < 4294967296) (hpo : port < 65536) :
    cov (moved2 p ap q address port) ap q = if byte p 9 = 1 then [port] else [address / 65536, address % 65536, port] := by
  unfold cov
  rw [byte_moved2 (by omega) (by omega)]
  have e1 : word (moved2 p ap q address port) q = port := by
    unfold moved2
    exact word_setWord_same _ (by rw [len_setLong]; exact hq) hpo
  have e2 : word (moved2 p ap q address port) ap = address / 65536 := by
    unfold moved2 setLong
    rw [word_setWord_ne _ _ (by omega), word_setWord_ne _ _ (by omega), word_setWord_same _ (by omega) (by omega)]
    omega
  have e3 : word (moved2 p ap q address port) (ap + 2) = address % 65536 := by
    unfold moved2 setLong
    rw [word_setWord_ne _ _ (by omega), word_setWord_same _ (by rw [len_setWord]; omega) (by omega)]
  rw [e1, e2, e3]
theorem addressAt_cases (out : Bool) : addressAt out = 12 ∨ addressAt out = 16 := by
  cases out
  · exact .inr rfl
  · exact .inl rfl
theorem portAt_le (k : Kind) (out : Bool) : portAt k out ≤ 4 := by
  cases k <;> cases out <;> decide
theorem apart (k : Kind) (out : Bool) : portAt k out + 1 < sumAt k ∨ sumAt k + 1 < portAt k out := by
  cases k <;> cases out <;> decide
theorem rew_eq {p : Bytes} {k : Kind} {out : Bool} {address port : Nat} (S : Sound p k out) (had : address < 4294967296) (hpo : port < 65536) :
    rewM p (addressAt out) (head p + portAt k out) address port = rewritten p k out address port := by
  obtain ⟨hd, hl, hp, pr⟩ := S
  have ha := addressAt_cases out
  have hpl := portAt_le k out
  have hap := apart k out
  generalize ea : addressAt out = a at *
  generalize eq : head p + portAt k out = q at *
  generalize es : head p + sumAt k = s at *
  have b0 : ∀ j, j < 12 → byte (moved2 p a q address port) j = byte p j := fun j hj => byte_moved2 (by omega) (by omega)
  generalize eX : moved2 p a q address port = X at *
  have lX : X.length = p.length := by rw [← eX, len_moved2]
  have hX : head X = head p := head_of (b0 0 (by omega))
  -- behind the head's checksum
  have e8 : stepped X = setByte X 8 (byte p 8 - 1) := by
    unfold stepped
    rw [b0 8 (by omega)]
  have hw10 : head (setWord (stepped X) 10 0) = head p := by
    rw [← hX]
    apply head_of
    rw [byte_setWord_ne _ _ (by omega) (by omega), e8, byte_setByte_ne _ _ (by omega)]
  have ehs : headSet (stepped X) = setWord (setByte X 8 (byte p 8 - 1)) 10 (65535 - summed (wordsOf (setWord (setByte X 8 (byte p 8 - 1)) 10 0) (head p))) := by
    unfold headSet
    rw [setWord_twice, hw10, e8]
  generalize ew : 65535 - summed (wordsOf (setWord (setByte X 8 (byte p 8 - 1)) 10 0) (head p)) = w at *
  have b9 : byte (setWord (setByte X 8 (byte p 8 - 1)) 10 w) 9 = byte p 9 := by
    rw [byte_setWord_ne _ _ (by omega) (by omega), byte_setByte_ne _ _ (by omega), b0 9 (by omega)]
  have bh : head (setWord (setByte X 8 (byte p 8 - 1)) 10 w) = head p := by
    rw [← hX]
    apply head_of
    rw [byte_setWord_ne _ _ (by omega) (by omega), byte_setByte_ne _ _ (by omega)]
  have hsp : sumPlace (setWord (setByte X 8 (byte p 8 - 1)) 10 w) = s := by
    unfold sumPlace
    rw [b9, bh, pr, ← es]
    cases k <;> rfl
  have hws : word (setWord (setByte X 8 (byte p 8 - 1)) 10 w) s = word p s := by
    rw [word_setWord_ne _ _ (by omega), word_setByte_ne _ _ (by omega) (by omega), ← eX]
    unfold moved2 setLong
    rw [word_setWord_ne _ _ (by omega), word_setWord_ne _ _ (by omega), word_setWord_ne _ _ (by omega)]
  have hcov : cov X a q = if byte p 9 = 1 then [port] else [address / 65536, address % 65536, port] := by
    rw [← eX]
    exact cov_after (by omega) (by omega) (by omega) had hpo
  have hmv : moved (word p s) (cov p a q) (cov X a q) = along (word p s) ((if k = .echo then [] else [(word p a, address / 65536), (word p (a + 2), address % 65536)]) ++ [(word p q, port)]) := by
    rw [hcov]
    unfold cov moved along
    rw [pr]
    cases k
    · show 65535 - summed _ = 65535 - summed _
      refine congrArg (fun z => 65535 - summed z) ?_
      simp [protoN]
      omega
    · show 65535 - summed _ = 65535 - summed _
      refine congrArg (fun z => 65535 - summed z) ?_
      simp [protoN]
      omega
    · show 65535 - summed _ = 65535 - summed _
      refine congrArg (fun z => 65535 - summed z) ?_
      simp [protoN]
  have hud : (byte p 9 = 17) ↔ k = .udp := by
    rw [pr]
    cases k <;> simp [protoN]
  -- the specification's side
  unfold rewM
  rw [eX, ehs]
  unfold brought
  rw [b9, hsp, hws, hmv]
  unfold rewritten
  simp only [ea, eq, es]
  generalize along (word p s) ((if k = .echo then [] else [(word p a, address / 65536), (word p (a + 2), address % 65536)]) ++ [(word p q, port)]) = c
  have key : ∀ d : Nat, setWord (setWord (setByte X 8 (byte p 8 - 1)) 10 w) s d = setWord (setByte (setWord X s d) 8 (byte p 8 - 1)) 10 (65535 - summed (wordsOf (setWord (setByte (setWord X s d) 8 (byte p 8 - 1)) 10 0) (head p))) := by
    intro d
    have e1 : wordsOf (setWord (setByte (setWord X s d) 8 (byte p 8 - 1)) 10 0) (head p) = wordsOf (setWord (setByte X 8 (byte p 8 - 1)) 10 0) (head p) := by
      apply wordsOf_congr
      intro j hj
      rw [← setWord_setByte _ _ _ (by omega) (by omega), ← setWord_comm _ _ _ (by omega)]
      exact byte_setWord_ne _ _ (by omega) (by omega)
    rw [e1, ew, setWord_comm _ _ _ (by omega), setWord_setByte _ _ _ (by omega) (by omega)]
  have eX' : setWord (setLong p a address) q port = X := eX
  rw [eX']
  simp only [hud]
  by_cases z : k = .udp ∧ word p s = 0
  · rw [if_pos z, if_pos z, ← key 0]
    have : word (setWord (setByte X 8 (byte p 8 - 1)) 10 w) s = 0 := by rw [hws, z.2]
    exact ((congrArg (setWord _ s) this).symm.trans (setWord_self _ s)).symm
  · rw [if_neg z, if_neg z, key]
end Na
namespace Na
open Kg09
/-! ### the bindings in the program's order, against the specification's -/
def Apart (b c : Binding) : Prop := b.kind = c.kind → b.outside ≠ c.outside ∧ ¬ (b.address = c.address ∧ b.port = c.port)
theorem Apart.symm {b c : Binding} (h : Apart b c) : Apart c b := fun e =>
  ⟨fun q => (h e.symm).1 q.symm, fun q => (h e.symm).2 ⟨q.1.symm, q.2.symm⟩⟩
structure Fit (b : Binding) : Prop where
  adr : b.address < 4294967296
  por : b.port < 65536
  out : b.outside < 65536
  las : b.last < 4294967296
structure Rel (bs : List Binding) (s : Abs) : Prop where
  perm : s.bindings.Perm bs
  uni : bs.Pairwise Apart
  fit : ∀ b ∈ bs, Fit b
  few : bs.length ≤ 256
theorem pw_apart : ∀ {bs : List Binding}, bs.Pairwise Apart → ∀ x ∈ bs, ∀ y ∈ bs, x ≠ y → Apart x y
  | [], _, x, hx, _, _, _ => by cases hx
  | b :: r, h, x, hx, y, hy, ne => by
    obtain ⟨h1, h2⟩ := List.pairwise_cons.mp h
    rcases List.mem_cons.mp hx with rfl | hx'
    · rcases List.mem_cons.mp hy with rfl | hy'
      · exact absurd rfl ne
      · exact h1 y hy'
    · rcases List.mem_cons.mp hy with rfl | hy'
      · exact (h1 x hx').symm
      · exact pw_apart h2 x hx' y hy' ne
theorem pw_out {bs : List Binding} (h : bs.Pairwise Apart) {x y : Binding} (hx : x ∈ bs) (hy : y ∈ bs) (hk : x.kind = y.kind) (ho : x.outside = y.outside) : x = y :=
  Classical.byContradiction fun ne => (pw_apart h x hx y hy ne hk).1 ho
theorem pw_in {bs : List Binding} (h : bs.Pairwise Apart) {x y : Binding} (hx : x ∈ bs) (hy : y ∈ bs) (hk : x.kind = y.kind) (ha : x.address = y.address) (hp : x.port = y.port) : x = y :=
  Classical.byContradiction fun ne => (pw_apart h x hx y hy ne hk).2 ⟨ha, hp⟩
theorem find_of {α : Type} {f : α → Bool} {l : List α} {x : α} (hx : x ∈ l) (fx : f x = true) (u : ∀ y ∈ l, f y = true → y = x) : l.find? f = some x := by
  cases e : l.find? f with
  | none => exact absurd fx (List.find?_eq_none.mp e x hx)
  | some y => rw [u y (List.mem_of_find?_eq_some e) (List.find?_some e)]
theorem find_none {α : Type} {f : α → Bool} {l : List α} (u : ∀ y ∈ l, ¬ f y = true) : l.find? f = none := List.find?_eq_none.mpr u
section
variable {bs : List Binding} {s : Abs}
theorem Rel.mem (R : Rel bs s) {b : Binding} : b ∈ s.bindings ↔ b ∈ bs := R.perm.mem_iff
theorem Rel.inside_some (R : Rel bs s) {b : Binding} (hb : b ∈ bs) : s.inside b.kind b.address b.port = some b := by
  refine find_of (R.mem.mpr hb) (by simp) fun y hy fy => ?_
  simp only [Bool.and_eq_true, beq_iff_eq] at fy
  exact pw_in R.uni (R.mem.mp hy) hb fy.1.1 fy.1.2 fy.2
theorem Rel.inside_none (R : Rel bs s) {k : Kind} {a x : Nat} (h : ∀ b ∈ bs, ¬ (b.kind = k ∧ b.address = a ∧ b.port = x)) : s.inside k a x = none := by
  refine find_none fun y hy fy => ?_
  simp only [Bool.and_eq_true, beq_iff_eq] at fy
  exact h y (R.mem.mp hy) ⟨fy.1.1, fy.1.2, fy.2⟩
theorem Rel.at_some (R : Rel bs s) {b : Binding} (hb : b ∈ bs) : s.at_ b.kind b.outside = some b := by
  refine find_of (R.mem.mpr hb) (by simp) fun y hy fy => ?_
  simp only [Bool.and_eq_true, beq_iff_eq] at fy
  exact pw_out R.uni (R.mem.mp hy) hb fy.1 fy.2
theorem Rel.at_none (R : Rel bs s) {k : Kind} {x : Nat} (h : ∀ b ∈ bs, ¬ (b.kind = k ∧ b.outside = x)) : s.at_ k x = none := by
  refine find_none fun y hy fy => ?_
  simp only [Bool.and_eq_true, beq_iff_eq] at fy
  exact h y (R.mem.mp hy) fy
theorem Rel.of_at_none (R : Rel bs s) {k : Kind} {x : Nat} (h : s.at_ k x = none) : ∀ b ∈ bs, ¬ (b.kind = k ∧ b.outside = x) := fun b hb q => by
  have := R.at_some hb
  rw [q.1, q.2, h] at this
  cases this
def alive (now : Nat) (bs : List Binding) : List Binding := bs.filter fun b => !b.dead now
theorem Rel.forget (R : Rel bs s) (now : Nat) : Rel (alive now bs) (s.forget now) := by
  refine ⟨R.perm.filter _, R.uni.filter _, fun b hb => R.fit b (List.mem_filter.mp hb).1, Nat.le_trans (List.length_filter_le _ _) R.few⟩
theorem Rel.count (R : Rel bs s) (now : Nat) : (s.bindings.filter fun b => !b.dead now).length = (alive now bs).length := (R.perm.filter _).length_eq
theorem set_perm : ∀ {bs : List Binding} {j : Nat} {b b' : Binding}, bs.Pairwise Apart → bs[j]? = some b → (b' :: bs.filter fun c => !(c.kind == b.kind && c.outside == b.outside)).Perm (bs.set j b')
  | [], j, b, b', _, h => by simp at h
  | c :: r, 0, b, b', u, h => by
    have e : c = b := Option.some.inj h
    subst e
    obtain ⟨h1, h2⟩ := List.pairwise_cons.mp u
    have e1 : ((c :: r).filter fun z => !(z.kind == c.kind && z.outside == c.outside)) = r := by
      rw [List.filter_cons, if_neg (by simp)]
      refine List.filter_eq_self.mpr fun z hz => ?_
      simp only [Bool.not_eq_true', Bool.and_eq_false_iff, beq_eq_false_iff_ne]
      by_cases k : z.kind = c.kind
      · exact .inr fun q => (h1 z hz k.symm).1 q.symm
      · exact .inl k
    rw [e1]
    exact List.Perm.refl _
  | c :: r, j + 1, b, b', u, h => by
    obtain ⟨h1, h2⟩ := List.pairwise_cons.mp u
    have hb : b ∈ r := List.mem_of_getElem? (show r[j]? = some b from h)
    have ih := set_perm (b' := b') h2 (show r[j]? = some b from h)
    have e1 : ((c :: r).filter fun z => !(z.kind == b.kind && z.outside == b.outside)) = c :: r.filter fun z => !(z.kind == b.kind && z.outside == b.outside) := by
      rw [List.filter_cons, if_pos ?_]
      simp only [Bool.not_eq_true', Bool.and_eq_false_iff, beq_eq_false_iff_ne]
      by_cases k : c.kind = b.kind
      · exact .inr (h1 b hb k).1
      · exact .inl k
    rw [e1]
    exact (List.Perm.swap _ _ _).trans (ih.cons c)
theorem Rel.used (R : Rel bs s) {j now : Nat} {b : Binding} (h : bs[j]? = some b) (hn : now < 4294967296) : Rel (bs.set j { b with last := now }) (s.used b now) := by
  have hb : b ∈ bs := List.mem_of_getElem? h
  have p := set_perm (b' := { b with last := now }) R.uni h
  refine ⟨((R.perm.filter _).cons _).trans p, ?_, fun c hc => ?_, by rw [List.length_set]; exact R.few⟩
  · refine (List.Perm.pairwise_iff (fun {x y} q => Apart.symm q) p).mp (List.pairwise_cons.mpr ⟨fun c hc => ?_, R.uni.filter _⟩)
    obtain ⟨hc1, hc2⟩ := List.mem_filter.mp hc
    simp only [Bool.not_eq_true', Bool.and_eq_false_iff, beq_eq_false_iff_ne] at hc2
    have ne : b ≠ c := fun q => by
      subst q
      rcases hc2 with q | q <;> exact q rfl
    exact pw_apart R.uni b hb c hc1 ne
  · rcases List.mem_or_eq_of_mem_set hc with q | q
    · exact R.fit c q
    · subst q
      have f := R.fit b hb
      exact ⟨f.adr, f.por, f.out, hn⟩
/-! ### the port outside of a new binding -/
def taken (k : Kind) (bs : List Binding) : List Nat := (bs.filter fun b => b.kind == k).map (·.outside)
theorem mem_taken {k : Kind} {x : Nat} : x ∈ taken k bs ↔ ∃ b ∈ bs, b.kind = k ∧ b.outside = x := by
  unfold taken
  simp only [List.mem_map, List.mem_filter, beq_iff_eq]
  exact ⟨fun ⟨b, h1, h2⟩ => ⟨b, h1.1, h1.2, h2⟩, fun ⟨b, h1, h2, h3⟩ => ⟨b, ⟨h1, h2⟩, h3⟩⟩
theorem Rel.at_taken (R : Rel bs s) {k : Kind} {x : Nat} : s.at_ k x = none ↔ ¬ x ∈ taken k bs := by
  rw [mem_taken]
  constructor
  · rintro h ⟨b, hb, q⟩
    exact R.of_at_none h b hb q
  · intro h
    exact R.at_none fun b hb q => h ⟨b, hb, q⟩
theorem taken_len (k : Kind) (bs : List Binding) : (taken k bs).length ≤ bs.length := by
  unfold taken
  rw [List.length_map]
  exact List.length_filter_le _ _
theorem nodup_len : ∀ {l m : List Nat}, l.Nodup → (∀ x ∈ l, x ∈ m) → l.length ≤ m.length
  | [], _, _, _ => Nat.zero_le _
  | a :: l, m, h, q => by
    obtain ⟨h1, h2⟩ := List.nodup_cons.mp h
    have ha := q a (List.mem_cons.mpr (.inl rfl))
    have ih := nodup_len (l := l) (m := m.erase a) h2 fun x hx => (List.mem_erase_of_ne (show x ≠ a from fun e => h1 (by rw [← e]; exact hx))).mpr (q x (List.mem_cons.mpr (.inr hx)))
    rw [List.length_erase_of_mem ha] at ih
    have : 0 < m.length := List.length_pos_of_mem ha
    show l.length + 1 ≤ _
    omega
theorem hole {l : List Nat} {n : Nat} (h : ∀ y, 1024 ≤ y → y < 1024 + n → y ∈ l) : n ≤ l.length := by
  have := nodup_len (l := List.range' 1024 n) (m := l) List.nodup_range' fun x hx => by
    obtain ⟨h1, h2⟩ := List.mem_range'_1.mp hx
    exact h x h1 h2
  rwa [List.length_range'] at this
theorem Rel.fresh_own (R : Rel bs s) {k : Kind} {x : Nat} (h1 : 1024 ≤ x) (h2 : ¬ x ∈ taken k bs) : s.fresh k x = x := by
  unfold Abs.fresh
  rw [if_pos ⟨h1, R.at_taken.mpr h2⟩]
theorem Rel.fresh_least (R : Rel bs s) {k : Kind} {x q : Nat} (h : ¬ (1024 ≤ x ∧ ¬ x ∈ taken k bs)) (hq : 1024 ≤ q) (hq2 : q < 65536) (hl : ∀ y, 1024 ≤ y → y < q → y ∈ taken k bs) (hn : ¬ q ∈ taken k bs) : s.fresh k x = q := by
  unfold Abs.fresh
  rw [if_neg (fun z => h ⟨z.1, R.at_taken.mp z.2⟩), List.find?_map]
  have e : (List.range 64512).find? ((fun x => (s.at_ k x).isNone) ∘ fun i => 1024 + i) = some (q - 1024) := by
    rw [List.find?_range_eq_some]
    refine ⟨?_, List.mem_range.mpr (by omega), fun j hj => ?_⟩
    · show (s.at_ k (1024 + (q - 1024))).isNone = true
      rw [show 1024 + (q - 1024) = q by omega, R.at_taken.mpr hn]
      rfl
    · show (!(s.at_ k (1024 + j)).isNone) = true
      cases e : s.at_ k (1024 + j) with
      | none => exact absurd (hl (1024 + j) (by omega) (by omega)) (R.at_taken.mp e)
      | some b => rfl
  rw [e]
  show 1024 + (q - 1024) = q
  omega
theorem Rel.new (R : Rel bs s) {b : Binding} (h1 : ∀ c ∈ bs, ¬ (c.kind = b.kind ∧ c.address = b.address ∧ c.port = b.port)) (h2 : ¬ b.outside ∈ taken b.kind bs) (hf : Fit b) (hl : bs.length < 256) : Rel (bs ++ [b]) { s with bindings := b :: s.bindings } := by
  refine ⟨(R.perm.cons b).trans (List.perm_append_singleton b bs).symm, List.pairwise_append.mpr ⟨R.uni, List.pairwise_singleton _ _, fun c hc d hd => ?_⟩, fun c hc => ?_, by rw [List.length_append]; exact hl⟩
  · rw [List.mem_singleton.mp hd]
    exact fun e => ⟨fun q => h2 (mem_taken.mpr ⟨c, hc, e, q⟩), fun q => h1 c hc ⟨e, q.1, q.2⟩⟩
  · rcases List.mem_append.mp hc with q | q
    · exact R.fit c q
    · rw [List.mem_singleton.mp q]
      exact hf
end
/-! ### time -/
theorem since_int {now last : Nat} (h1 : now < 4294967296) (h2 : last < 4294967296) : ((now : Int) - (last : Int)) % 4294967296 = ((since now last : Nat) : Int) := by
  unfold since
  have e : (2 : Nat) ^ 32 = 4294967296 := by decide
  rw [e]
  omega
theorem dead_iff {b : Binding} {now : Nat} : b.dead now = decide ((if b.kind = .tcp then 7200 else 300) ≤ since now b.last) := rfl
/-! ### find -/
theorem Rel.find_found {bs : List Binding} {s : Abs} (R : Rel bs s) {b : Binding} {now : Nat} (hb : b ∈ bs) (hd : b.dead now = false) : (s.forget now).at_ b.kind b.outside = some b :=
  (R.forget now).at_some (List.mem_filter.mpr ⟨hb, by rw [hd]; rfl⟩)
theorem Rel.find_dead {bs : List Binding} {s : Abs} (R : Rel bs s) {b : Binding} {now : Nat} (hb : b ∈ bs) (hd : b.dead now = true) : (s.forget now).at_ b.kind b.outside = none := by
  refine (R.forget now).at_none fun c hc q => ?_
  obtain ⟨h1, h2⟩ := List.mem_filter.mp hc
  have := pw_out R.uni h1 hb q.1 q.2
  subst this
  rw [hd] at h2
  cases h2
theorem Rel.find_none {bs : List Binding} {s : Abs} (R : Rel bs s) {k : Kind} {x now : Nat} (h : ∀ b ∈ bs, ¬ (b.kind = k ∧ b.outside = x)) : (s.forget now).at_ k x = none :=
  (R.forget now).at_none fun c hc q => h c (List.mem_filter.mp hc).1 q
end Na
namespace Na
open Kg09
/-! ### the calls of a list -/
inductive Five : List (List Int) → Prop
  | begin (o : Int) : Five [[0, o]]
  | out (t : Int) (r : List Int) : Five [[1, t], r]
  | come (t : Int) (r : List Int) : Five [[2, t], r]
  | count (t : Int) : Five [[3, t]]
  | find (x y z : Int) : Five [[4, x, y, z]]
theorem len1 {α : Type} : ∀ {l : List α}, l.length = 1 → ∃ a, l = [a]
  | [a], _ => ⟨a, rfl⟩
theorem len3 {α : Type} : ∀ {l : List α}, l.length = 3 → ∃ a b c, l = [a, b, c]
  | [a, b, c], _ => ⟨a, b, c, rfl⟩
theorem len0 {α : Type} : ∀ {l : List α}, l.length = 0 → l = []
  | [], _ => rfl
theorem five_of {c : List (List Int)} (h : PyFlat.okCall PyKg09.shape c) : Five c := by
  obtain ⟨p, a, xs, rfl, e⟩ := h
  unfold PyKg09.shape at e
  by_cases h0 : p = 0
  · rw [if_pos h0] at e
    have e := Option.some.inj e
    obtain ⟨x, rfl⟩ := len1 (congrArg Prod.fst e).symm
    rw [len0 (congrArg Prod.snd e).symm, h0]
    exact .begin x
  · rw [if_neg h0] at e
    by_cases h1 : p = 1
    · rw [if_pos h1] at e
      have e := Option.some.inj e
      obtain ⟨x, rfl⟩ := len1 (congrArg Prod.fst e).symm
      obtain ⟨r, rfl⟩ := len1 (congrArg Prod.snd e).symm
      rw [h1]
      exact .out x r
    · rw [if_neg h1] at e
      by_cases h2 : p = 2
      · rw [if_pos h2] at e
        have e := Option.some.inj e
        obtain ⟨x, rfl⟩ := len1 (congrArg Prod.fst e).symm
        obtain ⟨r, rfl⟩ := len1 (congrArg Prod.snd e).symm
        rw [h2]
        exact .come x r
      · rw [if_neg h2] at e
        by_cases h3 : p = 3
        · rw [if_pos h3] at e
          have e := Option.some.inj e
          obtain ⟨x, rfl⟩ := len1 (congrArg Prod.fst e).symm
          rw [len0 (congrArg Prod.snd e).symm, h3]
          exact .count x
        · rw [if_neg h3] at e
          by_cases h4 : p = 4
          · rw [if_pos h4] at e
            have e := Option.some.inj e
            obtain ⟨x, y, z, rfl⟩ := len3 (congrArg Prod.fst e).symm
            rw [len0 (congrArg Prod.snd e).symm, h4]
            exact .find x y z
          · rw [if_neg h4] at e
            cases e
theorem natural_iff {z : Int} {n : Nat} : Kg09Neutral.natural z n = true ↔ 0 ≤ z ∧ z < 2 ^ n := by
  unfold Kg09Neutral.natural
  rw [Bool.and_eq_true, decide_eq_true_eq, decide_eq_true_eq]
theorem nat32 {z : Int} (h : Kg09Neutral.natural z 32 = true) : 0 ≤ z ∧ z < 4294967296 := by
  have := natural_iff.mp h
  have e : (2 : Int) ^ 32 = 4294967296 := by decide
  rwa [e] at this
theorem nat8 {z : Int} (h : Kg09Neutral.natural z 8 = true) : 0 ≤ z ∧ z < 256 := by
  have := natural_iff.mp h
  have e : (2 : Int) ^ 8 = 256 := by decide
  rwa [e] at this
/-- what may be handed in with a packet -/
structure PkOk (t : Int) (r : List Int) : Prop where
  t0 : 0 ≤ t
  t1 : t < 4294967296
  by_ : ∀ z ∈ r, 0 ≤ z ∧ z < 256
  len : r.length ≤ 65535
theorem pkOk_of {n t : Int} {r : List Int} (hn : n = (r.length : Int)) (h : (Kg09Neutral.natural n 32 && (r.all (fun (z : Int) => Kg09Neutral.natural z 8) && Kg09Neutral.long r n 0 65535) && Kg09Neutral.natural t 32) = true) : PkOk t r := by
  simp only [Bool.and_eq_true] at h
  obtain ⟨⟨_, h2, h3⟩, h4⟩ := h
  obtain ⟨t0, t1⟩ := nat32 h4
  refine ⟨t0, t1, fun z hz => nat8 (List.all_eq_true.mp h2 z hz), ?_⟩
  have h3 : (r.length : Int) = Kg09Neutral.some_ n 0 65535 := of_decide_eq_true h3
  unfold Kg09Neutral.some_ at h3
  by_cases c : 0 ≤ n ∧ n ≤ 65535
  · omega
  · rw [if_neg c] at h3
    omega
theorem asked_begin {o : Int} (h : Kg09Neutral.asked1 (PyKg09.whole [[0, o]]) = true) : 0 ≤ o ∧ o < 4294967296 := nat32 h
theorem asked_out {t : Int} {r : List Int} (h : Kg09Neutral.asked1 (PyKg09.whole [[1, t], r]) = true) : PkOk t r := pkOk_of rfl h
theorem asked_come {t : Int} {r : List Int} (h : Kg09Neutral.asked1 (PyKg09.whole [[2, t], r]) = true) : PkOk t r := pkOk_of rfl h
theorem asked_count {t : Int} (h : Kg09Neutral.asked1 (PyKg09.whole [[3, t]]) = true) : 0 ≤ t ∧ t < 4294967296 := nat32 h
theorem asked_find {x y z : Int} (h : Kg09Neutral.asked1 (PyKg09.whole [[4, x, y, z]]) = true) : (0 ≤ y ∧ y < 4294967296) ∧ 0 ≤ z ∧ z < 4294967296 := by
  have h : (Kg09Neutral.whole32 x && Kg09Neutral.natural y 32 && Kg09Neutral.natural z 32) = true := h
  simp only [Bool.and_eq_true] at h
  exact ⟨nat32 h.1.2, nat32 h.2⟩
/-- bytes out of ints -/
def toB (r : List Int) : Bytes := r.map fun z => UInt8.ofNat z.toNat
theorem ofB_toB : ∀ {r : List Int}, (∀ z ∈ r, 0 ≤ z ∧ z < 256) → Kg09Neutral.ofBytes (toB r) = r
  | [], _ => rfl
  | z :: r, h => by
    have ih := ofB_toB (r := r) fun y hy => h y (List.mem_cons.mpr (.inr hy))
    have hz := h z (List.mem_cons.mpr (.inl rfl))
    show (((UInt8.ofNat z.toNat).toNat : Nat) : Int) :: Kg09Neutral.ofBytes (toB r) = z :: r
    have e1 : (((UInt8.ofNat z.toNat).toNat : Nat) : Int) = z := by
      rw [UInt8.toNat_ofNat']
      omega
    rw [ih, e1]
theorem toB_len (r : List Int) : (toB r).length = r.length := List.length_map ..
/-! ### the answers -/
theorem step_begin (s : Abs) (o : Int) : Kg09Neutral.step s (PyKg09.whole [[0, o]]) = (Kg09.init o.toNat, [0]) := rfl
theorem step_out (s : Abs) (t : Int) (r : List Int) : Kg09Neutral.step s (PyKg09.whole [[1, t], r]) = ((s.out (toB r) t.toNat).1, (s.out (toB r) t.toNat).2.code :: Kg09Neutral.ofBytes (s.out (toB r) t.toNat).2.packet) := rfl
theorem step_come (s : Abs) (t : Int) (r : List Int) : Kg09Neutral.step s (PyKg09.whole [[2, t], r]) = ((s.comes (toB r) t.toNat).1, (s.comes (toB r) t.toNat).2.code :: Kg09Neutral.ofBytes (s.comes (toB r) t.toNat).2.packet) := rfl
theorem step_count (s : Abs) (t : Int) : Kg09Neutral.step s (PyKg09.whole [[3, t]]) = (s, [((s.bindings.filter fun b => !b.dead t.toNat).length : Int)]) := rfl
theorem kindOf_proto {k : Kind} : kindOf (protoN k : Int) = some k := by cases k <;> rfl
theorem kindOf_none {z : Int} (h : kindOf z = none) (k : Kind) : ((protoN k : Nat) : Int) ≠ z := by
  intro e
  rw [← e, kindOf_proto] at h
  cases h
theorem kindOf_some {z : Int} {k : Kind} (h : kindOf z = some k) : z = (protoN k : Int) := by
  unfold kindOf at h
  by_cases h0 : z = 17
  · rw [if_pos h0] at h
    cases h
    exact h0
  · rw [if_neg h0] at h
    by_cases h1 : z = 6
    · rw [if_pos h1] at h
      cases h
      exact h1
    · rw [if_neg h1] at h
      by_cases h2 : z = 1
      · rw [if_pos h2] at h
        cases h
        exact h2
      · rw [if_neg h2] at h
        cases h
theorem step_find_eq {s : Abs} {x y z : Int} {q : Abs × Ans} (e : spec s (.find x y.toNat z.toNat) = q) : Kg09Neutral.step s (PyKg09.whole [[4, x, y, z]]) = (q.1, q.2.code :: (match q.2.told with
      | some t => [(t.1 : Int), (t.2 : Int)]
      | none => [])) := by
  subst e
  rfl
theorem step_find_no {s : Abs} {x y z : Int} (h : ∀ k, kindOf x = some k → (s.forget z.toNat).at_ k y.toNat = none) : Kg09Neutral.step s (PyKg09.whole [[4, x, y, z]]) = (s, [-1]) := by
  have e : spec s (.find x y.toNat z.toNat) = (s, says (-1) []) := by
    show (match kindOf x with
      | none => (s, says (-1) [])
      | some k => match (s.forget z.toNat).at_ k y.toNat with
        | some b => (s, (⟨0, [], some (b.address, b.port)⟩ : Ans))
        | none => (s, says (-1) [])) = _
    cases e : kindOf x with
    | none => rfl
    | some k =>
      show (match (s.forget z.toNat).at_ k y.toNat with
        | some b => (s, (⟨0, [], some (b.address, b.port)⟩ : Ans))
        | none => (s, says (-1) [])) = _
      rw [h k e]
  rw [step_find_eq e]
  rfl
theorem step_find_yes {s : Abs} {x y z : Int} {k : Kind} {b : Binding} (hk : kindOf x = some k) (h : (s.forget z.toNat).at_ k y.toNat = some b) : Kg09Neutral.step s (PyKg09.whole [[4, x, y, z]]) = (s, [0, (b.address : Int), (b.port : Int)]) := by
  have e : spec s (.find x y.toNat z.toNat) = (s, (⟨0, [], some (b.address, b.port)⟩ : Ans)) := by
    show (match kindOf x with
      | none => (s, says (-1) [])
      | some k => match (s.forget z.toNat).at_ k y.toNat with
        | some b => (s, (⟨0, [], some (b.address, b.port)⟩ : Ans))
        | none => (s, says (-1) [])) = _
    rw [hk]
    show (match (s.forget z.toNat).at_ k y.toNat with
        | some b => (s, (⟨0, [], some (b.address, b.port)⟩ : Ans))
        | none => (s, says (-1) [])) = _
    rw [h]
  rw [step_find_eq e]
/-! ### the whole list -/
structure Left (l : List Int) (pre : List Int) (rest : List (List (List Int))) (s : Abs) (out : List Int) : Prop where
  eq : l = pre ++ PyFlat.put rest
  ok : ∀ c ∈ rest, Five c ∧ Kg09Neutral.asked1 (PyKg09.whole c) = true
  told : PyKg09.answers l = out ++ PyFlat.told (PyFlat.played Kg09Neutral.step s (rest.map PyKg09.whole))
  len : out.length ≤ pre.length
theorem left_start {l : List Int} (h : PyKg09.answers_asked l = true) : ∃ rest, Left l [] rest Kg09Neutral.start [] := by
  unfold PyKg09.answers_asked at h
  cases e : PyKg09.calls l with
  | none => rw [e] at h; cases h
  | some cs =>
    rw [e] at h
    have h : (PyFlat.atMost 100 cs && Kg09Neutral.asked cs) = true := h
    rw [Bool.and_eq_true] at h
    have e2 := e
    unfold PyKg09.calls at e2
    cases e3 : PyFlat.calls PyKg09.shape l.length l with
    | none => rw [e3] at e2; cases e2
    | some ds =>
      rw [e3] at e2
      have e4 : ds.map PyKg09.whole = cs := Option.some.inj e2
      obtain ⟨q1, q2⟩ := PyFlat.put_calls _ _ _ e3
      refine ⟨ds, q1, fun c hc => ⟨five_of (q2 c hc), ?_⟩, ?_, Nat.le_refl _⟩
      · have h2 := h.2
        unfold Kg09Neutral.asked at h2
        simp only [Bool.and_eq_true] at h2
        have h3 := h2.2.2.1.1
        exact List.all_eq_true.mp h3 _ (by rw [← e4]; exact List.mem_map.mpr ⟨c, hc, rfl⟩)
      · unfold PyKg09.answers
        rw [e, e4]
        rfl
theorem put1_len {c : List (List Int)} (h : Five c) : 2 ≤ (PyFlat.put1 c).length := by
  cases h
  · exact Nat.le_refl 2
  · show 2 ≤ (_ ++ (PyFlat.putRow _ ++ _)).length
    simp
  · show 2 ≤ (_ ++ (PyFlat.putRow _ ++ _)).length
    simp
  · exact Nat.le_refl 2
  · show 2 ≤ 4
    decide
theorem rew_len (p : Bytes) (k : Kind) (out : Bool) (address port : Nat) : (rewritten p k out address port).length = p.length := by
  unfold rewritten
  simp only [len_setWord, len_setByte, len_setLong]
theorem out_len (s : Abs) (p : Bytes) (now : Nat) : (s.out p now).2.packet.length = p.length := by
  unfold Abs.out
  simp only []
  split
  · rfl
  · split
    · rfl
    · split
      · rfl
      · split
        · exact rew_len ..
        · split
          · rfl
          · exact rew_len ..
theorem comes_len (s : Abs) (p : Bytes) (now : Nat) : (s.comes p now).2.packet.length = p.length := by
  unfold Abs.comes
  simp only []
  split
  · rfl
  · split
    · rfl
    · split
      · rfl
      · split
        · rfl
        · split
          · rfl
          · exact rew_len ..
theorem ans_len {s : Abs} {c : List (List Int)} (h : Five c) : (Kg09Neutral.step s (PyKg09.whole c)).2.length + 1 ≤ (PyFlat.put1 c).length := by
  cases h with
  | begin o => exact Nat.le_refl 2
  | out t r =>
    rw [step_out]
    show (Kg09Neutral.ofBytes _).length + 1 + 1 ≤ ([1, t] ++ (PyFlat.putRow r ++ [])).length
    unfold Kg09Neutral.ofBytes PyFlat.putRow
    rw [List.length_map, out_len, toB_len]
    simp
  | come t r =>
    rw [step_come]
    show (Kg09Neutral.ofBytes _).length + 1 + 1 ≤ ([2, t] ++ (PyFlat.putRow r ++ [])).length
    unfold Kg09Neutral.ofBytes PyFlat.putRow
    rw [List.length_map, comes_len, toB_len]
    simp
  | count t => exact Nat.le_refl 2
  | find x y z =>
    rw [step_find_eq rfl]
    show (_ :: (match (spec s (.find x y.toNat z.toNat)).2.told with
      | some t => [(t.1 : Int), (t.2 : Int)]
      | none => [])).length + 1 ≤ 4
    cases (spec s (.find x y.toNat z.toNat)).2.told with
    | none => exact (by decide : 2 ≤ 4)
    | some t => exact Nat.le_refl 4
theorem left_step {l pre : List Int} {c : List (List Int)} {rest : List (List (List Int))} {s : Abs} {out : List Int} (L : Left l pre (c :: rest) s out) :
    Left l (pre ++ PyFlat.put1 c) rest (Kg09Neutral.step s (PyKg09.whole c)).1 (out ++ ((Kg09Neutral.step s (PyKg09.whole c)).2.length : Int) :: (Kg09Neutral.step s (PyKg09.whole c)).2) := by
  obtain ⟨h1, h2, h3, h4⟩ := L
  have hc := h2 c (List.mem_cons.mpr (.inl rfl))
  refine ⟨?_, fun d hd => h2 d (List.mem_cons.mpr (.inr hd)), ?_, ?_⟩
  · rw [h1, List.append_assoc]
    rfl
  · rw [h3, List.append_assoc]
    rfl
  · have := ans_len (s := s) hc.1
    rw [List.length_append, List.length_append, List.length_cons]
    omega
theorem left_end {l pre : List Int} {s : Abs} {out : List Int} (L : Left l pre [] s out) : PyKg09.answers l = out := by
  have h := L.told
  rw [h]
  exact List.append_nil _
end Na
namespace Na
open Kg09
/-- what out and in refuse alike -/
def refused (p : Kg09.Bytes) (out : Bool) : Int := if Kg09.whole p = false then -1 else if Kg09.kind p out = none then -2 else if Kg09.byte p 8 ≤ 1 then -3 else 0
theorem refused_yes {p : Bytes} {out : Bool} (h : refused p out = 0) : ∃ k, whole p = true ∧ kind p out = some k ∧ 1 < byte p 8 := by
  unfold refused at h
  by_cases hw : whole p = false
  · rw [if_pos hw] at h
    exact absurd h (by decide)
  · rw [if_neg hw] at h
    cases e : kind p out with
    | none =>
      rw [e, if_pos rfl] at h
      exact absurd h (by decide)
    | some k =>
      rw [e, if_neg (fun z => nomatch z)] at h
      by_cases h8 : byte p 8 ≤ 1
      · rw [if_pos h8] at h
        exact absurd h (by decide)
      · exact ⟨k, by simpa using hw, rfl, by omega⟩
theorem out_no {s : Abs} {p : Bytes} {now : Nat} (h : refused p true ≠ 0) : s.out p now = (s.forget now, says (refused p true) p) := by
  unfold refused at h ⊢
  unfold Abs.out
  by_cases hw : whole p = false
  · rw [if_pos hw, if_pos hw]
  · rw [if_neg hw] at h
    rw [if_neg hw, if_neg hw]
    cases e : kind p true with
    | none => rfl
    | some k =>
      rw [e, if_neg (fun z => nomatch z)] at h
      by_cases h8 : byte p 8 ≤ 1
      · rw [if_neg (fun z => nomatch z), if_pos h8]
        simp only [h8, if_true]
      · rw [if_neg h8] at h
        exact absurd rfl h
section
variable {s : Abs} {p : Bytes} {now : Nat} {k : Kind}
theorem out_yes (hw : whole p = true) (hk : kind p true = some k) (h8 : 1 < byte p 8) : s.out p now = (match (s.forget now).inside k (Kg09.long p 12) (word p (head p + portAt k true)) with
    | some b => ((s.forget now).used b now, says 0 (rewritten p k true s.outside b.outside))
    | none => if 256 ≤ (s.forget now).bindings.length then (s.forget now, says (-4) p) else
      ({ s.forget now with bindings := ⟨k, Kg09.long p 12, word p (head p + portAt k true), (s.forget now).fresh k (word p (head p + portAt k true)), now⟩ :: (s.forget now).bindings }, says 0 (rewritten p k true s.outside ((s.forget now).fresh k (word p (head p + portAt k true)))))) := by
  unfold Abs.out
  rw [if_neg (by rw [hw]; decide), hk]
  simp only [show ¬ byte p 8 ≤ 1 by omega, if_false]
  rfl
theorem out_found {b : Binding} (hw : whole p = true) (hk : kind p true = some k) (h8 : 1 < byte p 8) (hi : (s.forget now).inside k (Kg09.long p 12) (word p (head p + portAt k true)) = some b) : s.out p now = ((s.forget now).used b now, says 0 (rewritten p k true s.outside b.outside)) := by
  rw [out_yes hw hk h8, hi]
theorem out_full (hw : whole p = true) (hk : kind p true = some k) (h8 : 1 < byte p 8) (hi : (s.forget now).inside k (Kg09.long p 12) (word p (head p + portAt k true)) = none) (hl : 256 ≤ (s.forget now).bindings.length) : s.out p now = (s.forget now, says (-4) p) := by
  rw [out_yes hw hk h8, hi]
  simp only [hl, if_true]
theorem out_new (hw : whole p = true) (hk : kind p true = some k) (h8 : 1 < byte p 8) (hi : (s.forget now).inside k (Kg09.long p 12) (word p (head p + portAt k true)) = none) (hl : ¬ 256 ≤ (s.forget now).bindings.length) : s.out p now =
    ({ s.forget now with bindings := ⟨k, Kg09.long p 12, word p (head p + portAt k true), (s.forget now).fresh k (word p (head p + portAt k true)), now⟩ :: (s.forget now).bindings }, says 0 (rewritten p k true s.outside ((s.forget now).fresh k (word p (head p + portAt k true))))) := by
  rw [out_yes hw hk h8, hi]
  simp only [hl, if_false]
theorem comes_no (h : refused p false ≠ 0) : s.comes p now = (s.forget now, says (refused p false) p) := by
  unfold refused at h ⊢
  unfold Abs.comes
  by_cases hw : whole p = false
  · rw [if_pos hw, if_pos hw]
  · rw [if_neg hw] at h
    rw [if_neg hw, if_neg hw]
    cases e : kind p false with
    | none => rfl
    | some k =>
      rw [e, if_neg (fun z => nomatch z)] at h
      by_cases h8 : byte p 8 ≤ 1
      · rw [if_neg (fun z => nomatch z), if_pos h8]
        simp only [h8, if_true]
      · rw [if_neg h8] at h
        exact absurd rfl h
theorem comes_yes (hw : whole p = true) (hk : kind p false = some k) (h8 : 1 < byte p 8) : s.comes p now = (if Kg09.long p 16 ≠ s.outside then (s.forget now, says (-5) p) else match (s.forget now).at_ k (word p (head p + portAt k false)) with
    | none => (s.forget now, says (-5) p)
    | some b => ((s.forget now).used b now, says 0 (rewritten p k false b.address b.port))) := by
  unfold Abs.comes
  rw [if_neg (by rw [hw]; decide), hk]
  simp only [show ¬ byte p 8 ≤ 1 by omega, if_false]
  rfl
theorem comes_other (hw : whole p = true) (hk : kind p false = some k) (h8 : 1 < byte p 8) (h : Kg09.long p 16 ≠ s.outside) : s.comes p now = (s.forget now, says (-5) p) := by
  rw [comes_yes hw hk h8, if_pos h]
theorem comes_none (hw : whole p = true) (hk : kind p false = some k) (h8 : 1 < byte p 8) (h : Kg09.long p 16 = s.outside) (hi : (s.forget now).at_ k (word p (head p + portAt k false)) = none) : s.comes p now = (s.forget now, says (-5) p) := by
  rw [comes_yes hw hk h8, if_neg (fun z => z h), hi]
theorem comes_found {b : Binding} (hw : whole p = true) (hk : kind p false = some k) (h8 : 1 < byte p 8) (h : Kg09.long p 16 = s.outside) (hi : (s.forget now).at_ k (word p (head p + portAt k false)) = some b) : s.comes p now = ((s.forget now).used b now, says 0 (rewritten p k false b.address b.port)) := by
  rw [comes_yes hw hk h8, if_neg (fun z => z h), hi]
theorem step_find_st {x y z : Int} : (Kg09Neutral.step s (PyKg09.whole [[4, x, y, z]])).1 = s := by
  rw [step_find_eq rfl]
  show (match kindOf x with
      | none => (s, says (-1) [])
      | some k => match (s.forget z.toNat).at_ k y.toNat with
        | some b => (s, (⟨0, [], some (b.address, b.port)⟩ : Ans))
        | none => (s, says (-1) [])).1 = s
  cases kindOf x with
  | none => rfl
  | some k =>
    show (match (s.forget z.toNat).at_ k y.toNat with
        | some b => (s, (⟨0, [], some (b.address, b.port)⟩ : Ans))
        | none => (s, says (-1) [])).1 = s
    cases (s.forget z.toNat).at_ k y.toNat <;> rfl
/-- where the port stands, by the protocol's number -/
theorem port_out (S : Sound p k true) : (if byte p 9 = 1 then head p + 4 else head p) = head p + portAt k true := by
  rw [S.pro]
  cases k <;> rfl
theorem port_in (S : Sound p k false) : (if byte p 9 = 1 then head p + 4 else head p + 2) = head p + portAt k false := by
  rw [S.pro]
  cases k <;> rfl
end
end Na
/-! ### the text by places; what the top has written -/
namespace Na
open PySem PySem.Spec PyProof.Rows L2
def top (i : Nat) : Stmt := PySem.Challenge.pw_oneaddress_s01_answers.main.body.getD i (.Pass ⟨0, 0, 0, 0⟩)
abbrev s_word : Stmt := top 18
abbrev s_setw : Stmt := top 19
abbrev s_adr : Stmt := top 20
abbrev s_seta : Stmt := top 21
abbrev s_sumd : Stmt := top 22
abbrev s_hlen : Stmt := top 23
abbrev s_hsum : Stmt := top 24
abbrev s_whol : Stmt := top 25
abbrev s_piec : Stmt := top 26
abbrev s_carr : Stmt := top 27
abbrev s_udpf : Stmt := top 28
abbrev s_spor : Stmt := top 29
abbrev s_rpor : Stmt := top 30
abbrev s_cpla : Stmt := top 31
abbrev s_rewr : Stmt := top 32
abbrev s_covw : Stmt := top 33
abbrev s_seth : Stmt := top 34
abbrev s_brin : Stmt := top 35
abbrev s_movd : Stmt := top 36
abbrev s_refu : Stmt := top 57
abbrev s_answ : Stmt := top 58
abbrev s_csiz : Stmt := top 59
abbrev s_aone : Stmt := top 60
abbrev s_bini : Stmt := inClass (top 55) 0
abbrev s_dead : Stmt := inClass (top 55) 1
abbrev s_hini : Stmt := inClass (top 56) 0
abbrev s_begi : Stmt := inClass (top 56) 1
abbrev s_hout : Stmt := inClass (top 56) 2
abbrev s_come : Stmt := inClass (top 56) 3
abbrev s_coun : Stmt := inClass (top 56) 4
abbrev s_find : Stmt := inClass (top 56) 5
abbrev s_forg : Stmt := inClass (top 56) 6
abbrev s_bins : Stmt := inClass (top 56) 7
abbrev s_bout : Stmt := inClass (top 56) 8
abbrev s_free : Stmt := inClass (top 56) 9
/-- the addresses -/
structure Ad where
  CB : Addr
  CH : Addr
  sizes : Addr
  f_word : Addr
  g_word : FuncData
  f_setw : Addr
  g_setw : FuncData
  f_adr : Addr
  g_adr : FuncData
  f_seta : Addr
  g_seta : FuncData
  f_sumd : Addr
  g_sumd : FuncData
  f_hlen : Addr
  g_hlen : FuncData
  f_hsum : Addr
  g_hsum : FuncData
  f_whol : Addr
  g_whol : FuncData
  f_piec : Addr
  g_piec : FuncData
  f_carr : Addr
  g_carr : FuncData
  f_udpf : Addr
  g_udpf : FuncData
  f_spor : Addr
  g_spor : FuncData
  f_rpor : Addr
  g_rpor : FuncData
  f_cpla : Addr
  g_cpla : FuncData
  f_rewr : Addr
  g_rewr : FuncData
  f_covw : Addr
  g_covw : FuncData
  f_seth : Addr
  g_seth : FuncData
  f_brin : Addr
  g_brin : FuncData
  f_movd : Addr
  g_movd : FuncData
  f_refu : Addr
  g_refu : FuncData
  f_answ : Addr
  g_answ : FuncData
  f_csiz : Addr
  g_csiz : FuncData
  f_aone : Addr
  g_aone : FuncData
  f_bini : Addr
  g_bini : FuncData
  f_dead : Addr
  g_dead : FuncData
  f_hini : Addr
  g_hini : FuncData
  f_begi : Addr
  g_begi : FuncData
  f_hout : Addr
  g_hout : FuncData
  f_come : Addr
  g_come : FuncData
  f_coun : Addr
  g_coun : FuncData
  f_find : Addr
  g_find : FuncData
  f_forg : Addr
  g_forg : FuncData
  f_bins : Addr
  g_bins : FuncData
  f_bout : Addr
  g_bout : FuncData
  f_free : Addr
  g_free : FuncData
structure GDef (K : PySem.W.Frag) (mg : Str → Option Value) (x : Str) (st : Stmt) (f : Addr) (fd : FuncData) : Prop where
  fn : Fun K x x st f fd
  at_ : mg x = some (.ref f)
structure MDef (K : PySem.W.Frag) (C : Addr) (m qual : Str) (st : Stmt) (f : Addr) (fd : FuncData) : Prop where
  fn : Fun K m qual st f fd
  me : Meth K C m f
structure Txt (K : PySem.W.Frag) (mg : Str → Option Value) (d : Ad) : Prop where
  cb : Cls K d.CB
  ch : Cls K d.CH
  mgB : mg "Binding" = some (.ref d.CB)
  mgH : mg "House" = some (.ref d.CH)
  mkB : Mk K d.CB d.f_bini
  mkH : Mk K d.CH d.f_hini
  len : mg "len" = none
  range : mg "range" = none
  sizes : mg "CALL_SIZES" = some (.ref d.sizes)
  sizesT : ∀ H : Hp, SqT K H d.sizes [.int 2, .int 3, .int 3, .int 2, .int 4]
  bProtocol : NoAttr K d.CB "protocol"
  bAddress : NoAttr K d.CB "address"
  bPort : NoAttr K d.CB "port"
  bOutside : NoAttr K d.CB "outside_port"
  bUsed : NoAttr K d.CB "used"
  hOutside : NoAttr K d.CH "outside"
  hBindings : NoAttr K d.CH "bindings"
  c_ECHO : ∃ t, mg "ECHO" = some (.int 1 t)
  c_TCP : ∃ t, mg "TCP" = some (.int 6 t)
  c_UDP : ∃ t, mg "UDP" = some (.int 17 t)
  c_ECHO_ANSWER : ∃ t, mg "ECHO_ANSWER" = some (.int 0 t)
  c_ECHO_REQUEST : ∃ t, mg "ECHO_REQUEST" = some (.int 8 t)
  c_LENGTH_PLACE : ∃ t, mg "LENGTH_PLACE" = some (.int 2 t)
  c_PIECE_PLACE : ∃ t, mg "PIECE_PLACE" = some (.int 6 t)
  c_STEPS_PLACE : ∃ t, mg "STEPS_PLACE" = some (.int 8 t)
  c_PROTOCOL_PLACE : ∃ t, mg "PROTOCOL_PLACE" = some (.int 9 t)
  c_HEAD_CHECKSUM_PLACE : ∃ t, mg "HEAD_CHECKSUM_PLACE" = some (.int 10 t)
  c_SENDER_PLACE : ∃ t, mg "SENDER_PLACE" = some (.int 12 t)
  c_RECEIVER_PLACE : ∃ t, mg "RECEIVER_PLACE" = some (.int 16 t)
  c_LEAST_HEAD : ∃ t, mg "LEAST_HEAD" = some (.int 20 t)
  c_LEAST_UDP : ∃ t, mg "LEAST_UDP" = some (.int 8 t)
  c_LEAST_TCP : ∃ t, mg "LEAST_TCP" = some (.int 20 t)
  c_LEAST_ECHO : ∃ t, mg "LEAST_ECHO" = some (.int 8 t)
  c_MOST_BYTES : ∃ t, mg "MOST_BYTES" = some (.int 65535 t)
  c_BEGIN : ∃ t, mg "BEGIN" = some (.int 0 t)
  c_OUT : ∃ t, mg "OUT" = some (.int 1 t)
  c_COME_IN : ∃ t, mg "COME_IN" = some (.int 2 t)
  c_COUNT : ∃ t, mg "COUNT" = some (.int 3 t)
  c_FIND : ∃ t, mg "FIND" = some (.int 4 t)
  c_NOT_WHOLE : ∃ t, mg "NOT_WHOLE" = some (.int (-1) t)
  c_NOT_CARRIED : ∃ t, mg "NOT_CARRIED" = some (.int (-2) t)
  c_NO_STEP_LEFT : ∃ t, mg "NO_STEP_LEFT" = some (.int (-3) t)
  c_NO_ROOM : ∃ t, mg "NO_ROOM" = some (.int (-4) t)
  c_NOBODYS : ∃ t, mg "NOBODYS" = some (.int (-5) t)
  c_NOT_FOUND : ∃ t, mg "NOT_FOUND" = some (.int (-1) t)
  c_MOST_BINDINGS : ∃ t, mg "MOST_BINDINGS" = some (.int 256 t)
  c_LEAST_PORT : ∃ t, mg "LEAST_PORT" = some (.int 1024 t)
  c_TCP_SECONDS : ∃ t, mg "TCP_SECONDS" = some (.int 7200 t)
  c_OTHER_SECONDS : ∃ t, mg "OTHER_SECONDS" = some (.int 300 t)
  c_ROUND_OF_SECONDS : ∃ t, mg "ROUND_OF_SECONDS" = some (.int 4294967296 t)
  word : GDef K mg "word_at" s_word d.f_word d.g_word
  setw : GDef K mg "set_word" s_setw d.f_setw d.g_setw
  adr : GDef K mg "address_at" s_adr d.f_adr d.g_adr
  seta : GDef K mg "set_address" s_seta d.f_seta d.g_seta
  sumd : GDef K mg "summed" s_sumd d.f_sumd d.g_sumd
  hlen : GDef K mg "head_length" s_hlen d.f_hlen d.g_hlen
  hsum : GDef K mg "head_sum" s_hsum d.f_hsum d.g_hsum
  whol : GDef K mg "is_whole" s_whol d.f_whol d.g_whol
  piec : GDef K mg "is_piece" s_piec d.f_piec d.g_piec
  carr : GDef K mg "carries_known" s_carr d.f_carr d.g_carr
  udpf : GDef K mg "udp_length_fits" s_udpf d.f_udpf d.g_udpf
  spor : GDef K mg "sender_port_place" s_spor d.f_spor d.g_spor
  rpor : GDef K mg "receiver_port_place" s_rpor d.f_rpor d.g_rpor
  cpla : GDef K mg "carried_checksum_place" s_cpla d.f_cpla d.g_cpla
  rewr : GDef K mg "rewrite" s_rewr d.f_rewr d.g_rewr
  covw : GDef K mg "covered_words" s_covw d.f_covw d.g_covw
  seth : GDef K mg "set_head_checksum" s_seth d.f_seth d.g_seth
  brin : GDef K mg "bring_checksum_along" s_brin d.f_brin d.g_brin
  movd : GDef K mg "moved_checksum" s_movd d.f_movd d.g_movd
  refu : GDef K mg "refusal_both_ways" s_refu d.f_refu d.g_refu
  answ : GDef K mg "answers" s_answ d.f_answ d.g_answ
  csiz : GDef K mg "call_size" s_csiz d.f_csiz d.g_csiz
  aone : GDef K mg "answer_one" s_aone d.f_aone d.g_aone
  bini : MDef K d.CB "__init__" "Binding.__init__" s_bini d.f_bini d.g_bini
  dead : MDef K d.CB "is_dead" "Binding.is_dead" s_dead d.f_dead d.g_dead
  hini : MDef K d.CH "__init__" "House.__init__" s_hini d.f_hini d.g_hini
  begi : MDef K d.CH "begin" "House.begin" s_begi d.f_begi d.g_begi
  hout : MDef K d.CH "out" "House.out" s_hout d.f_hout d.g_hout
  come : MDef K d.CH "come_in" "House.come_in" s_come d.f_come d.g_come
  coun : MDef K d.CH "count" "House.count" s_coun d.f_coun d.g_coun
  find : MDef K d.CH "find" "House.find" s_find d.f_find d.g_find
  forg : MDef K d.CH "forget_dead" "House.forget_dead" s_forg d.f_forg d.g_forg
  bins : MDef K d.CH "bound_inside" "House.bound_inside" s_bins d.f_bins d.g_bins
  bout : MDef K d.CH "bound_outside" "House.bound_outside" s_bout d.f_bout d.g_bout
  free : MDef K d.CH "free_port" "House.free_port" s_free d.f_free d.g_free
section
variable {K : PySem.W.Frag} {mg : Str → Option Value} {d : Ad}
theorem b_word (T : Txt K mg d) : Binds K d.g_word ["packet", "place"] [] := T.word.fn.binds fun _ _ _ _ _ _ us hl => match us, hl with | [_, _], _ => rfl
theorem b_setw (T : Txt K mg d) : Binds K d.g_setw ["packet", "place", "word"] [] := T.setw.fn.binds fun _ _ _ _ _ _ us hl => match us, hl with | [_, _, _], _ => rfl
theorem b_adr (T : Txt K mg d) : Binds K d.g_adr ["packet", "place"] [] := T.adr.fn.binds fun _ _ _ _ _ _ us hl => match us, hl with | [_, _], _ => rfl
theorem b_seta (T : Txt K mg d) : Binds K d.g_seta ["packet", "place", "address"] [] := T.seta.fn.binds fun _ _ _ _ _ _ us hl => match us, hl with | [_, _, _], _ => rfl
theorem b_sumd (T : Txt K mg d) : Binds K d.g_sumd ["number"] [] := T.sumd.fn.binds fun _ _ _ _ _ _ us hl => match us, hl with | [_], _ => rfl
theorem b_hlen (T : Txt K mg d) : Binds K d.g_hlen ["packet"] [] := T.hlen.fn.binds fun _ _ _ _ _ _ us hl => match us, hl with | [_], _ => rfl
theorem b_hsum (T : Txt K mg d) : Binds K d.g_hsum ["packet"] [] := T.hsum.fn.binds fun _ _ _ _ _ _ us hl => match us, hl with | [_], _ => rfl
theorem b_whol (T : Txt K mg d) : Binds K d.g_whol ["packet"] [] := T.whol.fn.binds fun _ _ _ _ _ _ us hl => match us, hl with | [_], _ => rfl
theorem b_piec (T : Txt K mg d) : Binds K d.g_piec ["packet"] [] := T.piec.fn.binds fun _ _ _ _ _ _ us hl => match us, hl with | [_], _ => rfl
theorem b_carr (T : Txt K mg d) : Binds K d.g_carr ["packet", "echo_kind"] [] := T.carr.fn.binds fun _ _ _ _ _ _ us hl => match us, hl with | [_, _], _ => rfl
theorem b_udpf (T : Txt K mg d) : Binds K d.g_udpf ["packet", "start", "size"] [] := T.udpf.fn.binds fun _ _ _ _ _ _ us hl => match us, hl with | [_, _, _], _ => rfl
theorem b_spor (T : Txt K mg d) : Binds K d.g_spor ["packet"] [] := T.spor.fn.binds fun _ _ _ _ _ _ us hl => match us, hl with | [_], _ => rfl
theorem b_rpor (T : Txt K mg d) : Binds K d.g_rpor ["packet"] [] := T.rpor.fn.binds fun _ _ _ _ _ _ us hl => match us, hl with | [_], _ => rfl
theorem b_cpla (T : Txt K mg d) : Binds K d.g_cpla ["packet"] [] := T.cpla.fn.binds fun _ _ _ _ _ _ us hl => match us, hl with | [_], _ => rfl
theorem b_rewr (T : Txt K mg d) : Binds K d.g_rewr ["packet", "address_place", "port_place", "address", "port"] [] := T.rewr.fn.binds fun _ _ _ _ _ _ us hl => match us, hl with | [_, _, _, _, _], _ => rfl
theorem b_covw (T : Txt K mg d) : Binds K d.g_covw ["packet", "address_place", "port_place"] [] := T.covw.fn.binds fun _ _ _ _ _ _ us hl => match us, hl with | [_, _, _], _ => rfl
theorem b_seth (T : Txt K mg d) : Binds K d.g_seth ["packet"] [] := T.seth.fn.binds fun _ _ _ _ _ _ us hl => match us, hl with | [_], _ => rfl
theorem b_brin (T : Txt K mg d) : Binds K d.g_brin ["packet", "before", "after"] [] := T.brin.fn.binds fun _ _ _ _ _ _ us hl => match us, hl with | [_, _, _], _ => rfl
theorem b_movd (T : Txt K mg d) : Binds K d.g_movd ["checksum", "before", "after"] [] := T.movd.fn.binds fun _ _ _ _ _ _ us hl => match us, hl with | [_, _, _], _ => rfl
theorem b_refu (T : Txt K mg d) : Binds K d.g_refu ["packet", "echo_kind"] [] := T.refu.fn.binds fun _ _ _ _ _ _ us hl => match us, hl with | [_, _], _ => rfl
theorem b_answ (T : Txt K mg d) : Binds K d.g_answ ["calls"] [] := T.answ.fn.binds fun _ _ _ _ _ _ us hl => match us, hl with | [_], _ => rfl
theorem b_csiz (T : Txt K mg d) : Binds K d.g_csiz ["calls", "start"] [] := T.csiz.fn.binds fun _ _ _ _ _ _ us hl => match us, hl with | [_, _], _ => rfl
theorem b_aone (T : Txt K mg d) : Binds K d.g_aone ["house", "call"] [] := T.aone.fn.binds fun _ _ _ _ _ _ us hl => match us, hl with | [_, _], _ => rfl
theorem b_bini (T : Txt K mg d) : Binds K d.g_bini ["self", "protocol", "address", "port", "outside_port", "used"] [] := T.bini.fn.binds fun _ _ _ _ _ _ us hl => match us, hl with | [_, _, _, _, _, _], _ => rfl
theorem b_dead (T : Txt K mg d) : Binds K d.g_dead ["self", "now"] [] := T.dead.fn.binds fun _ _ _ _ _ _ us hl => match us, hl with | [_, _], _ => rfl
theorem b_hini (T : Txt K mg d) : Binds K d.g_hini ["self"] [] := T.hini.fn.binds fun _ _ _ _ _ _ us hl => match us, hl with | [_], _ => rfl
theorem b_begi (T : Txt K mg d) : Binds K d.g_begi ["self", "outside"] [] := T.begi.fn.binds fun _ _ _ _ _ _ us hl => match us, hl with | [_, _], _ => rfl
theorem b_hout (T : Txt K mg d) : Binds K d.g_hout ["self", "packet", "now"] [] := T.hout.fn.binds fun _ _ _ _ _ _ us hl => match us, hl with | [_, _, _], _ => rfl
theorem b_come (T : Txt K mg d) : Binds K d.g_come ["self", "packet", "now"] [] := T.come.fn.binds fun _ _ _ _ _ _ us hl => match us, hl with | [_, _, _], _ => rfl
theorem b_coun (T : Txt K mg d) : Binds K d.g_coun ["self", "now"] [] := T.coun.fn.binds fun _ _ _ _ _ _ us hl => match us, hl with | [_, _], _ => rfl
theorem b_find (T : Txt K mg d) : Binds K d.g_find ["self", "protocol", "port", "now"] [] := T.find.fn.binds fun _ _ _ _ _ _ us hl => match us, hl with | [_, _, _, _], _ => rfl
theorem b_forg (T : Txt K mg d) : Binds K d.g_forg ["self", "now"] [] := T.forg.fn.binds fun _ _ _ _ _ _ us hl => match us, hl with | [_, _], _ => rfl
theorem b_bins (T : Txt K mg d) : Binds K d.g_bins ["self", "protocol", "address", "port"] [] := T.bins.fn.binds fun _ _ _ _ _ _ us hl => match us, hl with | [_, _, _, _], _ => rfl
theorem b_bout (T : Txt K mg d) : Binds K d.g_bout ["self", "protocol", "port"] [] := T.bout.fn.binds fun _ _ _ _ _ _ us hl => match us, hl with | [_, _, _], _ => rfl
theorem b_free (T : Txt K mg d) : Binds K d.g_free ["self", "protocol", "wished"] [] := T.free.fn.binds fun _ _ _ _ _ _ us hl => match us, hl with | [_, _, _], _ => rfl
end
theorem sc_word : FnScope ["packet", "place"] ["packet", "place"] (defScope s_word) := ⟨rfl, rfl, rfl, by decide +kernel, rfl, by decide +kernel, by decide +kernel⟩
theorem sc_setw : FnScope ["packet", "place", "word"] ["packet", "place", "word"] (defScope s_setw) := ⟨rfl, rfl, rfl, by decide +kernel, rfl, by decide +kernel, by decide +kernel⟩
theorem sc_adr : FnScope ["packet", "place"] ["packet", "place"] (defScope s_adr) := ⟨rfl, rfl, rfl, by decide +kernel, rfl, by decide +kernel, by decide +kernel⟩
theorem sc_seta : FnScope ["packet", "place", "address"] ["packet", "place", "address"] (defScope s_seta) := ⟨rfl, rfl, rfl, by decide +kernel, rfl, by decide +kernel, by decide +kernel⟩
theorem sc_sumd : FnScope ["number"] ["number"] (defScope s_sumd) := ⟨rfl, rfl, rfl, by decide +kernel, rfl, by decide +kernel, by decide +kernel⟩
theorem sc_hlen : FnScope ["packet"] ["packet"] (defScope s_hlen) := ⟨rfl, rfl, rfl, by decide +kernel, rfl, by decide +kernel, by decide +kernel⟩
theorem sc_hsum : FnScope ["packet", "total", "place"] ["packet"] (defScope s_hsum) := ⟨rfl, rfl, rfl, by decide +kernel, rfl, by decide +kernel, by decide +kernel⟩
theorem sc_whol : FnScope ["packet", "size", "head", "length"] ["packet"] (defScope s_whol) := ⟨rfl, rfl, rfl, by decide +kernel, rfl, by decide +kernel, by decide +kernel⟩
theorem sc_piec : FnScope ["packet"] ["packet"] (defScope s_piec) := ⟨rfl, rfl, rfl, by decide +kernel, rfl, by decide +kernel, by decide +kernel⟩
theorem sc_carr : FnScope ["packet", "echo_kind", "start", "size", "protocol"] ["packet", "echo_kind"] (defScope s_carr) := ⟨rfl, rfl, rfl, by decide +kernel, rfl, by decide +kernel, by decide +kernel⟩
theorem sc_udpf : FnScope ["packet", "start", "size", "length"] ["packet", "start", "size"] (defScope s_udpf) := ⟨rfl, rfl, rfl, by decide +kernel, rfl, by decide +kernel, by decide +kernel⟩
theorem sc_spor : FnScope ["packet", "start"] ["packet"] (defScope s_spor) := ⟨rfl, rfl, rfl, by decide +kernel, rfl, by decide +kernel, by decide +kernel⟩
theorem sc_rpor : FnScope ["packet", "start"] ["packet"] (defScope s_rpor) := ⟨rfl, rfl, rfl, by decide +kernel, rfl, by decide +kernel, by decide +kernel⟩
theorem sc_cpla : FnScope ["packet", "start"] ["packet"] (defScope s_cpla) := ⟨rfl, rfl, rfl, by decide +kernel, rfl, by decide +kernel, by decide +kernel⟩
theorem sc_rewr : FnScope ["packet", "address_place", "port_place", "address", "port", "before", "after"] ["packet", "address_place", "port_place", "address", "port"] (defScope s_rewr) := ⟨rfl, rfl, rfl, by decide +kernel, rfl, by decide +kernel, by decide +kernel⟩
theorem sc_covw : FnScope ["packet", "address_place", "port_place", "port"] ["packet", "address_place", "port_place"] (defScope s_covw) := ⟨rfl, rfl, rfl, by decide +kernel, rfl, by decide +kernel, by decide +kernel⟩
theorem sc_seth : FnScope ["packet"] ["packet"] (defScope s_seth) := ⟨rfl, rfl, rfl, by decide +kernel, rfl, by decide +kernel, by decide +kernel⟩
theorem sc_brin : FnScope ["packet", "before", "after", "place", "checksum", "is_udp"] ["packet", "before", "after"] (defScope s_brin) := ⟨rfl, rfl, rfl, by decide +kernel, rfl, by decide +kernel, by decide +kernel⟩
theorem sc_movd : FnScope ["checksum", "before", "after", "total", "word"] ["checksum", "before", "after"] (defScope s_movd) := ⟨rfl, rfl, rfl, by decide +kernel, rfl, by decide +kernel, by decide +kernel⟩
theorem sc_refu : FnScope ["packet", "echo_kind"] ["packet", "echo_kind"] (defScope s_refu) := ⟨rfl, rfl, rfl, by decide +kernel, rfl, by decide +kernel, by decide +kernel⟩
theorem sc_answ : FnScope ["calls", "house", "told", "start", "end", "answer"] ["calls"] (defScope s_answ) := ⟨rfl, rfl, rfl, by decide +kernel, rfl, by decide +kernel, by decide +kernel⟩
theorem sc_csiz : FnScope ["calls", "start", "size"] ["calls", "start"] (defScope s_csiz) := ⟨rfl, rfl, rfl, by decide +kernel, rfl, by decide +kernel, by decide +kernel⟩
theorem sc_aone : FnScope ["house", "call", "packet", "refusal"] ["house", "call"] (defScope s_aone) := ⟨rfl, rfl, rfl, by decide +kernel, rfl, by decide +kernel, by decide +kernel⟩
theorem sc_bini : FnScope ["self", "protocol", "address", "port", "outside_port", "used"] ["self", "protocol", "address", "port", "outside_port", "used"] (defScope s_bini) := ⟨rfl, rfl, rfl, by decide +kernel, rfl, by decide +kernel, by decide +kernel⟩
theorem sc_dead : FnScope ["self", "now", "limit"] ["self", "now"] (defScope s_dead) := ⟨rfl, rfl, rfl, by decide +kernel, rfl, by decide +kernel, by decide +kernel⟩
theorem sc_hini : FnScope ["self"] ["self"] (defScope s_hini) := ⟨rfl, rfl, rfl, by decide +kernel, rfl, by decide +kernel, by decide +kernel⟩
theorem sc_begi : FnScope ["self", "outside"] ["self", "outside"] (defScope s_begi) := ⟨rfl, rfl, rfl, by decide +kernel, rfl, by decide +kernel, by decide +kernel⟩
theorem sc_hout : FnScope ["self", "packet", "now", "refusal", "protocol", "address", "port_place", "port", "binding"] ["self", "packet", "now"] (defScope s_hout) := ⟨rfl, rfl, rfl, by decide +kernel, rfl, by decide +kernel, by decide +kernel⟩
theorem sc_come : FnScope ["self", "packet", "now", "refusal", "port_place", "binding"] ["self", "packet", "now"] (defScope s_come) := ⟨rfl, rfl, rfl, by decide +kernel, rfl, by decide +kernel, by decide +kernel⟩
theorem sc_coun : FnScope ["self", "now", "binding"] ["self", "now"] (defScope s_coun) := ⟨rfl, rfl, rfl, by decide +kernel, rfl, by decide +kernel, by decide +kernel⟩
theorem sc_find : FnScope ["self", "protocol", "port", "now", "binding"] ["self", "protocol", "port", "now"] (defScope s_find) := ⟨rfl, rfl, rfl, by decide +kernel, rfl, by decide +kernel, by decide +kernel⟩
theorem sc_forg : FnScope ["self", "now", "binding"] ["self", "now"] (defScope s_forg) := ⟨rfl, rfl, rfl, by decide +kernel, rfl, by decide +kernel, by decide +kernel⟩
theorem sc_bins : FnScope ["self", "protocol", "address", "port", "binding"] ["self", "protocol", "address", "port"] (defScope s_bins) := ⟨rfl, rfl, rfl, by decide +kernel, rfl, by decide +kernel, by decide +kernel⟩
theorem sc_bout : FnScope ["self", "protocol", "port", "binding"] ["self", "protocol", "port"] (defScope s_bout) := ⟨rfl, rfl, rfl, by decide +kernel, rfl, by decide +kernel, by decide +kernel⟩
theorem sc_free : FnScope ["self", "protocol", "wished", "taken", "port", "binding"] ["self", "protocol", "wished"] (defScope s_free) := ⟨rfl, rfl, rfl, by decide +kernel, rfl, by decide +kernel, by decide +kernel⟩
theorem pgi {X : Cx} {x : Str} {i : Int} {pos : Pos} (h : ∃ t, X.mg x = some (.int i t)) (hg : Gl X x := by rfl) (hd : (x == ("__debug__" : Str)) = false := by decide) : PE X (.Name x pos) (tC (.int i)) := by
  obtain ⟨t, e⟩ := h
  exact pe_glob hg e ⟨t, rfl⟩ hd
theorem q_int {Q : VK} {H : Hp} {a b : Int} (k : Q (.int b) H) (e : a = b) : Q (.int a) H := by
  rw [e]
  exact k
theorem q_bl {Q : VK} {H : Hp} {a b : Bool} (k : Q (.bl b) H) (e : a = b) : Q (.bl a) H := by
  rw [e]
  exact k
theorem q_heap {Q : VK} {v : V} {H : Hp} {a : Addr} {o o' : HO} (k : Q v (upd H a o')) (e : o = o') : Q v (upd H a o) := by
  rw [e]
  exact k
/-! ### the data -/
def bv (p : Kg09.Bytes) : List V := p.map fun c => V.int (c.toNat : Int)
theorem bv_len (p : Kg09.Bytes) : (bv p).length = p.length := List.length_map ..
theorem bv_get {p : Kg09.Bytes} {j : Nat} (h : j < p.length) : (bv p)[j]? = some (V.int (Kg09.byte p j : Int)) := by
  unfold bv Kg09.byte
  rw [List.getElem?_map, List.getElem?_eq_getElem h, List.getD_eq_getElem?_getD, List.getElem?_eq_getElem h]
  rfl
theorem bv_at {p : Kg09.Bytes} {z : Int} {j : Nat} (e : z = (j : Int)) (h : j < p.length) : atI (bv p) z = some (V.int (Kg09.byte p j : Int)) := at_of e (bv_get h)
theorem bv_set {p : Kg09.Bytes} {j x : Nat} {z : Int} (e : z = (x : Int)) (h : x < 256) : (bv p).set j (V.int z) = bv (Kg09.setByte p j x) := by
  unfold bv Kg09.setByte
  rw [List.map_set, e]
  have q : (UInt8.ofNat x).toNat = x := by
    rw [UInt8.toNat_ofNat']
    omega
  rw [q]
theorem ixN_of {n : Nat} {z : Int} {j : Nat} (e : z = (j : Int)) (h : j < n) : ixN n z = some j := by
  unfold ixN
  rw [if_pos (by omega), if_pos (by omega), e]
  rfl
theorem bv_ix {p : Kg09.Bytes} {z : Int} {j : Nat} (e : z = (j : Int)) (h : j < p.length) : ixN (bv p).length z = some j := by
  rw [bv_len]
  exact ixN_of e h
end Na
namespace Na
open PySem PySem.Spec PyProof.Rows L2
/-! ### what the packet's defs promise -/
def spWord : Sp := fun vs H Q _ => ∃ (a : Addr) (z : Int) (p : Kg09.Bytes) (i : Nat), vs = [.ref a, .int z] ∧ z = (i : Int) ∧ H a = some (.lst (bv p)) ∧ i + 1 < p.length ∧ Q (.int (Kg09.word p i : Int)) H
def spSetw : Sp := fun vs H Q _ => ∃ (a : Addr) (z y : Int) (p : Kg09.Bytes) (i x : Nat), vs = [.ref a, .int z, .int y] ∧ z = (i : Int) ∧ y = (x : Int) ∧ H a = some (.lst (bv p)) ∧ i + 1 < p.length ∧ x < 65536 ∧ Q .non (upd H a (.lst (bv (Kg09.setWord p i x))))
def spAdr : Sp := fun vs H Q _ => ∃ (a : Addr) (z : Int) (p : Kg09.Bytes) (i : Nat), vs = [.ref a, .int z] ∧ z = (i : Int) ∧ H a = some (.lst (bv p)) ∧ i + 3 < p.length ∧ Q (.int (Kg09.long p i : Int)) H
def spSeta : Sp := fun vs H Q _ => ∃ (a : Addr) (z y : Int) (p : Kg09.Bytes) (i x : Nat), vs = [.ref a, .int z, .int y] ∧ z = (i : Int) ∧ y = (x : Int) ∧ H a = some (.lst (bv p)) ∧ i + 3 < p.length ∧ x < 4294967296 ∧ Q .non (upd H a (.lst (bv (Kg09.setLong p i x))))
def spSumd : Sp := fun vs H Q _ => ∃ (z : Int) (n : Nat), vs = [.int z] ∧ z = (n : Int) ∧ Q (.int (Kg09.summed n : Int)) H
def spHlen : Sp := fun vs H Q _ => ∃ (a : Addr) (p : Kg09.Bytes), vs = [.ref a] ∧ H a = some (.lst (bv p)) ∧ 0 < p.length ∧ Q (.int (Kg09.head p : Int)) H
def spHsum : Sp := fun vs H Q _ => ∃ (a : Addr) (p : Kg09.Bytes), vs = [.ref a] ∧ H a = some (.lst (bv p)) ∧ 0 < p.length ∧ Kg09.head p ≤ p.length ∧ Q (.int (Kg09.summed (Kg09.wordsOf p (Kg09.head p)) : Int)) H
def spWhol : Sp := fun vs H Q _ => ∃ (a : Addr) (p : Kg09.Bytes), vs = [.ref a] ∧ H a = some (.lst (bv p)) ∧ p.length ≤ 65535 ∧ Q (.bl (Kg09.whole p)) H
def spPiec : Sp := fun vs H Q _ => ∃ (a : Addr) (p : Kg09.Bytes), vs = [.ref a] ∧ H a = some (.lst (bv p)) ∧ 8 ≤ p.length ∧ Q (.bl (decide (Kg09.word p 6 % 16384 ≠ 0))) H
def spUdpf : Sp := fun vs H Q _ => ∃ (a : Addr) (z y : Int) (p : Kg09.Bytes) (i n : Nat), vs = [.ref a, .int z, .int y] ∧ z = (i : Int) ∧ y = (n : Int) ∧ H a = some (.lst (bv p)) ∧ i + 5 < p.length ∧ Q (.bl (decide (8 ≤ Kg09.word p (i + 4) ∧ Kg09.word p (i + 4) ≤ n))) H
def spCarr : Sp := fun vs H Q _ => ∃ (a : Addr) (z : Int) (p : Kg09.Bytes) (out : Bool), vs = [.ref a, .int z] ∧ z = (if out = true then 8 else 0) ∧ H a = some (.lst (bv p)) ∧ Kg09.whole p = true ∧ Q (.bl (kin p out).isSome) H
def spSpor : Sp := fun vs H Q _ => ∃ (a : Addr) (p : Kg09.Bytes), vs = [.ref a] ∧ H a = some (.lst (bv p)) ∧ 9 < p.length ∧ Q (.int ((if Kg09.byte p 9 = 1 then Kg09.head p + 4 else Kg09.head p : Nat) : Int)) H
def spRpor : Sp := fun vs H Q _ => ∃ (a : Addr) (p : Kg09.Bytes), vs = [.ref a] ∧ H a = some (.lst (bv p)) ∧ 9 < p.length ∧ Q (.int ((if Kg09.byte p 9 = 1 then Kg09.head p + 4 else Kg09.head p + 2 : Nat) : Int)) H
def spCpla : Sp := fun vs H Q _ => ∃ (a : Addr) (p : Kg09.Bytes), vs = [.ref a] ∧ H a = some (.lst (bv p)) ∧ 9 < p.length ∧ Q (.int (sumPlace p : Int)) H
def iv (l : List Nat) : List V := l.map fun (n : Nat) => V.int (n : Int)
def spCovw : Sp := fun vs H Q _ => ∃ (a : Addr) (z y : Int) (p : Kg09.Bytes) (i j : Nat), vs = [.ref a, .int z, .int y] ∧ z = (i : Int) ∧ y = (j : Int) ∧ H a = some (.lst (bv p)) ∧ i + 3 < p.length ∧ j + 1 < p.length ∧ 9 < p.length ∧ ∀ l, H l = none → Q (.ref l) (upd H l (.lst (iv (cov p i j))))
def spSeth : Sp := fun vs H Q _ => ∃ (a : Addr) (p : Kg09.Bytes), vs = [.ref a] ∧ H a = some (.lst (bv p)) ∧ 20 ≤ p.length ∧ Kg09.head p ≤ p.length ∧ Q .non (upd H a (.lst (bv (headSet p))))
def spMovd : Sp := fun vs H Q _ => ∃ (z : Int) (a b : Addr) (c : Nat) (xs ys : List Nat), vs = [.int z, .ref a, .ref b] ∧ z = (c : Int) ∧ H a = some (.lst (iv xs)) ∧ H b = some (.lst (iv ys)) ∧ c ≤ 65535 ∧ (∀ x ∈ xs, x ≤ 65535) ∧ Q (.int (moved c xs ys : Int)) H
def Keep (a : Addr) (H H' : Hp) : Prop := ∀ b o, H b = some o → b ≠ a → H' b = some o
def spBrin : Sp := fun vs H Q _ => ∃ (a b1 b2 : Addr) (p : Kg09.Bytes) (xs ys : List Nat), vs = [.ref a, .ref b1, .ref b2] ∧ H a = some (.lst (bv p)) ∧ H b1 = some (.lst (iv xs)) ∧ H b2 = some (.lst (iv ys)) ∧ 9 < p.length ∧ sumPlace p + 1 < p.length ∧ (∀ x ∈ xs, x ≤ 65535) ∧
  ∀ H' : Hp, H' a = some (.lst (bv (brought p xs ys))) → Keep a H H' → Q .non H'
def spRewr : Sp := fun vs H Q _ => ∃ (a : Addr) (z1 z2 z3 z4 : Int) (p : Kg09.Bytes) (k : Kg09.Kind) (out : Bool) (address port : Nat), vs = [.ref a, .int z1, .int z2, .int z3, .int z4] ∧ z1 = (Kg09.addressAt out : Int) ∧ z2 = ((Kg09.head p + Kg09.portAt k out : Nat) : Int) ∧ z3 = (address : Int) ∧ z4 = (port : Int) ∧
  H a = some (.lst (bv p)) ∧ Sound p k out ∧ 1 ≤ Kg09.byte p 8 ∧ address < 4294967296 ∧ port < 65536 ∧ ∀ H' : Hp, H' a = some (.lst (bv (Kg09.rewritten p k out address port))) → Keep a H H' → Q .non H'
def spRefu : Sp := fun vs H Q _ => ∃ (a : Addr) (z : Int) (p : Kg09.Bytes) (out : Bool), vs = [.ref a, .int z] ∧ z = (if out = true then 8 else 0) ∧ H a = some (.lst (bv p)) ∧ p.length ≤ 65535 ∧ Q (.int (refused p out)) H
section
variable {P : Program} {w : World} {K : PySem.W.Frag} {mg : Str → Option Value} {base : Heap} {d : Ad}

theorem ok_word (T : Txt K mg d) : FnOk P w K mg base CX0 1 d.f_word d.g_word ["packet", "place"] spWord := by
  refine T.word.fn.ok sc_word (fun vs H Q E h => ?_) (fun cdv A outer s H vs Q E hr h => ?_)
  · obtain ⟨a, z, p, i, rfl, _⟩ := h
    rfl
  · obtain ⟨a, z, p, i, rfl, ez, hp, hl, k⟩ := h
    refine ⟨_, (pss_one (ps_ret (pe_op op_add (pe_op op_mul (pe_ix ix_list (pv 0) (pv 1) (fun _ _ => rfl)) pe_int) (pe_ix ix_list (pv 0) (pe_op op_add (pv 1) pe_int) (fun _ _ => rfl))))), ?_⟩
    refine ⟨_, rfl, _, rfl, a, _, _, _, rfl, rfl, SqL.of hp, bv_at ez (by omega), _, _, rfl, rfl, .inr ⟨by decide, by decide⟩, _, rfl, _, rfl, _, _, rfl, rfl, a, _, _, _, rfl, rfl, SqL.of hp, bv_at (j := i + 1) (by omega) (by omega), _, _, rfl, rfl, ?_⟩
    exact q_int k (by unfold Kg09.word; omega)

theorem ok_setw (T : Txt K mg d) : FnOk P w K mg base CX0 1 d.f_setw d.g_setw ["packet", "place", "word"] spSetw := by
  refine T.setw.fn.ok sc_setw (fun vs H Q E h => ?_) (fun cdv A outer s H vs Q E hr h => ?_)
  · obtain ⟨a, z, y, p, i, x, rfl, _⟩ := h
    rfl
  · obtain ⟨a, z, y, p, i, x, rfl, ez, ey, hp, hl, hx, k⟩ := h
    refine ⟨_, (pss_cons (ps_asg (pe_op op_fdiv (pv 2) pe_int) (pg_sub (pv 0) (pv 1) set_list)) (pss_one (ps_asg (pe_op op_mod (pv 2) pe_int) (pg_sub (pv 0) (pe_op op_add (pv 1) pe_int) set_list)))), ?_⟩
    refine ⟨_, rfl, _, _, rfl, rfl, ⟨by decide, by decide⟩, _, rfl, _, rfl, a, _, _, i, rfl, rfl, hp, bv_ix ez (by omega), ?_⟩
    refine ⟨_, rfl, _, _, rfl, rfl, (by show (0 : Int) < 256; decide), _, rfl, _, rfl, _, _, rfl, rfl, a, _, _, i + 1, rfl, rfl, upd_same, ?_, ?_⟩
    · rw [List.length_set]
      exact bv_ix (by omega) (by omega)
    · show Q .non _
      rw [upd_upd, bv_set (x := x / 256 % 256) (by omega) (by omega), bv_set (x := x % 256) (by omega) (by omega)]
      exact k

theorem ok_adr (T : Txt K mg d) : FnOk P w K mg base CX0 2 d.f_adr d.g_adr ["packet", "place"] spAdr := by
  have G_word := ok_word (P := P) (w := w) (base := base) T
  refine T.adr.fn.ok sc_adr (fun vs H Q E h => ?_) (fun cdv A outer s H vs Q E hr h => ?_)
  · obtain ⟨a, z, p, i, rfl, _⟩ := h
    rfl
  · obtain ⟨a, z, p, i, rfl, ez, hp, hl, k⟩ := h
    refine ⟨_, (pss_one (ps_ret (pe_op op_add (pe_op op_mul (pe_call G_word (hr.mono (by decide)) rfl T.word.at_ T.word.fn.kp (b_word T) .nil pass0 (pa_cons (pv 0) (pa_cons (pv 1) pa_nil))) pe_int) (pe_call G_word (hr.mono (by decide)) rfl T.word.at_ T.word.fn.kp (b_word T) .nil pass0 (pa_cons (pv 0) (pa_cons (pe_op op_add (pv 1) pe_int) pa_nil)))))), ?_⟩
    refine ⟨_, rfl, _, rfl, a, _, p, i, rfl, ez, hp, by omega, _, _, rfl, rfl, .inr ⟨by decide, by decide⟩, _, rfl, _, rfl, _, _, rfl, rfl, a, _, p, i + 2, rfl, by omega, hp, by omega, _, _, rfl, rfl, ?_⟩
    exact q_int k (by unfold Kg09.long; omega)

theorem ok_seta (T : Txt K mg d) : FnOk P w K mg base CX0 2 d.f_seta d.g_seta ["packet", "place", "address"] spSeta := by
  have G_setw := ok_setw (P := P) (w := w) (base := base) T
  refine T.seta.fn.ok sc_seta (fun vs H Q E h => ?_) (fun cdv A outer s H vs Q E hr h => ?_)
  · obtain ⟨a, z, y, p, i, x, rfl, _⟩ := h
    rfl
  · obtain ⟨a, z, y, p, i, x, rfl, ez, ey, hp, hl, hx, k⟩ := h
    refine ⟨_, (pss_cons (ps_expr (pe_call G_setw (hr.mono (by decide)) rfl T.setw.at_ T.setw.fn.kp (b_setw T) .nil pass0 (pa_cons (pv 0) (pa_cons (pv 1) (pa_cons (pe_op op_fdiv (pv 2) pe_int) pa_nil))))) (pss_one (ps_expr (pe_call G_setw (hr.mono (by decide)) rfl T.setw.at_ T.setw.fn.kp (b_setw T) .nil pass0 (pa_cons (pv 0) (pa_cons (pe_op op_add (pv 1) pe_int) (pa_cons (pe_op op_mod (pv 2) pe_int) pa_nil))))))), ?_⟩
    refine ⟨_, rfl, _, rfl, _, rfl, _, _, rfl, rfl, ⟨by decide, by decide⟩, a, _, _, p, i, x / 65536 % 65536, rfl, ez, by omega, hp, by omega, by omega, ?_⟩
    refine ⟨_, rfl, _, rfl, _, _, rfl, rfl, _, rfl, _, _, rfl, rfl, (by show (0 : Int) < 65536; decide), a, _, _, Kg09.setWord p i (x / 65536 % 65536), i + 2, x % 65536, rfl, by omega, by omega, upd_same, by rw [len_setWord]; omega, by omega, ?_⟩
    show Q .non _
    rw [upd_upd]
    exact k

theorem ok_sumd (T : Txt K mg d) : FnOk P w K mg base CX0 1 d.f_sumd d.g_sumd ["number"] spSumd := by
  refine T.sumd.fn.ok sc_sumd (fun vs H Q E h => ?_) (fun cdv A outer s H vs Q E hr h => ?_)
  · obtain ⟨z, n, rfl, _⟩ := h
    rfl
  · obtain ⟨z, n, rfl, ez, k⟩ := h
    refine ⟨_, (pss_cons (ps_while PassesOwn.never (pt_cmpR op_gt (pv 0) pe_int (nomark _)) (pss_one (ps_set (i := 0) sc_sumd.nd rfl (Or.inl rfl) (pe_op op_add (pe_op op_mod (pv 0) pe_int) (pe_op op_fdiv (pv 0) pe_int))))) (pss_one (ps_ret (pv 0)))), ?_⟩
    refine while_by (fun σ H' => H' = H ∧ ∃ m : Nat, σ = [some (.int (m : Int))] ∧ Kg09.summed m = Kg09.summed n) (fun σ _ => match σ with | [some (.int z)] => z.toNat | _ => 0) ⟨rfl, n, by rw [ez]; rfl, rfl⟩ ?_ ?_
    · rintro σ H' ⟨rfl, m, rfl, em⟩
      refine ⟨_, rfl, _, _, rfl, rfl, _, rfl, ite2 (fun hc => ?_) (fun hc => ?_)⟩
      · have hc : (65535 : Int) < (m : Int) := of_decide_eq_true hc
        refine ⟨_, rfl, _, _, rfl, rfl, (by show (0 : Int) < 65536; decide), _, rfl, _, _, rfl, rfl, ⟨by decide, by decide⟩, _, _, rfl, rfl, ⟨rfl, m % 65536 + m / 65536, ?_, (summed_step (by omega)).trans em⟩, ?_⟩
        · show [some (V.int ((m : Int) % 65536 + (m : Int) / 65536))] = _
          rw [show ((m : Int) % 65536 + (m : Int) / 65536) = ((m % 65536 + m / 65536 : Nat) : Int) by omega]
        · show ((m : Int) % 65536 + (m : Int) / 65536).toNat < ((m : Int)).toNat
          omega
      · have hc : ¬ (65535 : Int) < (m : Int) := fun q => hc (decide_eq_true q)
        refine ⟨_, rfl, ?_⟩
        have e : Kg09.summed n = m := by rw [← em]; exact summed_low (by omega)
        rw [e] at k
        exact k
    · rintro σ H' Q1 Q2 hq ⟨v, h1, i, j, h2, h3, b, h4, h5⟩
      exact ⟨v, h1, i, j, h2, h3, b, h4, hq _ _ h5⟩

theorem ok_hlen (T : Txt K mg d) : FnOk P w K mg base CX0 1 d.f_hlen d.g_hlen ["packet"] spHlen := by
  refine T.hlen.fn.ok sc_hlen (fun vs H Q E h => ?_) (fun cdv A outer s H vs Q E hr h => ?_)
  · obtain ⟨a, p, rfl, _⟩ := h
    rfl
  · obtain ⟨a, p, rfl, hp, hl, k⟩ := h
    refine ⟨_, (pss_one (ps_ret (pe_op op_mul (pe_op op_mod (pe_ix ix_list (pv 0) pe_int (fun _ _ => rfl)) pe_int) pe_int))), ?_⟩
    refine ⟨_, rfl, a, _, _, _, rfl, rfl, SqL.of hp, bv_at (j := 0) rfl hl, _, _, rfl, rfl, (by show (0 : Int) < 16; decide), _, _, rfl, rfl, .inr ⟨by decide, by decide⟩, ?_⟩
    exact q_int k (by unfold Kg09.head; omega)

theorem rg2 : ∀ m : Nat, m < 16 → Builtin.Range.small 0 ((4 * m : Nat) : Int) 2 = true ∧ Builtin.Range.rangeSize 0 ((4 * m : Nat) : Int) 2 = ((2 * m : Nat) : Int) := by decide
theorem rg_head (p : Kg09.Bytes) : RgC 0 (Kg09.head p : Int) 2 (Kg09.head p / 2) := by
  have e : Kg09.head p = 4 * (Kg09.byte p 0 % 16) := rfl
  obtain ⟨h1, h2⟩ := rg2 (Kg09.byte p 0 % 16) (by omega)
  refine ⟨by decide, by decide, ?_, ?_⟩
  · rw [e]
    exact h1
  · rw [e, h2]
    omega

theorem ok_hsum (T : Txt K mg d) : FnOk P w K mg base CX0 2 d.f_hsum d.g_hsum ["packet"] spHsum := by
  have G_hlen := ok_hlen (P := P) (w := w) (base := base) T
  have G_word := ok_word (P := P) (w := w) (base := base) T
  have G_sumd := ok_sumd (P := P) (w := w) (base := base) T
  refine T.hsum.fn.ok sc_hsum (fun vs H Q E h => ?_) (fun cdv A outer s H vs Q E hr h => ?_)
  · obtain ⟨a, p, rfl, _⟩ := h
    rfl
  · obtain ⟨a, p, rfl, hp, hl, hh, k⟩ := h
    refine ⟨_, (pss_cons (ps_set (i := 1) sc_hsum.nd rfl (Or.inl rfl) pe_int) (pss_cons (ps_for PassesOwn.never rfl (pi_range3 rfl T.range (pa_cons pe_int (pa_cons (pe_call G_hlen (hr.mono (by decide)) rfl T.hlen.at_ T.hlen.fn.kp (b_hlen T) .nil pass0 (pa_cons (pv 0) pa_nil)) (pa_cons pe_int pa_nil)))) (pg_name (i := 2) sc_hsum.nd rfl (Or.inl rfl)) (pss_one (ps_set (i := 1) sc_hsum.nd rfl (Or.inl rfl) (pe_op op_add (pv 1) (pe_call G_word (hr.mono (by decide)) rfl T.word.at_ T.word.fn.kp (b_word T) .nil pass0 (pa_cons (pv 0) (pa_cons (pv 2) pa_nil))))))) (pss_one (ps_ret (pe_call G_sumd (hr.mono (by decide)) rfl T.sumd.at_ T.sumd.fn.kp (b_sumd T) .nil pass0 (pa_cons (pv 1) pa_nil)))))), ?_⟩
    refine ⟨_, rfl, a, p, rfl, hp, hl, 0, (Kg09.head p : Int), 2, Kg09.head p / 2, rfl, rg_head p, for_rangeC (lo := 0) (c := 2) (n := Kg09.head p / 2) (fun i σ H' => H' = H ∧ ∃ v : Option V, σ = [some (.ref a), some (.int (ws p i : Int)), v]) ⟨rfl, none, rfl⟩ ?_ ?_⟩
    · rintro i σ H' hi ⟨rfl, v, rfl⟩
      refine ⟨_, rfl, _, rfl, _, rfl, a, _, p, 2 * i, rfl, by omega, hp, by omega, _, _, rfl, rfl, rfl, some (.int (0 + (i : Int) * 2)), ?_⟩
      show [some (V.ref a), some (V.int ((ws p i : Int) + (Kg09.word p (2 * i) : Int))), _] = _
      rw [ws_succ]
      rfl
    · rintro σ H' ⟨rfl, v, rfl⟩
      refine ⟨_, rfl, _, ws p (Kg09.head p / 2), rfl, rfl, ?_⟩
      exact k

theorem whole_eq {p : Kg09.Bytes} (h1 : 20 ≤ p.length) (h2 : Kg09.byte p 0 / 16 = 4) (h3 : 20 ≤ Kg09.head p) (h4 : Kg09.head p ≤ Kg09.total p) (h5 : Kg09.total p ≤ p.length) : Kg09.whole p = decide (V.int ((Kg09.summed (Kg09.wordsOf p (Kg09.head p)) : Nat) : Int) = V.int 65535) := by
  rw [Bool.eq_iff_iff, whole_iff, decide_eq_true_eq, V.int.injEq]
  constructor
  · intro h
    omega
  · intro h
    exact ⟨h1, h2, h3, h4, h5, by omega⟩
theorem whole_no {p : Kg09.Bytes} (h : ¬ (20 ≤ p.length ∧ Kg09.byte p 0 / 16 = 4 ∧ 20 ≤ Kg09.head p ∧ Kg09.head p ≤ Kg09.total p ∧ Kg09.total p ≤ p.length)) : Kg09.whole p = false := by
  rw [Bool.eq_false_iff]
  intro q
  have := whole_iff.mp q
  exact h ⟨this.1, this.2.1, this.2.2.1, this.2.2.2.1, this.2.2.2.2.1⟩

theorem ok_whol (T : Txt K mg d) : FnOk P w K mg base CX0 3 d.f_whol d.g_whol ["packet"] spWhol := by
  have G_hlen := ok_hlen (P := P) (w := w) (base := base) T
  have G_word := ok_word (P := P) (w := w) (base := base) T
  have G_hsum := ok_hsum (P := P) (w := w) (base := base) T
  refine T.whol.fn.ok sc_whol (fun vs H Q E h => ?_) (fun cdv A outer s H vs Q E hr h => ?_)
  · obtain ⟨a, p, rfl, _⟩ := h
    rfl
  · obtain ⟨a, p, rfl, hp, hm, k⟩ := h
    refine ⟨_, (pss_cons (ps_set (i := 1) sc_whol.nd rfl (Or.inl rfl) (pe_callB call_len_seq (by rfl) T.len PySem.boot_len (pa_cons (pv 0) pa_nil))) (pss_cons (ps_if (PW.pt (pw_or (pt_cmpR op_lt (pv 1) (pgi T.c_LEAST_HEAD) (nomark _)) (pw_or1 (pt_cmpR op_gt (pv 1) (pgi T.c_MOST_BYTES) (nomark _))))) (pss_one (ps_ret pe_bl)) pss_nil) (pss_cons (ps_set (i := 2) sc_whol.nd rfl (Or.inl rfl) (pe_call G_hlen (hr.mono (by decide)) rfl T.hlen.at_ T.hlen.fn.kp (b_hlen T) .nil pass0 (pa_cons (pv 0) pa_nil))) (pss_cons (ps_if (PW.pt (pw_or (pt_cmpR op_ne (pe_op op_fdiv (pe_ix ix_list (pv 0) pe_int (fun _ _ => rfl)) pe_int) pe_int (nomark _)) (pw_or1 (pt_cmpR op_lt (pv 2) (pgi T.c_LEAST_HEAD) (nomark _))))) (pss_one (ps_ret pe_bl)) pss_nil) (pss_cons (ps_set (i := 3) sc_whol.nd rfl (Or.inl rfl) (pe_call G_word (hr.mono (by decide)) rfl T.word.at_ T.word.fn.kp (b_word T) .nil pass0 (pa_cons (pv 0) (pa_cons (pgi T.c_LENGTH_PLACE) pa_nil)))) (pss_cons (ps_if (PW.pt (pw_or (pt_cmpR op_lt (pv 3) (pv 2) (nomark _)) (pw_or1 (pt_cmpR op_gt (pv 3) (pv 1) (nomark _))))) (pss_one (ps_ret pe_bl)) pss_nil) (pss_one (ps_ret (pe_cmpR op_eq (pe_call G_hsum (hr.mono (by decide)) rfl T.hsum.at_ T.hsum.fn.kp (b_hsum T) .nil pass0 (pa_cons (pv 0) pa_nil)) pe_int (nomark _)))))))))), ?_⟩
    have no : ¬ (20 ≤ p.length ∧ Kg09.byte p 0 / 16 = 4 ∧ 20 ≤ Kg09.head p ∧ Kg09.head p ≤ Kg09.total p ∧ Kg09.total p ≤ p.length) → Q (.bl false) H := fun h => by
      rw [whole_no h] at k
      exact k
    have et : Kg09.total p = Kg09.word p 2 := rfl
    refine ⟨_, rfl, a, _, rfl, .inl (SqL.of hp), ?_⟩
    refine ⟨_, rfl, _, _, rfl, rfl, _, rfl, ite2 (fun hc => iteT ?_) (fun hc => ?_)⟩
    · have hc : (((bv p).length : Nat) : Int) < 20 := of_decide_eq_true hc
      rw [bv_len] at hc
      exact no (by omega)
    have hc : ¬ (((bv p).length : Nat) : Int) < 20 := fun q => hc (decide_eq_true q)
    rw [bv_len] at hc
    refine ⟨_, rfl, _, _, rfl, rfl, _, rfl, ite2 (fun hd => ?_) (fun hd => ?_)⟩
    · have hd : (65535 : Int) < (((bv p).length : Nat) : Int) := of_decide_eq_true hd
      rw [bv_len] at hd
      exact absurd hd (by omega)
    refine ⟨_, rfl, a, p, rfl, hp, by omega, ?_⟩
    refine ⟨_, rfl, a, _, _, _, rfl, rfl, SqL.of hp, bv_at (j := 0) rfl (by omega), _, _, rfl, rfl, ⟨by decide, by decide⟩, rfl, _, rfl, ite2 (fun he => iteT ?_) (fun he => ?_)⟩
    · have he : ¬ V.int ((Kg09.byte p 0 : Int) / 16) = V.int 4 := by
        intro q
        rw [decide_eq_true q] at he
        cases he
      rw [V.int.injEq] at he
      exact no (by omega)
    have he : V.int ((Kg09.byte p 0 : Int) / 16) = V.int 4 := by
      refine Classical.byContradiction fun q => he ?_
      rw [decide_eq_false q]
      rfl
    rw [V.int.injEq] at he
    refine ⟨_, rfl, _, _, rfl, rfl, _, rfl, ite2 (fun hf => ?_) (fun hf => ?_)⟩
    · have hf : ((Kg09.head p : Nat) : Int) < 20 := of_decide_eq_true hf
      exact no (by omega)
    have hf : ¬ ((Kg09.head p : Nat) : Int) < 20 := fun q => hf (decide_eq_true q)
    refine ⟨_, rfl, a, _, p, 2, rfl, rfl, hp, by omega, ?_⟩
    refine ⟨_, rfl, _, rfl, _, _, rfl, rfl, _, rfl, ite2 (fun hg => iteT ?_) (fun hg => ?_)⟩
    · have hg : ((Kg09.word p 2 : Nat) : Int) < ((Kg09.head p : Nat) : Int) := of_decide_eq_true hg
      exact no (by omega)
    have hg : ¬ ((Kg09.word p 2 : Nat) : Int) < ((Kg09.head p : Nat) : Int) := fun q => hg (decide_eq_true q)
    refine ⟨_, rfl, _, rfl, _, _, rfl, rfl, _, rfl, ite2 (fun hi => ?_) (fun hi => ?_)⟩
    · have hi : (((bv p).length : Nat) : Int) < ((Kg09.word p 2 : Nat) : Int) := of_decide_eq_true hi
      rw [bv_len] at hi
      exact no (by omega)
    have hi : ¬ (((bv p).length : Nat) : Int) < ((Kg09.word p 2 : Nat) : Int) := fun q => hi (decide_eq_true q)
    rw [bv_len] at hi
    refine ⟨_, rfl, a, p, rfl, hp, by omega, by omega, rfl, ?_⟩
    exact q_bl k (whole_eq (by omega) (by omega) (by omega) (by omega) (by omega)).symm

theorem ok_piec (T : Txt K mg d) : FnOk P w K mg base CX0 2 d.f_piec d.g_piec ["packet"] spPiec := by
  have G_word := ok_word (P := P) (w := w) (base := base) T
  refine T.piec.fn.ok sc_piec (fun vs H Q E h => ?_) (fun cdv A outer s H vs Q E hr h => ?_)
  · obtain ⟨a, p, rfl, _⟩ := h
    rfl
  · obtain ⟨a, p, rfl, hp, hl, k⟩ := h
    refine ⟨_, (pss_one (ps_ret (pe_cmpR op_ne (pe_op op_mod (pe_call G_word (hr.mono (by decide)) rfl T.word.at_ T.word.fn.kp (b_word T) .nil pass0 (pa_cons (pv 0) (pa_cons (pgi T.c_PIECE_PLACE) pa_nil))) pe_int) pe_int (nomark _)))), ?_⟩
    refine ⟨_, rfl, a, _, p, 6, rfl, rfl, hp, by omega, _, _, rfl, rfl, (by show (0 : Int) < 16384; decide), rfl, ?_⟩
    refine q_bl k ?_
    rw [← decide_not]
    refine decide_eq_decide.mpr ?_
    rw [V.int.injEq]
    omega

theorem ok_udpf (T : Txt K mg d) : FnOk P w K mg base CX0 2 d.f_udpf d.g_udpf ["packet", "start", "size"] spUdpf := by
  have G_word := ok_word (P := P) (w := w) (base := base) T
  refine T.udpf.fn.ok sc_udpf (fun vs H Q E h => ?_) (fun cdv A outer s H vs Q E hr h => ?_)
  · obtain ⟨a, z, y, p, i, n, rfl, _⟩ := h
    rfl
  · obtain ⟨a, z, y, p, i, n, rfl, ez, ey, hp, hl, k⟩ := h
    refine ⟨_, (pss_cons (ps_set (i := 3) sc_udpf.nd rfl (Or.inl rfl) (pe_call G_word (hr.mono (by decide)) rfl T.word.at_ T.word.fn.kp (b_word T) .nil pass0 (pa_cons (pv 0) (pa_cons (pe_op op_add (pv 1) pe_int) pa_nil)))) (pss_one (ps_ret (pe_and (pe_cmpR op_ge (pv 3) (pgi T.c_LEAST_UDP) (nomark _)) (pe_one (pe_cmpR op_le (pv 3) (pv 2) (nomark _))))))), ?_⟩
    refine ⟨_, rfl, _, rfl, _, _, rfl, rfl, a, _, p, i + 4, rfl, by omega, hp, by omega, ?_⟩
    refine ⟨_, rfl, _, _, rfl, rfl, _, rfl, ite2 (fun hc => ?_) (fun hc => ?_)⟩
    · have hc : (8 : Int) ≤ ((Kg09.word p (i + 4) : Nat) : Int) := of_decide_eq_true hc
      refine ⟨_, rfl, _, rfl, _, _, rfl, rfl, ?_⟩
      exact q_bl k (decide_eq_decide.mpr (by omega))
    · have hc : ¬ (8 : Int) ≤ ((Kg09.word p (i + 4) : Nat) : Int) := fun q => hc (decide_eq_true q)
      exact q_bl k (decide_eq_false (by omega)).symm

theorem ok_carr (T : Txt K mg d) : FnOk P w K mg base CX0 3 d.f_carr d.g_carr ["packet", "echo_kind"] spCarr := by
  have G_hlen := ok_hlen (P := P) (w := w) (base := base) T
  have G_word := ok_word (P := P) (w := w) (base := base) T
  have G_udpf := ok_udpf (P := P) (w := w) (base := base) T
  refine T.carr.fn.ok sc_carr (fun vs H Q E h => ?_) (fun cdv A outer s H vs Q E hr h => ?_)
  · obtain ⟨a, z, p, out, rfl, _⟩ := h
    rfl
  · obtain ⟨a, z, p, out, rfl, ez, hp, hw, k⟩ := h
    refine ⟨_, (pss_cons (ps_set (i := 2) sc_carr.nd rfl (Or.inl rfl) (pe_call G_hlen (hr.mono (by decide)) rfl T.hlen.at_ T.hlen.fn.kp (b_hlen T) .nil pass0 (pa_cons (pv 0) pa_nil))) (pss_cons (ps_set (i := 3) sc_carr.nd rfl (Or.inl rfl) (pe_op op_sub (pe_call G_word (hr.mono (by decide)) rfl T.word.at_ T.word.fn.kp (b_word T) .nil pass0 (pa_cons (pv 0) (pa_cons (pgi T.c_LENGTH_PLACE) pa_nil))) (pv 2))) (pss_cons (ps_set (i := 4) sc_carr.nd rfl (Or.inl rfl) (pe_ix ix_list (pv 0) (pgi T.c_PROTOCOL_PLACE) (fun _ _ => rfl))) (pss_cons (ps_if (pt_cmpR op_eq (pv 4) (pgi T.c_UDP) (nomark _)) (pss_one (ps_ret (pe_and (pe_cmpR op_ge (pv 3) (pgi T.c_LEAST_UDP) (nomark _)) (pe_one (pe_call G_udpf (hr.mono (by decide)) rfl T.udpf.at_ T.udpf.fn.kp (b_udpf T) .nil pass0 (pa_cons (pv 0) (pa_cons (pv 2) (pa_cons (pv 3) pa_nil)))))))) pss_nil) (pss_cons (ps_if (pt_cmpR op_eq (pv 4) (pgi T.c_TCP) (nomark _)) (pss_one (ps_ret (pe_cmpR op_ge (pv 3) (pgi T.c_LEAST_TCP) (nomark _)))) pss_nil) (pss_cons (ps_if (pt_cmpR op_eq (pv 4) (pgi T.c_ECHO) (nomark _)) (pss_one (ps_ret (pe_and (pe_cmpR op_ge (pv 3) (pgi T.c_LEAST_ECHO) (nomark _)) (pe_and (pe_cmpR op_eq (pe_ix ix_list (pv 0) (pv 2) (fun _ _ => rfl)) (pv 1) (nomark _)) (pe_one (pe_cmpR op_eq (pe_ix ix_list (pv 0) (pe_op op_add (pv 2) pe_int) (fun _ _ => rfl)) pe_int (nomark _))))))) pss_nil) (pss_one (ps_ret pe_bl)))))))), ?_⟩
    obtain ⟨w1, w2, w3, w4, w5, w6⟩ := whole_iff.mp hw
    have et : Kg09.total p = Kg09.word p 2 := rfl
    have b9 := byte_lt p 9
    refine ⟨_, rfl, a, p, rfl, hp, by omega, ?_⟩
    refine ⟨_, rfl, a, _, p, 2, rfl, rfl, hp, by omega, _, rfl, _, _, rfl, rfl, ?_⟩
    refine ⟨_, rfl, a, _, _, _, rfl, rfl, SqL.of hp, bv_at (j := 9) rfl (by omega), ?_⟩
    refine ⟨_, rfl, rfl, _, rfl, ite2 (fun hc => ?_) (fun hc => ?_)⟩
    · have hc : V.int (Kg09.byte p 9 : Int) = V.int 17 := of_decide_eq_true hc
      rw [V.int.injEq] at hc
      refine ⟨_, rfl, _, _, rfl, rfl, _, rfl, ite2 (fun hd => ?_) (fun hd => ?_)⟩
      · have hd : (8 : Int) ≤ ((Kg09.word p 2 : Nat) : Int) - ((Kg09.head p : Nat) : Int) := of_decide_eq_true hd
        refine ⟨_, rfl, _, rfl, _, rfl, a, _, _, p, Kg09.head p, Kg09.total p - Kg09.head p, rfl, rfl, by omega, hp, by omega, ?_⟩
        refine q_bl k ?_
        unfold kin
        rw [if_pos (show Kg09.byte p 9 = 17 by omega)]
        by_cases q : 8 ≤ Kg09.word p (Kg09.head p + 4) ∧ Kg09.word p (Kg09.head p + 4) ≤ Kg09.total p - Kg09.head p
        · rw [decide_eq_true q, if_pos ⟨by omega, q⟩]
          rfl
        · rw [decide_eq_false q, if_neg (fun z => q z.2)]
          rfl
      · have hd : ¬ (8 : Int) ≤ ((Kg09.word p 2 : Nat) : Int) - ((Kg09.head p : Nat) : Int) := fun q => hd (decide_eq_true q)
        refine q_bl k ?_
        unfold kin
        rw [if_pos (show Kg09.byte p 9 = 17 by omega), if_neg (by omega)]
        rfl
    have hc : ¬ Kg09.byte p 9 = 17 := fun q => hc (decide_eq_true (by rw [q]; rfl))
    refine ⟨_, rfl, rfl, _, rfl, ite2 (fun h6 => ?_) (fun h6 => ?_)⟩
    · have h6 : V.int (Kg09.byte p 9 : Int) = V.int 6 := of_decide_eq_true h6
      rw [V.int.injEq] at h6
      refine ⟨_, rfl, _, _, rfl, rfl, ?_⟩
      refine q_bl k ?_
      unfold kin
      rw [if_neg hc, if_pos (show Kg09.byte p 9 = 6 by omega)]
      by_cases q : 20 ≤ Kg09.total p - Kg09.head p
      · rw [if_pos q, decide_eq_true (by omega)]
        rfl
      · rw [if_neg q, decide_eq_false (by omega)]
        rfl
    have h6 : ¬ Kg09.byte p 9 = 6 := fun q => h6 (decide_eq_true (by rw [q]; rfl))
    refine ⟨_, rfl, rfl, _, rfl, ite2 (fun h1 => ?_) (fun h1 => ?_)⟩
    · have h1 : V.int (Kg09.byte p 9 : Int) = V.int 1 := of_decide_eq_true h1
      rw [V.int.injEq] at h1
      have hk : kin p out = if 8 ≤ Kg09.total p - Kg09.head p ∧ Kg09.byte p (Kg09.head p) = (if out = true then 8 else 0) ∧ Kg09.byte p (Kg09.head p + 1) = 0 then some .echo else none := by
        unfold kin
        rw [if_neg hc, if_neg h6, if_pos (show Kg09.byte p 9 = 1 by omega)]
      have ez' : z = (((if out = true then 8 else 0) : Nat) : Int) := by
        rw [ez]
        cases out <;> rfl
      refine ⟨_, rfl, _, _, rfl, rfl, _, rfl, ite2 (fun hd => ?_) (fun hd => ?_)⟩
      · have hd : (8 : Int) ≤ ((Kg09.word p 2 : Nat) : Int) - ((Kg09.head p : Nat) : Int) := of_decide_eq_true hd
        refine ⟨_, rfl, _, rfl, a, _, _, _, rfl, rfl, SqL.of hp, bv_at (j := Kg09.head p) rfl (by omega), _, rfl, rfl, _, rfl, ite2 (fun he => ?_) (fun he => ?_)⟩
        · have he : V.int (Kg09.byte p (Kg09.head p) : Int) = V.int z := of_decide_eq_true he
          rw [V.int.injEq, ez'] at he
          refine ⟨_, rfl, _, rfl, _, _, rfl, rfl, a, _, _, _, rfl, rfl, SqL.of hp, bv_at (j := Kg09.head p + 1) (by omega) (by omega), rfl, ?_⟩
          refine q_bl k ?_
          rw [hk]
          by_cases q : Kg09.byte p (Kg09.head p + 1) = 0
          · rw [if_pos ⟨by omega, by omega, q⟩, q]
            rfl
          · rw [if_neg (fun z => q z.2.2), decide_eq_false (by rw [V.int.injEq]; omega)]
            rfl
        · have he : ¬ V.int (Kg09.byte p (Kg09.head p) : Int) = V.int z := fun q => he (decide_eq_true q)
          rw [V.int.injEq, ez'] at he
          refine q_bl k ?_
          rw [hk, if_neg (fun z => he (by rw [z.2.1]))]
          rfl
      · have hd : ¬ (8 : Int) ≤ ((Kg09.word p 2 : Nat) : Int) - ((Kg09.head p : Nat) : Int) := fun q => hd (decide_eq_true q)
        refine q_bl k ?_
        rw [hk, if_neg (by omega)]
        rfl
    have h1 : ¬ Kg09.byte p 9 = 1 := fun q => h1 (decide_eq_true (by rw [q]; rfl))
    refine q_bl k ?_
    unfold kin
    rw [if_neg hc, if_neg h6, if_neg h1]
    rfl

end
end Na
namespace Na
open PySem PySem.Spec PyProof.Rows L2
section
variable {P : Program} {w : World} {K : PySem.W.Frag} {mg : Str → Option Value} {base : Heap} {d : Ad}

theorem ok_spor (T : Txt K mg d) : FnOk P w K mg base CX0 2 d.f_spor d.g_spor ["packet"] spSpor := by
  have G_hlen := ok_hlen (P := P) (w := w) (base := base) T
  refine T.spor.fn.ok sc_spor (fun vs H Q E h => ?_) (fun cdv A outer s H vs Q E hr h => ?_)
  · obtain ⟨a, p, rfl, _⟩ := h
    rfl
  · obtain ⟨a, p, rfl, hp, hl, k⟩ := h
    refine ⟨_, (pss_cons (ps_set (i := 1) sc_spor.nd rfl (Or.inl rfl) (pe_call G_hlen (hr.mono (by decide)) rfl T.hlen.at_ T.hlen.fn.kp (b_hlen T) .nil pass0 (pa_cons (pv 0) pa_nil))) (pss_one (ps_ret (pe_ifExp (pt_cmpR op_eq (pe_ix ix_list (pv 0) (pgi T.c_PROTOCOL_PLACE) (fun _ _ => rfl)) (pgi T.c_ECHO) (nomark _)) (pe_op op_add (pv 1) pe_int) (pv 1))))), ?_⟩
    refine ⟨_, rfl, a, p, rfl, hp, by omega, ?_⟩
    refine ⟨_, rfl, a, _, _, _, rfl, rfl, SqL.of hp, bv_at (j := 9) rfl (by omega), rfl, _, rfl, ite2 (fun hc => ?_) (fun hc => ?_)⟩
    · have hc : V.int (Kg09.byte p 9 : Int) = V.int 1 := of_decide_eq_true hc
      rw [V.int.injEq] at hc
      refine ⟨_, rfl, _, _, rfl, rfl, ?_⟩
      rw [if_pos (show Kg09.byte p 9 = 1 by omega)] at k
      exact q_int k (by omega)
    · have hc : ¬ Kg09.byte p 9 = 1 := fun q => hc (decide_eq_true (by rw [q]; rfl))
      refine ⟨_, rfl, ?_⟩
      rw [if_neg hc] at k
      exact q_int k (by omega)

theorem ok_rpor (T : Txt K mg d) : FnOk P w K mg base CX0 2 d.f_rpor d.g_rpor ["packet"] spRpor := by
  have G_hlen := ok_hlen (P := P) (w := w) (base := base) T
  refine T.rpor.fn.ok sc_rpor (fun vs H Q E h => ?_) (fun cdv A outer s H vs Q E hr h => ?_)
  · obtain ⟨a, p, rfl, _⟩ := h
    rfl
  · obtain ⟨a, p, rfl, hp, hl, k⟩ := h
    refine ⟨_, (pss_cons (ps_set (i := 1) sc_rpor.nd rfl (Or.inl rfl) (pe_call G_hlen (hr.mono (by decide)) rfl T.hlen.at_ T.hlen.fn.kp (b_hlen T) .nil pass0 (pa_cons (pv 0) pa_nil))) (pss_one (ps_ret (pe_ifExp (pt_cmpR op_eq (pe_ix ix_list (pv 0) (pgi T.c_PROTOCOL_PLACE) (fun _ _ => rfl)) (pgi T.c_ECHO) (nomark _)) (pe_op op_add (pv 1) pe_int) (pe_op op_add (pv 1) pe_int))))), ?_⟩
    refine ⟨_, rfl, a, p, rfl, hp, by omega, ?_⟩
    refine ⟨_, rfl, a, _, _, _, rfl, rfl, SqL.of hp, bv_at (j := 9) rfl (by omega), rfl, _, rfl, ite2 (fun hc => ?_) (fun hc => ?_)⟩
    · have hc : V.int (Kg09.byte p 9 : Int) = V.int 1 := of_decide_eq_true hc
      rw [V.int.injEq] at hc
      refine ⟨_, rfl, _, _, rfl, rfl, ?_⟩
      rw [if_pos (show Kg09.byte p 9 = 1 by omega)] at k
      exact q_int k (by omega)
    · have hc : ¬ Kg09.byte p 9 = 1 := fun q => hc (decide_eq_true (by rw [q]; rfl))
      refine ⟨_, rfl, _, _, rfl, rfl, ?_⟩
      rw [if_neg hc] at k
      exact q_int k (by omega)

theorem ok_cpla (T : Txt K mg d) : FnOk P w K mg base CX0 2 d.f_cpla d.g_cpla ["packet"] spCpla := by
  have G_hlen := ok_hlen (P := P) (w := w) (base := base) T
  refine T.cpla.fn.ok sc_cpla (fun vs H Q E h => ?_) (fun cdv A outer s H vs Q E hr h => ?_)
  · obtain ⟨a, p, rfl, _⟩ := h
    rfl
  · obtain ⟨a, p, rfl, hp, hl, k⟩ := h
    refine ⟨_, (pss_cons (ps_set (i := 1) sc_cpla.nd rfl (Or.inl rfl) (pe_call G_hlen (hr.mono (by decide)) rfl T.hlen.at_ T.hlen.fn.kp (b_hlen T) .nil pass0 (pa_cons (pv 0) pa_nil))) (pss_cons (ps_if (pt_cmpR op_eq (pe_ix ix_list (pv 0) (pgi T.c_PROTOCOL_PLACE) (fun _ _ => rfl)) (pgi T.c_UDP) (nomark _)) (pss_one (ps_ret (pe_op op_add (pv 1) pe_int))) pss_nil) (pss_cons (ps_if (pt_cmpR op_eq (pe_ix ix_list (pv 0) (pgi T.c_PROTOCOL_PLACE) (fun _ _ => rfl)) (pgi T.c_TCP) (nomark _)) (pss_one (ps_ret (pe_op op_add (pv 1) pe_int))) pss_nil) (pss_one (ps_ret (pe_op op_add (pv 1) pe_int)))))), ?_⟩
    refine ⟨_, rfl, a, p, rfl, hp, by omega, ?_⟩
    unfold sumPlace at k
    refine ⟨_, rfl, a, _, _, _, rfl, rfl, SqL.of hp, bv_at (j := 9) rfl (by omega), rfl, _, rfl, ite2 (fun hc => ?_) (fun hc => ?_)⟩
    · have hc : V.int (Kg09.byte p 9 : Int) = V.int 17 := of_decide_eq_true hc
      rw [V.int.injEq] at hc
      refine ⟨_, rfl, _, _, rfl, rfl, ?_⟩
      rw [if_pos (show Kg09.byte p 9 = 17 by omega)] at k
      exact q_int k (by omega)
    have hc : ¬ Kg09.byte p 9 = 17 := fun q => hc (decide_eq_true (by rw [q]; rfl))
    rw [if_neg hc] at k
    refine ⟨_, rfl, a, _, _, _, rfl, rfl, SqL.of hp, bv_at (j := 9) rfl (by omega), rfl, _, rfl, ite2 (fun hd => ?_) (fun hd => ?_)⟩
    · have hd : V.int (Kg09.byte p 9 : Int) = V.int 6 := of_decide_eq_true hd
      rw [V.int.injEq] at hd
      refine ⟨_, rfl, _, _, rfl, rfl, ?_⟩
      rw [if_pos (show Kg09.byte p 9 = 6 by omega)] at k
      exact q_int k (by omega)
    have hd : ¬ Kg09.byte p 9 = 6 := fun q => hd (decide_eq_true (by rw [q]; rfl))
    rw [if_neg hd] at k
    refine ⟨_, rfl, _, _, rfl, rfl, ?_⟩
    exact q_int k (by omega)

theorem ok_covw (T : Txt K mg d) : FnOk P w K mg base CX0 2 d.f_covw d.g_covw ["packet", "address_place", "port_place"] spCovw := by
  have G_word := ok_word (P := P) (w := w) (base := base) T
  refine T.covw.fn.ok sc_covw (fun vs H Q E h => ?_) (fun cdv A outer s H vs Q E hr h => ?_)
  · obtain ⟨a, z, y, p, i, j, rfl, _⟩ := h
    rfl
  · obtain ⟨a, z, y, p, i, j, rfl, ez, ey, hp, hi, hj, hl, k⟩ := h
    refine ⟨_, (pss_cons (ps_set (i := 3) sc_covw.nd rfl (Or.inl rfl) (pe_call G_word (hr.mono (by decide)) rfl T.word.at_ T.word.fn.kp (b_word T) .nil pass0 (pa_cons (pv 0) (pa_cons (pv 2) pa_nil)))) (pss_cons (ps_if (pt_cmpR op_eq (pe_ix ix_list (pv 0) (pgi T.c_PROTOCOL_PLACE) (fun _ _ => rfl)) (pgi T.c_ECHO) (nomark _)) (pss_one (ps_ret (pe_lst (pa_cons (pv 3) pa_nil)))) pss_nil) (pss_one (ps_ret (pe_lst (pa_cons (pe_call G_word (hr.mono (by decide)) rfl T.word.at_ T.word.fn.kp (b_word T) .nil pass0 (pa_cons (pv 0) (pa_cons (pv 1) pa_nil))) (pa_cons (pe_call G_word (hr.mono (by decide)) rfl T.word.at_ T.word.fn.kp (b_word T) .nil pass0 (pa_cons (pv 0) (pa_cons (pe_op op_add (pv 1) pe_int) pa_nil))) (pa_cons (pv 3) pa_nil)))))))), ?_⟩
    refine ⟨_, rfl, _, rfl, a, _, p, j, rfl, ey, hp, hj, ?_⟩
    refine ⟨_, rfl, a, _, _, _, rfl, rfl, SqL.of hp, bv_at (j := 9) rfl (by omega), rfl, _, rfl, ite2 (fun hc => ?_) (fun hc => ?_)⟩
    · have hc : V.int (Kg09.byte p 9 : Int) = V.int 1 := of_decide_eq_true hc
      rw [V.int.injEq] at hc
      refine ⟨_, rfl, (by show 1 ≤ sizeLine; decide), fun l hn => ?_⟩
      have k := k l hn
      unfold cov at k
      rw [if_pos (show Kg09.byte p 9 = 1 by omega)] at k
      exact k
    · have hc : ¬ Kg09.byte p 9 = 1 := fun q => hc (decide_eq_true (by rw [q]; rfl))
      refine ⟨_, rfl, _, rfl, a, _, p, i, rfl, ez, hp, by omega, _, rfl, _, rfl, _, _, rfl, rfl, a, _, p, i + 2, rfl, by omega, hp, by omega, _, rfl, (by show 3 ≤ sizeLine; decide), fun l hn => ?_⟩
      have k := k l hn
      unfold cov at k
      rw [if_neg hc] at k
      exact k

theorem ok_seth (T : Txt K mg d) : FnOk P w K mg base CX0 3 d.f_seth d.g_seth ["packet"] spSeth := by
  have G_setw := ok_setw (P := P) (w := w) (base := base) T
  have G_hsum := ok_hsum (P := P) (w := w) (base := base) T
  refine T.seth.fn.ok sc_seth (fun vs H Q E h => ?_) (fun cdv A outer s H vs Q E hr h => ?_)
  · obtain ⟨a, p, rfl, _⟩ := h
    rfl
  · obtain ⟨a, p, rfl, hp, hl, hh, k⟩ := h
    refine ⟨_, (pss_cons (ps_expr (pe_call G_setw (hr.mono (by decide)) rfl T.setw.at_ T.setw.fn.kp (b_setw T) .nil pass0 (pa_cons (pv 0) (pa_cons (pgi T.c_HEAD_CHECKSUM_PLACE) (pa_cons pe_int pa_nil))))) (pss_one (ps_expr (pe_call G_setw (hr.mono (by decide)) rfl T.setw.at_ T.setw.fn.kp (b_setw T) .nil pass0 (pa_cons (pv 0) (pa_cons (pgi T.c_HEAD_CHECKSUM_PLACE) (pa_cons (pe_op op_sub pe_int (pe_call G_hsum (hr.mono (by decide)) rfl T.hsum.at_ T.hsum.fn.kp (b_hsum T) .nil pass0 (pa_cons (pv 0) pa_nil))) pa_nil))))))), ?_⟩
    refine ⟨_, rfl, a, _, _, p, 10, 0, rfl, rfl, rfl, hp, by omega, by omega, ?_⟩
    have e0 : Kg09.head (Kg09.setWord p 10 0) = Kg09.head p := head_of (byte_setWord_ne _ _ (by omega) (by omega))
    have hs := summed_le (Kg09.wordsOf (Kg09.setWord p 10 0) (Kg09.head (Kg09.setWord p 10 0)))
    refine ⟨_, rfl, _, rfl, a, Kg09.setWord p 10 0, rfl, upd_same, by rw [len_setWord]; omega, by rw [len_setWord, e0]; exact hh, _, _, rfl, rfl, ?_⟩
    refine ⟨a, _, _, Kg09.setWord p 10 0, 10, 65535 - Kg09.summed (Kg09.wordsOf (Kg09.setWord p 10 0) (Kg09.head (Kg09.setWord p 10 0))), rfl, rfl, by omega, upd_same, by rw [len_setWord]; omega, by omega, ?_⟩
    show Q .non _
    rw [upd_upd]
    exact k

theorem iv_get {xs : List Nat} {i : Nat} {y : V} (h : (iv xs)[i]? = some y) : ∃ x, xs[i]? = some x ∧ y = V.int (x : Int) := by
  unfold iv at h
  rw [List.getElem?_map] at h
  cases e : xs[i]? with
  | none =>
    rw [e] at h
    cases h
  | some x =>
    rw [e] at h
    exact ⟨x, rfl, (Option.some.inj h).symm⟩
theorem iv_len (xs : List Nat) : (iv xs).length = xs.length := List.length_map ..
theorem sumB_succ {xs : List Nat} {i x : Nat} (h : xs[i]? = some x) : ((xs.take (i + 1)).map (fun x => 65535 - x)).sum = ((xs.take i).map (fun x => 65535 - x)).sum + (65535 - x) := by
  rw [List.take_add_one, h, List.map_append, List.sum_append]
  simp
theorem sumA_succ {xs : List Nat} {i x : Nat} (h : xs[i]? = some x) : (xs.take (i + 1)).sum = (xs.take i).sum + x := by
  rw [List.take_add_one, h, List.sum_append]
  simp

theorem ok_movd (T : Txt K mg d) : FnOk P w K mg base CX0 2 d.f_movd d.g_movd ["checksum", "before", "after"] spMovd := by
  have G_sumd := ok_sumd (P := P) (w := w) (base := base) T
  refine T.movd.fn.ok sc_movd (fun vs H Q E h => ?_) (fun cdv A outer s H vs Q E hr h => ?_)
  · obtain ⟨z, a, b, c, xs, ys, rfl, _⟩ := h
    rfl
  · obtain ⟨z, a, b, c, xs, ys, rfl, ez, ha, hb, hc, hx, k⟩ := h
    refine ⟨_, (pss_cons (ps_set (i := 3) sc_movd.nd rfl (Or.inl rfl) (pe_op op_sub pe_int (pv 0))) (pss_cons (ps_for PassesOwn.never rfl (pi_list (pv 1)) (pg_name (i := 4) sc_movd.nd rfl (Or.inl rfl)) (pss_one (ps_set (i := 3) sc_movd.nd rfl (Or.inl rfl) (pe_op op_sub (pe_op op_add (pv 3) pe_int) (pv 4))))) (pss_cons (ps_for PassesOwn.never rfl (pi_list (pv 2)) (pg_name (i := 4) sc_movd.nd rfl (Or.inl rfl)) (pss_one (ps_set (i := 3) sc_movd.nd rfl (Or.inl rfl) (pe_op op_add (pv 3) (pv 4))))) (pss_one (ps_ret (pe_op op_sub pe_int (pe_call G_sumd (hr.mono (by decide)) rfl T.sumd.at_ T.sumd.fn.kp (b_sumd T) .nil pass0 (pa_cons (pv 3) pa_nil)))))))), ?_⟩
    refine ⟨_, rfl, _, _, rfl, rfl, ?_⟩
    refine ⟨_, rfl, a, rfl, ⟨_, SqL.of ha⟩, for_list (K := K) (a := a) (xs := iv xs) (fun i σ H' => H' = H ∧ ∃ (t : Int) (u : Option V), σ = [some (.int z), some (.ref a), some (.ref b), some (.int t), u] ∧ t = ((65535 - c + ((xs.take i).map (fun x => 65535 - x)).sum : Nat) : Int)) ⟨rfl, _, none, rfl, by rw [List.take_zero]; show (65535 : Int) - z = ((65535 - c + 0 : Nat) : Int); omega⟩ (fun i σ H' _ q => by rw [q.1]; exact SqL.of ha) ?_ ?_⟩
    · rintro i y σ H' hi ⟨rfl, t, u, rfl, et⟩
      obtain ⟨x, hx1, rfl⟩ := iv_get hi
      have hx2 := hx x (List.mem_of_getElem? hx1)
      refine ⟨_, rfl, _, _, rfl, rfl, _, rfl, _, _, rfl, rfl, rfl, _, _, rfl, ?_⟩
      rw [sumB_succ hx1]
      omega
    rintro σ H' ⟨rfl, t, u, rfl, et⟩
    rw [iv_len, List.take_length] at et
    refine ⟨_, rfl, b, rfl, ⟨_, SqL.of hb⟩, for_list (K := K) (a := b) (xs := iv ys) (fun i σ H2 => H2 = H' ∧ ∃ (t : Int) (u : Option V), σ = [some (.int z), some (.ref a), some (.ref b), some (.int t), u] ∧ t = ((65535 - c + (xs.map (fun x => 65535 - x)).sum + (ys.take i).sum : Nat) : Int)) ⟨rfl, _, u, rfl, by rw [List.take_zero]; show _ = ((_ + 0 : Nat) : Int); exact et⟩ (fun i σ H2 _ q => by rw [q.1]; exact SqL.of hb) ?_ ?_⟩
    · rintro i y σ H2 hi ⟨rfl, t2, u2, rfl, et2⟩
      obtain ⟨x, hx1, rfl⟩ := iv_get hi
      refine ⟨_, rfl, _, rfl, _, _, rfl, rfl, rfl, _, _, rfl, ?_⟩
      rw [sumA_succ hx1]
      omega
    rintro σ H2 ⟨rfl, t2, u2, rfl, et2⟩
    rw [iv_len, List.take_length] at et2
    refine ⟨_, rfl, _, 65535 - c + (xs.map (fun x => 65535 - x)).sum + ys.sum, rfl, et2, _, _, rfl, rfl, ?_⟩
    have hs := summed_le (65535 - c + (xs.map (fun x => 65535 - x)).sum + ys.sum)
    exact q_int k (by unfold moved; omega)

theorem Keep.self {H : Hp} (a : Addr) (o : HO) : Keep a H (upd H a o) := fun b u e n => by rw [upd_ne n]; exact e
theorem moved_lt (c : Nat) (xs ys : List Nat) : moved c xs ys < 65536 := by
  unfold moved
  omega

theorem ok_brin (T : Txt K mg d) : FnOk P w K mg base CX0 3 d.f_brin d.g_brin ["packet", "before", "after"] spBrin := by
  have G_cpla := ok_cpla (P := P) (w := w) (base := base) T
  have G_word := ok_word (P := P) (w := w) (base := base) T
  have G_movd := ok_movd (P := P) (w := w) (base := base) T
  have G_setw := ok_setw (P := P) (w := w) (base := base) T
  refine T.brin.fn.ok sc_brin (fun vs H Q E h => ?_) (fun cdv A outer s H vs Q E hr h => ?_)
  · obtain ⟨a, b1, b2, p, xs, ys, rfl, _⟩ := h
    rfl
  · obtain ⟨a, b1, b2, p, xs, ys, rfl, hp, h1, h2, hl, hs, hx, k⟩ := h
    refine ⟨_, (pss_cons (ps_set (i := 3) sc_brin.nd rfl (Or.inl rfl) (pe_call G_cpla (hr.mono (by decide)) rfl T.cpla.at_ T.cpla.fn.kp (b_cpla T) .nil pass0 (pa_cons (pv 0) pa_nil))) (pss_cons (ps_set (i := 4) sc_brin.nd rfl (Or.inl rfl) (pe_call G_word (hr.mono (by decide)) rfl T.word.at_ T.word.fn.kp (b_word T) .nil pass0 (pa_cons (pv 0) (pa_cons (pv 3) pa_nil)))) (pss_cons (ps_set (i := 5) sc_brin.nd rfl (Or.inl rfl) (pe_cmpR op_eq (pe_ix ix_list (pv 0) (pgi T.c_PROTOCOL_PLACE) (fun _ _ => rfl)) (pgi T.c_UDP) (nomark _))) (pss_cons (ps_if (PW.pt (pw_and (pt_val (pv 5)) (pw_and1 (pt_cmpR op_eq (pv 4) pe_int (nomark _))))) (pss_one ps_retN) pss_nil) (pss_cons (ps_set (i := 4) sc_brin.nd rfl (Or.inl rfl) (pe_call G_movd (hr.mono (by decide)) rfl T.movd.at_ T.movd.fn.kp (b_movd T) .nil pass0 (pa_cons (pv 4) (pa_cons (pv 1) (pa_cons (pv 2) pa_nil))))) (pss_cons (ps_if (PW.pt (pw_and (pt_val (pv 5)) (pw_and1 (pt_cmpR op_eq (pv 4) pe_int (nomark _))))) (pss_one (ps_set (i := 4) sc_brin.nd rfl (Or.inl rfl) pe_int)) pss_nil) (pss_one (ps_expr (pe_call G_setw (hr.mono (by decide)) rfl T.setw.at_ T.setw.fn.kp (b_setw T) .nil pass0 (pa_cons (pv 0) (pa_cons (pv 3) (pa_cons (pv 4) pa_nil)))))))))))), ?_⟩
    have hwl := word_lt p (sumPlace p)
    have hml := moved_lt (Kg09.word p (sumPlace p)) xs ys
    have hne1 : b1 = b1 := rfl
    refine ⟨_, rfl, a, p, rfl, hp, hl, ?_⟩
    refine ⟨_, rfl, _, rfl, a, _, p, sumPlace p, rfl, rfl, hp, hs, ?_⟩
    refine ⟨_, rfl, a, _, _, _, rfl, rfl, SqL.of hp, bv_at (j := 9) rfl hl, rfl, ?_⟩
    have bq : ∀ {n : Nat}, (V.int (n : Int) = V.int 0) ↔ n = 0 := by
      intro n
      rw [V.int.injEq]
      omega
    have fin : ∀ x : Nat, x < 65536 → brought p xs ys = Kg09.setWord p (sumPlace p) x → Q .non (upd H a (.lst (bv (Kg09.setWord p (sumPlace p) x)))) := fun x _ e => by
      rw [← e]
      exact k _ upd_same (Keep.self a _)
    by_cases u : Kg09.byte p 9 = 17
    · have du : decide (V.int (Kg09.byte p 9 : Int) = V.int 17) = true := decide_eq_true (by rw [u]; rfl)
      refine ⟨_, rfl, _, rfl, ?_⟩
      rw [du]
      refine iteT ⟨_, rfl, rfl, _, rfl, ite2 (fun hc => ?_) (fun hc => ?_)⟩
      · have hc := bq.mp (of_decide_eq_true hc)
        refine k H ?_ fun b o e _ => e
        unfold brought
        rw [if_pos ⟨u, hc⟩]
        exact hp
      · have hc : ¬ Kg09.word p (sumPlace p) = 0 := fun q => hc (decide_eq_true (bq.mpr q))
        refine ⟨_, rfl, _, rfl, _, rfl, _, b1, b2, _, xs, ys, rfl, rfl, h1, h2, by omega, hx, ?_⟩
        refine ⟨_, rfl, _, rfl, ?_⟩
        refine iteT ⟨_, rfl, rfl, _, rfl, ite2 (fun hd => ?_) (fun hd => ?_)⟩
        · have hd := bq.mp (of_decide_eq_true hd)
          refine ⟨_, rfl, _, rfl, _, rfl, a, _, _, p, sumPlace p, 65535, rfl, rfl, rfl, hp, hs, by omega, ?_⟩
          refine fin 65535 (by omega) ?_
          unfold brought
          rw [if_neg (fun z => hc z.2), if_pos ⟨u, hd⟩]
        · have hd : ¬ moved (Kg09.word p (sumPlace p)) xs ys = 0 := fun q => hd (decide_eq_true (bq.mpr q))
          refine ⟨_, rfl, _, rfl, _, rfl, a, _, _, p, sumPlace p, moved (Kg09.word p (sumPlace p)) xs ys, rfl, rfl, rfl, hp, hs, hml, ?_⟩
          refine fin _ hml ?_
          unfold brought
          rw [if_neg (fun z => hc z.2), if_neg (fun z => hd z.2)]
    · have du : decide (V.int (Kg09.byte p 9 : Int) = V.int 17) = false := decide_eq_false (by rw [V.int.injEq]; omega)
      refine ⟨_, rfl, _, rfl, ?_⟩
      rw [du]
      refine iteF (iteF ?_)
      refine ⟨_, rfl, _, rfl, _, rfl, _, b1, b2, _, xs, ys, rfl, rfl, h1, h2, by omega, hx, ?_⟩
      refine ⟨_, rfl, _, rfl, ?_⟩
      refine iteF (iteF ?_)
      refine ⟨_, rfl, _, rfl, _, rfl, a, _, _, p, sumPlace p, moved (Kg09.word p (sumPlace p)) xs ys, rfl, rfl, rfl, hp, hs, hml, ?_⟩
      refine fin _ hml ?_
      unfold brought
      rw [if_neg (fun z => u z.1), if_neg (fun z => u z.1)]

theorem cov_le {p : Kg09.Bytes} {i j : Nat} : ∀ x ∈ cov p i j, x ≤ 65535 := by
  intro x hx
  have h1 := word_lt p j
  have h2 := word_lt p i
  have h3 := word_lt p (i + 2)
  unfold cov at hx
  by_cases c : Kg09.byte p 9 = 1
  · rw [if_pos c] at hx
    simp at hx
    omega
  · rw [if_neg c] at hx
    simp at hx
    omega
theorem head_headSet {p : Kg09.Bytes} : Kg09.byte (headSet p) 0 = Kg09.byte p 0 ∧ Kg09.byte (headSet p) 9 = Kg09.byte p 9 ∧ (headSet p).length = p.length := by
  unfold headSet
  refine ⟨?_, ?_, by rw [len_setWord, len_setWord]⟩
  · rw [byte_setWord_ne _ _ (by omega) (by omega), byte_setWord_ne _ _ (by omega) (by omega)]
  · rw [byte_setWord_ne _ _ (by omega) (by omega), byte_setWord_ne _ _ (by omega) (by omega)]
theorem sumPlace_of {p : Kg09.Bytes} {k : Kg09.Kind} (h : Kg09.byte p 9 = protoN k) : sumPlace p = Kg09.head p + Kg09.sumAt k := by
  unfold sumPlace
  rw [h]
  cases k <;> rfl

theorem ok_rewr (T : Txt K mg d) : FnOk P w K mg base CX0 4 d.f_rewr d.g_rewr ["packet", "address_place", "port_place", "address", "port"] spRewr := by
  have G_covw := ok_covw (P := P) (w := w) (base := base) T
  have G_seta := ok_seta (P := P) (w := w) (base := base) T
  have G_setw := ok_setw (P := P) (w := w) (base := base) T
  have G_seth := ok_seth (P := P) (w := w) (base := base) T
  have G_brin := ok_brin (P := P) (w := w) (base := base) T
  refine T.rewr.fn.ok sc_rewr (fun vs H Q E h => ?_) (fun cdv A outer s H vs Q E hr h => ?_)
  · obtain ⟨a, z1, z2, z3, z4, p, k, out, address, port, rfl, _⟩ := h
    rfl
  · obtain ⟨a, z1, z2, z3, z4, p, k, out, address, port, rfl, e1, e2, e3, e4, hp, S, h8, had, hpo, kk⟩ := h
    refine ⟨_, (pss_cons (ps_set (i := 5) sc_rewr.nd rfl (Or.inl rfl) (pe_call G_covw (hr.mono (by decide)) rfl T.covw.at_ T.covw.fn.kp (b_covw T) .nil pass0 (pa_cons (pv 0) (pa_cons (pv 1) (pa_cons (pv 2) pa_nil))))) (pss_cons (ps_expr (pe_call G_seta (hr.mono (by decide)) rfl T.seta.at_ T.seta.fn.kp (b_seta T) .nil pass0 (pa_cons (pv 0) (pa_cons (pv 1) (pa_cons (pv 3) pa_nil))))) (pss_cons (ps_expr (pe_call G_setw (hr.mono (by decide)) rfl T.setw.at_ T.setw.fn.kp (b_setw T) .nil pass0 (pa_cons (pv 0) (pa_cons (pv 2) (pa_cons (pv 4) pa_nil))))) (pss_cons (ps_set (i := 6) sc_rewr.nd rfl (Or.inl rfl) (pe_call G_covw (hr.mono (by decide)) rfl T.covw.at_ T.covw.fn.kp (b_covw T) .nil pass0 (pa_cons (pv 0) (pa_cons (pv 1) (pa_cons (pv 2) pa_nil))))) (pss_cons (ps_asg (pe_op op_sub (pe_ix ix_list (pv 0) (pgi T.c_STEPS_PLACE) (fun _ _ => rfl)) pe_int) (pg_sub (pv 0) (pgi T.c_STEPS_PLACE) set_list)) (pss_cons (ps_expr (pe_call G_seth (hr.mono (by decide)) rfl T.seth.at_ T.seth.fn.kp (b_seth T) .nil pass0 (pa_cons (pv 0) pa_nil))) (pss_one (ps_expr (pe_call G_brin (hr.mono (by decide)) rfl T.brin.at_ T.brin.fn.kp (b_brin T) .nil pass0 (pa_cons (pv 0) (pa_cons (pv 5) (pa_cons (pv 6) pa_nil)))))))))))), ?_⟩
    have ha := addressAt_cases out
    have hpl := portAt_le k out
    have hS := S
    obtain ⟨hd, hl, hq, pr⟩ := S
    have hsl : 2 ≤ Kg09.sumAt k := by cases k <;> decide
    have b8 := byte_lt p 8
    have fin := rew_eq (address := address) (port := port) hS had hpo
    unfold rewM at fin
    generalize ep : Kg09.addressAt out = ap at *
    generalize eq : Kg09.head p + Kg09.portAt k out = q at *
    have hX0 : ∀ j, j < 12 → Kg09.byte (moved2 p ap q address port) j = Kg09.byte p j := fun j hj => byte_moved2 (by omega) (by omega)
    have lX := len_moved2 p ap q address port
    have eX : Kg09.setWord (Kg09.setLong p ap address) q port = moved2 p ap q address port := rfl
    have hcv := cov_le (p := p) (i := ap) (j := q)
    refine ⟨_, rfl, _, rfl, _, rfl, a, _, _, p, ap, q, rfl, e1, e2, hp, by omega, by omega, by omega, fun b1 hb1 => ?_⟩
    have n1 : a ≠ b1 := ne_of_none hp hb1
    refine ⟨_, rfl, _, rfl, _, rfl, a, _, _, p, ap, address, rfl, e1, e3, by rw [upd_ne n1]; exact hp, by omega, had, ?_⟩
    refine ⟨_, rfl, _, rfl, _, rfl, a, _, _, Kg09.setLong p ap address, q, port, rfl, e2, e4, upd_same, by rw [len_setLong]; omega, hpo, ?_⟩
    rw [upd_upd, eX]
    generalize moved2 p ap q address port = X at *
    have hH3 : ∀ b o, H b = some o → b ≠ a → (upd (upd H b1 (.lst (iv (cov p ap q)))) a (.lst (bv X))) b = some o := fun b o e n => by
      rw [upd_ne n, upd_ne (ne_of_none e hb1)]
      exact e
    refine ⟨_, rfl, _, rfl, _, rfl, a, _, _, X, ap, q, rfl, e1, e2, upd_same, by omega, by omega, by omega, fun b2 hb2 => ?_⟩
    have n2 : a ≠ b2 := ne_of_none upd_same hb2
    have n12 : b1 ≠ b2 := fun z => by
      rw [← z, upd_ne (fun z => n1 z.symm), upd_same] at hb2
      cases hb2
    have hp4 : (upd (upd (upd H b1 (.lst (iv (cov p ap q)))) a (.lst (bv X))) b2 (.lst (iv (cov X ap q)))) a = some (.lst (bv X)) := by
      rw [upd_ne n2]
      exact upd_same
    have e8 := hX0 8 (by omega)
    refine ⟨_, rfl, a, _, _, _, rfl, rfl, SqL.of hp4, bv_at (j := 8) rfl (by omega), _, _, rfl, rfl, _, rfl, a, _, _, 8, rfl, rfl, hp4, bv_ix rfl (by omega), ?_⟩
    rw [bv_set (x := Kg09.byte X 8 - 1) (by omega) (by omega)]
    have est : Kg09.setByte X 8 (Kg09.byte X 8 - 1) = stepped X := rfl
    rw [est]
    have lS : (stepped X).length = X.length := len_setByte ..
    have bS : ∀ j, j ≠ 8 → Kg09.byte (stepped X) j = Kg09.byte X j := fun j hj => byte_setByte_ne _ _ (fun z => hj z.symm)
    have hdS : Kg09.head (stepped X) = Kg09.head p := head_of ((bS 0 (by omega)).trans (hX0 0 (by omega)))
    generalize stepped X = Y at *
    refine ⟨_, rfl, a, Y, rfl, upd_same, by omega, by omega, ?_⟩
    rw [upd_upd]
    obtain ⟨g0, g9, gl⟩ := head_headSet (p := Y)
    have hdZ : Kg09.head (headSet Y) = Kg09.head p := (head_of g0).trans hdS
    have hsZ : sumPlace (headSet Y) = Kg09.head p + Kg09.sumAt k := by
      rw [sumPlace_of (k := k) (by rw [g9, bS 9 (by omega), hX0 9 (by omega)]; exact pr), hdZ]
    generalize headSet Y = Z at *
    refine ⟨_, rfl, _, rfl, _, rfl, a, b1, b2, Z, cov p ap q, cov X ap q, rfl, upd_same, ?_, ?_, by omega, by omega, hcv, fun H' hH' hk => ?_⟩
    · rw [upd_ne (fun z => n1 z.symm), upd_ne n12, upd_ne (fun z => n1 z.symm)]
      exact upd_same
    · rw [upd_ne (fun z => n2 z.symm)]
      exact upd_same
    · rw [fin] at hH'
      refine kk H' hH' fun b o e n => hk b o ?_ n
      have e3 := hH3 b o e n
      rw [upd_ne n, upd_ne (ne_of_none e3 hb2)]
      exact e3

theorem kind_none {p : Kg09.Bytes} {out : Bool} (h : Kg09.word p 6 % 16384 ≠ 0 ∨ kin p out = none) : Kg09.kind p out = none := by
  rw [kind_kin]
  rcases h with h | h
  · rw [if_pos h]
  · by_cases c : Kg09.word p 6 % 16384 ≠ 0
    · rw [if_pos c]
    · rw [if_neg c, h]

theorem ok_refu (T : Txt K mg d) : FnOk P w K mg base CX0 4 d.f_refu d.g_refu ["packet", "echo_kind"] spRefu := by
  have G_whol := ok_whol (P := P) (w := w) (base := base) T
  have G_piec := ok_piec (P := P) (w := w) (base := base) T
  have G_carr := ok_carr (P := P) (w := w) (base := base) T
  refine T.refu.fn.ok sc_refu (fun vs H Q E h => ?_) (fun cdv A outer s H vs Q E hr h => ?_)
  · obtain ⟨a, z, p, out, rfl, _⟩ := h
    rfl
  · obtain ⟨a, z, p, out, rfl, ez, hp, hm, k⟩ := h
    refine ⟨_, (pss_cons (ps_if (pt_not (pt_val (pe_call G_whol (hr.mono (by decide)) rfl T.whol.at_ T.whol.fn.kp (b_whol T) .nil pass0 (pa_cons (pv 0) pa_nil)))) (pss_one (ps_ret (pgi T.c_NOT_WHOLE))) pss_nil) (pss_cons (ps_if (PW.pt (pw_or (pt_val (pe_call G_piec (hr.mono (by decide)) rfl T.piec.at_ T.piec.fn.kp (b_piec T) .nil pass0 (pa_cons (pv 0) pa_nil))) (pw_or1 (pt_not (pt_val (pe_call G_carr (hr.mono (by decide)) rfl T.carr.at_ T.carr.fn.kp (b_carr T) .nil pass0 (pa_cons (pv 0) (pa_cons (pv 1) pa_nil)))))))) (pss_one (ps_ret (pgi T.c_NOT_CARRIED))) pss_nil) (pss_cons (ps_if (pt_cmpR op_le (pe_ix ix_list (pv 0) (pgi T.c_STEPS_PLACE) (fun _ _ => rfl)) pe_int (nomark _)) (pss_one (ps_ret (pgi T.c_NO_STEP_LEFT))) pss_nil) (pss_one (ps_ret pe_int))))), ?_⟩
    unfold refused at k
    refine ⟨_, rfl, a, p, rfl, hp, hm, _, rfl, ite2 (fun hc => ?_) (fun hc => ?_)⟩
    · have hc : Kg09.whole p = false := by simpa using hc
      rw [if_pos hc] at k
      exact k
    have hc : Kg09.whole p = true := by simpa using hc
    rw [if_neg (by rw [hc]; decide)] at k
    obtain ⟨w1, w2, w3, w4, w5, w6⟩ := whole_iff.mp hc
    refine ⟨_, rfl, a, p, rfl, hp, by omega, _, rfl, ite2 (fun hd => iteT ?_) (fun hd => ?_)⟩
    · have hd := of_decide_eq_true hd
      rw [if_pos (kind_none (.inl hd))] at k
      exact k
    have hd : ¬ Kg09.word p 6 % 16384 ≠ 0 := fun q => hd (decide_eq_true q)
    refine ⟨_, rfl, _, rfl, a, _, p, out, rfl, ez, hp, hc, _, rfl, ?_⟩
    cases e : kin p out with
    | none =>
      rw [if_pos (kind_none (.inr e))] at k
      exact iteT k
    | some kk =>
      refine iteF ?_
      have ek : Kg09.kind p out = some kk := by
        rw [kind_kin, if_neg hd, e]
      rw [if_neg (by rw [ek]; exact fun z => nomatch z)] at k
      refine ⟨_, rfl, a, _, _, _, rfl, rfl, SqL.of hp, bv_at (j := 8) rfl (by omega), _, _, rfl, rfl, _, rfl, ite2 (fun he => ?_) (fun he => ?_)⟩
      · have he : ((Kg09.byte p 8 : Nat) : Int) ≤ 1 := of_decide_eq_true he
        rw [if_pos (by omega)] at k
        exact k
      · have he : ¬ ((Kg09.byte p 8 : Nat) : Int) ≤ 1 := fun q => he (decide_eq_true q)
        rw [if_neg (by omega)] at k
        exact k

end
end Na
namespace Na
open PySem PySem.Spec PyProof.Rows L2
/-! ### objects: their attributes -/
theorem putF_twice (f : Str) (v u : V) : ∀ fs : List (Str × V), putF f v (putF f u fs) = putF f v fs
  | [] => by
    show (if f = f then [(f, v)] else _) = _
    rw [if_pos rfl]
    rfl
  | (g, x) :: r => by
    by_cases e : g = f
    · have e1 : putF f u ((g, x) :: r) = (g, u) :: r := if_pos e
      have e2 : putF f v ((g, x) :: r) = (g, v) :: r := if_pos e
      rw [e1, e2]
      exact if_pos e
    · have e1 : putF f u ((g, x) :: r) = (g, x) :: putF f u r := if_neg e
      have e2 : putF f v ((g, x) :: r) = (g, x) :: putF f v r := if_neg e
      rw [e1, e2, ← putF_twice f v u r]
      exact if_neg e
def bfs (b : Kg09.Binding) : List (Str × V) := putF "used" (.int (b.last : Int)) (putF "outside_port" (.int (b.outside : Int)) (putF "port" (.int (b.port : Int)) (putF "address" (.int (b.address : Int)) (putF "protocol" (.int (protoN b.kind : Int)) []))))
theorem bf_used (b : Kg09.Binding) : (bfs b).lookup ("used" : Str) = some (.int (b.last : Int)) := by
  unfold bfs
  rw [lookup_putF, if_pos rfl]
theorem bf_outside (b : Kg09.Binding) : (bfs b).lookup ("outside_port" : Str) = some (.int (b.outside : Int)) := by
  unfold bfs
  rw [lookup_putF, if_neg (by decide +kernel), lookup_putF, if_pos rfl]
theorem bf_port (b : Kg09.Binding) : (bfs b).lookup ("port" : Str) = some (.int (b.port : Int)) := by
  unfold bfs
  rw [lookup_putF, if_neg (by decide +kernel), lookup_putF, if_neg (by decide +kernel), lookup_putF, if_pos rfl]
theorem bf_address (b : Kg09.Binding) : (bfs b).lookup ("address" : Str) = some (.int (b.address : Int)) := by
  unfold bfs
  rw [lookup_putF, if_neg (by decide +kernel), lookup_putF, if_neg (by decide +kernel), lookup_putF, if_neg (by decide +kernel), lookup_putF, if_pos rfl]
theorem bf_protocol (b : Kg09.Binding) : (bfs b).lookup ("protocol" : Str) = some (.int (protoN b.kind : Int)) := by
  unfold bfs
  rw [lookup_putF, if_neg (by decide +kernel), lookup_putF, if_neg (by decide +kernel), lookup_putF, if_neg (by decide +kernel), lookup_putF, if_neg (by decide +kernel), lookup_putF, if_pos rfl]
theorem bf_dead (b : Kg09.Binding) : (bfs b).lookup ("is_dead" : Str) = none := by
  unfold bfs
  rw [lookup_putF, if_neg (by decide +kernel), lookup_putF, if_neg (by decide +kernel), lookup_putF, if_neg (by decide +kernel), lookup_putF, if_neg (by decide +kernel), lookup_putF, if_neg (by decide +kernel)]
  rfl
theorem putF_le (f : Str) (v : V) {fs : List (Str × V)} {n : Nat} (h : fs.length ≤ n) : (putF f v fs).length ≤ n + 1 := Nat.le_trans (length_putF f v fs) (Nat.succ_le_succ h)
theorem bf_len (b : Kg09.Binding) : (bfs b).length ≤ 5 := putF_le _ _ (putF_le _ _ (putF_le _ _ (putF_le _ _ (putF_le _ _ (Nat.le_refl 0)))))
theorem bf_put (b : Kg09.Binding) (now : Nat) {z : Int} (e : z = (now : Int)) : putF "used" (.int z) (bfs b) = bfs { b with last := now } := by
  unfold bfs
  rw [putF_twice, e]
def hfs (o : Nat) (l : Addr) : List (Str × V) := putF "bindings" (.ref l) (putF "outside" (.int (o : Int)) [])
theorem hf_bindings (o : Nat) (l : Addr) : (hfs o l).lookup ("bindings" : Str) = some (.ref l) := by
  unfold hfs
  rw [lookup_putF, if_pos rfl]
theorem hf_outside (o : Nat) (l : Addr) : (hfs o l).lookup ("outside" : Str) = some (.int (o : Int)) := by
  unfold hfs
  rw [lookup_putF, if_neg (by decide +kernel), lookup_putF, if_pos rfl]
theorem hf_no (o : Nat) (l : Addr) {m : Str} (h1 : ¬ m = "bindings") (h2 : ¬ m = "outside") : (hfs o l).lookup m = none := by
  unfold hfs
  rw [lookup_putF, if_neg h1, lookup_putF, if_neg h2]
  rfl
theorem hf_len (o : Nat) (l : Addr) : (hfs o l).length ≤ 2 := putF_le _ _ (putF_le _ _ (Nat.le_refl 0))
theorem hf_putB (o : Nat) (l l' : Addr) : putF "bindings" (.ref l') (hfs o l) = hfs o l' := by
  unfold hfs
  rw [putF_twice]
theorem hf_putO (o o' : Nat) (l : Addr) {z : Int} (e : z = (o' : Int)) : putF "outside" (.int z) (hfs o l) = hfs o' l := by
  have ne : ¬ (("outside" : Str) = "bindings") := by decide +kernel
  have e1 : ∀ y : V, putF "outside" y [] = [(("outside" : Str), y)] := fun _ => rfl
  have e2 : ∀ y x : V, putF "bindings" x [(("outside" : Str), y)] = (("outside" : Str), y) :: putF "bindings" x [] := fun _ _ => if_neg ne
  unfold hfs
  rw [e1, e1, e2, e2, e]
  exact if_pos rfl
/-! ### the house in the heap -/
def BindAt (CB : Addr) (H : Hp) (a : Addr) (b : Kg09.Binding) : Prop := ∃ dx, H a = some (.ins CB dx (bfs b))
abbrev PB := List (Addr × Kg09.Binding)
def pbs (ps : PB) : List Kg09.Binding := ps.map (·.2)
def refs (ps : PB) : List V := ps.map fun q => V.ref q.1
structure HsAt (d : Ad) (H : Hp) (h l : Addr) (ps : PB) (o : Nat) : Prop where
  hs : ∃ dh, H h = some (.ins d.CH dh (hfs o l))
  lst : H l = some (.lst (refs ps))
  nd : (ps.map (·.1)).Nodup
  at_ : ∀ q ∈ ps, BindAt d.CB H q.1 q.2
  hn : ∀ q ∈ ps, q.1 ≠ h
theorem refs_get {ps : PB} {i : Nat} {x : V} (h : (refs ps)[i]? = some x) : ∃ q, ps[i]? = some q ∧ x = V.ref q.1 := by
  unfold refs at h
  rw [List.getElem?_map] at h
  cases e : ps[i]? with
  | none =>
    rw [e] at h
    cases h
  | some q =>
    rw [e] at h
    exact ⟨q, rfl, (Option.some.inj h).symm⟩
theorem HsAt.keep {d : Ad} {H H' : Hp} {h l : Addr} {ps : PB} {o : Nat} (A : HsAt d H h l ps o) (k : ∀ b u, H b = some u → (b = h ∨ b = l ∨ ∃ q ∈ ps, b = q.1) → H' b = some u) : HsAt d H' h l ps o := by
  obtain ⟨dh, e⟩ := A.hs
  refine ⟨⟨dh, k _ _ e (.inl rfl)⟩, k _ _ A.lst (.inr (.inl rfl)), A.nd, fun q hq => ?_, A.hn⟩
  obtain ⟨dx, e⟩ := A.at_ q hq
  exact ⟨dx, k _ _ e (.inr (.inr ⟨q, hq, rfl⟩))⟩
theorem HsAt.same {d : Ad} {H H' : Hp} {h l : Addr} {ps : PB} {o : Nat} (A : HsAt d H h l ps o) (k : Same H H') : HsAt d H' h l ps o := A.keep fun b u e _ => k b u e
theorem HsAt.lh {d : Ad} {H : Hp} {h l : Addr} {ps : PB} {o : Nat} (A : HsAt d H h l ps o) : l ≠ h := by
  obtain ⟨dh, e⟩ := A.hs
  exact ne_of A.lst e (by intro z; cases z)
theorem HsAt.lq {d : Ad} {H : Hp} {h l : Addr} {ps : PB} {o : Nat} (A : HsAt d H h l ps o) {q : Addr × Kg09.Binding} (hq : q ∈ ps) : q.1 ≠ l := by
  obtain ⟨dx, e⟩ := A.at_ q hq
  exact ne_of e A.lst (by intro z; cases z)
/-- a binding is used: its object is written -/
theorem HsAt.used {d : Ad} {H : Hp} {h l dx : Addr} {ps : PB} {o j : Nat} {q : Addr × Kg09.Binding} {b : Kg09.Binding} (A : HsAt d H h l ps o) (hj : ps[j]? = some q) : HsAt d (upd H q.1 (.ins d.CB dx (bfs b))) h l (ps.set j (q.1, b)) o := by
  have hq : q ∈ ps := List.mem_of_getElem? hj
  have hjl : j < ps.length := (List.getElem?_eq_some_iff.mp hj).1
  have ef : (ps.set j (q.1, b)).map (·.1) = ps.map (·.1) := by
    rw [List.map_set]
    apply List.ext_getElem?
    intro i
    by_cases e : j = i
    · subst e
      rw [List.getElem?_set_self (by rw [List.length_map]; exact hjl), List.getElem?_map, hj]
      rfl
    · rw [List.getElem?_set_ne e]
  have er : refs (ps.set j (q.1, b)) = refs ps := by
    have := congrArg (List.map V.ref) ef
    rw [List.map_map, List.map_map] at this
    exact this
  obtain ⟨dh, e⟩ := A.hs
  refine ⟨⟨dh, by rw [upd_ne (fun z => A.hn q hq z.symm)]; exact e⟩, ?_, by rw [ef]; exact A.nd, fun c hc => ?_, fun c hc => ?_⟩
  · rw [er, upd_ne (fun z => A.lq hq z.symm)]
    exact A.lst
  · obtain ⟨i, hi⟩ := List.getElem?_of_mem hc
    by_cases ei : j = i
    · subst ei
      rw [List.getElem?_set_self hjl] at hi
      have ec := Option.some.inj hi
      subst ec
      exact ⟨dx, upd_same⟩
    · rw [List.getElem?_set_ne ei] at hi
      obtain ⟨dc, ec⟩ := A.at_ c (List.mem_of_getElem? hi)
      have ne : c.1 ≠ q.1 := fun z => ei (nd_ix A.nd (i := j) (j := i) (x := c.1) (by rw [List.getElem?_map, hj, z]; rfl) (by rw [List.getElem?_map, hi]; rfl))
      exact ⟨dc, by rw [upd_ne ne]; exact ec⟩
  · rcases List.mem_or_eq_of_mem_set hc with z | z
    · exact A.hn c z
    · rw [z]
      exact A.hn q hq
/-! ### what the methods promise -/
def spBini (d : Ad) : Sp := fun vs H Q _ => ∃ (x dx : Addr) (z1 z2 z3 z4 z5 : Int) (b : Kg09.Binding), vs = [.ref x, .int z1, .int z2, .int z3, .int z4, .int z5] ∧ z1 = (protoN b.kind : Int) ∧ z2 = (b.address : Int) ∧ z3 = (b.port : Int) ∧ z4 = (b.outside : Int) ∧ z5 = (b.last : Int) ∧
  H x = some (.ins d.CB dx []) ∧ Q .non (upd H x (.ins d.CB dx (bfs b)))
def spDead (d : Ad) : Sp := fun vs H Q _ => ∃ (a : Addr) (z : Int) (b : Kg09.Binding) (now : Nat), vs = [.ref a, .int z] ∧ z = (now : Int) ∧ BindAt d.CB H a b ∧ now < 4294967296 ∧ b.last < 4294967296 ∧ Q (.bl (b.dead now)) H
def spHini (d : Ad) : Sp := fun vs H Q _ => ∃ (x dx : Addr), vs = [.ref x] ∧ H x = some (.ins d.CH dx []) ∧ ∀ (H' : Hp) (l : Addr), H l = none → H' x = some (.ins d.CH dx (hfs 0 l)) → H' l = some (.lst []) → Keep x H H' → Q .non H'
def spBegi (d : Ad) : Sp := fun vs H Q _ => ∃ (x : Addr) (z : Int) (dx l0 : Addr) (o0 o : Nat), vs = [.ref x, .int z] ∧ z = (o : Int) ∧ H x = some (.ins d.CH dx (hfs o0 l0)) ∧ ∀ (H' : Hp) (l : Addr), H l = none → H' x = some (.ins d.CH dx (hfs o l)) → H' l = some (.lst []) → Keep x H H' → Q (.int 0) H'
def live (now : Nat) (ps : PB) : PB := ps.filter fun q => !q.2.dead now
def spForg (d : Ad) : Sp := fun vs H Q _ => ∃ (h : Addr) (z : Int) (l : Addr) (ps : PB) (o now : Nat), vs = [.ref h, .int z] ∧ z = (now : Int) ∧ HsAt d H h l ps o ∧ now < 4294967296 ∧ ps.length ≤ 256 ∧ (∀ q ∈ ps, q.2.last < 4294967296) ∧
  ∀ (H' : Hp) (l' : Addr), H l' = none → HsAt d H' h l' (live now ps) o → Keep h H H' → Q .non H'
def spCoun (d : Ad) : Sp := fun vs H Q _ => ∃ (h : Addr) (z : Int) (l : Addr) (ps : PB) (o now : Nat), vs = [.ref h, .int z] ∧ z = (now : Int) ∧ HsAt d H h l ps o ∧ now < 4294967296 ∧ ps.length ≤ 256 ∧ (∀ q ∈ ps, q.2.last < 4294967296) ∧
  ∀ (H' : Hp), Same H H' → Q (.int ((live now ps).length : Int)) H'
def spBins (d : Ad) : Sp := fun vs H Q _ => ∃ (h : Addr) (z1 z2 z3 : Int) (l : Addr) (ps : PB) (o : Nat), vs = [.ref h, .int z1, .int z2, .int z3] ∧ HsAt d H h l ps o ∧
  (∀ q ∈ ps, (protoN q.2.kind : Int) = z1 → (q.2.address : Int) = z2 → (q.2.port : Int) = z3 → Q (.ref q.1) H) ∧ ((∀ q ∈ ps, ¬ ((protoN q.2.kind : Int) = z1 ∧ (q.2.address : Int) = z2 ∧ (q.2.port : Int) = z3)) → Q .non H)
def spBout (d : Ad) : Sp := fun vs H Q _ => ∃ (h : Addr) (z1 z2 : Int) (l : Addr) (ps : PB) (o : Nat), vs = [.ref h, .int z1, .int z2] ∧ HsAt d H h l ps o ∧
  (∀ q ∈ ps, (protoN q.2.kind : Int) = z1 → (q.2.outside : Int) = z2 → Q (.ref q.1) H) ∧ ((∀ q ∈ ps, ¬ ((protoN q.2.kind : Int) = z1 ∧ (q.2.outside : Int) = z2)) → Q .non H)
def spFree (d : Ad) : Sp := fun vs H Q _ => ∃ (h : Addr) (z1 z2 : Int) (l : Addr) (ps : PB) (o x : Nat) (k : Kg09.Kind) (s : Kg09.Abs), vs = [.ref h, .int z1, .int z2] ∧ z1 = (protoN k : Int) ∧ z2 = (x : Int) ∧ x < 65536 ∧ HsAt d H h l ps o ∧ Rel (pbs ps) s ∧
  ∀ (H' : Hp), Same H H' → s.fresh k x < 65536 → ¬ s.fresh k x ∈ taken k (pbs ps) → Q (.int (s.fresh k x : Int)) H'
section
variable {P : Program} {w : World} {K : PySem.W.Frag} {mg : Str → Option Value} {base : Heap} {d : Ad}

def scopeN : Scope := { kind := .function, names := [(".0", .local), ("binding", .local), ("now", .free)], isGenerator := false, isCoroutine := false }
def scopeP : Scope := { kind := .function, names := [(".0", .local), ("binding", .local), ("protocol", .free)], isGenerator := false, isCoroutine := false }
theorem blk_forg : BlkOk ["self", "now", "binding"] (defScope s_forg) scopeN [("binding", 2)] := blkOk_by (by decide +kernel)
theorem blk_coun : BlkOk ["self", "now", "binding"] (defScope s_coun) scopeN [("binding", 2)] := blkOk_by (by decide +kernel)
theorem blk_free : BlkOk ["self", "protocol", "wished", "taken", "port", "binding"] (defScope s_free) scopeP [("binding", 5)] := blkOk_by (by decide +kernel)

theorem ok_bini (T : Txt K mg d) : FnOk P w K mg base CX0 1 d.f_bini d.g_bini ["self", "protocol", "address", "port", "outside_port", "used"] (spBini d) := by
  refine T.bini.fn.ok sc_bini (fun vs H Q E h => ?_) (fun cdv A outer s H vs Q E hr h => ?_)
  · obtain ⟨x, dx, z1, z2, z3, z4, z5, b, rfl, _⟩ := h
    rfl
  · obtain ⟨x, dx, z1, z2, z3, z4, z5, b, rfl, e1, e2, e3, e4, e5, hx, k⟩ := h
    refine ⟨_, (pss_cons (ps_fld (pv 0) (pv 1) rfl) (pss_cons (ps_fld (pv 0) (pv 2) rfl) (pss_cons (ps_fld (pv 0) (pv 3) rfl) (pss_cons (ps_fld (pv 0) (pv 4) rfl) (pss_one (ps_fld (pv 0) (pv 5) rfl)))))), ?_⟩
    have l1 : ∀ (f : Str) (y : V) {fs : List (Str × V)} {n : Nat}, fs.length ≤ n → n < 999 → (putF f y fs).length < 1000 := fun f y fs n h1 h2 => Nat.lt_of_le_of_lt (putF_le f y h1) (by omega)
    refine ⟨_, rfl, _, rfl, x, d.CB, dx, [], rfl, hx, T.cb, T.bProtocol, (by show 0 < 1000; decide), ?_⟩
    refine ⟨_, rfl, _, rfl, x, d.CB, dx, _, rfl, upd_same, T.cb, T.bAddress, l1 _ _ (Nat.le_refl 0) (by decide), ?_⟩
    refine ⟨_, rfl, _, rfl, x, d.CB, dx, _, rfl, upd_same, T.cb, T.bPort, l1 _ _ (putF_le _ _ (Nat.le_refl 0)) (by decide), ?_⟩
    refine ⟨_, rfl, _, rfl, x, d.CB, dx, _, rfl, upd_same, T.cb, T.bOutside, l1 _ _ (putF_le _ _ (putF_le _ _ (Nat.le_refl 0))) (by decide), ?_⟩
    refine ⟨_, rfl, _, rfl, x, d.CB, dx, _, rfl, upd_same, T.cb, T.bUsed, l1 _ _ (putF_le _ _ (putF_le _ _ (putF_le _ _ (Nat.le_refl 0)))) (by decide), ?_⟩
    show Q .non _
    rw [upd_upd, upd_upd, upd_upd, upd_upd, e1, e2, e3, e4, e5]
    exact k

theorem proto_tcp {k : Kg09.Kind} : (V.int (protoN k : Int) = V.int 6) ↔ k = .tcp := by
  rw [V.int.injEq]
  cases k <;> simp [protoN]

theorem ok_dead (T : Txt K mg d) : FnOk P w K mg base CX0 1 d.f_dead d.g_dead ["self", "now"] (spDead d) := by
  refine T.dead.fn.ok sc_dead (fun vs H Q E h => ?_) (fun cdv A outer s H vs Q E hr h => ?_)
  · obtain ⟨a, z, b, now, rfl, _⟩ := h
    rfl
  · obtain ⟨a, z, b, now, rfl, ez, ⟨dx, hb⟩, hn, hu, k⟩ := h
    refine ⟨_, (pss_cons (ps_set (i := 2) sc_dead.nd rfl (Or.inl rfl) (pe_ifExp (pt_cmpR op_eq (pe_fld (pv 0) rfl) (pgi T.c_TCP) (nomark _)) (pgi T.c_TCP_SECONDS) (pgi T.c_OTHER_SECONDS))) (pss_one (ps_ret (pe_cmpR op_ge (pe_op op_mod (pe_op op_sub (pv 1) (pe_fld (pv 0) rfl)) (pgi T.c_ROUND_OF_SECONDS)) (pv 2) (nomark _))))), ?_⟩
    have es := since_int hn hu
    rw [dead_iff] at k
    refine ⟨_, rfl, a, d.CB, dx, _, _, rfl, hb, T.cb, T.bProtocol, bf_protocol b, rfl, _, rfl, ite2 (fun hc => ?_) (fun hc => ?_)⟩
    · have hc := proto_tcp.mp (of_decide_eq_true hc)
      rw [if_pos hc] at k
      refine ⟨_, rfl, _, rfl, a, d.CB, dx, _, _, rfl, hb, T.cb, T.bUsed, bf_used b, _, _, rfl, rfl, _, _, rfl, rfl, (by show (0 : Int) < 4294967296; decide), _, rfl, _, _, rfl, rfl, ?_⟩
      refine q_bl k (decide_eq_decide.mpr ?_)
      rw [ez, es]
      omega
    · have hc : ¬ b.kind = .tcp := fun q => hc (decide_eq_true (proto_tcp.mpr q))
      rw [if_neg hc] at k
      refine ⟨_, rfl, _, rfl, a, d.CB, dx, _, _, rfl, hb, T.cb, T.bUsed, bf_used b, _, _, rfl, rfl, _, _, rfl, rfl, (by show (0 : Int) < 4294967296; decide), _, rfl, _, _, rfl, rfl, ?_⟩
      refine q_bl k (decide_eq_decide.mpr ?_)
      rw [ez, es]
      omega

theorem ok_hini (T : Txt K mg d) : FnOk P w K mg base CX0 1 d.f_hini d.g_hini ["self"] (spHini d) := by
  refine T.hini.fn.ok sc_hini (fun vs H Q E h => ?_) (fun cdv A outer s H vs Q E hr h => ?_)
  · obtain ⟨x, dx, rfl, _⟩ := h
    rfl
  · obtain ⟨x, dx, rfl, hx, k⟩ := h
    refine ⟨_, (pss_cons (ps_fld (pv 0) pe_int rfl) (pss_one (ps_fld (pv 0) (pe_lst pa_nil) rfl))), ?_⟩
    refine ⟨_, rfl, x, d.CH, dx, [], rfl, hx, T.ch, T.hOutside, (by show 0 < 1000; decide), ?_⟩
    refine ⟨Nat.zero_le _, fun l hl => ?_⟩
    have ne : x ≠ l := ne_of_none upd_same hl
    rw [upd_ne (fun z => ne z.symm)] at hl
    refine ⟨_, rfl, x, d.CH, dx, _, rfl, by rw [upd_ne ne]; exact upd_same, T.ch, T.hBindings, Nat.lt_of_le_of_lt (putF_le _ _ (Nat.le_refl 0)) (by decide), ?_⟩
    refine k _ l hl upd_same ?_ fun b u e n => ?_
    · rw [upd_ne (fun z => ne z.symm)]
      exact upd_same
    · rw [upd_ne n, upd_ne (ne_of_none e hl), upd_ne n]
      exact e

theorem ok_begi (T : Txt K mg d) : FnOk P w K mg base CX0 1 d.f_begi d.g_begi ["self", "outside"] (spBegi d) := by
  refine T.begi.fn.ok sc_begi (fun vs H Q E h => ?_) (fun cdv A outer s H vs Q E hr h => ?_)
  · obtain ⟨x, z, dx, l0, o0, o, rfl, _⟩ := h
    rfl
  · obtain ⟨x, z, dx, l0, o0, o, rfl, ez, hx, k⟩ := h
    refine ⟨_, (pss_cons (ps_fld (pv 0) (pv 1) rfl) (pss_cons (ps_fld (pv 0) (pe_lst pa_nil) rfl) (pss_one (ps_ret pe_int)))), ?_⟩
    refine ⟨_, rfl, _, rfl, x, d.CH, dx, _, rfl, hx, T.ch, T.hOutside, Nat.lt_of_le_of_lt (hf_len o0 l0) (by decide), ?_⟩
    rw [hf_putO o0 o l0 ez]
    refine ⟨Nat.zero_le _, fun l hl => ?_⟩
    have ne : x ≠ l := ne_of_none upd_same hl
    rw [upd_ne (fun z => ne z.symm)] at hl
    refine ⟨_, rfl, x, d.CH, dx, _, rfl, by rw [upd_ne ne]; exact upd_same, T.ch, T.hBindings, Nat.lt_of_le_of_lt (hf_len o l0) (by decide), ?_⟩
    rw [hf_putB]
    refine k _ l hl upd_same ?_ fun b u e n => ?_
    · rw [upd_ne (fun z => ne z.symm)]
      exact upd_same
    · rw [upd_ne n, upd_ne (ne_of_none e hl), upd_ne n]
      exact e

theorem live_succ {now i : Nat} {ps : PB} {q : Addr × Kg09.Binding} (h : ps[i]? = some q) : live now (ps.take (i + 1)) = if q.2.dead now = true then live now (ps.take i) else live now (ps.take i) ++ [q] := by
  unfold live
  rw [List.take_add_one, h, List.filter_append]
  by_cases e : q.2.dead now = true
  · rw [if_pos e]
    simp [e]
  · rw [if_neg e]
    simp [e]
theorem live_pbs (now : Nat) (ps : PB) : pbs (live now ps) = alive now (pbs ps) := by
  unfold pbs live alive
  rw [List.filter_map]
  rfl
theorem live_len (now : Nat) (ps : PB) : (live now ps).length ≤ ps.length := List.length_filter_le _ _
theorem refs_len (ps : PB) : (refs ps).length = ps.length := List.length_map ..
theorem HsAt.live {d : Ad} {H : Hp} {h l : Addr} {ps : PB} {o : Nat} (A : HsAt d H h l ps o) (now : Nat) {H' : Hp} {l' : Addr} {dh : Addr} (k : Keep h H H') (e1 : H' h = some (.ins d.CH dh (hfs o l'))) (e2 : H' l' = some (.lst (refs (Na.live now ps)))) : HsAt d H' h l' (Na.live now ps) o := by
  have sub : ∀ q ∈ Na.live now ps, q ∈ ps := fun q hq => (List.mem_filter.mp hq).1
  refine ⟨⟨dh, e1⟩, e2, A.nd.sublist ((List.filter_sublist ..).map _), fun q hq => ?_, fun q hq => A.hn q (sub q hq)⟩
  obtain ⟨dx, e⟩ := A.at_ q (sub q hq)
  exact ⟨dx, k _ _ e (A.hn q (sub q hq))⟩

theorem ok_forg (T : Txt K mg d) : FnOk P w K mg base CX0 2 d.f_forg d.g_forg ["self", "now"] (spForg d) := by
  have G_dead := ok_dead (P := P) (w := w) (base := base) T
  refine T.forg.fn.ok sc_forg (fun vs H Q E h => ?_) (fun cdv A outer s H vs Q E hr h => ?_)
  · obtain ⟨h, z, l, ps, o, now, rfl, _⟩ := h
    rfl
  · obtain ⟨h, z, l, ps, o, now, rfl, ez, A, hn, hlen, hf, k⟩ := h
    refine ⟨_, (pss_one (ps_fld (pv 0) (pe_lc (own := [("binding", 2)]) rfl sc_forg.nd (pi_list (pe_fld (pv 0) rfl)) blk_forg (fun _ _ _ _ _ => pg_name (i := 2) sc_forg.nd rfl (Or.inl rfl)) (fun _ _ _ _ _ => pts_one (pt_not (pt_val (pe_meth (pv 2) T.cb T.dead.me G_dead (hr.mono (by decide)) (b_dead T) .nil pass0 (pa_cons (pv 1) pa_nil))))) (fun _ _ _ _ _ => pv 2)) rfl)), ?_⟩
    obtain ⟨dh, hH⟩ := A.hs
    refine ⟨_, rfl, h, d.CH, dh, _, _, rfl, hH, T.ch, T.hBindings, hf_bindings o l, l, rfl, ⟨_, SqL.of A.lst⟩, fun D hD => lc_list (K := K) (a := l) (xs := refs ps) (fun i H' => H' = upd H D (.lst (refs (live now (ps.take i))))) rfl (fun i H' _ q => by rw [q]; exact SqL.of (by rw [upd_ne (ne_of_none A.lst hD)]; exact A.lst)) ?_ ?_⟩
    · rintro i x H' hi rfl
      obtain ⟨q, hq, rfl⟩ := refs_get hi
      have mq := List.mem_of_getElem? hq
      obtain ⟨dx, eq⟩ := A.at_ q mq
      have eq' : (upd H D (.lst (refs (live now (ps.take i))))) q.1 = some (.ins d.CB dx (bfs q.2)) := by
        rw [upd_ne (ne_of_none eq hD)]
        exact eq
      refine ⟨rfl, ?_⟩
      refine ⟨_, rfl, q.1, dx, _, rfl, eq', bf_dead q.2, _, rfl, q.1, _, q.2, now, rfl, ez, ⟨dx, eq'⟩, hn, hf q mq, _, rfl, ?_⟩
      have hs := live_succ (now := now) hq
      by_cases e : q.2.dead now = true
      · rw [e]
        refine iteF ?_
        rw [hs, if_pos e]
      · rw [show q.2.dead now = false by simpa using e]
        refine iteT ⟨_, rfl, _, upd_same, ?_, ?_⟩
        · rw [refs_len]
          exact Nat.lt_of_le_of_lt (Nat.le_trans (live_len _ _) (Nat.le_trans (List.length_take_le' ..) hlen)) (by decide)
        · rw [upd_upd, hs, if_neg e]
          unfold refs
          rw [List.map_append]
          rfl
    
    rintro H' rfl
    rw [refs_len, List.take_length]
    have hH' : (upd H D (.lst (refs (live now ps)))) h = some (.ins d.CH dh (hfs o l)) := by
      rw [upd_ne (ne_of_none hH hD)]
      exact hH
    refine ⟨_, rfl, h, d.CH, dh, _, rfl, hH', T.ch, T.hBindings, Nat.lt_of_le_of_lt (hf_len o l) (by decide), ?_⟩
    rw [hf_putB]
    have kp : Keep h H (upd (upd H D (.lst (refs (live now ps)))) h (.ins d.CH dh (hfs o D))) := fun b u e n => by
      rw [upd_ne n, upd_ne (ne_of_none e hD)]
      exact e
    have nh : D ≠ h := fun z => ne_of_none hH hD z.symm
    exact k _ D hD (A.live now kp upd_same (by rw [upd_ne nh]; exact upd_same)) kp

theorem ok_coun (T : Txt K mg d) : FnOk P w K mg base CX0 2 d.f_coun d.g_coun ["self", "now"] (spCoun d) := by
  have G_dead := ok_dead (P := P) (w := w) (base := base) T
  refine T.coun.fn.ok sc_coun (fun vs H Q E h => ?_) (fun cdv A outer s H vs Q E hr h => ?_)
  · obtain ⟨h, z, l, ps, o, now, rfl, _⟩ := h
    rfl
  · obtain ⟨h, z, l, ps, o, now, rfl, ez, A, hn, hlen, hf, k⟩ := h
    refine ⟨_, (pss_one (ps_ret (pe_callB call_len_seq (by rfl) T.len PySem.boot_len (pa_cons (pe_lc (own := [("binding", 2)]) rfl sc_coun.nd (pi_list (pe_fld (pv 0) rfl)) blk_coun (fun _ _ _ _ _ => pg_name (i := 2) sc_coun.nd rfl (Or.inl rfl)) (fun _ _ _ _ _ => pts_one (pt_not (pt_val (pe_meth (pv 2) T.cb T.dead.me G_dead (hr.mono (by decide)) (b_dead T) .nil pass0 (pa_cons (pv 1) pa_nil))))) (fun _ _ _ _ _ => pv 2)) pa_nil)))), ?_⟩
    obtain ⟨dh, hH⟩ := A.hs
    refine ⟨_, rfl, h, d.CH, dh, _, _, rfl, hH, T.ch, T.hBindings, hf_bindings o l, l, rfl, ⟨_, SqL.of A.lst⟩, fun D hD => lc_list (K := K) (a := l) (xs := refs ps) (fun i H' => H' = upd H D (.lst (refs (live now (ps.take i))))) rfl (fun i H' _ q => by rw [q]; exact SqL.of (by rw [upd_ne (ne_of_none A.lst hD)]; exact A.lst)) ?_ ?_⟩
    · rintro i x H' hi rfl
      obtain ⟨q, hq, rfl⟩ := refs_get hi
      have mq := List.mem_of_getElem? hq
      obtain ⟨dx, eq⟩ := A.at_ q mq
      have eq' : (upd H D (.lst (refs (live now (ps.take i))))) q.1 = some (.ins d.CB dx (bfs q.2)) := by
        rw [upd_ne (ne_of_none eq hD)]
        exact eq
      refine ⟨rfl, ?_⟩
      refine ⟨_, rfl, q.1, dx, _, rfl, eq', bf_dead q.2, _, rfl, q.1, _, q.2, now, rfl, ez, ⟨dx, eq'⟩, hn, hf q mq, _, rfl, ?_⟩
      have hs := live_succ (now := now) hq
      by_cases e : q.2.dead now = true
      · rw [e]
        refine iteF ?_
        rw [hs, if_pos e]
      · rw [show q.2.dead now = false by simpa using e]
        refine iteT ⟨_, rfl, _, upd_same, ?_, ?_⟩
        · rw [refs_len]
          exact Nat.lt_of_le_of_lt (Nat.le_trans (live_len _ _) (Nat.le_trans (List.length_take_le' ..) hlen)) (by decide)
        · rw [upd_upd, hs, if_neg e]
          unfold refs
          rw [List.map_append]
          rfl
    
    rintro H' rfl
    rw [refs_len, List.take_length]
    refine ⟨D, _, rfl, .inl (SqL.of upd_same), ?_⟩
    rw [refs_len]
    refine k _ fun b u e => ?_
    rw [upd_ne (ne_of_none e hD)]
    exact e

theorem take_all {ps : PB} {i : Nat} {q : Addr × Kg09.Binding} {C : Addr × Kg09.Binding → Prop} (h : ps[i]? = some q) (h1 : ∀ c ∈ ps.take i, C c) (h2 : C q) : ∀ c ∈ ps.take (i + 1), C c := by
  intro c hc
  rw [List.take_add_one, h] at hc
  rcases List.mem_append.mp hc with z | z
  · exact h1 c z
  · have e : c = q := by simpa using z
    rw [e]
    exact h2
theorem dec_ne {x y : Int} (h : ¬ decide (V.int x = V.int y) = true) : ¬ x = y := fun q => h (decide_eq_true (by rw [q]))
theorem dec_is {x y : Int} (h : decide (V.int x = V.int y) = true) : x = y := V.int.inj (of_decide_eq_true h)

theorem ok_bins (T : Txt K mg d) : FnOk P w K mg base CX0 1 d.f_bins d.g_bins ["self", "protocol", "address", "port"] (spBins d) := by
  refine T.bins.fn.ok sc_bins (fun vs H Q E h => ?_) (fun cdv A outer s H vs Q E hr h => ?_)
  · obtain ⟨h, z1, z2, z3, l, ps, o, rfl, _⟩ := h
    rfl
  · obtain ⟨h, z1, z2, z3, l, ps, o, rfl, A, k1, k2⟩ := h
    refine ⟨_, (pss_cons (ps_for PassesOwn.never rfl (pi_list (pe_fld (pv 0) rfl)) (pg_name (i := 4) sc_bins.nd rfl (Or.inl rfl)) (pss_one (ps_if (PW.pt (pw_and (pt_cmpR op_eq (pe_fld (pv 4) rfl) (pv 1) (nomark _)) (pw_and (pt_cmpR op_eq (pe_fld (pv 4) rfl) (pv 2) (nomark _)) (pw_and1 (pt_cmpR op_eq (pe_fld (pv 4) rfl) (pv 3) (nomark _)))))) (pss_one (ps_ret (pv 4))) pss_nil))) (pss_one (ps_ret pe_non))), ?_⟩
    obtain ⟨dh, hH⟩ := A.hs
    refine ⟨_, rfl, h, d.CH, dh, _, _, rfl, hH, T.ch, T.hBindings, hf_bindings o l, l, rfl, ⟨_, SqL.of A.lst⟩, for_list (K := K) (a := l) (xs := refs ps) (fun i σ H' => H' = H ∧ (∃ u : Option V, σ = [some (.ref h), some (.int z1), some (.int z2), some (.int z3), u]) ∧ ∀ q ∈ ps.take i, ¬ ((protoN q.2.kind : Int) = z1 ∧ (q.2.address : Int) = z2 ∧ (q.2.port : Int) = z3)) ⟨rfl, ⟨none, rfl⟩, fun q hq => by rw [List.take_zero] at hq; cases hq⟩ (fun i σ H' _ q => by rw [q.1]; exact SqL.of A.lst) ?_ ?_⟩
    · rintro i x σ H' hi ⟨rfl, ⟨u, rfl⟩, hno⟩
      obtain ⟨q, hq, rfl⟩ := refs_get hi
      have mq := List.mem_of_getElem? hq
      obtain ⟨dx, eq⟩ := A.at_ q mq
      refine ⟨_, rfl, q.1, d.CB, dx, _, _, rfl, eq, T.cb, T.bProtocol, bf_protocol q.2, _, rfl, rfl, _, rfl, ite2 (fun h1 => ?_) (fun h1 => ?_)⟩
      · refine ⟨_, rfl, q.1, d.CB, dx, _, _, rfl, eq, T.cb, T.bAddress, bf_address q.2, _, rfl, rfl, _, rfl, ite2 (fun h2 => ?_) (fun h2 => ?_)⟩
        · refine ⟨_, rfl, q.1, d.CB, dx, _, _, rfl, eq, T.cb, T.bPort, bf_port q.2, _, rfl, rfl, _, rfl, ite2 (fun h3 => ?_) (fun h3 => ?_)⟩
          · exact ⟨_, rfl, k1 q mq (dec_is h1) (dec_is h2) (dec_is h3)⟩
          · exact ⟨rfl, ⟨_, rfl⟩, take_all hq hno fun z => dec_ne h3 z.2.2⟩
        · exact iteF ⟨rfl, ⟨_, rfl⟩, take_all hq hno fun z => dec_ne h2 z.2.1⟩
      · exact iteF ⟨rfl, ⟨_, rfl⟩, take_all hq hno fun z => dec_ne h1 z.1⟩
    · rintro σ H' ⟨rfl, ⟨u, rfl⟩, hno⟩
      rw [refs_len, List.take_length] at hno
      exact k2 hno

theorem ok_bout (T : Txt K mg d) : FnOk P w K mg base CX0 1 d.f_bout d.g_bout ["self", "protocol", "port"] (spBout d) := by
  refine T.bout.fn.ok sc_bout (fun vs H Q E h => ?_) (fun cdv A outer s H vs Q E hr h => ?_)
  · obtain ⟨h, z1, z2, l, ps, o, rfl, _⟩ := h
    rfl
  · obtain ⟨h, z1, z2, l, ps, o, rfl, A, k1, k2⟩ := h
    refine ⟨_, (pss_cons (ps_for PassesOwn.never rfl (pi_list (pe_fld (pv 0) rfl)) (pg_name (i := 3) sc_bout.nd rfl (Or.inl rfl)) (pss_one (ps_if (PW.pt (pw_and (pt_cmpR op_eq (pe_fld (pv 3) rfl) (pv 1) (nomark _)) (pw_and1 (pt_cmpR op_eq (pe_fld (pv 3) rfl) (pv 2) (nomark _))))) (pss_one (ps_ret (pv 3))) pss_nil))) (pss_one (ps_ret pe_non))), ?_⟩
    obtain ⟨dh, hH⟩ := A.hs
    refine ⟨_, rfl, h, d.CH, dh, _, _, rfl, hH, T.ch, T.hBindings, hf_bindings o l, l, rfl, ⟨_, SqL.of A.lst⟩, for_list (K := K) (a := l) (xs := refs ps) (fun i σ H' => H' = H ∧ (∃ u : Option V, σ = [some (.ref h), some (.int z1), some (.int z2), u]) ∧ ∀ q ∈ ps.take i, ¬ ((protoN q.2.kind : Int) = z1 ∧ (q.2.outside : Int) = z2)) ⟨rfl, ⟨none, rfl⟩, fun q hq => by rw [List.take_zero] at hq; cases hq⟩ (fun i σ H' _ q => by rw [q.1]; exact SqL.of A.lst) ?_ ?_⟩
    · rintro i x σ H' hi ⟨rfl, ⟨u, rfl⟩, hno⟩
      obtain ⟨q, hq, rfl⟩ := refs_get hi
      have mq := List.mem_of_getElem? hq
      obtain ⟨dx, eq⟩ := A.at_ q mq
      refine ⟨_, rfl, q.1, d.CB, dx, _, _, rfl, eq, T.cb, T.bProtocol, bf_protocol q.2, _, rfl, rfl, _, rfl, ite2 (fun h1 => ?_) (fun h1 => ?_)⟩
      · refine ⟨_, rfl, q.1, d.CB, dx, _, _, rfl, eq, T.cb, T.bOutside, bf_outside q.2, _, rfl, rfl, _, rfl, ite2 (fun h2 => ?_) (fun h2 => ?_)⟩
        · exact ⟨_, rfl, k1 q mq (dec_is h1) (dec_is h2)⟩
        · exact ⟨rfl, ⟨_, rfl⟩, take_all hq hno fun z => dec_ne h2 z.2⟩
      · exact iteF ⟨rfl, ⟨_, rfl⟩, take_all hq hno fun z => dec_ne h1 z.1⟩
    · rintro σ H' ⟨rfl, ⟨u, rfl⟩, hno⟩
      rw [refs_len, List.take_length] at hno
      exact k2 hno

theorem taken_succ {k : Kg09.Kind} {i : Nat} {ps : PB} {q : Addr × Kg09.Binding} (h : ps[i]? = some q) : taken k (pbs (ps.take (i + 1))) = if q.2.kind = k then taken k (pbs (ps.take i)) ++ [q.2.outside] else taken k (pbs (ps.take i)) := by
  unfold taken pbs
  rw [List.take_add_one, h, List.map_append, List.filter_append, List.map_append]
  by_cases e : q.2.kind = k
  · rw [if_pos e]
    simp [e]
  · rw [if_neg e]
    simp [e]
theorem inV_iv {n : Nat} : ∀ {l : List Nat}, inV (.int (n : Int)) (iv l) = decide (n ∈ l)
  | [] => rfl
  | m :: l => by
    have ih := inV_iv (n := n) (l := l)
    show (eqV (.int (m : Int)) (.int (n : Int)) || inV (.int (n : Int)) (iv l)) = _
    rw [ih, Bool.eq_iff_iff]
    simp only [Bool.or_eq_true, decide_eq_true_eq, List.mem_cons]
    show ((m : Int) == (n : Int)) = true ∨ n ∈ l ↔ _
    rw [beq_iff_eq]
    constructor
    · rintro (h | h)
      · exact .inl (by omega)
      · exact .inr h
    · rintro (h | h)
      · exact .inl (by omega)
      · exact .inr h
theorem flat_iv : ∀ l : List Nat, (iv l).all flatV = true
  | [] => rfl
  | m :: l => by
    show (flatV (.int (m : Int)) && (iv l).all flatV) = true
    rw [flat_iv l]
    rfl

theorem ok_free (T : Txt K mg d) : FnOk P w K mg base CX0 1 d.f_free d.g_free ["self", "protocol", "wished"] (spFree d) := by
  refine T.free.fn.ok sc_free (fun vs H Q E h => ?_) (fun cdv A outer s H vs Q E hr h => ?_)
  · obtain ⟨h, z1, z2, l, ps, o, x, kd, s, rfl, _⟩ := h
    rfl
  · obtain ⟨h, z1, z2, l, ps, o, x, kd, st, rfl, e1, e2, hx, A, R, k⟩ := h
    refine ⟨_, (pss_cons (ps_setLc (i := 3) (own := [("binding", 5)]) (tt := tTest (tOp rEq (tFld K (tVar 5) "protocol") (tVar 1))) (te := tFld K (tVar 5) "outside_port") rfl sc_free.nd rfl rfl (sw_true rfl rfl rfl (by decide +kernel)) (pi_list (pe_fld (pv 0) rfl)) blk_free (fun _ _ _ _ _ => pg_name (i := 5) sc_free.nd rfl (Or.inl rfl)) (fun _ _ _ _ _ => by exact pts_one (pt_cmpR op_eq (pe_fld (pv 5) rfl) (pv 1) (nomark _))) (fun _ _ _ _ _ => by exact (pe_fld (pv 5) rfl))) (pss_cons (ps_if (PW.pt (pw_and (pt_cmpR op_ge (pv 2) (pgi T.c_LEAST_PORT) (nomark _)) (pw_and1 (pt_cmpR op_notIn_seq (pv 2) (pv 3) (by with_unfolding_all rfl))))) (pss_one (ps_ret (pv 2))) pss_nil) (pss_cons (ps_set (i := 4) sc_free.nd rfl (Or.inl rfl) (pgi T.c_LEAST_PORT)) (pss_cons (ps_while PassesOwn.never (pt_cmpR op_in_seq (pv 4) (pv 3) (by with_unfolding_all rfl)) (pss_one (ps_set (i := 4) sc_free.nd rfl (Or.inl rfl) (pe_op op_add (pv 4) pe_int)))) (pss_one (ps_ret (pv 4))))))), ?_⟩
    subst e2
    obtain ⟨dh, hH⟩ := A.hs
    have hlen : ps.length ≤ 256 := by
      have := R.few
      unfold pbs at this
      rw [List.length_map] at this
      exact this
    refine ⟨_, rfl, h, d.CH, dh, _, _, rfl, hH, T.ch, T.hBindings, hf_bindings o l, l, rfl, ⟨_, SqL.of A.lst⟩, fun D hD => lc_list (K := K) (a := l) (xs := refs ps) (fun i H' => H' = upd H D (.lst (iv (taken kd (pbs (ps.take i)))))) rfl (fun i H' _ q => by rw [q]; exact SqL.of (by rw [upd_ne (ne_of_none A.lst hD)]; exact A.lst)) ?_ ?_⟩
    · rintro i y H' hi rfl
      obtain ⟨q, hq, rfl⟩ := refs_get hi
      have mq := List.mem_of_getElem? hq
      obtain ⟨dx, eq⟩ := A.at_ q mq
      have eq' : (upd H D (.lst (iv (taken kd (pbs (ps.take i)))))) q.1 = some (.ins d.CB dx (bfs q.2)) := by
        rw [upd_ne (ne_of_none eq hD)]
        exact eq
      refine ⟨rfl, ?_⟩
      have hs := taken_succ (k := kd) hq
      refine ⟨_, rfl, q.1, d.CB, dx, _, _, rfl, eq', T.cb, T.bProtocol, bf_protocol q.2, _, rfl, rfl, _, rfl, ite2 (fun h1 => ?_) (fun h1 => ?_)⟩
      · have h1 := dec_is h1
        have hk : q.2.kind = kd := protoN_inj (by omega)
        refine ⟨_, rfl, q.1, d.CB, dx, _, _, rfl, eq', T.cb, T.bOutside, bf_outside q.2, _, upd_same, ?_, ?_⟩
        · rw [iv_len]
          refine Nat.lt_of_le_of_lt (taken_len _ _) ?_
          unfold pbs
          rw [List.length_map]
          exact Nat.lt_of_le_of_lt (Nat.le_trans (List.length_take_le' ..) hlen) (by decide)
        · rw [upd_upd, hs, if_pos hk]
          unfold iv
          rw [List.map_append]
          rfl
      · have h1 := dec_ne h1
        rw [hs, if_neg (fun z => h1 (by rw [z, e1]))]
    rintro H' rfl
    rw [refs_len, List.take_length]
    have sm : Same H (upd H D (.lst (iv (taken kd (pbs ps))))) := fun b u e => by
      rw [upd_ne (ne_of_none e hD)]
      exact e
    generalize eH : upd H D (.lst (iv (taken kd (pbs ps)))) = H1 at *
    have hD1 : H1 D = some (.lst (iv (taken kd (pbs ps)))) := by rw [← eH]; exact upd_same
    have tl := taken_len kd (pbs ps)
    have few := R.few
    have least : ¬ (1024 ≤ x ∧ ¬ x ∈ taken kd (pbs ps)) → tSeq (tAsg (tC (.int 1024)) (gName 4)) (tSeq (tWhile (tTest (tOp (rIn K false) (tVar 4) (tVar 3))) (tAsg (tOp (rI0 fun i j => .int (i + j)) (tVar 4) (tC (.int 1))) (gName 4))) (tRet (tVar 4))) { nx := fun _ H' => Q .non H', rt := Q } [some (.ref h), some (.int z1), some (.int (x : Int)), some (.ref D), none, none] H1 := by
      intro hx2
      refine while_by (fun σ H' => H' = H1 ∧ ∃ q : Nat, σ = [some (.ref h), some (.int z1), some (.int (x : Int)), some (.ref D), some (.int (q : Int)), none] ∧ 1024 ≤ q ∧ ∀ y, 1024 ≤ y → y < q → y ∈ taken kd (pbs ps)) (fun σ _ => match σ with | [_, _, _, _, some (.int z), _] => (taken kd (pbs ps)).length + 1025 - z.toNat | _ => 0) ⟨rfl, 1024, rfl, Nat.le_refl _, fun y h1 h2 => absurd h1 (by omega)⟩ ?_ ?_
      · rintro σ H' ⟨rfl, q, rfl, hq1, hq2⟩
        refine ⟨_, rfl, _, rfl, D, _, rfl, .inl (SqL.of hD1), rfl, flat_iv _, _, rfl, ?_⟩
        show if inV (.int (q : Int)) (iv (taken kd (pbs ps))) = true then _ else _
        rw [inV_iv]
        refine ite2 (fun hc => ?_) (fun hc => ?_)
        · have hc := of_decide_eq_true hc
          have hq3 : ∀ y, 1024 ≤ y → y < 1024 + (q + 1 - 1024) → y ∈ taken kd (pbs ps) := fun y h1 h2 => by
            by_cases z : y = q
            · rw [z]
              exact hc
            · exact hq2 y h1 (by omega)
          have hh := hole hq3
          refine ⟨_, rfl, _, _, rfl, rfl, ⟨rfl, q + 1, rfl, by omega, fun y h1 h2 => hq3 y h1 (by omega)⟩, ?_⟩
          show (taken kd (pbs ps)).length + 1025 - ((q : Int) + 1).toNat < (taken kd (pbs ps)).length + 1025 - ((q : Int)).toNat
          omega
        · have hc : ¬ q ∈ taken kd (pbs ps) := fun z => hc (decide_eq_true z)
          have hh := hole (n := q - 1024) (l := taken kd (pbs ps)) fun y h1 h2 => hq2 y h1 (by omega)
          have ef := R.fresh_least hx2 hq1 (by omega) hq2 hc
          refine ⟨_, rfl, ?_⟩
          have k := k H' sm (by omega) (by rw [ef]; exact hc)
          rw [ef] at k
          exact k
      · rintro σ H' Q1 Q2 hq ⟨v1, h1, v2, h2, p, xs, h3, h4, h5, h6, b, h7, h8⟩
        exact ⟨v1, h1, v2, h2, p, xs, h3, h4, h5, h6, b, h7, hq _ _ h8⟩
    refine ⟨_, rfl, _, _, rfl, rfl, _, rfl, ite2 (fun hc => ?_) (fun hc => ?_)⟩
    · have hc : (1024 : Int) ≤ (x : Int) := of_decide_eq_true hc
      refine ⟨_, rfl, _, rfl, D, _, rfl, .inl (SqL.of hD1), rfl, flat_iv _, _, rfl, ?_⟩
      show if (!inV (.int (x : Int)) (iv (taken kd (pbs ps)))) = true then _ else _
      rw [inV_iv]
      refine ite2 (fun hd => ?_) (fun hd => ?_)
      · have hd : ¬ x ∈ taken kd (pbs ps) := by simpa using hd
        have ef := R.fresh_own (k := kd) (x := x) (by omega) hd
        refine ⟨_, rfl, ?_⟩
        have k := k H1 sm (by omega) (by rw [ef]; exact hd)
        rw [ef] at k
        exact k
      · have hd : x ∈ taken kd (pbs ps) := by simpa using hd
        exact least fun z => z.2 hd
    · have hc : ¬ (1024 : Int) ≤ (x : Int) := fun q => hc (decide_eq_true q)
      exact iteF (least fun z => hc (by omega))

end
end Na
namespace Na
open PySem PySem.Spec PyProof.Rows L2
/-! ### the house, with all that it may touch -/
structure House (d : Ad) (H : Hp) (h : Addr) (fp : List Addr) (s : Kg09.Abs) : Prop where
  ex : ∃ l ps, HsAt d H h l ps s.outside ∧ Rel (pbs ps) s ∧ l ∈ fp ∧ ∀ q ∈ ps, q.1 ∈ fp
  hin : h ∈ fp
  out : s.outside < 4294967296
def Grow (fp fp' : List Addr) (H : Hp) : Prop := ∀ b ∈ fp', b ∈ fp ∨ H b = none
def Stay (fp : List Addr) (H H' : Hp) : Prop := ∀ b o, H b = some o → ¬ b ∈ fp → H' b = some o
theorem Rel.last {ps : PB} {s : Kg09.Abs} (R : Rel (pbs ps) s) : ∀ q ∈ ps, q.2.last < 4294967296 := fun q hq => (R.fit q.2 (List.mem_map.mpr ⟨q, hq, rfl⟩)).las
theorem Rel.psl {ps : PB} {s : Kg09.Abs} (R : Rel (pbs ps) s) : ps.length ≤ 256 := by
  have := R.few
  unfold pbs at this
  rw [List.length_map] at this
  exact this
theorem pbs_set {ps : PB} {j : Nat} {q : Addr × Kg09.Binding} : pbs (ps.set j q) = (pbs ps).set j q.2 := List.map_set ..
theorem pbs_get {ps : PB} {j : Nat} {q : Addr × Kg09.Binding} (h : ps[j]? = some q) : (pbs ps)[j]? = some q.2 := by
  unfold pbs
  rw [List.getElem?_map, h]
  rfl
theorem pbs_mem {ps : PB} {q : Addr × Kg09.Binding} (h : q ∈ ps) : q.2 ∈ pbs ps := List.mem_map.mpr ⟨q, h, rfl⟩
/-- a new binding at x, appended -/
theorem HsAt.add {d : Ad} {H : Hp} {h l x dx : Addr} {ps : PB} {o : Nat} {b : Kg09.Binding} (A : HsAt d H h l ps o) (nx : H x = none) (ndx : H dx = none) (ne : dx ≠ x) :
    HsAt d (upd (upd (upd H dx (.own x)) x (.ins d.CB dx (bfs b))) l (.lst (refs ps ++ [V.ref x]))) h l (ps ++ [(x, b)]) o := by
  obtain ⟨dh, e⟩ := A.hs
  have nlx : l ≠ x := ne_of_none A.lst nx
  have nld : l ≠ dx := ne_of_none A.lst ndx
  refine ⟨⟨dh, ?_⟩, ?_, ?_, fun q hq => ?_, fun q hq => ?_⟩
  · rw [upd_ne (fun z => A.lh z.symm), upd_ne (ne_of_none e nx), upd_ne (ne_of_none e ndx)]
    exact e
  · rw [upd_same]
    unfold refs
    rw [List.map_append]
    rfl
  · rw [List.map_append]
    refine nd_snoc A.nd fun m => ?_
    obtain ⟨q, hq, eq⟩ := List.mem_map.mp m
    obtain ⟨dq, e2⟩ := A.at_ q hq
    exact ne_of_none e2 nx eq
  · rcases List.mem_append.mp hq with m | m
    · obtain ⟨dq, e2⟩ := A.at_ q m
      exact ⟨dq, by rw [upd_ne (A.lq m), upd_ne (ne_of_none e2 nx), upd_ne (ne_of_none e2 ndx)]; exact e2⟩
    · rw [List.mem_singleton.mp m]
      exact ⟨dx, by rw [upd_ne (fun z => nlx z.symm)]; exact upd_same⟩
  · rcases List.mem_append.mp hq with m | m
    · exact A.hn q m
    · rw [List.mem_singleton.mp m]
      exact fun z => ne_of_none e nx z.symm
def spHout (d : Ad) : Sp := fun vs H Q _ => ∃ (h pk : Addr) (z : Int) (p : Kg09.Bytes) (now : Nat) (s : Kg09.Abs) (fp : List Addr), vs = [.ref h, .ref pk, .int z] ∧ z = (now : Int) ∧ now < 4294967296 ∧ House d H h fp s ∧ H pk = some (.lst (bv p)) ∧ ¬ pk ∈ fp ∧ p.length ≤ 65535 ∧
  ∀ (H' : Hp) (fp' : List Addr), House d H' h fp' (s.out p now).1 → Grow fp fp' H → Stay (pk :: fp) H H' → H' pk = some (.lst (bv (s.out p now).2.packet)) → Q (.int (s.out p now).2.code) H'
def spCome (d : Ad) : Sp := fun vs H Q _ => ∃ (h pk : Addr) (z : Int) (p : Kg09.Bytes) (now : Nat) (s : Kg09.Abs) (fp : List Addr), vs = [.ref h, .ref pk, .int z] ∧ z = (now : Int) ∧ now < 4294967296 ∧ House d H h fp s ∧ H pk = some (.lst (bv p)) ∧ ¬ pk ∈ fp ∧ p.length ≤ 65535 ∧
  ∀ (H' : Hp) (fp' : List Addr), House d H' h fp' (s.comes p now).1 → Grow fp fp' H → Stay (pk :: fp) H H' → H' pk = some (.lst (bv (s.comes p now).2.packet)) → Q (.int (s.comes p now).2.code) H'
def spFind (d : Ad) : Sp := fun vs H Q _ => ∃ (h : Addr) (z1 z2 z3 : Int) (l : Addr) (ps : PB) (s : Kg09.Abs), vs = [.ref h, .int z1, .int z2, .int z3] ∧ 0 ≤ z2 ∧ 0 ≤ z3 ∧ z3 < 4294967296 ∧ HsAt d H h l ps s.outside ∧ Rel (pbs ps) s ∧
  ∀ (l' : Addr), H l' = none → Q (.ref l') (upd H l' (.lst ((Kg09Neutral.step s (PyKg09.whole [[4, z1, z2, z3]])).2.map V.int)))
section
variable {P : Program} {w : World} {K : PySem.W.Frag} {mg : Str → Option Value} {base : Heap} {d : Ad}

theorem ok_hout (T : Txt K mg d) : FnOk P w K mg base CX0 5 d.f_hout d.g_hout ["self", "packet", "now"] (spHout d) := by
  have G_forg := ok_forg (P := P) (w := w) (base := base) T
  have G_refu := ok_refu (P := P) (w := w) (base := base) T
  have G_adr := ok_adr (P := P) (w := w) (base := base) T
  have G_spor := ok_spor (P := P) (w := w) (base := base) T
  have G_word := ok_word (P := P) (w := w) (base := base) T
  have G_bins := ok_bins (P := P) (w := w) (base := base) T
  have G_free := ok_free (P := P) (w := w) (base := base) T
  have G_bini := ok_bini (P := P) (w := w) (base := base) T
  have G_rewr := ok_rewr (P := P) (w := w) (base := base) T
  refine T.hout.fn.ok sc_hout (fun vs H Q E h => ?_) (fun cdv A outer s H vs Q E hr h => ?_)
  · obtain ⟨h, pk, z, p, now, s, fp, rfl, _⟩ := h
    rfl
  · obtain ⟨h, pk, z, p, now, s, fp, rfl, ez, hn, HO, hp, hpk, hm, k⟩ := h
    refine ⟨_, (pss_cons (ps_expr (pe_meth (pv 0) T.ch T.forg.me G_forg (hr.mono (by decide)) (b_forg T) .nil pass0 (pa_cons (pv 2) pa_nil))) (pss_cons (ps_set (i := 3) sc_hout.nd rfl (Or.inl rfl) (pe_call G_refu (hr.mono (by decide)) rfl T.refu.at_ T.refu.fn.kp (b_refu T) .nil pass0 (pa_cons (pv 1) (pa_cons (pgi T.c_ECHO_REQUEST) pa_nil)))) (pss_cons (ps_if (pt_cmpR op_ne (pv 3) pe_int (nomark _)) (pss_one (ps_ret (pv 3))) pss_nil) (pss_cons (ps_set (i := 4) sc_hout.nd rfl (Or.inl rfl) (pe_ix ix_list (pv 1) (pgi T.c_PROTOCOL_PLACE) (fun _ _ => rfl))) (pss_cons (ps_set (i := 5) sc_hout.nd rfl (Or.inl rfl) (pe_call G_adr (hr.mono (by decide)) rfl T.adr.at_ T.adr.fn.kp (b_adr T) .nil pass0 (pa_cons (pv 1) (pa_cons (pgi T.c_SENDER_PLACE) pa_nil)))) (pss_cons (ps_set (i := 6) sc_hout.nd rfl (Or.inl rfl) (pe_call G_spor (hr.mono (by decide)) rfl T.spor.at_ T.spor.fn.kp (b_spor T) .nil pass0 (pa_cons (pv 1) pa_nil))) (pss_cons (ps_set (i := 7) sc_hout.nd rfl (Or.inl rfl) (pe_call G_word (hr.mono (by decide)) rfl T.word.at_ T.word.fn.kp (b_word T) .nil pass0 (pa_cons (pv 1) (pa_cons (pv 6) pa_nil)))) (pss_cons (ps_set (i := 8) sc_hout.nd rfl (Or.inl rfl) (pe_meth (pv 0) T.ch T.bins.me G_bins (hr.mono (by decide)) (b_bins T) .nil pass0 (pa_cons (pv 4) (pa_cons (pv 5) (pa_cons (pv 7) pa_nil))))) (pss_cons (ps_if (pt_cmp (pc_isN (pv 8))) (pss_cons (ps_if (pt_cmpR op_ge (pe_callB call_len_seq (by rfl) T.len PySem.boot_len (pa_cons (pe_fld (pv 0) rfl) pa_nil)) (pgi T.c_MOST_BINDINGS) (nomark _)) (pss_one (ps_ret (pgi T.c_NO_ROOM))) pss_nil) (pss_cons (ps_set (i := 8) sc_hout.nd rfl (Or.inl rfl) (pe_make T.mkB G_bini (hr.mono (by decide)) rfl T.mgB (b_bini T) .nil pass0 (pa_cons (pv 4) (pa_cons (pv 5) (pa_cons (pv 7) (pa_cons (pe_meth (pv 0) T.ch T.free.me G_free (hr.mono (by decide)) (b_free T) .nil pass0 (pa_cons (pv 4) (pa_cons (pv 7) pa_nil))) (pa_cons (pv 2) pa_nil))))))) (pss_one (ps_expr (pe_bm PySem.F.plainAttrs_list PySem.F.slot_list_append PySem.F.type_list_append mt_append (pe_fld (pv 0) rfl) (pa_cons (pv 8) pa_nil)))))) pss_nil) (pss_cons (ps_fld (pv 8) (pv 2) rfl) (pss_cons (ps_expr (pe_call G_rewr (hr.mono (by decide)) rfl T.rewr.at_ T.rewr.fn.kp (b_rewr T) .nil pass0 (pa_cons (pv 1) (pa_cons (pgi T.c_SENDER_PLACE) (pa_cons (pv 6) (pa_cons (pe_fld (pv 0) rfl) (pa_cons (pe_fld (pv 8) rfl) pa_nil))))))) (pss_one (ps_ret pe_int))))))))))))), ?_⟩
    obtain ⟨⟨l, ps, A, R, hlf, hqf⟩, hhf, ho⟩ := HO
    obtain ⟨dh, hH⟩ := A.hs
    refine ⟨_, rfl, h, dh, _, rfl, hH, hf_no _ _ (by decide +kernel) (by decide +kernel), _, rfl, h, _, l, ps, s.outside, now, rfl, ez, A, hn, R.psl, R.last, fun H1 l1 hl1 A1 kp1 => ?_⟩
    have R1 : Rel (pbs (live now ps)) (s.forget now) := by
      rw [live_pbs]
      exact R.forget now
    have sub1 : ∀ q ∈ live now ps, q.1 ∈ fp := fun q hq => hqf q (List.mem_filter.mp hq).1
    have nph : pk ≠ h := fun z => hpk (by rw [z]; exact hhf)
    have hp1 := kp1 _ _ hp nph
    have npl1 : pk ≠ l1 := ne_of_none hp hl1
    have npq1 : ∀ q ∈ live now ps, q.1 ≠ pk := fun q hq z => hpk (by rw [← z]; exact sub1 q hq)
    have eo : (s.forget now).outside = s.outside := rfl
    have gr1 : Grow fp (l1 :: fp) H := fun b hb => by
      rcases List.mem_cons.mp hb with z | z
      · exact .inr (by rw [z]; exact hl1)
      · exact .inl z
    have st1 : Stay (pk :: fp) H H1 := fun b u e n => kp1 b u e fun z => n (List.mem_cons.mpr (.inr (by rw [z]; exact hhf)))
    have same1 : House d H1 h (l1 :: fp) (s.forget now) := ⟨⟨l1, live now ps, A1, R1, List.mem_cons.mpr (.inl rfl), fun q hq => List.mem_cons.mpr (.inr (sub1 q hq))⟩, List.mem_cons.mpr (.inr hhf), ho⟩
    generalize live now ps = ps1 at *
    obtain ⟨dh1, hH1⟩ := A1.hs
    refine ⟨_, rfl, pk, _, p, true, rfl, rfl, hp1, hm, ?_⟩
    refine ⟨_, rfl, rfl, _, rfl, ite2 (fun hc => ?_) (fun hc => ?_)⟩
    · have hc : refused p true ≠ 0 := fun q => by
        rw [q] at hc
        exact absurd hc (by decide)
      refine ⟨_, rfl, ?_⟩
      rw [out_no hc] at k
      exact k H1 (l1 :: fp) same1 gr1 st1 hp1
    have hc : refused p true = 0 := by
      refine Classical.byContradiction fun q => hc ?_
      rw [decide_eq_false (fun z => q (V.int.inj z))]
      rfl
    obtain ⟨kd, hw, hk, h8⟩ := refused_yes hc
    have S := kind_sound hw hk
    obtain ⟨w1, w2, w3, w4, w5, w6⟩ := whole_iff.mp hw
    
    have eport := port_out S
    have hpor := S.por
    have hpl := portAt_le kd true
    refine ⟨_, rfl, pk, _, _, _, rfl, rfl, SqL.of hp1, bv_at (j := 9) rfl (by omega), ?_⟩
    refine ⟨_, rfl, pk, _, p, 12, rfl, rfl, hp1, by omega, ?_⟩
    refine ⟨_, rfl, pk, p, rfl, hp1, by omega, ?_⟩
    rw [eport]
    refine ⟨_, rfl, _, rfl, pk, _, p, Kg09.head p + Kg09.portAt kd true, rfl, rfl, hp1, hpor, ?_⟩
    have ep : ((Kg09.byte p 9 : Nat) : Int) = (protoN kd : Int) := by rw [S.pro]
    have hxw := word_lt p (Kg09.head p + Kg09.portAt kd true)
    have hal := long_lt p 12
    have e12 : (12 : Int) = (Kg09.addressAt true : Int) := rfl
    refine ⟨_, rfl, h, dh1, _, rfl, hH1, hf_no _ _ (by decide +kernel) (by decide +kernel), _, rfl, _, rfl, _, rfl, h, _, _, _, l1, ps1, s.outside, rfl, A1, fun q hq m1 m2 m3 => ?_, fun hno => ?_⟩
    · -- the sender has a binding
      obtain ⟨j, hj⟩ := List.getElem?_of_mem hq
      obtain ⟨dx, eq⟩ := A1.at_ q hq
      have k1 : q.2.kind = kd := protoN_inj (by omega)
      have k2 : q.2.address = Kg09.long p 12 := by omega
      have k3 : q.2.port = Kg09.word p (Kg09.head p + Kg09.portAt kd true) := by omega
      have hi := R1.inside_some (pbs_mem hq)
      rw [k1, k2, k3] at hi
      rw [out_found hw hk h8 hi] at k
      have fq := R1.fit _ (pbs_mem hq)
      have nqp := npq1 q hq
      refine ⟨_, rfl, _, rfl, ite2 (fun hc => absurd (of_decide_eq_true hc) (fun z => nomatch z)) (fun _ => ?_)⟩
      refine ⟨_, rfl, _, rfl, q.1, d.CB, dx, _, rfl, eq, T.cb, T.bUsed, Nat.lt_of_le_of_lt (bf_len q.2) (by decide), ?_⟩
      rw [bf_put q.2 now ez]
      have A2 := A1.used (dx := dx) (b := { q.2 with last := now }) hj
      have R2 := R1.used (pbs_get hj) hn
      obtain ⟨dh2, hH2⟩ := A2.hs
      have hp2 : (upd H1 q.1 (.ins d.CB dx (bfs { q.2 with last := now }))) pk = some (.lst (bv p)) := by
        rw [upd_ne (fun z => nqp z.symm)]
        exact hp1
      have st2 : ∀ b u, H1 b = some u → b ≠ q.1 → (upd H1 q.1 (.ins d.CB dx (bfs { q.2 with last := now }))) b = some u := fun b u e n => by
        rw [upd_ne n]
        exact e
      have eq2 : (upd H1 q.1 (.ins d.CB dx (bfs { q.2 with last := now }))) q.1 = some (.ins d.CB dx (bfs { q.2 with last := now })) := upd_same
      generalize upd H1 q.1 (.ins d.CB dx (bfs { q.2 with last := now })) = H2 at *
      refine ⟨_, rfl, _, rfl, _, rfl, h, d.CH, dh2, _, _, rfl, hH2, T.ch, T.hOutside, hf_outside _ _, _, rfl, q.1, d.CB, dx, _, _, rfl, eq2, T.cb, T.bOutside, bf_outside _, pk, _, _, _, _, p, kd, true, s.outside, q.2.outside, rfl, e12, rfl, rfl, rfl, hp2, S, by omega, ho, fq.out, fun H3 hp3 kp3 => ?_⟩
      have A3 : HsAt d H3 h l1 (ps1.set j (q.1, { q.2 with last := now })) s.outside := A2.keep fun b u e hb => kp3 b u e (by
        rcases hb with z | z | ⟨c, hc, z⟩
        · rw [z]
          exact fun y => nph y.symm
        · rw [z]
          exact fun y => npl1 y.symm
        · rw [z]
          rcases List.mem_or_eq_of_mem_set hc with y | y
          · exact npq1 c y
          · rw [y]
            exact nqp)
      refine k H3 (l1 :: fp) ⟨⟨l1, _, A3, by rw [pbs_set]; exact R2, List.mem_cons.mpr (.inl rfl), fun c hc => ?_⟩, List.mem_cons.mpr (.inr hhf), ho⟩ gr1 (fun b u e n => ?_) hp3
      · rcases List.mem_or_eq_of_mem_set hc with y | y
        · exact List.mem_cons.mpr (.inr (sub1 c y))
        · rw [y]
          exact List.mem_cons.mpr (.inr (sub1 q hq))
      · exact kp3 b u (st2 b u (st1 b u e n) fun z => n (List.mem_cons.mpr (.inr (by rw [z]; exact sub1 q hq)))) fun z => n (List.mem_cons.mpr (.inl z))
    -- it has none
    have hi : (s.forget now).inside kd (Kg09.long p 12) (Kg09.word p (Kg09.head p + Kg09.portAt kd true)) = none := R1.inside_none fun b hb m => by
      obtain ⟨q, hq, e⟩ := List.mem_map.mp hb
      exact hno q hq (by rw [e, m.1, m.2.1, m.2.2]; exact ⟨ep.symm, rfl, rfl⟩)
    have hlen : (s.forget now).bindings.length = ps1.length := by
      rw [R1.perm.length_eq]
      exact List.length_map ..
    refine ⟨_, rfl, _, rfl, ite2 (fun _ => ?_) (fun hc => absurd (decide_eq_true rfl) hc)⟩
    refine ⟨_, rfl, h, d.CH, dh1, _, _, rfl, hH1, T.ch, T.hBindings, hf_bindings _ _, l1, _, rfl, .inl (SqL.of A1.lst), _, _, rfl, rfl, _, rfl, ite2 (fun hf => ?_) (fun hf => ?_)⟩
    · have hf : (256 : Int) ≤ ((refs ps1).length : Int) := of_decide_eq_true hf
      rw [refs_len] at hf
      rw [out_full hw hk h8 hi (by omega)] at k
      exact k H1 (l1 :: fp) same1 gr1 st1 hp1
    have hf : ¬ (256 : Int) ≤ ((refs ps1).length : Int) := fun q => hf (decide_eq_true q)
    rw [refs_len] at hf
    rw [out_new hw hk h8 hi (by omega)] at k
    refine ⟨_, rfl, _, rfl, _, rfl, _, rfl, h, dh1, _, rfl, hH1, hf_no _ _ (by decide +kernel) (by decide +kernel), _, rfl, _, rfl, h, _, _, l1, ps1, s.outside, Kg09.word p (Kg09.head p + Kg09.portAt kd true), kd, s.forget now, rfl, ep, rfl, hxw, A1, R1, fun H2 sm2 fr1 fr2 => ?_⟩
    generalize hfr : (s.forget now).fresh kd (Kg09.word p (Kg09.head p + Kg09.portAt kd true)) = fr at *
    refine ⟨_, rfl, fun x dx nx ndx ndxx => ?_⟩
    refine ⟨x, dx, _, _, _, _, _, ⟨kd, Kg09.long p 12, Kg09.word p (Kg09.head p + Kg09.portAt kd true), fr, now⟩, rfl, ep, rfl, rfl, rfl, ez, upd_same, rfl, ?_⟩
    generalize hbn : (⟨kd, Kg09.long p 12, Kg09.word p (Kg09.head p + Kg09.portAt kd true), fr, now⟩ : Kg09.Binding) = bn at *
    rw [upd_upd]
    have A2 := A1.same sm2
    obtain ⟨dh2, hH2⟩ := A2.hs
    have A3 := A2.add (b := bn) nx ndx ndxx
    have nlx : l1 ≠ x := ne_of_none A2.lst nx
    have nld : l1 ≠ dx := ne_of_none A2.lst ndx
    have hH2' : (upd (upd H2 dx (.own x)) x (.ins d.CB dx (bfs bn))) h = some (.ins d.CH dh2 (hfs s.outside l1)) := by
      rw [upd_ne (ne_of_none hH2 nx), upd_ne (ne_of_none hH2 ndx)]
      exact hH2
    have hl2' : (upd (upd H2 dx (.own x)) x (.ins d.CB dx (bfs bn))) l1 = some (.lst (refs ps1)) := by
      rw [upd_ne nlx, upd_ne nld]
      exact A2.lst
    refine ⟨_, rfl, h, d.CH, dh2, _, _, rfl, hH2', T.ch, T.hBindings, hf_bindings _ _, .inl ⟨rfl, _, SqL.of hl2'⟩, _, rfl, l1, _, _, rfl, rfl, hl2', by rw [refs_len]; exact Nat.lt_of_le_of_lt R1.psl (by decide), ?_⟩
    have hx3 : (upd (upd (upd H2 dx (.own x)) x (.ins d.CB dx (bfs bn))) l1 (.lst (refs ps1 ++ [V.ref x]))) x = some (.ins d.CB dx (bfs bn)) := by
      rw [upd_ne (fun z => nlx z.symm)]
      exact upd_same
    have hp2 := sm2 _ _ hp1
    have hp3 : (upd (upd (upd H2 dx (.own x)) x (.ins d.CB dx (bfs bn))) l1 (.lst (refs ps1 ++ [V.ref x]))) pk = some (.lst (bv p)) := by
      rw [upd_ne npl1, upd_ne (ne_of_none hp2 nx), upd_ne (ne_of_none hp2 ndx)]
      exact hp2
    have st3 : ∀ b u, H1 b = some u → b ≠ l1 → (upd (upd (upd H2 dx (.own x)) x (.ins d.CB dx (bfs bn))) l1 (.lst (refs ps1 ++ [V.ref x]))) b = some u := fun b u e n => by
      have e2 := sm2 b u e
      rw [upd_ne n, upd_ne (ne_of_none e2 nx), upd_ne (ne_of_none e2 ndx)]
      exact e2
    generalize upd (upd (upd H2 dx (.own x)) x (.ins d.CB dx (bfs bn))) l1 (.lst (refs ps1 ++ [V.ref x])) = H3 at *
    refine ⟨_, rfl, _, rfl, x, d.CB, dx, _, rfl, hx3, T.cb, T.bUsed, Nat.lt_of_le_of_lt (bf_len bn) (by decide), ?_⟩
    have ebn : putF "used" (.int z) (bfs bn) = bfs bn := by
      rw [bf_put bn now ez, ← hbn]
    rw [ebn]
    have ebo : bn.outside = fr := by rw [← hbn]
    have ebk : bn.kind = kd := by rw [← hbn]
    have ebf : Fit bn := by
      rw [← hbn]
      exact ⟨hal, hxw, fr1, hn⟩
    have sm4 : Same H3 (upd H3 x (.ins d.CB dx (bfs bn))) := fun b u e => by
      by_cases y : b = x
      · subst y
        rw [upd_same]
        exact hx3.symm.trans e
      · rw [upd_ne y]
        exact e
    have A4 := A3.same sm4
    have hp4 := sm4 _ _ hp3
    have hx4 := sm4 _ _ hx3
    generalize upd H3 x (.ins d.CB dx (bfs bn)) = H4 at *
    obtain ⟨dh4, hH4⟩ := A4.hs
    refine ⟨_, rfl, _, rfl, _, rfl, h, d.CH, dh4, _, _, rfl, hH4, T.ch, T.hOutside, hf_outside _ _, _, rfl, x, d.CB, dx, _, _, rfl, hx4, T.cb, T.bOutside, bf_outside _, pk, _, _, _, _, p, kd, true, s.outside, bn.outside, rfl, e12, rfl, rfl, rfl, hp4, S, by omega, ho, ebf.out, fun H5 hp5 kp5 => ?_⟩
    have npx : pk ≠ x := ne_of_none hp2 nx
    have nxh : x ≠ h := fun y => by
      rw [y, hH2] at nx
      cases nx
    have hx0 : H x = none := by
      cases e : H x with
      | none => rfl
      | some u =>
        have e2 := sm2 _ _ (kp1 _ _ e nxh)
        rw [nx] at e2
        cases e2
    have A5 : HsAt d H5 h l1 (ps1 ++ [(x, bn)]) s.outside := A4.keep fun b u e hb => kp5 b u e (by
      rcases hb with y | y | ⟨c, hc, y⟩
      · rw [y]
        exact fun y => nph y.symm
      · rw [y]
        exact fun y => npl1 y.symm
      · rw [y]
        rcases List.mem_append.mp hc with m | m
        · exact npq1 c m
        · rw [List.mem_singleton.mp m]
          exact fun y => npx y.symm)
    have R5 : Rel (pbs (ps1 ++ [(x, bn)])) { s.forget now with bindings := bn :: (s.forget now).bindings } := by
      have q := R1.new (b := bn) (fun c hc m => ?_) (by rw [ebo, ebk]; exact fr2) ebf (by unfold pbs; rw [List.length_map]; omega)
      · have e : pbs (ps1 ++ [(x, bn)]) = pbs ps1 ++ [bn] := List.map_append ..
        rw [e]
        exact q
      · obtain ⟨q, hq, e⟩ := List.mem_map.mp hc
        refine hno q hq ?_
        rw [e, m.1, m.2.1, m.2.2, ← hbn]
        exact ⟨ep.symm, rfl, rfl⟩
    rw [ebo] at hp5
    refine k H5 (x :: l1 :: fp) ⟨⟨l1, _, A5, R5, List.mem_cons.mpr (.inr (List.mem_cons.mpr (.inl rfl))), fun c hc => ?_⟩, List.mem_cons.mpr (.inr (List.mem_cons.mpr (.inr hhf))), ho⟩ (fun b hb => ?_) (fun b u e n => ?_) hp5
    · rcases List.mem_append.mp hc with m | m
      · exact List.mem_cons.mpr (.inr (List.mem_cons.mpr (.inr (sub1 c m))))
      · rw [List.mem_singleton.mp m]
        exact List.mem_cons.mpr (.inl rfl)
    · rcases List.mem_cons.mp hb with y | y
      · exact .inr (by rw [y]; exact hx0)
      · exact gr1 b y
    · exact kp5 b u (sm4 b u (st3 b u (st1 b u e n) (ne_of_none e hl1))) fun y => n (List.mem_cons.mpr (.inl y))

theorem ok_come (T : Txt K mg d) : FnOk P w K mg base CX0 5 d.f_come d.g_come ["self", "packet", "now"] (spCome d) := by
  have G_forg := ok_forg (P := P) (w := w) (base := base) T
  have G_refu := ok_refu (P := P) (w := w) (base := base) T
  have G_adr := ok_adr (P := P) (w := w) (base := base) T
  have G_rpor := ok_rpor (P := P) (w := w) (base := base) T
  have G_word := ok_word (P := P) (w := w) (base := base) T
  have G_bout := ok_bout (P := P) (w := w) (base := base) T
  have G_rewr := ok_rewr (P := P) (w := w) (base := base) T
  refine T.come.fn.ok sc_come (fun vs H Q E h => ?_) (fun cdv A outer s H vs Q E hr h => ?_)
  · obtain ⟨h, pk, z, p, now, s, fp, rfl, _⟩ := h
    rfl
  · obtain ⟨h, pk, z, p, now, s, fp, rfl, ez, hn, HO, hp, hpk, hm, k⟩ := h
    refine ⟨_, (pss_cons (ps_expr (pe_meth (pv 0) T.ch T.forg.me G_forg (hr.mono (by decide)) (b_forg T) .nil pass0 (pa_cons (pv 2) pa_nil))) (pss_cons (ps_set (i := 3) sc_come.nd rfl (Or.inl rfl) (pe_call G_refu (hr.mono (by decide)) rfl T.refu.at_ T.refu.fn.kp (b_refu T) .nil pass0 (pa_cons (pv 1) (pa_cons (pgi T.c_ECHO_ANSWER) pa_nil)))) (pss_cons (ps_if (pt_cmpR op_ne (pv 3) pe_int (nomark _)) (pss_one (ps_ret (pv 3))) pss_nil) (pss_cons (ps_if (pt_cmpR op_ne (pe_call G_adr (hr.mono (by decide)) rfl T.adr.at_ T.adr.fn.kp (b_adr T) .nil pass0 (pa_cons (pv 1) (pa_cons (pgi T.c_RECEIVER_PLACE) pa_nil))) (pe_fld (pv 0) rfl) (nomark _)) (pss_one (ps_ret (pgi T.c_NOBODYS))) pss_nil) (pss_cons (ps_set (i := 4) sc_come.nd rfl (Or.inl rfl) (pe_call G_rpor (hr.mono (by decide)) rfl T.rpor.at_ T.rpor.fn.kp (b_rpor T) .nil pass0 (pa_cons (pv 1) pa_nil))) (pss_cons (ps_set (i := 5) sc_come.nd rfl (Or.inl rfl) (pe_meth (pv 0) T.ch T.bout.me G_bout (hr.mono (by decide)) (b_bout T) .nil pass0 (pa_cons (pe_ix ix_list (pv 1) (pgi T.c_PROTOCOL_PLACE) (fun _ _ => rfl)) (pa_cons (pe_call G_word (hr.mono (by decide)) rfl T.word.at_ T.word.fn.kp (b_word T) .nil pass0 (pa_cons (pv 1) (pa_cons (pv 4) pa_nil))) pa_nil)))) (pss_cons (ps_if (pt_cmp (pc_isN (pv 5))) (pss_one (ps_ret (pgi T.c_NOBODYS))) pss_nil) (pss_cons (ps_fld (pv 5) (pv 2) rfl) (pss_cons (ps_expr (pe_call G_rewr (hr.mono (by decide)) rfl T.rewr.at_ T.rewr.fn.kp (b_rewr T) .nil pass0 (pa_cons (pv 1) (pa_cons (pgi T.c_RECEIVER_PLACE) (pa_cons (pv 4) (pa_cons (pe_fld (pv 5) rfl) (pa_cons (pe_fld (pv 5) rfl) pa_nil))))))) (pss_one (ps_ret pe_int))))))))))), ?_⟩
    obtain ⟨⟨l, ps, A, R, hlf, hqf⟩, hhf, ho⟩ := HO
    obtain ⟨dh, hH⟩ := A.hs
    refine ⟨_, rfl, h, dh, _, rfl, hH, hf_no _ _ (by decide +kernel) (by decide +kernel), _, rfl, h, _, l, ps, s.outside, now, rfl, ez, A, hn, R.psl, R.last, fun H1 l1 hl1 A1 kp1 => ?_⟩
    have R1 : Rel (pbs (live now ps)) (s.forget now) := by
      rw [live_pbs]
      exact R.forget now
    have sub1 : ∀ q ∈ live now ps, q.1 ∈ fp := fun q hq => hqf q (List.mem_filter.mp hq).1
    have nph : pk ≠ h := fun z => hpk (by rw [z]; exact hhf)
    have hp1 := kp1 _ _ hp nph
    have npl1 : pk ≠ l1 := ne_of_none hp hl1
    have npq1 : ∀ q ∈ live now ps, q.1 ≠ pk := fun q hq z => hpk (by rw [← z]; exact sub1 q hq)
    have eo : (s.forget now).outside = s.outside := rfl
    have gr1 : Grow fp (l1 :: fp) H := fun b hb => by
      rcases List.mem_cons.mp hb with z | z
      · exact .inr (by rw [z]; exact hl1)
      · exact .inl z
    have st1 : Stay (pk :: fp) H H1 := fun b u e n => kp1 b u e fun z => n (List.mem_cons.mpr (.inr (by rw [z]; exact hhf)))
    have same1 : House d H1 h (l1 :: fp) (s.forget now) := ⟨⟨l1, live now ps, A1, R1, List.mem_cons.mpr (.inl rfl), fun q hq => List.mem_cons.mpr (.inr (sub1 q hq))⟩, List.mem_cons.mpr (.inr hhf), ho⟩
    generalize live now ps = ps1 at *
    obtain ⟨dh1, hH1⟩ := A1.hs
    refine ⟨_, rfl, pk, _, p, false, rfl, rfl, hp1, hm, ?_⟩
    refine ⟨_, rfl, rfl, _, rfl, ite2 (fun hc => ?_) (fun hc => ?_)⟩
    · have hc : refused p false ≠ 0 := fun q => by
        rw [q] at hc
        exact absurd hc (by decide)
      refine ⟨_, rfl, ?_⟩
      rw [comes_no hc] at k
      exact k H1 (l1 :: fp) same1 gr1 st1 hp1
    have hc : refused p false = 0 := by
      refine Classical.byContradiction fun q => hc ?_
      rw [decide_eq_false (fun z => q (V.int.inj z))]
      rfl
    obtain ⟨kd, hw, hk, h8⟩ := refused_yes hc
    have S := kind_sound hw hk
    obtain ⟨w1, w2, w3, w4, w5, w6⟩ := whole_iff.mp hw
    
    have eport := port_in S
    have hpor := S.por
    have hpl := portAt_le kd false
    have ep : ((Kg09.byte p 9 : Nat) : Int) = (protoN kd : Int) := by rw [S.pro]
    have e16 : (16 : Int) = (Kg09.addressAt false : Int) := rfl
    refine ⟨_, rfl, pk, _, p, 16, rfl, rfl, hp1, by omega, _, rfl, h, d.CH, dh1, _, _, rfl, hH1, T.ch, T.hOutside, hf_outside _ _, rfl, _, rfl, ite2 (fun hf => ?_) (fun hf => ?_)⟩
    · have hf : Kg09.long p 16 ≠ s.outside := fun q => by
        rw [q, decide_eq_true rfl] at hf
        cases hf
      rw [comes_other hw hk h8 hf] at k
      exact k H1 (l1 :: fp) same1 gr1 st1 hp1
    have hf : Kg09.long p 16 = s.outside := by
      refine Classical.byContradiction fun q => hf ?_
      rw [decide_eq_false (fun y => q (by have := V.int.inj y; omega))]
      rfl
    refine ⟨_, rfl, pk, p, rfl, hp1, by omega, ?_⟩
    rw [eport]
    refine ⟨_, rfl, h, dh1, _, rfl, hH1, hf_no _ _ (by decide +kernel) (by decide +kernel), _, rfl, pk, _, _, _, rfl, rfl, SqL.of hp1, bv_at (j := 9) rfl (by omega), _, rfl, _, rfl, pk, _, p, Kg09.head p + Kg09.portAt kd false, rfl, rfl, hp1, hpor, h, _, _, l1, ps1, s.outside, rfl, A1, fun q hq m1 m2 => ?_, fun hno => ?_⟩
    · obtain ⟨j, hj⟩ := List.getElem?_of_mem hq
      obtain ⟨dx, eq⟩ := A1.at_ q hq
      have k1 : q.2.kind = kd := protoN_inj (by omega)
      have k2 : q.2.outside = Kg09.word p (Kg09.head p + Kg09.portAt kd false) := by omega
      have hi := R1.at_some (pbs_mem hq)
      rw [k1, k2] at hi
      rw [comes_found hw hk h8 hf hi] at k
      have fq := R1.fit _ (pbs_mem hq)
      have nqp := npq1 q hq
      refine ⟨_, rfl, _, rfl, ite2 (fun hc => absurd (of_decide_eq_true hc) (fun z => nomatch z)) (fun _ => ?_)⟩
      refine ⟨_, rfl, _, rfl, q.1, d.CB, dx, _, rfl, eq, T.cb, T.bUsed, Nat.lt_of_le_of_lt (bf_len q.2) (by decide), ?_⟩
      rw [bf_put q.2 now ez]
      have A2 := A1.used (dx := dx) (b := { q.2 with last := now }) hj
      have R2 := R1.used (pbs_get hj) hn
      have hp2 : (upd H1 q.1 (.ins d.CB dx (bfs { q.2 with last := now }))) pk = some (.lst (bv p)) := by
        rw [upd_ne (fun z => nqp z.symm)]
        exact hp1
      have st2 : ∀ b u, H1 b = some u → b ≠ q.1 → (upd H1 q.1 (.ins d.CB dx (bfs { q.2 with last := now }))) b = some u := fun b u e n => by
        rw [upd_ne n]
        exact e
      have eq2 : (upd H1 q.1 (.ins d.CB dx (bfs { q.2 with last := now }))) q.1 = some (.ins d.CB dx (bfs { q.2 with last := now })) := upd_same
      generalize upd H1 q.1 (.ins d.CB dx (bfs { q.2 with last := now })) = H2 at *
      refine ⟨_, rfl, _, rfl, _, rfl, q.1, d.CB, dx, _, _, rfl, eq2, T.cb, T.bAddress, bf_address _, _, rfl, q.1, d.CB, dx, _, _, rfl, eq2, T.cb, T.bPort, bf_port _, pk, _, _, _, _, p, kd, false, q.2.address, q.2.port, rfl, e16, rfl, rfl, rfl, hp2, S, by omega, fq.adr, fq.por, fun H3 hp3 kp3 => ?_⟩
      have A3 : HsAt d H3 h l1 (ps1.set j (q.1, { q.2 with last := now })) s.outside := A2.keep fun b u e hb => kp3 b u e (by
        rcases hb with z | z | ⟨c, hc, z⟩
        · rw [z]
          exact fun y => nph y.symm
        · rw [z]
          exact fun y => npl1 y.symm
        · rw [z]
          rcases List.mem_or_eq_of_mem_set hc with y | y
          · exact npq1 c y
          · rw [y]
            exact nqp)
      refine k H3 (l1 :: fp) ⟨⟨l1, _, A3, by rw [pbs_set]; exact R2, List.mem_cons.mpr (.inl rfl), fun c hc => ?_⟩, List.mem_cons.mpr (.inr hhf), ho⟩ gr1 (fun b u e n => ?_) hp3
      · rcases List.mem_or_eq_of_mem_set hc with y | y
        · exact List.mem_cons.mpr (.inr (sub1 c y))
        · rw [y]
          exact List.mem_cons.mpr (.inr (sub1 q hq))
      · exact kp3 b u (st2 b u (st1 b u e n) fun z => n (List.mem_cons.mpr (.inr (by rw [z]; exact sub1 q hq)))) fun z => n (List.mem_cons.mpr (.inl z))
    · have hi : (s.forget now).at_ kd (Kg09.word p (Kg09.head p + Kg09.portAt kd false)) = none := R1.at_none fun b hb m => by
        obtain ⟨q, hq, e⟩ := List.mem_map.mp hb
        exact hno q hq (by rw [e, m.1, m.2]; exact ⟨ep.symm, rfl⟩)
      rw [comes_none hw hk h8 hf hi] at k
      refine ⟨_, rfl, _, rfl, ite2 (fun _ => ?_) (fun hc => absurd (decide_eq_true rfl) hc)⟩
      exact k H1 (l1 :: fp) same1 gr1 st1 hp1

theorem ok_find (T : Txt K mg d) : FnOk P w K mg base CX0 2 d.f_find d.g_find ["self", "protocol", "port", "now"] (spFind d) := by
  have G_bout := ok_bout (P := P) (w := w) (base := base) T
  have G_dead := ok_dead (P := P) (w := w) (base := base) T
  refine T.find.fn.ok sc_find (fun vs H Q E h => ?_) (fun cdv A outer s H vs Q E hr h => ?_)
  · obtain ⟨h, z1, z2, z3, l, ps, s, rfl, _⟩ := h
    rfl
  · obtain ⟨h, z1, z2, z3, l, ps, s, rfl, h2, h3, h4, A, R, k⟩ := h
    refine ⟨_, (pss_cons (ps_set (i := 4) sc_find.nd rfl (Or.inl rfl) (pe_meth (pv 0) T.ch T.bout.me G_bout (hr.mono (by decide)) (b_bout T) .nil pass0 (pa_cons (pv 1) (pa_cons (pv 2) pa_nil)))) (pss_cons (ps_if (PW.pt (pw_or (pt_cmp (pc_isN (pv 4))) (pw_or1 (pt_val (pe_meth (pv 4) T.cb T.dead.me G_dead (hr.mono (by decide)) (b_dead T) .nil pass0 (pa_cons (pv 3) pa_nil)))))) (pss_one (ps_ret (pe_lst (pa_cons (pgi T.c_NOT_FOUND) pa_nil)))) pss_nil) (pss_one (ps_ret (pe_lst (pa_cons pe_int (pa_cons (pe_fld (pv 4) rfl) (pa_cons (pe_fld (pv 4) rfl) pa_nil)))))))), ?_⟩
    obtain ⟨dh, hH⟩ := A.hs
    have no : (∀ kd, Kg09.kindOf z1 = some kd → (s.forget z3.toNat).at_ kd z2.toNat = none) → ∀ l', H l' = none → Q (.ref l') (upd H l' (.lst [.int (-1)])) := fun q l' hl' => by
      have k := k l' hl'
      rw [step_find_no q] at k
      exact k
    refine ⟨_, rfl, h, dh, _, rfl, hH, hf_no _ _ (by decide +kernel) (by decide +kernel), _, rfl, _, rfl, h, _, _, l, ps, s.outside, rfl, A, fun q hq m1 m2 => ?_, fun hno => ?_⟩
    · obtain ⟨dx, eq⟩ := A.at_ q hq
      have hb := pbs_mem hq
      have hk : Kg09.kindOf z1 = some q.2.kind := by rw [← m1]; exact kindOf_proto
      have ho : q.2.outside = z2.toNat := by omega
      refine ⟨_, rfl, _, rfl, ite2 (fun hc => absurd (of_decide_eq_true hc) (fun z => nomatch z)) (fun _ => ?_)⟩
      refine ⟨_, rfl, q.1, dx, _, rfl, eq, bf_dead q.2, _, rfl, q.1, _, q.2, z3.toNat, rfl, by omega, ⟨dx, eq⟩, by omega, R.last q hq, _, rfl, ite2 (fun hd => ?_) (fun hd => ?_)⟩
      · refine ⟨(by show 1 ≤ sizeLine; decide), no fun kd e => ?_⟩
        have := R.find_dead hb hd
        rw [hk] at e
        cases e
        rw [← ho]
        exact this
      · have hd : q.2.dead z3.toNat = false := by simpa using hd
        have hf := R.find_found hb hd
        rw [ho] at hf
        refine ⟨_, rfl, q.1, d.CB, dx, _, _, rfl, eq, T.cb, T.bAddress, bf_address _, _, rfl, q.1, d.CB, dx, _, _, rfl, eq, T.cb, T.bPort, bf_port _, (by show 3 ≤ sizeLine; decide), fun l' hl' => ?_⟩
        have k := k l' hl'
        rw [step_find_yes hk hf] at k
        exact k
    · refine ⟨_, rfl, _, rfl, ite2 (fun _ => iteT ?_) (fun hc => absurd (decide_eq_true rfl) hc)⟩
      refine ⟨(by show 1 ≤ sizeLine; decide), no fun kd e => R.find_none fun b hb m => ?_⟩
      obtain ⟨q, hq, eb⟩ := List.mem_map.mp hb
      refine hno q hq ?_
      rw [eb, m.1, m.2]
      exact ⟨(kindOf_some e).symm, by omega⟩

end
end Na
namespace Na
open PySem PySem.Spec PyProof.Rows L2
def zv (l : List Int) : List V := l.map V.int
theorem zv_len (l : List Int) : (zv l).length = l.length := List.length_map ..
theorem zv_at {l pre post : List Int} {z : Int} {j : Nat} {x : Int} (e : l = pre ++ post) (ez : z = ((pre.length + j : Nat) : Int)) (h : post[j]? = some x) : atI (zv l) z = some (V.int x) := by
  refine at_of ez ?_
  unfold zv
  rw [List.getElem?_map, e, List.getElem?_append_right (by omega), show pre.length + j - pre.length = j by omega, h]
  rfl
theorem bv_toB {r : List Int} (h : ∀ z ∈ r, 0 ≤ z ∧ z < 256) : bv (toB r) = zv r := by
  have e := congrArg zv (ofB_toB h)
  unfold zv Kg09Neutral.ofBytes at e
  rw [List.map_map] at e
  exact e
theorem bv_ofB (p : Kg09.Bytes) : bv p = zv (Kg09Neutral.ofBytes p) := by
  unfold bv zv Kg09Neutral.ofBytes
  rw [List.map_map]
  rfl
theorem cut_mid {pre mid post : List Int} {l : List Int} {a b : Int} (e : l = pre ++ (mid ++ post)) (ea : a = (pre.length : Int)) (eb : b = ((pre.length + mid.length : Nat) : Int)) : cutV (zv l) (some a) (some b) = zv mid := by
  unfold cutV
  rw [ea, eb, HT.sIx_nat, HT.sIx_nat, zv_len, e]
  have h1 : min pre.length (pre ++ (mid ++ post)).length = pre.length := by
    rw [List.length_append]
    omega
  have h2 : min (pre.length + mid.length) (pre ++ (mid ++ post)).length = pre.length + mid.length := by
    rw [List.length_append, List.length_append]
    omega
  rw [h1, h2]
  unfold zv
  rw [List.map_append, List.map_append, List.drop_left' (by rw [List.length_map]), show pre.length + mid.length - pre.length = mid.length by omega, List.take_left' (by rw [List.length_map])]
theorem cut_three {x y z : Int} {r : List Int} : cutV (zv (x :: y :: z :: r)) (some 3) none = zv r := by
  unfold cutV
  rw [show (some (3 : Int)) = some ((3 : Nat) : Int) from rfl, HT.sIx_nat, HT.sIx_none]
  have h1 : min 3 (zv (x :: y :: z :: r)).length = 3 := by
    rw [zv_len]
    simp
  rw [h1, zv_len]
  show (zv r).take (r.length + 1 + 1 + 1 - 3) = zv r
  rw [show r.length + 1 + 1 + 1 - 3 = (zv r).length by rw [zv_len]; omega, List.take_length]
def spCsiz (K : PySem.W.Frag) : Sp := fun vs H Q _ => ∃ (a : Addr) (z : Int) (ns pre rest : List Int) (c : List (List Int)), vs = [.ref a, .int z] ∧ z = (pre.length : Int) ∧ SqL K H a (zv ns) ∧ ns = pre ++ (PyFlat.put1 c ++ rest) ∧ Five c ∧ Q (.int ((PyFlat.put1 c).length : Int)) H
def spAone (d : Ad) : Sp := fun vs H Q _ => ∃ (h cl : Addr) (c : List (List Int)) (s : Kg09.Abs) (fp : List Addr), vs = [.ref h, .ref cl] ∧ H cl = some (.lst (zv (PyFlat.put1 c))) ∧ Five c ∧ Kg09Neutral.asked1 (PyKg09.whole c) = true ∧ House d H h fp s ∧
  ∀ (H' : Hp) (fp' : List Addr) (l : Addr), House d H' h fp' (Kg09Neutral.step s (PyKg09.whole c)).1 → Grow fp fp' H → Stay fp H H' → H' l = some (.lst (zv (Kg09Neutral.step s (PyKg09.whole c)).2)) → (∀ b o, H b = some o → ¬ b ∈ fp → b ≠ l) → Q (.ref l) H'
def spAnsw (K : PySem.W.Frag) : Sp := fun vs H Q _ => ∃ (a : Addr) (ns : List Int), vs = [.ref a] ∧ SqL K H a (zv ns) ∧ ns.length ≤ 30000 ∧ PyKg09.answers_asked ns = true ∧ ∀ (H' : Hp) (p : Addr), H' p = some (.lst (zv (PyKg09.answers ns))) → Q (.ref p) H'
theorem House.same {d : Ad} {H H' : Hp} {h : Addr} {fp : List Addr} {s : Kg09.Abs} (A : House d H h fp s) (k : Same H H') : House d H' h fp s := by
  obtain ⟨⟨l, ps, a, r, m1, m2⟩, b, c⟩ := A
  exact ⟨⟨l, ps, a.same k, r, m1, m2⟩, b, c⟩
theorem same_new {H : Hp} {l : Addr} {o : HO} (h : H l = none) : Same H (upd H l o) := fun b u e => by
  rw [upd_ne (ne_of_none e h)]
  exact e
section
variable {P : Program} {w : World} {K : PySem.W.Frag} {mg : Str → Option Value} {base : Heap} {d : Ad}

theorem ok_csiz (T : Txt K mg d) : FnOk P w K mg base CX0 1 d.f_csiz d.g_csiz ["calls", "start"] (spCsiz K) := by
  refine T.csiz.fn.ok sc_csiz (fun vs H Q E h => ?_) (fun cdv A outer s H vs Q E hr h => ?_)
  · obtain ⟨a, z, ns, pre, rest, c, rfl, _⟩ := h
    rfl
  · obtain ⟨a, z, ns, pre, rest, c, rfl, ez, hS, e, hc5, k⟩ := h
    refine ⟨_, (pss_cons (ps_set (i := 2) sc_csiz.nd rfl (Or.inl rfl) (pe_ix ix_tup (pe_glob (v := .ref d.sizes) rfl T.sizes rfl) (pe_ix ix_list (pv 0) (pv 1) (fun _ _ => rfl)) (fun _ _ => rfl))) (pss_cons (ps_if (PW.pt (pw_or (pt_cmpR op_eq (pe_ix ix_list (pv 0) (pv 1) (fun _ _ => rfl)) (pgi T.c_OUT) (nomark _)) (pw_or1 (pt_cmpR op_eq (pe_ix ix_list (pv 0) (pv 1) (fun _ _ => rfl)) (pgi T.c_COME_IN) (nomark _))))) (pss_one (ps_ret (pe_op op_add (pv 2) (pe_ix ix_list (pv 0) (pe_op op_add (pv 1) pe_int) (fun _ _ => rfl))))) pss_nil) (pss_one (ps_ret (pv 2))))), ?_⟩
    cases hc5 with
    | begin o =>
      have at0 : atI (zv ns) z = some (V.int 0) := zv_at (j := 0) e ez rfl
      refine ⟨_, rfl, _, rfl, a, _, _, _, rfl, rfl, hS, at0, d.sizes, _, _, _, rfl, rfl, T.sizesT H, at_of (j := 0) rfl rfl, ?_⟩
      refine ⟨_, rfl, _, rfl, a, _, _, _, rfl, rfl, hS, at0, rfl, _, rfl, ite2 (fun hc => absurd (of_decide_eq_true hc) (show ¬ V.int 0 = V.int 1 by decide)) (fun _ => ?_)⟩
      refine ⟨_, rfl, _, rfl, a, _, _, _, rfl, rfl, hS, at0, rfl, _, rfl, ite2 (fun hc => absurd (of_decide_eq_true hc) (show ¬ V.int 0 = V.int 2 by decide)) (fun _ => ?_)⟩
      exact ⟨_, rfl, k⟩
    | out t r =>
      have at0 : atI (zv ns) z = some (V.int 1) := zv_at (j := 0) e ez rfl
      refine ⟨_, rfl, _, rfl, a, _, _, _, rfl, rfl, hS, at0, d.sizes, _, _, _, rfl, rfl, T.sizesT H, at_of (j := 1) rfl rfl, ?_⟩
      refine ⟨_, rfl, _, rfl, a, _, _, _, rfl, rfl, hS, at0, rfl, _, rfl, ite2 (fun _ => iteT ?_) (fun hc => absurd (decide_eq_true rfl) hc)⟩
      refine ⟨_, rfl, _, rfl, _, rfl, _, _, rfl, rfl, a, _, _, _, rfl, rfl, hS, zv_at (j := 2) e (by omega) rfl, _, _, rfl, rfl, ?_⟩
      refine q_int k ?_
      show (3 : Int) + (r.length : Int) = (([1, t] ++ (PyFlat.putRow r ++ [])).length : Int)
      unfold PyFlat.putRow
      simp
      omega
    | come t r =>
      have at0 : atI (zv ns) z = some (V.int 2) := zv_at (j := 0) e ez rfl
      refine ⟨_, rfl, _, rfl, a, _, _, _, rfl, rfl, hS, at0, d.sizes, _, _, _, rfl, rfl, T.sizesT H, at_of (j := 2) rfl rfl, ?_⟩
      refine ⟨_, rfl, _, rfl, a, _, _, _, rfl, rfl, hS, at0, rfl, _, rfl, ite2 (fun hc => absurd (of_decide_eq_true hc) (show ¬ V.int 2 = V.int 1 by decide)) (fun _ => ?_)⟩
      refine ⟨_, rfl, _, rfl, a, _, _, _, rfl, rfl, hS, at0, rfl, _, rfl, ite2 (fun _ => ?_) (fun hc => absurd (decide_eq_true rfl) hc)⟩
      refine ⟨_, rfl, _, rfl, _, rfl, _, _, rfl, rfl, a, _, _, _, rfl, rfl, hS, zv_at (j := 2) e (by omega) rfl, _, _, rfl, rfl, ?_⟩
      refine q_int k ?_
      show (3 : Int) + (r.length : Int) = (([2, t] ++ (PyFlat.putRow r ++ [])).length : Int)
      unfold PyFlat.putRow
      simp
      omega
    | count t =>
      have at0 : atI (zv ns) z = some (V.int 3) := zv_at (j := 0) e ez rfl
      refine ⟨_, rfl, _, rfl, a, _, _, _, rfl, rfl, hS, at0, d.sizes, _, _, _, rfl, rfl, T.sizesT H, at_of (j := 3) rfl rfl, ?_⟩
      refine ⟨_, rfl, _, rfl, a, _, _, _, rfl, rfl, hS, at0, rfl, _, rfl, ite2 (fun hc => absurd (of_decide_eq_true hc) (show ¬ V.int 3 = V.int 1 by decide)) (fun _ => ?_)⟩
      refine ⟨_, rfl, _, rfl, a, _, _, _, rfl, rfl, hS, at0, rfl, _, rfl, ite2 (fun hc => absurd (of_decide_eq_true hc) (show ¬ V.int 3 = V.int 2 by decide)) (fun _ => ?_)⟩
      exact ⟨_, rfl, k⟩
    | find x y y' =>
      have at0 : atI (zv ns) z = some (V.int 4) := zv_at (j := 0) e ez rfl
      refine ⟨_, rfl, _, rfl, a, _, _, _, rfl, rfl, hS, at0, d.sizes, _, _, _, rfl, rfl, T.sizesT H, at_of (j := 4) rfl rfl, ?_⟩
      refine ⟨_, rfl, _, rfl, a, _, _, _, rfl, rfl, hS, at0, rfl, _, rfl, ite2 (fun hc => absurd (of_decide_eq_true hc) (show ¬ V.int 4 = V.int 1 by decide)) (fun _ => ?_)⟩
      refine ⟨_, rfl, _, rfl, a, _, _, _, rfl, rfl, hS, at0, rfl, _, rfl, ite2 (fun hc => absurd (of_decide_eq_true hc) (show ¬ V.int 4 = V.int 2 by decide)) (fun _ => ?_)⟩
      exact ⟨_, rfl, k⟩

theorem nil_house {d : Ad} {H : Hp} {h l dh : Addr} {o : Nat} {fp : List Addr} (ho : o < 4294967296) (e1 : H h = some (.ins d.CH dh (hfs o l))) (e2 : H l = some (.lst [])) (m1 : h ∈ fp) (m2 : l ∈ fp) : House d H h fp (Kg09.init o) :=
  ⟨⟨l, [], ⟨⟨dh, e1⟩, e2, List.nodup_nil, fun _ hq => (nomatch hq), fun _ hq => (nomatch hq)⟩, ⟨List.Perm.refl _, List.Pairwise.nil, fun _ hb => (nomatch hb), Nat.zero_le _⟩, m2, fun _ hq => (nomatch hq)⟩, m1, ho⟩

theorem House.wider {d : Ad} {H : Hp} {h : Addr} {fp : List Addr} {s : Kg09.Abs} (A : House d H h fp s) (x : Addr) : House d H h (x :: fp) s := by
  obtain ⟨⟨l, ps, a, r, m1, m2⟩, b, c⟩ := A
  exact ⟨⟨l, ps, a, r, List.mem_cons.mpr (.inr m1), fun q hq => List.mem_cons.mpr (.inr (m2 q hq))⟩, List.mem_cons.mpr (.inr b), c⟩

theorem ok_aone (T : Txt K mg d) : FnOk P w K mg base CX0 6 d.f_aone d.g_aone ["house", "call"] (spAone d) := by
  have G_begi := ok_begi (P := P) (w := w) (base := base) T
  have G_coun := ok_coun (P := P) (w := w) (base := base) T
  have G_find := ok_find (P := P) (w := w) (base := base) T
  have G_hout := ok_hout (P := P) (w := w) (base := base) T
  have G_come := ok_come (P := P) (w := w) (base := base) T
  refine T.aone.fn.ok sc_aone (fun vs H Q E h => ?_) (fun cdv A outer s H vs Q E hr h => ?_)
  · obtain ⟨h, cl, c, s, fp, rfl, _⟩ := h
    rfl
  · obtain ⟨h, cl, c, s, fp, rfl, hcl, hc5, ha, HO, k⟩ := h
    refine ⟨_, (pss_cons (ps_if (pt_cmpR op_eq (pe_ix ix_list (pv 1) pe_int (fun _ _ => rfl)) (pgi T.c_BEGIN) (nomark _)) (pss_one (ps_ret (pe_lst (pa_cons (pe_meth (pv 0) T.ch T.begi.me G_begi (hr.mono (by decide)) (b_begi T) .nil pass0 (pa_cons (pe_ix ix_list (pv 1) pe_int (fun _ _ => rfl)) pa_nil)) pa_nil)))) pss_nil) (pss_cons (ps_if (pt_cmpR op_eq (pe_ix ix_list (pv 1) pe_int (fun _ _ => rfl)) (pgi T.c_COUNT) (nomark _)) (pss_one (ps_ret (pe_lst (pa_cons (pe_meth (pv 0) T.ch T.coun.me G_coun (hr.mono (by decide)) (b_coun T) .nil pass0 (pa_cons (pe_ix ix_list (pv 1) pe_int (fun _ _ => rfl)) pa_nil)) pa_nil)))) pss_nil) (pss_cons (ps_if (pt_cmpR op_eq (pe_ix ix_list (pv 1) pe_int (fun _ _ => rfl)) (pgi T.c_FIND) (nomark _)) (pss_one (ps_ret (pe_meth (pv 0) T.ch T.find.me G_find (hr.mono (by decide)) (b_find T) .nil pass0 (pa_cons (pe_ix ix_list (pv 1) pe_int (fun _ _ => rfl)) (pa_cons (pe_ix ix_list (pv 1) pe_int (fun _ _ => rfl)) (pa_cons (pe_ix ix_list (pv 1) pe_int (fun _ _ => rfl)) pa_nil)))))) pss_nil) (pss_cons (ps_set (i := 2) sc_aone.nd rfl (Or.inl rfl) (pe_slice sl_list (pv 1) (po_some (pe_ix ix_tup (pe_glob (v := .ref d.sizes) rfl T.sizes rfl) (pgi T.c_OUT) (fun _ _ => rfl))) po_none)) (pss_cons (ps_if (pt_cmpR op_eq (pe_ix ix_list (pv 1) pe_int (fun _ _ => rfl)) (pgi T.c_OUT) (nomark _)) (pss_one (ps_set (i := 3) sc_aone.nd rfl (Or.inl rfl) (pe_meth (pv 0) T.ch T.hout.me G_hout (hr.mono (by decide)) (b_hout T) .nil pass0 (pa_cons (pv 2) (pa_cons (pe_ix ix_list (pv 1) pe_int (fun _ _ => rfl)) pa_nil))))) (pss_one (ps_set (i := 3) sc_aone.nd rfl (Or.inl rfl) (pe_meth (pv 0) T.ch T.come.me G_come (hr.mono (by decide)) (b_come T) .nil pass0 (pa_cons (pv 2) (pa_cons (pe_ix ix_list (pv 1) pe_int (fun _ _ => rfl)) pa_nil)))))) (pss_one (ps_ret (pe_op op_cat (pe_lst (pa_cons (pv 3) pa_nil)) (pv 2))))))))), ?_⟩
    cases hc5 with
    | begin o =>
      obtain ⟨o0, o1⟩ := asked_begin ha
      rw [step_begin] at k
      obtain ⟨⟨l, ps, A, R, hlf, hqf⟩, hhf, ho⟩ := HO
      obtain ⟨dh, hH⟩ := A.hs
      refine ⟨_, rfl, cl, _, _, _, rfl, rfl, SqL.of hcl, at_of (j := 0) rfl rfl, rfl, _, rfl, ite2 (fun _ => ?_) (fun hc => absurd (decide_eq_true rfl) hc)⟩
      refine ⟨_, rfl, h, dh, _, rfl, hH, hf_no _ _ (by decide +kernel) (by decide +kernel), _, rfl, cl, _, _, _, rfl, rfl, SqL.of hcl, at_of (j := 1) rfl rfl, h, _, dh, l, s.outside, o.toNat, rfl, by omega, hH, fun H1 l1 hl1 e1 e2 kp1 => ?_⟩
      refine ⟨(by show 1 ≤ sizeLine; decide), fun r hr => ?_⟩
      have sm := same_new (o := .lst [V.int 0]) hr
      have st : ∀ b o, H b = some o → ¬ b ∈ fp → H1 b = some o := fun b o e n => kp1 b o e fun y => n (by rw [y]; exact hhf)
      refine k _ (l1 :: fp) r (nil_house (by omega) (sm _ _ e1) (sm _ _ e2) (List.mem_cons.mpr (.inr hhf)) (List.mem_cons.mpr (.inl rfl))) (fun b hb => ?_) (fun b o e n => sm _ _ (st b o e n)) upd_same (fun b o e n => ne_of_none (st b o e n) hr)
      rcases List.mem_cons.mp hb with y | y
      · exact .inr (by rw [y]; exact hl1)
      · exact .inl y
    | out t r =>
      have P := asked_out ha
      obtain ⟨t0, t1, pb, pl⟩ := P
      rw [step_out] at k
      refine ⟨_, rfl, cl, _, _, _, rfl, rfl, SqL.of hcl, at_of (j := 0) rfl rfl, rfl, _, rfl, ite2 (fun hc => absurd (of_decide_eq_true hc) (show ¬ V.int 1 = V.int 0 by decide)) (fun _ => ?_)⟩
      refine ⟨_, rfl, cl, _, _, _, rfl, rfl, SqL.of hcl, at_of (j := 0) rfl rfl, rfl, _, rfl, ite2 (fun hc => absurd (of_decide_eq_true hc) (show ¬ V.int 1 = V.int 3 by decide)) (fun _ => ?_)⟩
      refine ⟨_, rfl, cl, _, _, _, rfl, rfl, SqL.of hcl, at_of (j := 0) rfl rfl, rfl, _, rfl, ite2 (fun hc => absurd (of_decide_eq_true hc) (show ¬ V.int 1 = V.int 4 by decide)) (fun _ => ?_)⟩
      obtain ⟨⟨l, ps, A, R, hlf, hqf⟩, hhf, ho⟩ := HO
      refine ⟨_, rfl, d.sizes, _, _, _, rfl, rfl, T.sizesT H, at_of (j := 1) rfl rfl, _, rfl, cl, _, rfl, SqL.of hcl, fun pk hpk => ?_⟩
      have ecut : cutV (zv (PyFlat.put1 [[1, t], r])) (some 3) none = bv (toB r) := by
        rw [bv_toB pb]
        have e : PyFlat.put1 [[1, t], r] = 1 :: t :: (r.length : Int) :: r := congrArg (fun y => 1 :: t :: (r.length : Int) :: y) (List.append_nil r)
        rw [e]
        exact cut_three
      rw [ecut]
      have sm1 : Same H (upd H pk (.lst (bv (toB r)))) := same_new hpk
      have hpk1 : (upd H pk (.lst (bv (toB r)))) pk = some (.lst (bv (toB r))) := upd_same
      have hcl1 := sm1 _ _ hcl
      generalize upd H pk (.lst (bv (toB r))) = H1 at *
      have HO1 : House d H1 h (fp.filter fun b => decide (b ≠ pk)) s := by
        have ne : ∀ b u, H b = some u → b ≠ pk := fun b u e => ne_of_none e hpk
        have mm : ∀ b u, b ∈ fp → H b = some u → b ∈ fp.filter fun b => decide (b ≠ pk) := fun b u m e => List.mem_filter.mpr ⟨m, decide_eq_true (ne b u e)⟩
        obtain ⟨dh, hH⟩ := A.hs
        refine ⟨⟨l, ps, A.same sm1, R, mm _ _ hlf A.lst, fun q hq => ?_⟩, mm _ _ hhf hH, ho⟩
        obtain ⟨dq, eq⟩ := A.at_ q hq
        exact mm _ _ (hqf q hq) eq
      have hpk2 : ¬ pk ∈ fp.filter fun b => decide (b ≠ pk) := fun m => by
        have := (List.mem_filter.mp m).2
        exact of_decide_eq_true this rfl
      have sub2 : ∀ b, b ∈ fp.filter (fun b => decide (b ≠ pk)) → b ∈ fp := fun b m => (List.mem_filter.mp m).1
      generalize (fp.filter fun b => decide (b ≠ pk)) = fp1 at *
      have hH1 : ∃ dh o l, H1 h = some (.ins d.CH dh (hfs o l)) := by
        obtain ⟨⟨l, ps, A, _⟩, _⟩ := HO1
        obtain ⟨dh, e⟩ := A.hs
        exact ⟨dh, _, _, e⟩
      obtain ⟨dh1, o1, l1, hH1⟩ := hH1
      refine ⟨_, rfl, cl, _, _, _, rfl, rfl, SqL.of hcl1, at_of (j := 0) rfl rfl, rfl, _, rfl, ite2 (fun _ => ?_) (fun hc => absurd (decide_eq_true rfl) hc)⟩
      refine ⟨_, rfl, h, dh1, _, rfl, hH1, hf_no _ _ (by decide +kernel) (by decide +kernel), _, rfl, _, rfl, cl, _, _, _, rfl, rfl, SqL.of hcl1, at_of (j := 1) rfl rfl, h, pk, _, toB r, t.toNat, s, fp1, rfl, by omega, by omega, HO1, hpk1, hpk2, by rw [toB_len]; exact pl, fun H2 fp2 HO2 gr2 st2 hp2 => ?_⟩
      refine ⟨_, rfl, (by show 1 ≤ sizeLine; decide), fun r1 hr1 => ?_⟩
      have sm3 : Same H2 (upd H2 r1 (.lst [V.int (s.out (toB r) t.toNat).2.code])) := same_new hr1
      have hp3 := sm3 _ _ hp2
      have hr3 : (upd H2 r1 (.lst [V.int (s.out (toB r) t.toNat).2.code])) r1 = some (.lst [V.int (s.out (toB r) t.toNat).2.code]) := upd_same
      generalize upd H2 r1 (.lst [V.int (s.out (toB r) t.toNat).2.code]) = H3 at *
      refine ⟨_, rfl, r1, pk, _, _, rfl, rfl, hr3, hp3, ?_, fun r2 hr2 => ?_⟩
      · rw [bv_len, out_len, toB_len]
        show 1 + r.length ≤ 2 ^ 24
        omega
      have sm4 := same_new (o := .lst ([V.int (s.out (toB r) t.toNat).2.code] ++ bv (s.out (toB r) t.toNat).2.packet)) hr2
      have st4 : ∀ b o, H b = some o → ¬ b ∈ fp → H3 b = some o := fun b o e n => sm3 _ _ (st2 _ _ (sm1 _ _ e) fun m => by
        rcases List.mem_cons.mp m with y | y
        · exact ne_of_none e hpk y
        · exact n (sub2 b y))
      refine k _ (pk :: fp2) r2 ((HO2.same (sm3.trans sm4)).wider pk) (fun b hb => ?_) (fun b o e n => sm4 _ _ (st4 b o e n)) ?_ (fun b o e n => ne_of_none (st4 b o e n) hr2)
      · rcases List.mem_cons.mp hb with y | y
        · exact .inr (by rw [y]; exact hpk)
        · rcases gr2 b y with z | z
          · exact .inl (sub2 b z)
          · exact .inr (sm1.free z)
      · rw [upd_same, bv_ofB]
        rfl
    | come t r =>
      have P := asked_come ha
      obtain ⟨t0, t1, pb, pl⟩ := P
      rw [step_come] at k
      refine ⟨_, rfl, cl, _, _, _, rfl, rfl, SqL.of hcl, at_of (j := 0) rfl rfl, rfl, _, rfl, ite2 (fun hc => absurd (of_decide_eq_true hc) (show ¬ V.int 2 = V.int 0 by decide)) (fun _ => ?_)⟩
      refine ⟨_, rfl, cl, _, _, _, rfl, rfl, SqL.of hcl, at_of (j := 0) rfl rfl, rfl, _, rfl, ite2 (fun hc => absurd (of_decide_eq_true hc) (show ¬ V.int 2 = V.int 3 by decide)) (fun _ => ?_)⟩
      refine ⟨_, rfl, cl, _, _, _, rfl, rfl, SqL.of hcl, at_of (j := 0) rfl rfl, rfl, _, rfl, ite2 (fun hc => absurd (of_decide_eq_true hc) (show ¬ V.int 2 = V.int 4 by decide)) (fun _ => ?_)⟩
      obtain ⟨⟨l, ps, A, R, hlf, hqf⟩, hhf, ho⟩ := HO
      refine ⟨_, rfl, d.sizes, _, _, _, rfl, rfl, T.sizesT H, at_of (j := 1) rfl rfl, _, rfl, cl, _, rfl, SqL.of hcl, fun pk hpk => ?_⟩
      have ecut : cutV (zv (PyFlat.put1 [[2, t], r])) (some 3) none = bv (toB r) := by
        rw [bv_toB pb]
        have e : PyFlat.put1 [[2, t], r] = 2 :: t :: (r.length : Int) :: r := congrArg (fun y => 2 :: t :: (r.length : Int) :: y) (List.append_nil r)
        rw [e]
        exact cut_three
      rw [ecut]
      have sm1 : Same H (upd H pk (.lst (bv (toB r)))) := same_new hpk
      have hpk1 : (upd H pk (.lst (bv (toB r)))) pk = some (.lst (bv (toB r))) := upd_same
      have hcl1 := sm1 _ _ hcl
      generalize upd H pk (.lst (bv (toB r))) = H1 at *
      have HO1 : House d H1 h (fp.filter fun b => decide (b ≠ pk)) s := by
        have ne : ∀ b u, H b = some u → b ≠ pk := fun b u e => ne_of_none e hpk
        have mm : ∀ b u, b ∈ fp → H b = some u → b ∈ fp.filter fun b => decide (b ≠ pk) := fun b u m e => List.mem_filter.mpr ⟨m, decide_eq_true (ne b u e)⟩
        obtain ⟨dh, hH⟩ := A.hs
        refine ⟨⟨l, ps, A.same sm1, R, mm _ _ hlf A.lst, fun q hq => ?_⟩, mm _ _ hhf hH, ho⟩
        obtain ⟨dq, eq⟩ := A.at_ q hq
        exact mm _ _ (hqf q hq) eq
      have hpk2 : ¬ pk ∈ fp.filter fun b => decide (b ≠ pk) := fun m => by
        have := (List.mem_filter.mp m).2
        exact of_decide_eq_true this rfl
      have sub2 : ∀ b, b ∈ fp.filter (fun b => decide (b ≠ pk)) → b ∈ fp := fun b m => (List.mem_filter.mp m).1
      generalize (fp.filter fun b => decide (b ≠ pk)) = fp1 at *
      have hH1 : ∃ dh o l, H1 h = some (.ins d.CH dh (hfs o l)) := by
        obtain ⟨⟨l, ps, A, _⟩, _⟩ := HO1
        obtain ⟨dh, e⟩ := A.hs
        exact ⟨dh, _, _, e⟩
      obtain ⟨dh1, o1, l1, hH1⟩ := hH1
      refine ⟨_, rfl, cl, _, _, _, rfl, rfl, SqL.of hcl1, at_of (j := 0) rfl rfl, rfl, _, rfl, ite2 (fun hc => absurd (of_decide_eq_true hc) (show ¬ V.int 2 = V.int 1 by decide)) (fun _ => ?_)⟩
      refine ⟨_, rfl, h, dh1, _, rfl, hH1, hf_no _ _ (by decide +kernel) (by decide +kernel), _, rfl, _, rfl, cl, _, _, _, rfl, rfl, SqL.of hcl1, at_of (j := 1) rfl rfl, h, pk, _, toB r, t.toNat, s, fp1, rfl, by omega, by omega, HO1, hpk1, hpk2, by rw [toB_len]; exact pl, fun H2 fp2 HO2 gr2 st2 hp2 => ?_⟩
      refine ⟨_, rfl, (by show 1 ≤ sizeLine; decide), fun r1 hr1 => ?_⟩
      have sm3 : Same H2 (upd H2 r1 (.lst [V.int (s.comes (toB r) t.toNat).2.code])) := same_new hr1
      have hp3 := sm3 _ _ hp2
      have hr3 : (upd H2 r1 (.lst [V.int (s.comes (toB r) t.toNat).2.code])) r1 = some (.lst [V.int (s.comes (toB r) t.toNat).2.code]) := upd_same
      generalize upd H2 r1 (.lst [V.int (s.comes (toB r) t.toNat).2.code]) = H3 at *
      refine ⟨_, rfl, r1, pk, _, _, rfl, rfl, hr3, hp3, ?_, fun r2 hr2 => ?_⟩
      · rw [bv_len, comes_len, toB_len]
        show 1 + r.length ≤ 2 ^ 24
        omega
      have sm4 := same_new (o := .lst ([V.int (s.comes (toB r) t.toNat).2.code] ++ bv (s.comes (toB r) t.toNat).2.packet)) hr2
      have st4 : ∀ b o, H b = some o → ¬ b ∈ fp → H3 b = some o := fun b o e n => sm3 _ _ (st2 _ _ (sm1 _ _ e) fun m => by
        rcases List.mem_cons.mp m with y | y
        · exact ne_of_none e hpk y
        · exact n (sub2 b y))
      refine k _ (pk :: fp2) r2 ((HO2.same (sm3.trans sm4)).wider pk) (fun b hb => ?_) (fun b o e n => sm4 _ _ (st4 b o e n)) ?_ (fun b o e n => ne_of_none (st4 b o e n) hr2)
      · rcases List.mem_cons.mp hb with y | y
        · exact .inr (by rw [y]; exact hpk)
        · rcases gr2 b y with z | z
          · exact .inl (sub2 b z)
          · exact .inr (sm1.free z)
      · rw [upd_same, bv_ofB]
        rfl
    | count t =>
      obtain ⟨t0, t1⟩ := asked_count ha
      rw [step_count] at k
      have HO' := HO
      obtain ⟨⟨l, ps, A, R, hlf, hqf⟩, hhf, ho⟩ := HO
      obtain ⟨dh, hH⟩ := A.hs
      refine ⟨_, rfl, cl, _, _, _, rfl, rfl, SqL.of hcl, at_of (j := 0) rfl rfl, rfl, _, rfl, ite2 (fun hc => absurd (of_decide_eq_true hc) (show ¬ V.int 3 = V.int 0 by decide)) (fun _ => ?_)⟩
      refine ⟨_, rfl, cl, _, _, _, rfl, rfl, SqL.of hcl, at_of (j := 0) rfl rfl, rfl, _, rfl, ite2 (fun _ => ?_) (fun hc => absurd (decide_eq_true rfl) hc)⟩
      refine ⟨_, rfl, h, dh, _, rfl, hH, hf_no _ _ (by decide +kernel) (by decide +kernel), _, rfl, cl, _, _, _, rfl, rfl, SqL.of hcl, at_of (j := 1) rfl rfl, h, _, l, ps, s.outside, t.toNat, rfl, by omega, A, by omega, R.psl, R.last, fun H1 sm1 => ?_⟩
      refine ⟨(by show 1 ≤ sizeLine; decide), fun r hr => ?_⟩
      have sm := same_new (o := .lst [V.int ((live t.toNat ps).length : Int)]) hr
      have ec : (live t.toNat ps).length = (s.bindings.filter fun b => !b.dead t.toNat).length := by
        rw [R.count, ← live_pbs]
        exact (List.length_map ..).symm
      refine k _ fp r (HO'.same (sm1.trans sm)) (fun b hb => .inl hb) (fun b o e n => sm _ _ (sm1 _ _ e)) ?_ (fun b o e n => ne_of_none (sm1 _ _ e) hr)
      rw [upd_same, ec]
      rfl
    | find x y z =>
      obtain ⟨⟨y0, y1⟩, z0, z1⟩ := asked_find ha
      rw [step_find_st] at k
      have HO' := HO
      obtain ⟨⟨l, ps, A, R, hlf, hqf⟩, hhf, ho⟩ := HO
      obtain ⟨dh, hH⟩ := A.hs
      refine ⟨_, rfl, cl, _, _, _, rfl, rfl, SqL.of hcl, at_of (j := 0) rfl rfl, rfl, _, rfl, ite2 (fun hc => absurd (of_decide_eq_true hc) (show ¬ V.int 4 = V.int 0 by decide)) (fun _ => ?_)⟩
      refine ⟨_, rfl, cl, _, _, _, rfl, rfl, SqL.of hcl, at_of (j := 0) rfl rfl, rfl, _, rfl, ite2 (fun hc => absurd (of_decide_eq_true hc) (show ¬ V.int 4 = V.int 3 by decide)) (fun _ => ?_)⟩
      refine ⟨_, rfl, cl, _, _, _, rfl, rfl, SqL.of hcl, at_of (j := 0) rfl rfl, rfl, _, rfl, ite2 (fun _ => ?_) (fun hc => absurd (decide_eq_true rfl) hc)⟩
      refine ⟨_, rfl, h, dh, _, rfl, hH, hf_no _ _ (by decide +kernel) (by decide +kernel), _, rfl, cl, _, _, _, rfl, rfl, SqL.of hcl, at_of (j := 1) rfl rfl, _, rfl, cl, _, _, _, rfl, rfl, SqL.of hcl, at_of (j := 2) rfl rfl, _, rfl, cl, _, _, _, rfl, rfl, SqL.of hcl, at_of (j := 3) rfl rfl, h, _, _, _, l, ps, s, rfl, y0, z0, z1, A, R, fun r hr => ?_⟩
      exact k _ fp r (HO'.same (same_new hr)) (fun b hb => .inl hb) (fun b o e n => same_new hr _ _ e) upd_same (fun b o e n => ne_of_none e hr)

theorem ok_answ (T : Txt K mg d) : FnOk P w K mg base CX0 7 d.f_answ d.g_answ ["calls"] (spAnsw K) := by
  have G_hini := ok_hini (P := P) (w := w) (base := base) T
  have G_csiz := ok_csiz (P := P) (w := w) (base := base) T
  have G_aone := ok_aone (P := P) (w := w) (base := base) T
  refine T.answ.fn.ok sc_answ (fun vs H Q E h => ?_) (fun cdv A outer s H vs Q E hr h => ?_)
  · obtain ⟨a, ns, rfl, _⟩ := h
    rfl
  · obtain ⟨a, ns, rfl, hS, hlen, hask, k⟩ := h
    refine ⟨_, (pss_cons (ps_set (i := 1) sc_answ.nd rfl (Or.inl rfl) (pe_make0 T.mkH G_hini (hr.mono (by decide)) rfl T.mgH (b_hini T) .nil pass0)) (pss_cons (ps_set (i := 2) sc_answ.nd rfl (Or.inl rfl) (pe_lst pa_nil)) (pss_cons (ps_set (i := 3) sc_answ.nd rfl (Or.inl rfl) pe_int) (pss_cons (ps_while PassesOwn.never (pt_cmpR op_lt (pv 3) (pe_callB call_len_seq (by rfl) T.len PySem.boot_len (pa_cons (pv 0) pa_nil)) (nomark _)) (pss_cons (ps_set (i := 4) sc_answ.nd rfl (Or.inl rfl) (pe_op op_add (pv 3) (pe_call G_csiz (hr.mono (by decide)) rfl T.csiz.at_ T.csiz.fn.kp (b_csiz T) .nil pass0 (pa_cons (pv 0) (pa_cons (pv 3) pa_nil))))) (pss_cons (ps_set (i := 5) sc_answ.nd rfl (Or.inl rfl) (pe_call G_aone (hr.mono (by decide)) rfl T.aone.at_ T.aone.fn.kp (b_aone T) .nil pass0 (pa_cons (pv 1) (pa_cons (pe_slice sl_list (pv 0) (po_some (pv 3)) (po_some (pv 4))) pa_nil)))) (pss_cons (ps_expr (pe_bm PySem.F.plainAttrs_list PySem.F.slot_list_append PySem.F.type_list_append mt_append (pv 2) (pa_cons (pe_callB call_len_seq (by rfl) T.len PySem.boot_len (pa_cons (pv 5) pa_nil)) pa_nil))) (pss_cons (ps_expr (pe_bm PySem.F.plainAttrs_list PySem.F.slot_list_extend PySem.F.type_list_extend mt_extend (pv 2) (pa_cons (pv 5) pa_nil))) (pss_one (ps_set (i := 3) sc_answ.nd rfl (Or.inl rfl) (pv 4)))))))) (pss_one (ps_ret (pv 2))))))), ?_⟩
    obtain ⟨rest0, L0⟩ := left_start hask
    refine fun x dx nx ndx ndxx => ⟨x, dx, rfl, upd_same, fun H1 l hl e1 e2 kp1 => ⟨rfl, ?_⟩⟩
    have sm1 : Same H H1 := Same.made nx ndx kp1
    have hlx : l ≠ x := fun y => by
      rw [y, upd_same] at hl
      cases hl
    have hl0 : H l = none := by
      rw [upd_ne hlx] at hl
      cases e : H l with
      | none => rfl
      | some u =>
        rw [upd_ne (ne_of_none e ndx), e] at hl
        cases hl
    refine ⟨Nat.zero_le _, fun q hq => ?_⟩
    have sm2 : Same H1 (upd H1 q (.lst [])) := same_new hq
    have hq2 : (upd H1 q (.lst [])) q = some (.lst []) := upd_same
    have nqx : q ≠ x := fun y => ne_of_none e1 hq y.symm
    have nql : q ≠ l := fun y => ne_of_none e2 hq y.symm
    have HO2 : House d (upd H1 q (.lst [])) x [x, l] Kg09Neutral.start := nil_house (by decide) (sm2 _ _ e1) (sm2 _ _ e2) (List.mem_cons.mpr (.inl rfl)) (List.mem_cons.mpr (.inr (List.mem_cons.mpr (.inl rfl))))
    have sm02 := sm1.trans sm2
    have hq0 : H q = none := sm1.free hq
    generalize upd H1 q (.lst []) = H2 at *
    refine while_by (fun σ H' => ∃ (pre out : List Int) (rest : List (List (List Int))) (s : Kg09.Abs) (fp : List Addr) (v4 v5 : Option V), σ = [some (.ref a), some (.ref x), some (.ref q), some (.int (pre.length : Int)), v4, v5] ∧ Left ns pre rest s out ∧ House d H' x fp s ∧ Same H H' ∧ (∀ b ∈ fp, H b = none) ∧ H' q = some (.lst (zv out)) ∧ ¬ q ∈ fp) (fun σ _ => match σ with | [_, _, _, some (.int z), _, _] => ns.length - z.toNat | _ => 0) ?_ ?_ ?_
    · refine ⟨[], [], rest0, _, [x, l], none, none, rfl, L0, HO2, sm02, fun b hb => ?_, hq2, fun m => ?_⟩
      · rcases List.mem_cons.mp hb with y | y
        · rw [y]
          exact nx
        · rw [List.mem_singleton.mp y]
          exact hl0
      · rcases List.mem_cons.mp m with y | y
        · exact nqx y
        · exact nql (List.mem_singleton.mp y)
    · rintro σ H' ⟨pre, out, rest, s, fp, v4, v5, rfl, L, HO, sm, hfp, hq', hqf⟩
      have hS' := sm.seq hS
      have hlq := congrArg List.length L.eq
      rw [List.length_append] at hlq
      refine ⟨_, rfl, _, rfl, a, _, rfl, .inl hS', _, _, rfl, rfl, _, rfl, ite2 (fun hc => ?_) (fun hc => ?_)⟩
      · have hc : ((pre.length : Nat) : Int) < ((zv ns).length : Int) := of_decide_eq_true hc
        rw [zv_len] at hc
        cases rest with
        | nil =>
          exfalso
          have : (PyFlat.put ([] : List (List (List Int)))).length = 0 := rfl
          omega
        | cons c rest =>
          obtain ⟨hc5, hask1⟩ := L.ok c (List.mem_cons.mpr (.inl rfl))
          have h2 := put1_len hc5
          have eL : ns = pre ++ (PyFlat.put1 c ++ PyFlat.put rest) := L.eq
          have L9 := left_step L
          have hl2 := L9.len
          have he2 := congrArg List.length L9.eq
          rw [List.length_append] at he2
          rw [List.length_append, List.length_append, List.length_cons] at hl2
          rw [List.length_append] at he2
          refine ⟨_, rfl, _, rfl, _, rfl, a, _, ns, pre, PyFlat.put rest, c, rfl, rfl, hS', eL, hc5, _, _, rfl, rfl, ?_⟩
          refine ⟨_, rfl, _, rfl, _, rfl, _, rfl, _, rfl, _, rfl, a, _, rfl, hS', fun cl hcl => ?_⟩
          rw [cut_mid eL rfl (by omega)]
          have sm3 : Same H' (upd H' cl (.lst (zv (PyFlat.put1 c)))) := same_new hcl
          have hcl3 : (upd H' cl (.lst (zv (PyFlat.put1 c)))) cl = some (.lst (zv (PyFlat.put1 c))) := upd_same
          generalize upd H' cl (.lst (zv (PyFlat.put1 c))) = H3 at *
          refine ⟨x, cl, c, s, fp, rfl, hcl3, hc5, hask1, HO.same sm3, fun H4 fp4 an HO4 gr4 st4 e4 ne4 => ?_⟩
          have hq3 := sm3 _ _ hq'
          have hq4 := st4 _ _ hq3 hqf
          have nqan := ne4 _ _ hq3 hqf
          have hqf4 : ¬ q ∈ fp4 := fun m => by
            rcases gr4 q m with y | y
            · exact hqf y
            · exact ne_of_none hq3 y rfl
          generalize hst : Kg09Neutral.step s (PyKg09.whole c) = st at *
          have sm4 : Same H H4 := fun b o e => st4 b o (sm3 _ _ (sm _ _ e)) fun m => by
            rw [hfp b m] at e
            cases e
          have hfp4 : ∀ b ∈ fp4, H b = none := fun b m => by
            rcases gr4 b m with y | y
            · exact hfp b y
            · exact (sm.trans sm3).free y
          refine ⟨_, rfl, .inl ⟨rfl, _, SqL.of hq4⟩, _, rfl, an, _, rfl, .inl (SqL.of e4), q, _, _, rfl, rfl, hq4, ?_, ?_⟩
          · rw [zv_len]
            show out.length < 2 ^ 24
            omega
          refine ⟨_, rfl, .inl ⟨rfl, _, SqL.of upd_same⟩, _, rfl, q, an, _, _, rfl, rfl, upd_same, by rw [upd_ne (fun y => nqan y.symm)]; exact e4, ?_, ?_⟩
          · rw [List.length_append, zv_len, zv_len]
            show out.length + 1 + st.2.length ≤ 2 ^ 24
            omega
          rw [upd_upd]
          have eo : zv out ++ [V.int ((zv st.2).length : Int)] ++ zv st.2 = zv (out ++ (st.2.length : Int) :: st.2) := by
            rw [zv_len]
            unfold zv
            rw [List.map_append, List.append_assoc]
            rfl
          rw [eo]
          have sm5 : Keep q H4 (upd H4 q (.lst (zv (out ++ (st.2.length : Int) :: st.2)))) := Keep.self q _
          have hq5 : (upd H4 q (.lst (zv (out ++ (st.2.length : Int) :: st.2)))) q = some (.lst (zv (out ++ (st.2.length : Int) :: st.2))) := upd_same
          generalize upd H4 q (.lst (zv (out ++ (st.2.length : Int) :: st.2))) = H5 at *
          have HO5 : House d H5 x fp4 st.1 := by
            obtain ⟨⟨l, ps, A, R, m1, m2⟩, m3, m4⟩ := HO4
            refine ⟨⟨l, ps, A.keep fun b u e hb => sm5 b u e fun y => hqf4 ?_, R, m1, m2⟩, m3, m4⟩
            rw [← y]
            rcases hb with z | z | ⟨c, hc, z⟩
            · rw [z]
              exact m3
            · rw [z]
              exact m1
            · rw [z]
              exact m2 c hc
          refine ⟨_, rfl, ⟨pre ++ PyFlat.put1 c, _, rest, st.1, fp4, some (.int (((pre.length : Nat) : Int) + ((PyFlat.put1 c).length : Int))), some (.ref an), ?_, L9, HO5, fun b o e => sm5 b o (sm4 b o e) (ne_of_none e hq0), hfp4, hq5, hqf4⟩, ?_⟩
          · rw [List.length_append]
            rfl
          · show ns.length - (((pre.length : Nat) : Int) + ((PyFlat.put1 c).length : Int)).toNat < ns.length - ((pre.length : Nat) : Int).toNat
            omega
      · have hc : ¬ ((pre.length : Nat) : Int) < ((zv ns).length : Int) := fun y => hc (decide_eq_true y)
        rw [zv_len] at hc
        cases rest with
        | nil =>
          refine ⟨_, rfl, k H' q ?_⟩
          rw [left_end L]
          exact hq'
        | cons c rest =>
          exfalso
          obtain ⟨hc5, _⟩ := L.ok c (List.mem_cons.mpr (.inl rfl))
          have h2 := put1_len hc5
          have e : (PyFlat.put (c :: rest)).length = (PyFlat.put1 c).length + (PyFlat.put rest).length := List.length_append ..
          omega
    · rintro σ H' Q1 Q2 hq ⟨v1, h1, v2, h2, p, ys, h3, h4, i, j, h5, h6, b, h7, h8⟩
      exact ⟨v1, h1, v2, h2, p, ys, h3, h4, i, j, h5, h6, b, h7, hq _ _ h8⟩

end
end Na
namespace Na
open PySem PySem.Spec PyProof.Rows L2
/-! ### what the top has written, and the row's head -/
section
variable {K : PySem.W.Frag} {mg : Str → Option Value} {h : Heap}
theorem gdef_mk {x : Str} {st : Stmt} {f : Addr} {oc : Value} {od an : Option Addr} {osl : Array (Option Value)} {kV doc pm cdv ct : Value} (X : K.In h) (G : h.Ns mainGlobals mg)
    (a : PySem.W.nsIn K mainGlobals x = some (some (.ref f))) (l : K.lookup f = some ⟨oc, od, .func (PySem.W.fnOf x x (defArgs st) (defBody st) (defScope st) .none kV doc pm an cdv ct), osl⟩) (c : PySem.W.codeIn K cdv x = true) (k : PySem.W.keepIn K (.ref f) = true) :
    ∃ f fd, GDef K mg x st f fd := ⟨f, _, fun_mk l c k, PySem.W.mg_of X G a⟩
theorem mdef_mk {C : Addr} {x qual : Str} {st : Stmt} {f : Addr} {oc : Value} {od an : Option Addr} {osl : Array (Option Value)} {kV doc pm cdv ct : Value}
    (a : PySem.W.findIn K (.ref C) x = some (some (.ref f))) (i : PySem.W.isFn K (.ref f) = true) (l : K.lookup f = some ⟨oc, od, .func (PySem.W.fnOf x qual (defArgs st) (defBody st) (defScope st) .none kV doc pm an cdv ct), osl⟩) (c : PySem.W.codeIn K cdv qual = true) (k : PySem.W.keepIn K (.ref f) = true) :
    ∃ fd, MDef K C x qual st f fd := ⟨_, fun_mk l c k, a, i, k⟩
theorem cint_mk {x : Str} {i : Int} {t : Tok} (X : K.In h) (G : h.Ns mainGlobals mg) (a : PySem.W.nsIn K mainGlobals x = some (some (.int i t))) : ∃ t, mg x = some (.int i t) := ⟨t, PySem.W.mg_of X G a⟩
theorem sizes_mk {a : Addr} {od : Option Addr} {n : Nat} {sl : Array (Option Value)} {t1 t2 t3 t4 t5 : Tok} (X : K.In h) (G : h.Ns mainGlobals mg) (e : PySem.W.nsIn K mainGlobals "CALL_SIZES" = some (some (.ref a)))
    (l : K.lookup a = some ⟨.type "tuple", od, .seq #[.int 2 t1, .int 3 t2, .int 3 t3, .int 2 t4, .int 4 t5] n, sl⟩) : ∃ a, mg "CALL_SIZES" = some (.ref a) ∧ ∀ H : Hp, SqT K H a [.int 2, .int 3, .int 3, .int 2, .int 4] :=
  ⟨a, PySem.W.mg_of X G e, fun H => .inr ⟨_, _, n, l, rfl, rfl, by show 5 ≤ sizeLine; decide, .cons ⟨_, rfl⟩ (.cons ⟨_, rfl⟩ (.cons ⟨_, rfl⟩ (.cons ⟨_, rfl⟩ (.cons ⟨_, rfl⟩ .nil))))⟩⟩
theorem clsB_mk {C : Addr} {f_bini f_dead : Addr}
    {oc_bini : Value} {od_bini an_bini : Option Addr} {sl_bini : Array (Option Value)} {kV_bini doc_bini pm_bini cd_bini ct_bini : Value} {oc_dead : Value} {od_dead an_dead : Option Addr} {sl_dead : Array (Option Value)} {kV_dead doc_dead pm_dead cd_dead ct_dead : Value}
    (X : K.In h) (G : h.Ns mainGlobals mg) (e : PySem.W.nsIn K mainGlobals "Binding" = some (some (.ref C)))
    (a_bini : PySem.W.findIn K (.ref C) "__init__" = some (some (.ref f_bini))) (i_bini : PySem.W.isFn K (.ref f_bini) = true) (l_bini : K.lookup f_bini = some ⟨oc_bini, od_bini, .func (PySem.W.fnOf "__init__" "Binding.__init__" (defArgs s_bini) (defBody s_bini) (defScope s_bini) .none kV_bini doc_bini pm_bini an_bini cd_bini ct_bini), sl_bini⟩) (c_bini : PySem.W.codeIn K cd_bini "Binding.__init__" = true) (k_bini : PySem.W.keepIn K (.ref f_bini) = true)
    (a_dead : PySem.W.findIn K (.ref C) "is_dead" = some (some (.ref f_dead))) (i_dead : PySem.W.isFn K (.ref f_dead) = true) (l_dead : K.lookup f_dead = some ⟨oc_dead, od_dead, .func (PySem.W.fnOf "is_dead" "Binding.is_dead" (defArgs s_dead) (defBody s_dead) (defScope s_dead) .none kV_dead doc_dead pm_dead an_dead cd_dead ct_dead), sl_dead⟩) (c_dead : PySem.W.codeIn K cd_dead "Binding.is_dead" = true) (k_dead : PySem.W.keepIn K (.ref f_dead) = true)
    (pg : PySem.W.plainGet K C Str.empty = true) (hd : PySem.W.hasDictIn K C = true) (po : PySem.W.plainOver K C = true) (sa : PySem.W.findIn K (.ref C) "__setattr__" = some (some (.builtin "object.__setattr__"))) (mk : PySem.W.makesIn K C = true) (kc : PySem.W.keepIn K (.ref C) = true)
    (n0 : PySem.W.findIn K (.ref C) "protocol" = some none)    (n1 : PySem.W.findIn K (.ref C) "address" = some none)    (n2 : PySem.W.findIn K (.ref C) "port" = some none)    (n3 : PySem.W.findIn K (.ref C) "outside_port" = some none)    (n4 : PySem.W.findIn K (.ref C) "used" = some none) :
    ∃ C, ∃ f_bini f_dead : Addr, ∃ g_bini g_dead : FuncData, mg "Binding" = some (.ref C) ∧ Cls K C ∧ Mk K C f_bini ∧ NoAttr K C "protocol" ∧ NoAttr K C "address" ∧ NoAttr K C "port" ∧ NoAttr K C "outside_port" ∧ NoAttr K C "used" ∧ MDef K C "__init__" "Binding.__init__" s_bini f_bini g_bini ∧ MDef K C "is_dead" "Binding.is_dead" s_dead f_dead g_dead :=
  ⟨C, f_bini, f_dead, _, _, PySem.W.mg_of X G e, ⟨pg, hd, po, sa⟩, ⟨mk, a_bini, i_bini, kc⟩, n0, n1, n2, n3, n4, ⟨fun_mk l_bini c_bini k_bini, a_bini, i_bini, k_bini⟩, ⟨fun_mk l_dead c_dead k_dead, a_dead, i_dead, k_dead⟩⟩
theorem clsH_mk {C : Addr} {f_hini f_begi f_hout f_come f_coun f_find f_forg f_bins f_bout f_free : Addr}
    {oc_hini : Value} {od_hini an_hini : Option Addr} {sl_hini : Array (Option Value)} {kV_hini doc_hini pm_hini cd_hini ct_hini : Value} {oc_begi : Value} {od_begi an_begi : Option Addr} {sl_begi : Array (Option Value)} {kV_begi doc_begi pm_begi cd_begi ct_begi : Value} {oc_hout : Value} {od_hout an_hout : Option Addr} {sl_hout : Array (Option Value)} {kV_hout doc_hout pm_hout cd_hout ct_hout : Value} {oc_come : Value} {od_come an_come : Option Addr} {sl_come : Array (Option Value)} {kV_come doc_come pm_come cd_come ct_come : Value} {oc_coun : Value} {od_coun an_coun : Option Addr} {sl_coun : Array (Option Value)} {kV_coun doc_coun pm_coun cd_coun ct_coun : Value} {oc_find : Value} {od_find an_find : Option Addr} {sl_find : Array (Option Value)} {kV_find doc_find pm_find cd_find ct_find : Value} {oc_forg : Value} {od_forg an_forg : Option Addr} {sl_forg : Array (Option Value)} {kV_forg doc_forg pm_forg cd_forg ct_forg : Value} {oc_bins : Value} {od_bins an_bins : Option Addr} {sl_bins : Array (Option Value)} {kV_bins doc_bins pm_bins cd_bins ct_bins : Value} {oc_bout : Value} {od_bout an_bout : Option Addr} {sl_bout : Array (Option Value)} {kV_bout doc_bout pm_bout cd_bout ct_bout : Value} {oc_free : Value} {od_free an_free : Option Addr} {sl_free : Array (Option Value)} {kV_free doc_free pm_free cd_free ct_free : Value}
    (X : K.In h) (G : h.Ns mainGlobals mg) (e : PySem.W.nsIn K mainGlobals "House" = some (some (.ref C)))
    (a_hini : PySem.W.findIn K (.ref C) "__init__" = some (some (.ref f_hini))) (i_hini : PySem.W.isFn K (.ref f_hini) = true) (l_hini : K.lookup f_hini = some ⟨oc_hini, od_hini, .func (PySem.W.fnOf "__init__" "House.__init__" (defArgs s_hini) (defBody s_hini) (defScope s_hini) .none kV_hini doc_hini pm_hini an_hini cd_hini ct_hini), sl_hini⟩) (c_hini : PySem.W.codeIn K cd_hini "House.__init__" = true) (k_hini : PySem.W.keepIn K (.ref f_hini) = true)
    (a_begi : PySem.W.findIn K (.ref C) "begin" = some (some (.ref f_begi))) (i_begi : PySem.W.isFn K (.ref f_begi) = true) (l_begi : K.lookup f_begi = some ⟨oc_begi, od_begi, .func (PySem.W.fnOf "begin" "House.begin" (defArgs s_begi) (defBody s_begi) (defScope s_begi) .none kV_begi doc_begi pm_begi an_begi cd_begi ct_begi), sl_begi⟩) (c_begi : PySem.W.codeIn K cd_begi "House.begin" = true) (k_begi : PySem.W.keepIn K (.ref f_begi) = true)
    (a_hout : PySem.W.findIn K (.ref C) "out" = some (some (.ref f_hout))) (i_hout : PySem.W.isFn K (.ref f_hout) = true) (l_hout : K.lookup f_hout = some ⟨oc_hout, od_hout, .func (PySem.W.fnOf "out" "House.out" (defArgs s_hout) (defBody s_hout) (defScope s_hout) .none kV_hout doc_hout pm_hout an_hout cd_hout ct_hout), sl_hout⟩) (c_hout : PySem.W.codeIn K cd_hout "House.out" = true) (k_hout : PySem.W.keepIn K (.ref f_hout) = true)
    (a_come : PySem.W.findIn K (.ref C) "come_in" = some (some (.ref f_come))) (i_come : PySem.W.isFn K (.ref f_come) = true) (l_come : K.lookup f_come = some ⟨oc_come, od_come, .func (PySem.W.fnOf "come_in" "House.come_in" (defArgs s_come) (defBody s_come) (defScope s_come) .none kV_come doc_come pm_come an_come cd_come ct_come), sl_come⟩) (c_come : PySem.W.codeIn K cd_come "House.come_in" = true) (k_come : PySem.W.keepIn K (.ref f_come) = true)
    (a_coun : PySem.W.findIn K (.ref C) "count" = some (some (.ref f_coun))) (i_coun : PySem.W.isFn K (.ref f_coun) = true) (l_coun : K.lookup f_coun = some ⟨oc_coun, od_coun, .func (PySem.W.fnOf "count" "House.count" (defArgs s_coun) (defBody s_coun) (defScope s_coun) .none kV_coun doc_coun pm_coun an_coun cd_coun ct_coun), sl_coun⟩) (c_coun : PySem.W.codeIn K cd_coun "House.count" = true) (k_coun : PySem.W.keepIn K (.ref f_coun) = true)
    (a_find : PySem.W.findIn K (.ref C) "find" = some (some (.ref f_find))) (i_find : PySem.W.isFn K (.ref f_find) = true) (l_find : K.lookup f_find = some ⟨oc_find, od_find, .func (PySem.W.fnOf "find" "House.find" (defArgs s_find) (defBody s_find) (defScope s_find) .none kV_find doc_find pm_find an_find cd_find ct_find), sl_find⟩) (c_find : PySem.W.codeIn K cd_find "House.find" = true) (k_find : PySem.W.keepIn K (.ref f_find) = true)
    (a_forg : PySem.W.findIn K (.ref C) "forget_dead" = some (some (.ref f_forg))) (i_forg : PySem.W.isFn K (.ref f_forg) = true) (l_forg : K.lookup f_forg = some ⟨oc_forg, od_forg, .func (PySem.W.fnOf "forget_dead" "House.forget_dead" (defArgs s_forg) (defBody s_forg) (defScope s_forg) .none kV_forg doc_forg pm_forg an_forg cd_forg ct_forg), sl_forg⟩) (c_forg : PySem.W.codeIn K cd_forg "House.forget_dead" = true) (k_forg : PySem.W.keepIn K (.ref f_forg) = true)
    (a_bins : PySem.W.findIn K (.ref C) "bound_inside" = some (some (.ref f_bins))) (i_bins : PySem.W.isFn K (.ref f_bins) = true) (l_bins : K.lookup f_bins = some ⟨oc_bins, od_bins, .func (PySem.W.fnOf "bound_inside" "House.bound_inside" (defArgs s_bins) (defBody s_bins) (defScope s_bins) .none kV_bins doc_bins pm_bins an_bins cd_bins ct_bins), sl_bins⟩) (c_bins : PySem.W.codeIn K cd_bins "House.bound_inside" = true) (k_bins : PySem.W.keepIn K (.ref f_bins) = true)
    (a_bout : PySem.W.findIn K (.ref C) "bound_outside" = some (some (.ref f_bout))) (i_bout : PySem.W.isFn K (.ref f_bout) = true) (l_bout : K.lookup f_bout = some ⟨oc_bout, od_bout, .func (PySem.W.fnOf "bound_outside" "House.bound_outside" (defArgs s_bout) (defBody s_bout) (defScope s_bout) .none kV_bout doc_bout pm_bout an_bout cd_bout ct_bout), sl_bout⟩) (c_bout : PySem.W.codeIn K cd_bout "House.bound_outside" = true) (k_bout : PySem.W.keepIn K (.ref f_bout) = true)
    (a_free : PySem.W.findIn K (.ref C) "free_port" = some (some (.ref f_free))) (i_free : PySem.W.isFn K (.ref f_free) = true) (l_free : K.lookup f_free = some ⟨oc_free, od_free, .func (PySem.W.fnOf "free_port" "House.free_port" (defArgs s_free) (defBody s_free) (defScope s_free) .none kV_free doc_free pm_free an_free cd_free ct_free), sl_free⟩) (c_free : PySem.W.codeIn K cd_free "House.free_port" = true) (k_free : PySem.W.keepIn K (.ref f_free) = true)
    (pg : PySem.W.plainGet K C Str.empty = true) (hd : PySem.W.hasDictIn K C = true) (po : PySem.W.plainOver K C = true) (sa : PySem.W.findIn K (.ref C) "__setattr__" = some (some (.builtin "object.__setattr__"))) (mk : PySem.W.makesIn K C = true) (kc : PySem.W.keepIn K (.ref C) = true)
    (n0 : PySem.W.findIn K (.ref C) "outside" = some none)    (n1 : PySem.W.findIn K (.ref C) "bindings" = some none) :
    ∃ C, ∃ f_hini f_begi f_hout f_come f_coun f_find f_forg f_bins f_bout f_free : Addr, ∃ g_hini g_begi g_hout g_come g_coun g_find g_forg g_bins g_bout g_free : FuncData, mg "House" = some (.ref C) ∧ Cls K C ∧ Mk K C f_hini ∧ NoAttr K C "outside" ∧ NoAttr K C "bindings" ∧ MDef K C "__init__" "House.__init__" s_hini f_hini g_hini ∧ MDef K C "begin" "House.begin" s_begi f_begi g_begi ∧ MDef K C "out" "House.out" s_hout f_hout g_hout ∧ MDef K C "come_in" "House.come_in" s_come f_come g_come ∧ MDef K C "count" "House.count" s_coun f_coun g_coun ∧ MDef K C "find" "House.find" s_find f_find g_find ∧ MDef K C "forget_dead" "House.forget_dead" s_forg f_forg g_forg ∧ MDef K C "bound_inside" "House.bound_inside" s_bins f_bins g_bins ∧ MDef K C "bound_outside" "House.bound_outside" s_bout f_bout g_bout ∧ MDef K C "free_port" "House.free_port" s_free f_free g_free :=
  ⟨C, f_hini, f_begi, f_hout, f_come, f_coun, f_find, f_forg, f_bins, f_bout, f_free, _, _, _, _, _, _, _, _, _, _, PySem.W.mg_of X G e, ⟨pg, hd, po, sa⟩, ⟨mk, a_hini, i_hini, kc⟩, n0, n1, ⟨fun_mk l_hini c_hini k_hini, a_hini, i_hini, k_hini⟩, ⟨fun_mk l_begi c_begi k_begi, a_begi, i_begi, k_begi⟩, ⟨fun_mk l_hout c_hout k_hout, a_hout, i_hout, k_hout⟩, ⟨fun_mk l_come c_come k_come, a_come, i_come, k_come⟩, ⟨fun_mk l_coun c_coun k_coun, a_coun, i_coun, k_coun⟩, ⟨fun_mk l_find c_find k_find, a_find, i_find, k_find⟩, ⟨fun_mk l_forg c_forg k_forg, a_forg, i_forg, k_forg⟩, ⟨fun_mk l_bins c_bins k_bins, a_bins, i_bins, k_bins⟩, ⟨fun_mk l_bout c_bout k_bout, a_bout, i_bout, k_bout⟩, ⟨fun_mk l_free c_free k_free, a_free, i_free, k_free⟩⟩
theorem all_mk {P : Program} {w : World} {d : Ad} {fa : Addr} (T : Txt K mg d) (hfa : mg "answers" = some (.ref fa)) :
    ∃ fd : FuncData, (∀ (s : Shared) (us : List Value), us.length = (["calls"] : List Str).length → BindsTo s fd ⟨us, []⟩ ((["calls"] : List Str).zip us)) ∧ ∀ base : Heap, K.In base → base.Ns mainGlobals mg → FnOk P w K mg base CX0 7 fa fd ["calls"] (spAnsw K) := by
  have e := hfa.symm.trans T.answ.at_
  cases e
  refine ⟨d.g_answ, ?_, fun base _ _ => ok_answ T⟩
  obtain ⟨oc, od, kV, doc, pm, an, cdv, ct, osl, e, _, _⟩ := T.answ.fn.ex
  intro s us hu
  rw [e]
  match us, hu with
  | [_], _ => exact .of_eq rfl
end
end Na
open PySem PySem.W PyProof.Rows
set_option maxRecDepth 100000 in
set_option maxHeartbeats 0 in
theorem PySem.Challenge.cw_oneaddress_s01_answers_holds : PySem.Challenge.rw_oneaddress_s01_answers.Holds := by
  w_on; k_headS; (case hw => exact ⟨[.list [.int 0, .int 0]], by decide +kernel, by decide +kernel⟩)
  k_fillS
  refine L2.walk_specK (r := PySem.Challenge.rw_oneaddress_s01_answers) (k := 7) (CX := L2.CX0) (ps := ["calls"]) (sp := Na.spAnsw) (by decide +kernel) rfl rfl ⟨rfl, by decide, by decide⟩ (fun w h Y => PySem.W.kIn_of Y) ?F ?S (fun _ _ _ _ z => z)
  case F =>
    intro w mg fa h Y KX G hmg
    have t_word : ∃ f fd, Na.GDef (L2.KOf KX) mg "word_at" Na.s_word f fd := by
      dsimp only [L2.KOf]
      refine' Na.gdef_mk KX G ?a ?l ?c ?k
      (case a => k_is); (case l => k_is); (case c => k_is); (case k => k_is)
    have t_setw : ∃ f fd, Na.GDef (L2.KOf KX) mg "set_word" Na.s_setw f fd := by
      dsimp only [L2.KOf]
      refine' Na.gdef_mk KX G ?a ?l ?c ?k
      (case a => k_is); (case l => k_is); (case c => k_is); (case k => k_is)
    have t_adr : ∃ f fd, Na.GDef (L2.KOf KX) mg "address_at" Na.s_adr f fd := by
      dsimp only [L2.KOf]
      refine' Na.gdef_mk KX G ?a ?l ?c ?k
      (case a => k_is); (case l => k_is); (case c => k_is); (case k => k_is)
    have t_seta : ∃ f fd, Na.GDef (L2.KOf KX) mg "set_address" Na.s_seta f fd := by
      dsimp only [L2.KOf]
      refine' Na.gdef_mk KX G ?a ?l ?c ?k
      (case a => k_is); (case l => k_is); (case c => k_is); (case k => k_is)
    have t_sumd : ∃ f fd, Na.GDef (L2.KOf KX) mg "summed" Na.s_sumd f fd := by
      dsimp only [L2.KOf]
      refine' Na.gdef_mk KX G ?a ?l ?c ?k
      (case a => k_is); (case l => k_is); (case c => k_is); (case k => k_is)
    have t_hlen : ∃ f fd, Na.GDef (L2.KOf KX) mg "head_length" Na.s_hlen f fd := by
      dsimp only [L2.KOf]
      refine' Na.gdef_mk KX G ?a ?l ?c ?k
      (case a => k_is); (case l => k_is); (case c => k_is); (case k => k_is)
    have t_hsum : ∃ f fd, Na.GDef (L2.KOf KX) mg "head_sum" Na.s_hsum f fd := by
      dsimp only [L2.KOf]
      refine' Na.gdef_mk KX G ?a ?l ?c ?k
      (case a => k_is); (case l => k_is); (case c => k_is); (case k => k_is)
    have t_whol : ∃ f fd, Na.GDef (L2.KOf KX) mg "is_whole" Na.s_whol f fd := by
      dsimp only [L2.KOf]
      refine' Na.gdef_mk KX G ?a ?l ?c ?k
      (case a => k_is); (case l => k_is); (case c => k_is); (case k => k_is)
    have t_piec : ∃ f fd, Na.GDef (L2.KOf KX) mg "is_piece" Na.s_piec f fd := by
      dsimp only [L2.KOf]
      refine' Na.gdef_mk KX G ?a ?l ?c ?k
      (case a => k_is); (case l => k_is); (case c => k_is); (case k => k_is)
    have t_carr : ∃ f fd, Na.GDef (L2.KOf KX) mg "carries_known" Na.s_carr f fd := by
      dsimp only [L2.KOf]
      refine' Na.gdef_mk KX G ?a ?l ?c ?k
      (case a => k_is); (case l => k_is); (case c => k_is); (case k => k_is)
    have t_udpf : ∃ f fd, Na.GDef (L2.KOf KX) mg "udp_length_fits" Na.s_udpf f fd := by
      dsimp only [L2.KOf]
      refine' Na.gdef_mk KX G ?a ?l ?c ?k
      (case a => k_is); (case l => k_is); (case c => k_is); (case k => k_is)
    have t_spor : ∃ f fd, Na.GDef (L2.KOf KX) mg "sender_port_place" Na.s_spor f fd := by
      dsimp only [L2.KOf]
      refine' Na.gdef_mk KX G ?a ?l ?c ?k
      (case a => k_is); (case l => k_is); (case c => k_is); (case k => k_is)
    have t_rpor : ∃ f fd, Na.GDef (L2.KOf KX) mg "receiver_port_place" Na.s_rpor f fd := by
      dsimp only [L2.KOf]
      refine' Na.gdef_mk KX G ?a ?l ?c ?k
      (case a => k_is); (case l => k_is); (case c => k_is); (case k => k_is)
    have t_cpla : ∃ f fd, Na.GDef (L2.KOf KX) mg "carried_checksum_place" Na.s_cpla f fd := by
      dsimp only [L2.KOf]
      refine' Na.gdef_mk KX G ?a ?l ?c ?k
      (case a => k_is); (case l => k_is); (case c => k_is); (case k => k_is)
    have t_rewr : ∃ f fd, Na.GDef (L2.KOf KX) mg "rewrite" Na.s_rewr f fd := by
      dsimp only [L2.KOf]
      refine' Na.gdef_mk KX G ?a ?l ?c ?k
      (case a => k_is); (case l => k_is); (case c => k_is); (case k => k_is)
    have t_covw : ∃ f fd, Na.GDef (L2.KOf KX) mg "covered_words" Na.s_covw f fd := by
      dsimp only [L2.KOf]
      refine' Na.gdef_mk KX G ?a ?l ?c ?k
      (case a => k_is); (case l => k_is); (case c => k_is); (case k => k_is)
    have t_seth : ∃ f fd, Na.GDef (L2.KOf KX) mg "set_head_checksum" Na.s_seth f fd := by
      dsimp only [L2.KOf]
      refine' Na.gdef_mk KX G ?a ?l ?c ?k
      (case a => k_is); (case l => k_is); (case c => k_is); (case k => k_is)
    have t_brin : ∃ f fd, Na.GDef (L2.KOf KX) mg "bring_checksum_along" Na.s_brin f fd := by
      dsimp only [L2.KOf]
      refine' Na.gdef_mk KX G ?a ?l ?c ?k
      (case a => k_is); (case l => k_is); (case c => k_is); (case k => k_is)
    have t_movd : ∃ f fd, Na.GDef (L2.KOf KX) mg "moved_checksum" Na.s_movd f fd := by
      dsimp only [L2.KOf]
      refine' Na.gdef_mk KX G ?a ?l ?c ?k
      (case a => k_is); (case l => k_is); (case c => k_is); (case k => k_is)
    have t_refu : ∃ f fd, Na.GDef (L2.KOf KX) mg "refusal_both_ways" Na.s_refu f fd := by
      dsimp only [L2.KOf]
      refine' Na.gdef_mk KX G ?a ?l ?c ?k
      (case a => k_is); (case l => k_is); (case c => k_is); (case k => k_is)
    have t_answ : ∃ f fd, Na.GDef (L2.KOf KX) mg "answers" Na.s_answ f fd := by
      dsimp only [L2.KOf]
      refine' Na.gdef_mk KX G ?a ?l ?c ?k
      (case a => k_is); (case l => k_is); (case c => k_is); (case k => k_is)
    have t_csiz : ∃ f fd, Na.GDef (L2.KOf KX) mg "call_size" Na.s_csiz f fd := by
      dsimp only [L2.KOf]
      refine' Na.gdef_mk KX G ?a ?l ?c ?k
      (case a => k_is); (case l => k_is); (case c => k_is); (case k => k_is)
    have t_aone : ∃ f fd, Na.GDef (L2.KOf KX) mg "answer_one" Na.s_aone f fd := by
      dsimp only [L2.KOf]
      refine' Na.gdef_mk KX G ?a ?l ?c ?k
      (case a => k_is); (case l => k_is); (case c => k_is); (case k => k_is)
    have u_ECHO : ∃ t, mg "ECHO" = some (.int 1 t) := by
      refine' Na.cint_mk KX G ?a
      (case a => k_is)
    have u_TCP : ∃ t, mg "TCP" = some (.int 6 t) := by
      refine' Na.cint_mk KX G ?a
      (case a => k_is)
    have u_UDP : ∃ t, mg "UDP" = some (.int 17 t) := by
      refine' Na.cint_mk KX G ?a
      (case a => k_is)
    have u_ECHO_ANSWER : ∃ t, mg "ECHO_ANSWER" = some (.int 0 t) := by
      refine' Na.cint_mk KX G ?a
      (case a => k_is)
    have u_ECHO_REQUEST : ∃ t, mg "ECHO_REQUEST" = some (.int 8 t) := by
      refine' Na.cint_mk KX G ?a
      (case a => k_is)
    have u_LENGTH_PLACE : ∃ t, mg "LENGTH_PLACE" = some (.int 2 t) := by
      refine' Na.cint_mk KX G ?a
      (case a => k_is)
    have u_PIECE_PLACE : ∃ t, mg "PIECE_PLACE" = some (.int 6 t) := by
      refine' Na.cint_mk KX G ?a
      (case a => k_is)
    have u_STEPS_PLACE : ∃ t, mg "STEPS_PLACE" = some (.int 8 t) := by
      refine' Na.cint_mk KX G ?a
      (case a => k_is)
    have u_PROTOCOL_PLACE : ∃ t, mg "PROTOCOL_PLACE" = some (.int 9 t) := by
      refine' Na.cint_mk KX G ?a
      (case a => k_is)
    have u_HEAD_CHECKSUM_PLACE : ∃ t, mg "HEAD_CHECKSUM_PLACE" = some (.int 10 t) := by
      refine' Na.cint_mk KX G ?a
      (case a => k_is)
    have u_SENDER_PLACE : ∃ t, mg "SENDER_PLACE" = some (.int 12 t) := by
      refine' Na.cint_mk KX G ?a
      (case a => k_is)
    have u_RECEIVER_PLACE : ∃ t, mg "RECEIVER_PLACE" = some (.int 16 t) := by
      refine' Na.cint_mk KX G ?a
      (case a => k_is)
    have u_LEAST_HEAD : ∃ t, mg "LEAST_HEAD" = some (.int 20 t) := by
      refine' Na.cint_mk KX G ?a
      (case a => k_is)
    have u_LEAST_UDP : ∃ t, mg "LEAST_UDP" = some (.int 8 t) := by
      refine' Na.cint_mk KX G ?a
      (case a => k_is)
    have u_LEAST_TCP : ∃ t, mg "LEAST_TCP" = some (.int 20 t) := by
      refine' Na.cint_mk KX G ?a
      (case a => k_is)
    have u_LEAST_ECHO : ∃ t, mg "LEAST_ECHO" = some (.int 8 t) := by
      refine' Na.cint_mk KX G ?a
      (case a => k_is)
    have u_MOST_BYTES : ∃ t, mg "MOST_BYTES" = some (.int 65535 t) := by
      refine' Na.cint_mk KX G ?a
      (case a => k_is)
    have u_BEGIN : ∃ t, mg "BEGIN" = some (.int 0 t) := by
      refine' Na.cint_mk KX G ?a
      (case a => k_is)
    have u_OUT : ∃ t, mg "OUT" = some (.int 1 t) := by
      refine' Na.cint_mk KX G ?a
      (case a => k_is)
    have u_COME_IN : ∃ t, mg "COME_IN" = some (.int 2 t) := by
      refine' Na.cint_mk KX G ?a
      (case a => k_is)
    have u_COUNT : ∃ t, mg "COUNT" = some (.int 3 t) := by
      refine' Na.cint_mk KX G ?a
      (case a => k_is)
    have u_FIND : ∃ t, mg "FIND" = some (.int 4 t) := by
      refine' Na.cint_mk KX G ?a
      (case a => k_is)
    have u_NOT_WHOLE : ∃ t, mg "NOT_WHOLE" = some (.int (-1) t) := by
      refine' Na.cint_mk KX G ?a
      (case a => k_is)
    have u_NOT_CARRIED : ∃ t, mg "NOT_CARRIED" = some (.int (-2) t) := by
      refine' Na.cint_mk KX G ?a
      (case a => k_is)
    have u_NO_STEP_LEFT : ∃ t, mg "NO_STEP_LEFT" = some (.int (-3) t) := by
      refine' Na.cint_mk KX G ?a
      (case a => k_is)
    have u_NO_ROOM : ∃ t, mg "NO_ROOM" = some (.int (-4) t) := by
      refine' Na.cint_mk KX G ?a
      (case a => k_is)
    have u_NOBODYS : ∃ t, mg "NOBODYS" = some (.int (-5) t) := by
      refine' Na.cint_mk KX G ?a
      (case a => k_is)
    have u_NOT_FOUND : ∃ t, mg "NOT_FOUND" = some (.int (-1) t) := by
      refine' Na.cint_mk KX G ?a
      (case a => k_is)
    have u_MOST_BINDINGS : ∃ t, mg "MOST_BINDINGS" = some (.int 256 t) := by
      refine' Na.cint_mk KX G ?a
      (case a => k_is)
    have u_LEAST_PORT : ∃ t, mg "LEAST_PORT" = some (.int 1024 t) := by
      refine' Na.cint_mk KX G ?a
      (case a => k_is)
    have u_TCP_SECONDS : ∃ t, mg "TCP_SECONDS" = some (.int 7200 t) := by
      refine' Na.cint_mk KX G ?a
      (case a => k_is)
    have u_OTHER_SECONDS : ∃ t, mg "OTHER_SECONDS" = some (.int 300 t) := by
      refine' Na.cint_mk KX G ?a
      (case a => k_is)
    have u_ROUND_OF_SECONDS : ∃ t, mg "ROUND_OF_SECONDS" = some (.int 4294967296 t) := by
      refine' Na.cint_mk KX G ?a
      (case a => k_is)
    have z_len : mg "len" = none := by
      refine' PySem.W.mg_none_of KX G ?a
      (case a => k_is)
    have z_range : mg "range" = none := by
      refine' PySem.W.mg_none_of KX G ?a
      (case a => k_is)
    have t_sizes : ∃ a, mg "CALL_SIZES" = some (.ref a) ∧ ∀ H : L2.Hp, L2.SqT (L2.KOf KX) H a [.int 2, .int 3, .int 3, .int 2, .int 4] := by
      dsimp only [L2.KOf]
      refine' Na.sizes_mk KX G ?e ?l
      (case e => k_is); (case l => k_is)
    have tB := by
      refine' Na.clsB_mk KX G ?e ?a_bini ?i_bini ?l_bini ?c_bini ?k_bini ?a_dead ?i_dead ?l_dead ?c_dead ?k_dead ?pg ?hd ?po ?sa ?mk ?kc ?n0 ?n1 ?n2 ?n3 ?n4
      (case e => k_is)
      (case a_bini => k_is)
      (case i_bini => k_is)
      (case l_bini => k_is)
      (case c_bini => k_is)
      (case k_bini => k_is)
      (case a_dead => k_is)
      (case i_dead => k_is)
      (case l_dead => k_is)
      (case c_dead => k_is)
      (case k_dead => k_is)
      (case pg => k_is)
      (case hd => k_is)
      (case po => k_is)
      (case sa => k_is)
      (case mk => k_is)
      (case kc => k_is)
      (case n0 => k_is)
      (case n1 => k_is)
      (case n2 => k_is)
      (case n3 => k_is)
      (case n4 => k_is)
    have tH := by
      refine' Na.clsH_mk KX G ?e ?a_hini ?i_hini ?l_hini ?c_hini ?k_hini ?a_begi ?i_begi ?l_begi ?c_begi ?k_begi ?a_hout ?i_hout ?l_hout ?c_hout ?k_hout ?a_come ?i_come ?l_come ?c_come ?k_come ?a_coun ?i_coun ?l_coun ?c_coun ?k_coun ?a_find ?i_find ?l_find ?c_find ?k_find ?a_forg ?i_forg ?l_forg ?c_forg ?k_forg ?a_bins ?i_bins ?l_bins ?c_bins ?k_bins ?a_bout ?i_bout ?l_bout ?c_bout ?k_bout ?a_free ?i_free ?l_free ?c_free ?k_free ?pg ?hd ?po ?sa ?mk ?kc ?n0 ?n1
      (case e => k_is)
      (case a_hini => k_is)
      (case i_hini => k_is)
      (case l_hini => k_is)
      (case c_hini => k_is)
      (case k_hini => k_is)
      (case a_begi => k_is)
      (case i_begi => k_is)
      (case l_begi => k_is)
      (case c_begi => k_is)
      (case k_begi => k_is)
      (case a_hout => k_is)
      (case i_hout => k_is)
      (case l_hout => k_is)
      (case c_hout => k_is)
      (case k_hout => k_is)
      (case a_come => k_is)
      (case i_come => k_is)
      (case l_come => k_is)
      (case c_come => k_is)
      (case k_come => k_is)
      (case a_coun => k_is)
      (case i_coun => k_is)
      (case l_coun => k_is)
      (case c_coun => k_is)
      (case k_coun => k_is)
      (case a_find => k_is)
      (case i_find => k_is)
      (case l_find => k_is)
      (case c_find => k_is)
      (case k_find => k_is)
      (case a_forg => k_is)
      (case i_forg => k_is)
      (case l_forg => k_is)
      (case c_forg => k_is)
      (case k_forg => k_is)
      (case a_bins => k_is)
      (case i_bins => k_is)
      (case l_bins => k_is)
      (case c_bins => k_is)
      (case k_bins => k_is)
      (case a_bout => k_is)
      (case i_bout => k_is)
      (case l_bout => k_is)
      (case c_bout => k_is)
      (case k_bout => k_is)
      (case a_free => k_is)
      (case i_free => k_is)
      (case l_free => k_is)
      (case c_free => k_is)
      (case k_free => k_is)
      (case pg => k_is)
      (case hd => k_is)
      (case po => k_is)
      (case sa => k_is)
      (case mk => k_is)
      (case kc => k_is)
      (case n0 => k_is)
      (case n1 => k_is)
    obtain ⟨f_word, g_word, t_word⟩ := t_word
    obtain ⟨f_setw, g_setw, t_setw⟩ := t_setw
    obtain ⟨f_adr, g_adr, t_adr⟩ := t_adr
    obtain ⟨f_seta, g_seta, t_seta⟩ := t_seta
    obtain ⟨f_sumd, g_sumd, t_sumd⟩ := t_sumd
    obtain ⟨f_hlen, g_hlen, t_hlen⟩ := t_hlen
    obtain ⟨f_hsum, g_hsum, t_hsum⟩ := t_hsum
    obtain ⟨f_whol, g_whol, t_whol⟩ := t_whol
    obtain ⟨f_piec, g_piec, t_piec⟩ := t_piec
    obtain ⟨f_carr, g_carr, t_carr⟩ := t_carr
    obtain ⟨f_udpf, g_udpf, t_udpf⟩ := t_udpf
    obtain ⟨f_spor, g_spor, t_spor⟩ := t_spor
    obtain ⟨f_rpor, g_rpor, t_rpor⟩ := t_rpor
    obtain ⟨f_cpla, g_cpla, t_cpla⟩ := t_cpla
    obtain ⟨f_rewr, g_rewr, t_rewr⟩ := t_rewr
    obtain ⟨f_covw, g_covw, t_covw⟩ := t_covw
    obtain ⟨f_seth, g_seth, t_seth⟩ := t_seth
    obtain ⟨f_brin, g_brin, t_brin⟩ := t_brin
    obtain ⟨f_movd, g_movd, t_movd⟩ := t_movd
    obtain ⟨f_refu, g_refu, t_refu⟩ := t_refu
    obtain ⟨f_answ, g_answ, t_answ⟩ := t_answ
    obtain ⟨f_csiz, g_csiz, t_csiz⟩ := t_csiz
    obtain ⟨f_aone, g_aone, t_aone⟩ := t_aone
    obtain ⟨sizes, z_sizes, t_sizes⟩ := t_sizes
    obtain ⟨CB, f_bini, f_dead, g_bini, g_dead, mgB, cb, mkB, nb0, nb1, nb2, nb3, nb4, t_bini, t_dead⟩ := tB
    obtain ⟨CH, f_hini, f_begi, f_hout, f_come, f_coun, f_find, f_forg, f_bins, f_bout, f_free, g_hini, g_begi, g_hout, g_come, g_coun, g_find, g_forg, g_bins, g_bout, g_free, mgH, ch, mkH, nh0, nh1, t_hini, t_begi, t_hout, t_come, t_coun, t_find, t_forg, t_bins, t_bout, t_free⟩ := tH
    exact Na.all_mk (d := { CB := CB, CH := CH, sizes := sizes, f_word := f_word, f_setw := f_setw, f_adr := f_adr, f_seta := f_seta, f_sumd := f_sumd, f_hlen := f_hlen, f_hsum := f_hsum, f_whol := f_whol, f_piec := f_piec, f_carr := f_carr, f_udpf := f_udpf, f_spor := f_spor, f_rpor := f_rpor, f_cpla := f_cpla, f_rewr := f_rewr, f_covw := f_covw, f_seth := f_seth, f_brin := f_brin, f_movd := f_movd, f_refu := f_refu, f_answ := f_answ, f_csiz := f_csiz, f_aone := f_aone, f_bini := f_bini, f_dead := f_dead, f_hini := f_hini, f_begi := f_begi, f_hout := f_hout, f_come := f_come, f_coun := f_coun, f_find := f_find, f_forg := f_forg, f_bins := f_bins, f_bout := f_bout, f_free := f_free, g_word := g_word, g_setw := g_setw, g_adr := g_adr, g_seta := g_seta, g_sumd := g_sumd, g_hlen := g_hlen, g_hsum := g_hsum, g_whol := g_whol, g_piec := g_piec, g_carr := g_carr, g_udpf := g_udpf, g_spor := g_spor, g_rpor := g_rpor, g_cpla := g_cpla, g_rewr := g_rewr, g_covw := g_covw, g_seth := g_seth, g_brin := g_brin, g_movd := g_movd, g_refu := g_refu, g_answ := g_answ, g_csiz := g_csiz, g_aone := g_aone, g_bini := g_bini, g_dead := g_dead, g_hini := g_hini, g_begi := g_begi, g_hout := g_hout, g_come := g_come, g_coun := g_coun, g_find := g_find, g_forg := g_forg, g_bins := g_bins, g_bout := g_bout, g_free := g_free }) ⟨cb, ch, mgB, mgH, mkB, mkH, z_len, z_range, z_sizes, t_sizes, nb0, nb1, nb2, nb3, nb4, nh0, nh1, u_ECHO, u_TCP, u_UDP, u_ECHO_ANSWER, u_ECHO_REQUEST, u_LENGTH_PLACE, u_PIECE_PLACE, u_STEPS_PLACE, u_PROTOCOL_PLACE, u_HEAD_CHECKSUM_PLACE, u_SENDER_PLACE, u_RECEIVER_PLACE, u_LEAST_HEAD, u_LEAST_UDP, u_LEAST_TCP, u_LEAST_ECHO, u_MOST_BYTES, u_BEGIN, u_OUT, u_COME_IN, u_COUNT, u_FIND, u_NOT_WHOLE, u_NOT_CARRIED, u_NO_STEP_LEFT, u_NO_ROOM, u_NOBODYS, u_NOT_FOUND, u_MOST_BINDINGS, u_LEAST_PORT, u_TCP_SECONDS, u_OTHER_SECONDS, u_ROUND_OF_SECONDS, t_word, t_setw, t_adr, t_seta, t_sumd, t_hlen, t_hsum, t_whol, t_piec, t_carr, t_udpf, t_spor, t_rpor, t_cpla, t_rewr, t_covw, t_seth, t_brin, t_movd, t_refu, t_answ, t_csiz, t_aone, t_bini, t_dead, t_hini, t_begi, t_hout, t_come, t_coun, t_find, t_forg, t_bins, t_bout, t_free⟩ hmg
  case S =>
    intro K H xs a hO hwi hask hx
    cases hx with
    | cons h1 h2 =>
      cases h2
      cases h1 with
      | lst hs ha =>
        have e := L2.ints_dw a.1 _ ha
        subst e
        have q : ((Codec.inLen 0 30000 a.1 && a.1.all (Codec.inInt (-2147483648) 4294967295)) && true) = true := hwi
        rw [Bool.and_eq_true, Bool.and_eq_true] at q
        exact ⟨_, a.1, rfl, hs, (Codec.inNat_iff.mp q.1.1).2, hask, fun H' p hp => .lst (L2.SqL.of hp) (L2.dw_ints _)⟩
#print axioms PySem.Challenge.cw_oneaddress_s01_answers_holds

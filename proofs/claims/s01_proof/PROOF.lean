import PyProof.Rows.All
import Wide.All
import OpenK.AllK
import Wide.FinOn
import PyProof.EqAt
import PyProof.EqKinds
import PyProof.TupleCall
import KE.BitLaws
import Open.SpecLaws
import KE.OsHead
import KE.OsGo
import PySem.Challenge.RW_turnabout_s01_answers
section
set_option Elab.async false
set_option linter.all false
set_option maxRecDepth 100000
/-! THE HAND LAYER, for ints, bools, texts, own classes, lists, tuples, dicts, comprehensions, walks over dicts, enumerate, zip, reversed, texts, calls, loops. Paste it whole ahead of your own text; what your proof does not reach may be deleted. -/
namespace L2
open PySem PySem.Spec PyProof.Rows

/-- a key: an int or a str -/
abbrev Key := Sum Int Str
def keyIs : Key → Value → Bool
  | .inl k, v => Value.isInt k v
  | .inr x, v => Value.isStrOf x v
def keyH (w : World) : Key → Int
  | .inl k => hashInt k
  | .inr x => hashStr w x
theorem keyIs_shape : ∀ {k : Key} {v : Value}, keyIs k v = true → (∃ i t, k = Sum.inl i ∧ v = Value.int i t) ∨ (∃ x t, k = Sum.inr x ∧ v = Value.str x t)
  | .inl i, v, h => by
    obtain ⟨t, e⟩ := Value.isInt_shape (k := i) (v := v) h
    exact .inl ⟨i, t, rfl, e⟩
  | .inr x, v, h => by
    obtain ⟨t, e⟩ := Value.isStrOf_shape (x := x) (v := v) h
    exact .inr ⟨x, t, rfl, e⟩
theorem key_ll (a b : Int) : decide ((Sum.inl a : Key) = Sum.inl b) = (a == b) := by
  by_cases e : a = b
  · subst e; simp
  · have h : ¬ (Sum.inl a : Key) = Sum.inl b := fun q => e (Sum.inl.inj q)
    rw [decide_eq_false h]
    exact (beq_eq_false_iff_ne.mpr e).symm
theorem key_rr (a b : Str) : decide ((Sum.inr a : Key) = Sum.inr b) = decide (a = b) := by
  by_cases e : a = b
  · subst e; simp
  · have h : ¬ (Sum.inr a : Key) = Sum.inr b := fun q => e (Sum.inr.inj q)
    rw [decide_eq_false h, decide_eq_false e]
theorem key_lr (a : Int) (b : Str) : decide ((Sum.inl a : Key) = Sum.inr b) = false := decide_eq_false (fun q => nomatch q)
theorem key_rl (a : Str) (b : Int) : decide ((Sum.inr a : Key) = Sum.inl b) = false := decide_eq_false (fun q => nomatch q)

def mixKind (prog : Program) (w : World) : PySem.KeyKind prog w Key where
  is := keyIs
  hash := keyH w
  inj := fun v a b ha hb => by
    rcases keyIs_shape ha with ⟨i, t, rfl, rfl⟩ | ⟨x, t, rfl, rfl⟩
    · rcases keyIs_shape hb with ⟨j, u, rfl, e⟩ | ⟨y, u, rfl, e⟩
      · injection e with e1 _; rw [e1]
      · exact nomatch e
    · rcases keyIs_shape hb with ⟨j, u, rfl, e⟩ | ⟨y, u, rfl, e⟩
      · exact nomatch e
      · injection e with e1 _; rw [e1]
  byValue := fun k v h => by
    rcases keyIs_shape h with ⟨i, t, rfl, rfl⟩ | ⟨x, t, rfl, rfl⟩ <;> rfl
  pyHash := fun hv h => by
    rcases keyIs_shape hv with ⟨i, t, rfl, rfl⟩ | ⟨x, t, rfl, rfl⟩
    · exact wpAny_pyHash_int h
    · exact wpAny_pyHash_str h
  eqBool := fun hu hv h => by
    rcases keyIs_shape hu with ⟨i, t, rfl, rfl⟩ | ⟨x, t, rfl, rfl⟩
    · rcases keyIs_shape hv with ⟨j, u, rfl, rfl⟩ | ⟨y, u, rfl, rfl⟩
      · rw [key_ll] at h; exact wpAny_eqBool_int h
      · rw [key_lr] at h; exact SeqAt.EqAt.int_str i t y u _ _ _ _ h
    · rcases keyIs_shape hv with ⟨j, u, rfl, rfl⟩ | ⟨y, u, rfl, rfl⟩
      · rw [key_rl] at h; exact SeqAt.EqAt.str_int x t j u _ _ _ _ h
      · rw [key_rr] at h; exact wpAny_eqBool_str h
  «strs» := fun k x t v h => by
    rcases keyIs_shape h with ⟨i, u, rfl, e⟩ | ⟨y, u, rfl, e⟩
    · exact nomatch e
    · injection e with e1 _
      subst e1
      cases v <;> rfl

end L2

namespace L2
open PySem PySem.Spec PyProof.Rows

/-- a value, without the heap -/
inductive V where
  | non | bl (b : Bool) | int (i : Int) | str (x : Str) | byt (b : Array UInt8) | flt (b : UInt64) | ref (a : Addr) | ty (n : String)
  deriving DecidableEq

def RelV : V → Value → Prop
  | .non, u => u = Value.none
  | .bl b, u => u = Value.bool b
  | .int i, u => ∃ t, u = Value.int i t
  | .str x, u => ∃ t, u = Value.str x t
  | .byt b, u => ∃ t, u = Value.bytes b t
  | .flt b, u => ∃ t, u = Value.float b t
  | .ref a, u => u = Value.ref a
  | .ty n, u => u = Value.type n

abbrev Vals : List V → List Value → Prop := Paired RelV
theorem Vals.length {xs : List V} {us : List Value} (r : Vals xs us) : xs.length = us.length := Paired.length r
theorem Vals.get : ∀ {xs : List V} {us : List Value} {i : Nat} {x : V}, Vals xs us → xs[i]? = some x → ∃ u, us[i]? = some u ∧ RelV x u
  | _, _, _, _, .nil, e => by simp at e
  | _, _, 0, _, .cons r _, e => by simp at e; subst e; exact ⟨_, rfl, r⟩
  | _, _, i + 1, x, .cons _ t, e => by
    obtain ⟨u, h1, h2⟩ := Vals.get (i := i) (x := x) t (by simpa using e)
    exact ⟨u, by simpa using h1, h2⟩
theorem Vals.set {x : V} {u : Value} (r : RelV x u) : ∀ {xs : List V} {us : List Value} (i : Nat), Vals xs us → Vals (xs.set i x) (us.set i u)
  | _, _, _, .nil => .nil
  | _, _, 0, .cons _ t => .cons r t
  | _, _, i + 1, .cons q t => .cons q (Vals.set r i t)
theorem Vals.append : ∀ {xs ys : List V} {us ws : List Value}, Vals xs us → Vals ys ws → Vals (xs ++ ys) (us ++ ws)
  | _, _, _, _, .nil, s => s
  | _, _, _, _, .cons r t, s => .cons r (Vals.append t s)
theorem Vals.take : ∀ {xs : List V} {us : List Value} (n : Nat), Vals xs us → Vals (xs.take n) (us.take n)
  | _, _, 0, _ => .nil
  | _, _, _ + 1, .nil => .nil
  | _, _, n + 1, .cons r t => .cons r (Vals.take n t)
theorem Vals.drop : ∀ {xs : List V} {us : List Value} (n : Nat), Vals xs us → Vals (xs.drop n) (us.drop n)
  | _, _, 0, r => r
  | _, _, _ + 1, .nil => .nil
  | _, _, n + 1, .cons _ t => Vals.drop n t
theorem Vals.none_of : ∀ {xs : List V} {us : List Value} {i : Nat}, Vals xs us → xs[i]? = none → us[i]? = none := fun {xs us i} r e => by
  have h1 := r.length
  have h2 : xs.length ≤ i := List.getElem?_eq_none_iff.mp e
  exact List.getElem?_eq_none_iff.mpr (by omega)

def RelO : Option V → Option Value → Prop
  | some v, some u => RelV v u
  | none, none => True
  | _, _ => False
def KV {κ : Type} : List (κ × V) → List (κ × Value) → Prop := Paired fun (p : κ × V) (q : κ × Value) => p.1 = q.1 ∧ RelV p.2 q.2

/-- a key of a dict (00_mix): an int or a text -/
def kV : Key → V
  | .inl i => .int i
  | .inr x => .str x

/-- what stands at a tracked address -/
inductive HO where
  /-- a list -/
  | lst (xs : List V)
  /-- a tuple (never changes) -/
  | tup (xs : List V)
  /-- a dict whose keys are ints and texts; one whose keys are tuples of ints and texts (the empty one is both) -/
  | dK (kvs : List (Key × V)) | dT (kvs : List (List Key × V))
  /-- a set of ints: its members, its size -/
  | set (S : Int → Bool) (n : Nat)
  /-- an instance of the class at C, its dict at dx, its attributes -/
  | ins (C dx : Addr) (fs : List (Str × V))
  /-- the dict of the instance at x -/
  | own (x : Addr)
  /-- the dict of an exception -/
  | xd (fs : List (Str × V))
  /-- a bound method, f of x -/
  | met (f x : Addr)
  /-- a range object lo, lo + 1, .. below hi -/
  | rng (lo hi : Int)
  /-- a thing that is known to the object (the script; a dict while a loop walks it): read, never written while it is so -/
  | frz (o : Obj) (u : HO)
  /-- a code object's table -/
  | tbl (ps : Array Value)
  /-- any other thing, by what is true of its one object (a def of one's own: SetO a S n := HO.ext fun h => ..) -/
  | ext (φ : Heap → Prop)

abbrev Hp := Addr → Option HO
def upd (H : Hp) (a : Addr) (o : HO) : Hp := fun b => if b = a then some o else H b
theorem upd_same {H : Hp} {a : Addr} {o : HO} : upd H a o a = some o := by unfold upd; rw [if_pos rfl]
theorem upd_ne {H : Hp} {a b : Addr} {o : HO} (h : b ≠ a) : upd H a o b = H b := by unfold upd; rw [if_neg h]
theorem upd_upd {H : Hp} {a : Addr} {o u : HO} : upd (upd H a o) a u = upd H a u := by
  funext b; unfold upd; split <;> rfl
/-- two objects of different content stand apart -/
theorem ne_of {H : Hp} {a b : Addr} {o u : HO} (h : H a = some o) (h' : H b = some u) (d : o ≠ u) : a ≠ b := by
  intro e; subst e; rw [h] at h'; exact d (Option.some.inj h')
theorem ne_of_none {H : Hp} {a b : Addr} {o : HO} (h : H a = some o) (h' : H b = none) : a ≠ b := by
  intro e; subst e; rw [h] at h'; cases h'

section
variable (P : Program) (w : World)
def ObjOk (H : Hp) (h : Heap) (a : Addr) : HO → Prop
  | .lst xs => xs.length ≤ sizeLine ∧ ∃ (its : List Value) (n : Nat), Vals xs its ∧ h.get? a = some { cls := .type "list", data := .seq its.toArray n }
  | .tup xs => xs.length ≤ sizeLine ∧ ∃ its : List Value, Vals xs its ∧ IsTup h a its.toArray
  | .dK kvs => kvs.length ≤ sizeLine ∧ (a == sysModules) = false ∧ ∃ vs, KV kvs vs ∧ h.DictOf (mixKind P w) a vs
  | .dT kvs => kvs.length ≤ sizeLine ∧ (a == sysModules) = false ∧ ∃ xs : List (List Key × Addr × Value),
      Paired (fun (p : List Key × V) (q : List Key × Addr × Value) => p.1 = q.1 ∧ H q.2.1 = some (.tup (p.1.map kV)) ∧ RelV p.2 q.2.2) kvs xs ∧
      ∃ o es ep, h.get? a = some o ∧ o.ExactDict ∧ o.data = .dict es ep ∧ es.toList = xs.map (entryOfKey (tupleKind (mixKind P w))) ∧ (xs.map (·.1)).Nodup
  | .set S n => h.SetOf (intKind P w) a S n
  | .ins C dx fs => H dx = some (.own a) ∧ fs.length ≤ 1000 ∧ dx ≠ a ∧ h.get? a = some (PySem.W.instObj C dx) ∧
      ∃ mA, h.Ns1 dx mA ∧ (∀ f, RelO (fs.lookup f) (mA f)) ∧ PySem.Within mA (fs.map (·.1))
  | .own _ => ∃ o, h.get? a = some o
  | .xd fs => ∃ mA, h.Ns1 a mA ∧ ∀ f, RelO (fs.lookup f) (mA f)
  | .rng lo hi => ∃ t u v, h.get? a = some { cls := .type "range", data := .fields #[.int lo t, .int hi u, .int 1 v] }
  | .frz o u => h.get? a = some o ∧ ObjOk H h a u
  | .tbl ps => h.get? a = some { cls := .none, data := .fields ps }
  | .met f x => h.get? a = some (PySem.W.methodObj (.ref f) (.ref x))
  | .ext φ => φ h ∧ (∃ o, h.get? a = some o) ∧ ∀ h1 h2 : Heap, φ h1 → (∀ o, h1.get? a = some o → h2.get? a = some o) → φ h2
/-- the abstract heap is held -/
def HOk (H : Hp) (h : Heap) : Prop := ∀ a o, H a = some o → ObjOk P w H h a o
end

section
variable {P : Program} {w : World} {H H' : Hp} {h h' : Heap} {a : Addr} {o : HO}
theorem ObjOk.lt (x : ObjOk P w H h a o) : a < h.objs.size := by
  cases o with
  | lst xs => obtain ⟨_, _, _, _, e⟩ := x; exact Heap.lt_size e
  | tup xs => obtain ⟨_, _, _, p⟩ := x; exact p.lt
  | dK kvs => obtain ⟨_, _, _, _, o, _, _, e, _⟩ := x; exact Heap.lt_size e
  | dT kvs => obtain ⟨_, _, _, _, o, _, _, e, _⟩ := x; exact Heap.lt_size e
  | set S n => obtain ⟨o, _, _, _, e, _⟩ := x; exact Heap.lt_size e
  | ins C dx fs => obtain ⟨_, _, _, e, _⟩ := x; exact Heap.lt_size e
  | own y => obtain ⟨_, e⟩ := x; exact Heap.lt_size e
  | xd fs => obtain ⟨_, ⟨_, _, _, e, _⟩, _⟩ := x; exact Heap.lt_size e
  | rng lo hi => obtain ⟨_, _, _, e⟩ := x; exact Heap.lt_size e
  | frz ob u => obtain ⟨e, _⟩ := x; exact Heap.lt_size e
  | tbl ps => exact Heap.lt_size (show h.get? a = some _ from x)
  | met f y => exact Heap.lt_size (show h.get? a = some _ from x)
  | ext φ => obtain ⟨_, ⟨_, e⟩, _⟩ := x; exact Heap.lt_size e
theorem Paired.mapP {α β : Type} {F G : α → β → Prop} : ∀ {l₁ : List α} {l₂ : List β}, Paired F l₁ l₂ → (∀ a b, F a b → G a b) → Paired G l₁ l₂
  | _, _, .nil, _ => .nil
  | _, _, .cons r t, f => .cons (f _ _ r) (Paired.mapP t f)
/-- what an object's description leans on: its own object, its own dict, the tuples -/
theorem ObjOk.stay (x : ObjOk P w H h a o) (k : ∀ b u, (b = a ∨ H b = some (.own a)) → h.get? b = some u → h'.get? b = some u)
    (ho : ∀ b, H b = some (.own a) → H' b = some (.own a)) (ht : ∀ b xs, H b = some (.tup xs) → H' b = some (.tup xs)) : ObjOk P w H' h' a o := by
  induction o with
  | lst xs => obtain ⟨z, its, n, r, e⟩ := x; exact ⟨z, its, n, r, k _ _ (.inl rfl) e⟩
  | tup xs => obtain ⟨z, its, r, ob, e, c⟩ := x; exact ⟨z, its, r, ob, k _ _ (.inl rfl) e, c⟩
  | dK kvs => obtain ⟨z, y, vs, r, ob, es, ep, e, c⟩ := x; exact ⟨z, y, vs, r, ob, es, ep, k _ _ (.inl rfl) e, c⟩
  | dT kvs =>
    obtain ⟨z, y, xs, r, ob, es, ep, e, c⟩ := x
    exact ⟨z, y, xs, Paired.mapP r fun p q z => ⟨z.1, ht _ _ z.2.1, z.2.2⟩, ob, es, ep, k _ _ (.inl rfl) e, c⟩
  | set S n => obtain ⟨ob, es, ep, t, e, c⟩ := x; exact ⟨ob, es, ep, t, k _ _ (.inl rfl) e, c⟩
  | ins C dx fs =>
    obtain ⟨d, z, ne, e, mA, ⟨od, es, ep, e2, c⟩, r⟩ := x
    exact ⟨ho _ d, z, ne, k _ _ (.inl rfl) e, mA, ⟨od, es, ep, k _ _ (.inr d) e2, c⟩, r⟩
  | own y => obtain ⟨ob, e⟩ := x; exact ⟨ob, k _ _ (.inl rfl) e⟩
  | xd fs => obtain ⟨mA, ⟨od, es, ep, e, c⟩, r⟩ := x; exact ⟨mA, ⟨od, es, ep, k _ _ (.inl rfl) e, c⟩, r⟩
  | rng lo hi => obtain ⟨t, u, v, e⟩ := x; exact ⟨t, u, v, k _ _ (.inl rfl) e⟩
  | frz ob u ih => obtain ⟨e, q⟩ := x; exact ⟨k _ _ (.inl rfl) e, ih q⟩
  | tbl ps =>
    have e : h.get? a = some { cls := .none, data := .fields ps } := x
    show h'.get? a = some { cls := .none, data := .fields ps }
    exact k a _ (.inl rfl) e
  | met f y =>
    have e : h.get? a = some (PySem.W.methodObj (.ref f) (.ref y)) := x
    show h'.get? a = some (PySem.W.methodObj (.ref f) (.ref y))
    exact k a _ (.inl rfl) e
  | ext φ => obtain ⟨p, ⟨o, e⟩, st⟩ := x; exact ⟨st _ _ p fun o q => k _ _ (.inl rfl) q, ⟨o, k _ _ (.inl rfl) e⟩, st⟩
theorem HOk.lt (x : HOk P w H h) (e : H a = some o) : a < h.objs.size := (x a o e).lt
theorem HOk.fresh (x : HOk P w H h) (e : h.objs.size ≤ a) : H a = none := by
  cases q : H a with
  | none => rfl
  | some u => exact absurd (Nat.lt_of_lt_of_le (x.lt q) e) (Nat.lt_irrefl _)
/-- every object of the heap is kept -/
theorem HOk.kept (x : HOk P w H h) (k : ∀ b u, h.get? b = some u → h'.get? b = some u) : HOk P w H h' := fun a o e =>
  (x a o e).stay (fun b u _ q => k b u q) (fun _ q => q) fun _ _ q => q
/-- a new object is laid and tracked -/
theorem HOk.laid (x : HOk P w H h) (k : ∀ b u, h.get? b = some u → h'.get? b = some u) (hp : h.objs.size ≤ a) (new : ObjOk P w (upd H a o) h' a o) : HOk P w (upd H a o) h' := fun b u e => by
  have hn := x.fresh hp
  by_cases hb : b = a
  · subst hb; rw [upd_same] at e; cases e; exact new
  · rw [upd_ne hb] at e
    exact (x b u e).stay (fun c v _ q => k c v q) (fun c q => by rw [upd_ne (ne_of_none q hn)]; exact q) fun c xs q => by rw [upd_ne (ne_of_none q hn)]; exact q
end

/-- what may be read as u: it is u, or a known u -/
def Rd (H : Hp) (a : Addr) (u : HO) : Prop := H a = some u ∨ ∃ o, H a = some (.frz o u)
theorem Rd.of {H : Hp} {a : Addr} {u : HO} (h : H a = some u) : Rd H a u := .inl h
theorem Rd.ok {P : Program} {w : World} {H : Hp} {h : Heap} {a : Addr} {u : HO} (r : Rd H a u) (x : HOk P w H h) : ObjOk P w H h a u := by
  rcases r with r | ⟨o, r⟩
  · exact x a u r
  · obtain ⟨_, q⟩ := x a _ r
    exact q
/-- what may be written -/
def Mut : Option HO → Prop
  | some (.lst _) => True
  | some (.dK _) => True
  | some (.dT _) => True
  | some (.set _ _) => True
  | some (.ins _ _ _) => True
  | some (.ext _) => True
  | _ => False
section
variable {P : Program} {w : World} {H : Hp} {h h' : Heap} {x e : Addr} {o' : HO}
/-- the object at e is changed: x itself, or the dict of the instance x -/
theorem HOk.write (ok : HOk P w H h) (mu : Mut (H x)) (he : e = x ∨ H e = some (.own x)) (k : ∀ b u, b ≠ e → h.get? b = some u → h'.get? b = some u) (heo : ∃ u, h'.get? e = some u)
    (new : ObjOk P w (upd H x o') h' x o') : HOk P w (upd H x o') h' := fun b u q => by
  have nown : ∀ c y, H c = some (.own y) → c ≠ x := fun c y r z => by subst z; rw [r] at mu; exact mu
  have ntup : ∀ c xs, H c = some (.tup xs) → c ≠ x := fun c xs r z => by subst z; rw [r] at mu; exact mu
  by_cases hb : b = x
  · subst hb; rw [upd_same] at q; cases q; exact new
  · rw [upd_ne hb] at q
    by_cases hbe : b = e
    · have q' : H b = some (.own x) := by
        rcases he with z | z
        · exact absurd (hbe.trans z) hb
        · rw [hbe]; exact z
      rw [q] at q'; cases q'
      obtain ⟨v, hv⟩ := heo
      exact ⟨v, by rw [hbe]; exact hv⟩
    · refine (ok b u q).stay (fun c v hc r => k c v ?_ r) (fun c r => by rw [upd_ne (nown c b r)]; exact r) fun c xs r => by rw [upd_ne (ntup c xs r)]; exact r
      rcases hc with rfl | hc
      · exact hbe
      · rintro rfl
        rcases he with z | z
        · exact nown c b hc z
        · rw [hc] at z; cases z; exact hb rfl
end

/-! ### kept unless tracked; of the frames at fs (the callers') the slots may change (an exception that passes writes there); of the records at ex (iterators) nothing is said -/
structure Un (fs ex : List Addr) (H H' : Hp) (h h' : Heap) : Prop where
  keep : ∀ b o, h.get? b = some o → H b = none → b ∉ fs → b ∉ ex → h'.get? b = some o
  slot : ∀ b o, h.get? b = some o → H b = none → b ∈ fs → b ∉ ex → ∃ sl, h'.get? b = some { o with slots := sl }
  free : ∀ b o, h.get? b = some o → H b = none → b ∉ ex → H' b = none
  there : ∀ b o, h.get? b = some o → b ∉ ex → ∃ o', h'.get? b = some o'
  tups : ∀ b xs, H b = some (.tup xs) → H' b = some (.tup xs)
  frzs : ∀ b o u, H b = some (.frz o u) → H' b = some (.frz o u)
  tbls : ∀ b ps, H b = some (.tbl ps) → ∃ more, H' b = some (.tbl (ps ++ more))
section
variable {fs fs' ex ex' : List Addr} {H H1 H2 : Hp} {h h1 h2 h' : Heap} {a x e : Addr} {o : HO}
theorem Un.any (u : Un fs ex H H1 h h1) {b : Addr} {ob : Obj} (q : h.get? b = some ob) (n : H b = none) (hx : b ∉ ex) : ∃ sl, h1.get? b = some { ob with slots := sl } := by
  by_cases hb : b ∈ fs
  · exact u.slot b ob q n hb hx
  · exact ⟨ob.slots, u.keep b ob q n hb hx⟩
theorem Un.trans (a : Un fs ex H H1 h h1) (b : Un fs ex H1 H2 h1 h2) : Un fs ex H H2 h h2 where
  keep := fun c ob q n hc hx => b.keep c ob (a.keep c ob q n hc hx) (a.free c ob q n hx) hc hx
  slot := fun c ob q n hc hx => by
    obtain ⟨sl, e1⟩ := a.slot c ob q n hc hx
    obtain ⟨sl', e2⟩ := b.slot c _ e1 (a.free c ob q n hx) hc hx
    exact ⟨sl', e2⟩
  free := fun c ob q n hx => by
    obtain ⟨o', e1⟩ := a.there c ob q hx
    exact b.free c o' e1 (a.free c ob q n hx) hx
  there := fun c ob q hx => by
    obtain ⟨o', e1⟩ := a.there c ob q hx
    exact b.there c o' e1 hx
  tups := fun c xs q => b.tups c xs (a.tups c xs q)
  frzs := fun c ob xs q => b.frzs c ob xs (a.frzs c ob xs q)
  tbls := fun c ps q => by
    obtain ⟨m1, e1⟩ := a.tbls c ps q
    obtain ⟨m2, e2⟩ := b.tbls c _ e1
    exact ⟨m1 ++ m2, by rw [e2, Array.append_assoc]⟩
theorem Un.kept (k : ∀ b u, h.get? b = some u → h'.get? b = some u) : Un fs ex H H h h' :=
  ⟨fun b ob q _ _ _ => k b ob q, fun b ob q _ _ _ => ⟨ob.slots, k b ob q⟩, fun _ _ _ n _ => n, fun b ob q _ => ⟨ob, k b ob q⟩, fun _ _ q => q, fun _ _ _ q => q, fun _ ps q => ⟨#[], by rw [q]; simp⟩⟩
theorem Un.refl : Un fs ex H H h h := Un.kept fun _ _ q => q
theorem Un.laid (k : ∀ b u, h.get? b = some u → h'.get? b = some u) (hp : h.objs.size ≤ a) (hn : H a = none) : Un fs ex H (upd H a o) h h' where
  keep := fun b u q _ _ _ => k b u q
  slot := fun b u q _ _ _ => ⟨u.slots, k b u q⟩
  free := fun b u q n _ => by rw [upd_ne (Nat.ne_of_lt (Nat.lt_of_lt_of_le (Heap.lt_size q) hp))]; exact n
  there := fun b u q _ => ⟨u, k b u q⟩
  tups := fun b xs q => by rw [upd_ne (ne_of_none q hn)]; exact q
  frzs := fun b u xs q => by rw [upd_ne (ne_of_none q hn)]; exact q
  tbls := fun b ps q => ⟨#[], by rw [upd_ne (ne_of_none q hn), q]; simp⟩
theorem Un.write (mu : Mut (H x)) (he : e = x ∨ H e = some (.own x)) (k : ∀ b u, b ≠ e → h.get? b = some u → h'.get? b = some u) (heo : ∃ u, h'.get? e = some u) : Un fs ex H (upd H x o) h h' := by
  have hx : ∀ b, H b = none → b ≠ x := fun b n z => by subst z; rw [n] at mu; exact mu
  have hb : ∀ b, H b = none → b ≠ e := fun b n z => by
    subst z
    rcases he with r | r
    · exact hx b n r
    · rw [n] at r; cases r
  have hm : ∀ b u, H b = some u → ¬ Mut (some u) → b ≠ x := fun b u q nm z => by subst z; rw [q] at mu; exact nm mu
  refine ⟨fun b u q n _ _ => k b u (hb b n) q, fun b u q n _ _ => ⟨u.slots, k b u (hb b n) q⟩, fun b u q n _ => by rw [upd_ne (hx b n)]; exact n, fun b u q _ => ?_,
    fun b xs q => by rw [upd_ne (hm b _ q fun z => z)]; exact q, fun b u xs q => by rw [upd_ne (hm b _ q fun z => z)]; exact q, fun b ps q => ⟨#[], by rw [upd_ne (hm b _ q fun z => z), q]; simp⟩⟩
  by_cases hbe : b = e
  · subst hbe; exact heo
  · exact ⟨u, k b u hbe q⟩
theorem Un.mono (u : Un fs ex H H1 h h1) (hs : ∀ b ∈ fs, b ∈ fs') (hx : ∀ b ∈ ex, b ∈ ex') : Un fs' ex' H H1 h h1 :=
  ⟨fun b ob q n hb he => u.keep b ob q n (fun z => hb (hs b z)) fun z => he (hx b z), fun _ _ q n _ he => u.any q n fun z => he (hx _ z), fun b ob q n he => u.free b ob q n fun z => he (hx b z), fun b ob q he => u.there b ob q fun z => he (hx b z), u.tups, u.frzs, u.tbls⟩
end

/-! ### the heap without what is tracked -/
def trk (h : Heap) (H : Hp) : List Addr := (List.range h.objs.size).filter fun a => (H a).isSome
def hidT (h : Heap) (H : Hp) : Heap := PySem.W.hideAll h (trk h H)
theorem hidT_size (h : Heap) (H : Hp) : (hidT h H).objs.size = h.objs.size := PySem.W.hideAll_size _ _
theorem hidT_get {h : Heap} {H : Hp} {b : Addr} {o : Obj} (e : h.get? b = some o) (n : H b = none) : (hidT h H).get? b = some o :=
  PySem.W.hideAll_get _ e fun hm => by
    have q : (H b).isSome = true := (List.mem_filter.mp hm).2
    rw [n] at q; simp at q
theorem of_hidT {h : Heap} {H : Hp} {b : Addr} {o : Obj} (e : (hidT h H).get? b = some o) : h.get? b = some o ∧ H b = none := by
  have e' : h.get? b = some o := PySem.W.of_hideAll (trk h H) e
  refine ⟨e', ?_⟩
  cases q : H b with
  | none => rfl
  | some x =>
    have hm : b ∈ trk h H := List.mem_filter.mpr ⟨List.mem_range.mpr (Heap.lt_size e'), by simp [q]⟩
    have z : (hidT h H).get? b = none := PySem.W.hideAll_none (trk h H) hm
    rw [z] at e; cases e

/-! ### OpenK's ledger, filled with every new object but one -/
def allNews (g h : Heap) (L : Addr) : List (Addr × Obj) := (List.range h.objs.size).filterMap fun a => if a = L ∨ (g.get? a).isSome = true then none else (h.get? a).map fun o => (a, o)
def rest (g h : Heap) (L d : Addr) : List (Addr × Obj) := (allNews g h L).filter fun p => decide (p.1 ≠ d)
end L2

namespace L2
open PySem PySem.Spec PyProof.Rows

/-- the module's facts, over the base: the heap at the law's entry without what is tracked there -/
structure Mod (K : PySem.W.Frag) (mg : Str → Option Value) (base : Heap) : Prop where
  kin : K.In base
  glob : base.Ns mainGlobals mg
  blt : ∃ mb, base.Ns builtinsNs mb ∧ ∀ x : Str, x ≠ "__name__" → mb x = bootBuiltins x
  nolimit : base.NoLimit

/-- the context: a def's body (or a comprehension's block) running. base: fixed through the whole law; s₀, H₀: the entry; outer: the frames whose slots others may change (a def's callers); stack: all frames that run;
   ex: iterators that were made ahead of the entry and are walked here (a comprehension's); fn: the names whose cells were made at the entry (a def: all; a comprehension's block: its own); calm: not within an except suite; pn: pins that every state bears; xe: what is wanted of an exception that leaves the code -/
structure Cx where
  prog : Program
  w : World
  K : PySem.W.Frag
  mg : Str → Option Value
  base : Heap
  A : Around
  N : List Str
  s_0 : Shared
  H_0 : Hp
  env : Env
  outer : List Env
  stack : List Env
  ex : List Addr
  fn : Str → Bool
  calm : Bool
  pn : List (Addr × Obj)
  xe : Value → Shared → Prop
/-- the callers' frames -/
def frs (l : List Env) : List Addr := l.filterMap (·.frame)
abbrev Cx.fs (X : Cx) : List Addr := frs X.outer

def Vis (sc : Scope) (x : Str) : Prop := sc.names.lookup x = some .local ∨ sc.names.lookup x = some .cell ∨ sc.names.lookup x = some .free
def Loc (sc : Scope) (x : Str) : Prop := sc.names.lookup x = some .local ∨ sc.names.lookup x = some .cell
def Look (env : Env) (h : Heap) (m : Str → Option Value) (x : Str) (u : Value) : Prop :=
  (env.kindOf x = some .local ∧ m x = some u) ∨ ((env.kindOf x = some .cell ∨ env.kindOf x = some .free) ∧ ∃ c, env.cells.lookup x = some c ∧ h.IsCell c (some u))

structure Cx.Ok (X : Cx) : Prop where
  mod : Mod X.K X.mg X.base
  kind : X.env.scope.kind = .function
  glob : X.env.globals = mainGlobals
  blt : X.env.builtins = builtinsNs
  above : X.s_0.heap.objs.size ≤ X.env.locals
  inj : ∀ x y c, X.env.cells.lookup x = some c → X.env.cells.lookup y = some c → x = y
  has : ∀ x, (X.env.kindOf x = some .cell ∨ X.env.kindOf x = some .free) → ∃ c, X.env.cells.lookup x = some c
  cab : ∀ x c, X.fn x = true → X.env.cells.lookup x = some c → X.s_0.heap.objs.size ≤ c
  hd : X.calm = true → X.A.handled = none
  frames : X.A.frames = some X.stack
  stk : X.stack = X.outer ∨ (X.stack = X.env :: X.outer ∧ X.env.frame = some X.env.locals)
  exf : ∀ b ∈ X.ex, b ≠ X.env.locals ∧ ∀ x c, X.env.cells.lookup x = some c → c ≠ b
  bs : ∀ b o, X.base.get? b = some o → X.s_0.heap.get? b = some o ∧ X.H_0 b = none
  bsz : X.base.objs.size ≤ X.s_0.heap.objs.size
  noex : ∀ b o, X.base.get? b = some o → b ∉ X.ex
  exfs : ∀ b ∈ X.ex, b ∉ X.fs
  funs : X.s_0.heap.FunFrames X.base X.outer
  frf : ∀ b ∈ X.fs, X.H_0 b = none

structure Inv (X : Cx) (pins : List (Addr × Obj)) (σ : List (Option V)) (H : Hp) (s : Shared) : Prop where
  ok : X.Ok
  os : s.os = X.s_0.os
  bare : AllBare s.gens
  base : Un X.fs X.ex X.H_0 H X.s_0.heap s.heap
  loc : ∃ m, s.heap.Ns X.env.locals m ∧ ∀ (i : Nat) (x : Str) (v : V), X.N[i]? = some x → σ[i]? = some (some v) → Vis X.env.scope x → ∃ u, RelV v u ∧ Look X.env s.heap m x u
  cell : ∀ x c, X.env.cells.lookup x = some c → ∃ v, s.heap.IsCell c v
  free : H X.env.locals = none
  freeC : ∀ x c, X.env.cells.lookup x = some c → H c = none
  pin : ∀ p ∈ X.pn ++ pins, s.heap.get? p.1 = some p.2 ∧ H p.1 = none ∧ p.1 ≠ X.env.locals ∧ p.1 ∉ X.fs ∧ ∀ v, p.2.data ≠ .cell v
  hok : HOk X.prog X.w H s.heap
  len : σ.length = X.N.length

section
variable {X : Cx} {pins : List (Addr × Obj)} {σ : List (Option V)} {H H' : Hp} {s : Shared} {h' : Heap}

theorem Cx.Ok.nofr (ok : X.Ok) {b : Addr} {o : Obj} (e : X.base.get? b = some o) : b ∉ X.fs := fun hb => by
  have := (ok.funs.mem hb).1
  rw [e] at this; cases this
theorem Inv.bs (I : Inv X pins σ H s) : ∀ b o, X.base.get? b = some o → s.heap.get? b = some o ∧ H b = none := fun b o e =>
  ⟨I.base.keep b o (I.ok.bs b o e).1 (I.ok.bs b o e).2 (I.ok.nofr e) (I.ok.noex b o e), I.base.free b o (I.ok.bs b o e).1 (I.ok.bs b o e).2 (I.ok.noex b o e)⟩
theorem Inv.bk (I : Inv X pins σ H s) : ∀ b o, X.base.get? b = some o → s.heap.get? b = some o := fun b o e => (I.bs b o e).1
theorem Inv.mod (I : Inv X pins σ H s) : Mod X.K X.mg X.base := I.ok.mod
theorem Inv.kIn (I : Inv X pins σ H s) : X.K.In s.heap := I.ok.mod.kin.keeps I.bk
theorem Inv.nolimit (I : Inv X pins σ H s) : s.heap.NoLimit := I.ok.mod.nolimit.keeps I.bk
theorem Inv.lt (I : Inv X pins σ H s) : X.env.locals < s.heap.objs.size := let ⟨_, hn, _⟩ := I.loc; hn.lt
theorem Inv.sz (I : Inv X pins σ H s) : X.s_0.heap.objs.size ≤ s.heap.objs.size := Nat.le_trans I.ok.above (Nat.le_of_lt I.lt)
theorem Inv.nofs (I : Inv X pins σ H s) {a : Addr} (h : s.heap.objs.size ≤ a) : a ∉ X.fs := fun hb => by
  obtain ⟨_, o, ho, _⟩ := I.ok.funs.mem hb
  exact absurd (Nat.lt_of_lt_of_le (Heap.lt_size ho) (Nat.le_trans I.sz h)) (Nat.lt_irrefl _)
theorem Inv.cne (I : Inv X pins σ H s) : ∀ x c, X.env.cells.lookup x = some c → c ≠ X.env.locals := fun x c e z => by
  obtain ⟨v, o, ho, hd⟩ := I.cell x c e
  obtain ⟨m, ⟨o', es, ep, ho', hd', _⟩, _⟩ := I.loc
  rw [z, ho'] at ho; cases ho; rw [hd'] at hd; cases hd
theorem Inv.funs (I : Inv X pins σ H s) : s.heap.FunFrames X.base X.outer := by
  have all : ∀ (l : List Env), (∀ b ∈ frs l, b ∈ X.fs) → X.s_0.heap.FunFrames X.base l → s.heap.FunFrames X.base l := by
    intro l
    induction l with
    | nil => intro _ _; trivial
    | cons env r ih =>
      intro hs hl
      obtain ⟨hk, ⟨L, o, hf, hn, ho, hd⟩, hr⟩ := hl
      have hL : L ∈ X.fs := hs L (by unfold frs; rw [List.filterMap_cons, hf]; exact List.mem_cons_self)
      obtain ⟨sl, e⟩ := I.base.slot L o ho (I.ok.frf L hL) hL fun z => I.ok.exfs L z hL
      exact ⟨hk, ⟨L, _, hf, hn, e, hd⟩, ih (fun b hb => hs b (by unfold frs; rw [List.filterMap_cons, hf]; exact List.mem_cons_of_mem _ hb)) hr⟩
  exact all X.outer (fun _ hb => hb) I.ok.funs

/-- the frames that run, for a call -/
theorem Inv.stack (I : Inv X pins σ H s) : s.heap.FunFrames X.base X.stack := by
  rcases I.ok.stk with e | ⟨e, hf⟩
  · rw [e]; exact I.funs
  · rw [e]
    obtain ⟨m, hn, _⟩ := I.loc
    refine .cons (by rw [I.ok.kind]; decide) hf hn ?_ I.funs
    exact Heap.get?_none_of_le (Nat.le_trans I.ok.bsz I.ok.above)
theorem Inv.stkSub (I : Inv X pins σ H s) : ∀ b ∈ frs X.stack, b ∈ X.env.locals :: X.fs := fun b hb => by
  rcases I.ok.stk with e | ⟨e, hf⟩
  · rw [e] at hb; exact List.mem_cons_of_mem _ hb
  · rw [e] at hb
    unfold frs at hb
    rw [List.filterMap_cons, hf] at hb
    exact hb
theorem Inv.stkFree (I : Inv X pins σ H s) : ∀ b ∈ frs X.stack, H b = none := fun b hb => by
  rcases List.mem_cons.mp (I.stkSub b hb) with e | hb
  · rw [e]; exact I.free
  · obtain ⟨_, o, ho, _⟩ := I.ok.funs.mem hb
    exact I.base.free b o ho (I.ok.frf b hb) fun z => I.ok.exfs b z hb

/-- THE STEP: the untracked objects but the frame and the records at ch are kept (the callers' frames up to slots), the frame's map is kept, the new abstract heap is held -/
theorem Inv.step {g' : Array GenState} {t' : Nat} {d' : Drawn} {ch : List Addr} (I : Inv X pins σ H s)
    (hch : ∀ b ∈ ch, (b ∈ X.ex ∨ X.s_0.heap.objs.size ≤ b) ∧ b ≠ X.env.locals ∧ (∀ x c, X.env.cells.lookup x = some c → c ≠ b) ∧ ∀ p ∈ X.pn ++ pins, p.1 ≠ b)
    (keep : ∀ b o, b ≠ X.env.locals → b ∉ X.fs → b ∉ ch → s.heap.get? b = some o → H b = none → h'.get? b = some o)
    (slot : ∀ b o, b ≠ X.env.locals → b ∈ X.fs → b ∉ ch → s.heap.get? b = some o → H b = none → ∃ sl, h'.get? b = some { o with slots := sl }) (free : ∀ b o, b ∉ ch → s.heap.get? b = some o → H b = none → H' b = none)
    (there : ∀ b o, b ∉ ch → s.heap.get? b = some o → ∃ o', h'.get? b = some o')
    (tups : ∀ b xs, H b = some (.tup xs) → H' b = some (.tup xs)) (frzs : ∀ b o u, H b = some (.frz o u) → H' b = some (.frz o u)) (tbls : ∀ b ps, H b = some (.tbl ps) → ∃ more, H' b = some (.tbl (ps ++ more)))
    (ns : ∀ m, s.heap.Ns X.env.locals m → h'.Ns X.env.locals m) (hok : HOk X.prog X.w H' h') (hg : AllBare g') :
    Inv X pins σ H' { s with heap := h', gens := g', drawn := d', toks := t' } := by
  have neL : ∀ b o, X.s_0.heap.get? b = some o → b ≠ X.env.locals := fun b o e => Nat.ne_of_lt (Nat.lt_of_lt_of_le (Heap.lt_size e) I.ok.above)
  have neC : ∀ b o, X.s_0.heap.get? b = some o → b ∉ X.ex → b ∉ ch := fun b o e hx hb => by
    rcases (hch b hb).1 with z | z
    · exact hx z
    · exact absurd (Nat.lt_of_lt_of_le (Heap.lt_size e) z) (Nat.lt_irrefl _)
  have cellK : ∀ x c, X.env.cells.lookup x = some c → ∀ v, s.heap.IsCell c v → h'.IsCell c v := fun x c e v ⟨o, ho, hd⟩ => by
    have nch : c ∉ ch := fun z => (hch c z).2.2.1 x c e rfl
    by_cases hc : c ∈ X.fs
    · obtain ⟨sl, q⟩ := slot c o (I.cne x c e) hc nch ho (I.freeC x c e)
      exact ⟨_, q, hd⟩
    · exact ⟨o, keep c o (I.cne x c e) hc nch ho (I.freeC x c e), hd⟩
  refine ⟨I.ok, I.os, hg, ⟨fun b o e n hb hx => ?_, fun b o e n hb hx => ?_, fun b o e n hx => ?_, fun b o e hx => ?_, fun b xs e => tups b xs (I.base.tups b xs e), fun b o xs e => frzs b o xs (I.base.frzs b o xs e), fun b ps e => ?_⟩, ?_, fun x c e => ?_, ?_, fun x c e => ?_, fun p hp => ?_, hok, I.len⟩
  · exact keep b o (neL b o e) hb (neC b o e hx) (I.base.keep b o e n hb hx) (I.base.free b o e n hx)
  · obtain ⟨sl, e1⟩ := I.base.slot b o e n hb hx
    obtain ⟨sl', e2⟩ := slot b _ (neL b o e) hb (neC b o e hx) e1 (I.base.free b o e n hx)
    exact ⟨sl', e2⟩
  · obtain ⟨o', e1⟩ := I.base.there b o e hx
    exact free b o' (neC b o e hx) e1 (I.base.free b o e n hx)
  · obtain ⟨o', e1⟩ := I.base.there b o e hx
    exact there b o' (neC b o e hx) e1
  · obtain ⟨m1, e1⟩ := I.base.tbls b ps e
    obtain ⟨m2, e2⟩ := tbls b _ e1
    exact ⟨m1 ++ m2, by rw [e2, Array.append_assoc]⟩
  · obtain ⟨m, hn, hl⟩ := I.loc
    refine ⟨m, ns m hn, fun i x v e1 e2 e3 => ?_⟩
    obtain ⟨u, r, l⟩ := hl i x v e1 e2 e3
    refine ⟨u, r, ?_⟩
    rcases l with l | ⟨k, c, e, z⟩
    · exact .inl l
    · exact .inr ⟨k, c, e, cellK x c e _ z⟩
  · obtain ⟨v, z⟩ := I.cell x c e
    exact ⟨v, cellK x c e v z⟩
  · obtain ⟨m, ⟨o, _, _, ho, _⟩, _⟩ := I.loc
    exact free _ o (fun z => (hch _ z).2.1 rfl) ho I.free
  · obtain ⟨v, o, ho, hd⟩ := I.cell x c e
    exact free c o (fun z => (hch c z).2.2.1 x c e rfl) ho (I.freeC x c e)
  · obtain ⟨e, n, ne, nf, d⟩ := I.pin p hp
    have nch : p.1 ∉ ch := fun z => (hch p.1 z).2.2.2 p hp rfl
    exact ⟨keep p.1 p.2 ne nf nch e n, free p.1 p.2 nch e n, ne, nf, d⟩
/-- .. where the frame's own object is kept too -/
theorem Inv.un {t' : Nat} (I : Inv X pins σ H s) (u : Un X.fs [] H H' s.heap h') (hok : HOk X.prog X.w H' h') : Inv X pins σ H' { s with heap := h', toks := t' } := by
  obtain ⟨m, ⟨o, es, ep, ho, r⟩, _⟩ := id I.loc
  obtain ⟨sl, hL⟩ := u.any ho I.free (by simp)
  exact I.step (g' := s.gens) (d' := s.drawn) (ch := []) (fun _ z => nomatch z) (fun b o _ hb _ e n => u.keep b o e n hb (by simp)) (fun b o _ hb _ e n => u.slot b o e n hb (by simp)) (fun b o _ e n => u.free b o e n (by simp)) (fun b o _ e => u.there b o e (by simp)) u.tups u.frzs u.tbls (fun m' hm => by
    obtain ⟨o', es', ep', ho', r'⟩ := hm
    rw [ho] at ho'; cases ho'
    exact ⟨_, es', ep', hL, r'⟩) hok I.bare
/-- behind a call (or a comprehension's block): the slots of this frame may have changed too, the records at ch may have turned -/
theorem Inv.call {g' : Array GenState} {t' : Nat} {d' : Drawn} {ch : List Addr} (I : Inv X pins σ H s) (u : Un (frs X.stack) ch H H' s.heap h') (hok : HOk X.prog X.w H' h') (hg : AllBare g')
    (hch : ∀ b ∈ ch, (b ∈ X.ex ∨ X.s_0.heap.objs.size ≤ b) ∧ b ≠ X.env.locals ∧ (∀ x c, X.env.cells.lookup x = some c → c ≠ b) ∧ ∀ p ∈ X.pn ++ pins, p.1 ≠ b) :
    Inv X pins σ H' { s with heap := h', gens := g', drawn := d', toks := t' } := by
  obtain ⟨m, ⟨o, es, ep, ho, r⟩, _⟩ := id I.loc
  obtain ⟨sl, hL⟩ := u.any ho I.free fun z => (hch _ z).2.1 rfl
  exact I.step (ch := ch) hch (fun b o hL hb hc e n => u.keep b o e n (fun z => (List.mem_cons.mp (I.stkSub b z)).elim hL hb) hc) (fun b o _ _ hc e n => u.any e n hc) (fun b o hc e n => u.free b o e n hc) (fun b o hc e => u.there b o e hc) u.tups u.frzs u.tbls (fun m' hm => by
    obtain ⟨o', es', ep', ho', r'⟩ := hm
    rw [ho] at ho'; cases ho'
    exact ⟨_, es', ep', hL, r'⟩) hok hg
/-- an untracked record of ours (an iterator) has turned -/
theorem Inv.turned {t' : Nat} {it : Addr} (I : Inv X pins σ H s) (k : ∀ b o, b ≠ it → s.heap.get? b = some o → h'.get? b = some o) (hn : H it = none) (hL : it ≠ X.env.locals)
    (h1 : it ∈ X.ex ∨ X.s_0.heap.objs.size ≤ it) (h2 : ∀ x c, X.env.cells.lookup x = some c → c ≠ it) (h3 : ∀ p ∈ X.pn ++ pins, p.1 ≠ it) : Inv X pins σ H { s with heap := h', toks := t' } := by
  have nit : ∀ b u, H b = some u → b ≠ it := fun b u e z => by rw [z, hn] at e; cases e
  refine I.step (g' := s.gens) (d' := s.drawn) (ch := [it]) (fun b hb => ?_) (fun b o _ _ hc e _ => k b o (fun z => hc (by simp [z])) e) (fun b o _ _ hc e _ => ⟨o.slots, k b o (fun z => hc (by simp [z])) e⟩) (fun _ _ _ _ n => n)
    (fun b o hc e => ⟨o, k b o (fun z => hc (by simp [z])) e⟩) (fun _ _ e => e) (fun _ _ _ e => e) (fun b ps e => ⟨#[], by rw [e]; simp⟩) (fun m hm => ?_) (fun b u e => ?_) I.bare
  · have e : b = it := by simpa using hb
    subst e
    exact ⟨h1, hL, h2, h3⟩
  · obtain ⟨o, es, ep, ho, r⟩ := hm
    exact ⟨o, es, ep, k _ o (Ne.symm hL) ho, r⟩
  · refine (I.hok b u e).stay (fun c v hc q => k c v ?_ q) (fun _ q => q) fun _ _ q => q
    rcases hc with z | z
    · rw [z]; exact nit b u e
    · exact nit c _ z
theorem Inv.tok (I : Inv X pins σ H s) (t : Nat) : Inv X pins σ H { s with toks := t } := I.un (h' := s.heap) (t' := t) Un.refl I.hok
/-- all objects kept -/
theorem Inv.kept {t' : Nat} (I : Inv X pins σ H s) (k : ∀ b u, s.heap.get? b = some u → h'.get? b = some u) : Inv X pins σ H { s with heap := h', toks := t' } := I.un (Un.kept k) (I.hok.kept k)
/-- a new object laid and tracked -/
theorem Inv.laid {a : Addr} {o : HO} {t' : Nat} (I : Inv X pins σ H s) (k : ∀ b u, s.heap.get? b = some u → h'.get? b = some u) (hp : s.heap.objs.size ≤ a) (new : ObjOk X.prog X.w (upd H a o) h' a o) :
    Inv X pins σ (upd H a o) { s with heap := h', toks := t' } := I.un (Un.laid k hp (I.hok.fresh hp)) (I.hok.laid k hp new)
/-- an object written -/
theorem Inv.write {x e : Addr} {o : HO} {t' : Nat} (I : Inv X pins σ H s) (mu : Mut (H x)) (he : e = x ∨ H e = some (.own x)) (k : ∀ b u, b ≠ e → s.heap.get? b = some u → h'.get? b = some u) (heo : ∃ u, h'.get? e = some u)
    (new : ObjOk X.prog X.w (upd H x o) h' x o) : Inv X pins σ (upd H x o) { s with heap := h', toks := t' } := I.un (Un.write mu he k heo) (I.hok.write mu he k heo new)
/-- forgetting slots, pins -/
theorem Inv.weak {σ' : List (Option V)} (I : Inv X pins σ H s) (hl : σ'.length = σ.length) (w : ∀ (i : Nat) v, σ'[i]? = some (some v) → σ[i]? = some (some v)) : Inv X pins σ' H s :=
  ⟨I.ok, I.os, I.bare, I.base, let ⟨m, hn, hl'⟩ := I.loc; ⟨m, hn, fun i x v e1 e2 e3 => hl' i x v e1 (w i v e2) e3⟩, I.cell, I.free, I.freeC, I.pin, I.hok, hl.trans I.len⟩
theorem Inv.pins_of {pins' : List (Addr × Obj)} (I : Inv X pins σ H s) (h : ∀ p ∈ pins', s.heap.get? p.1 = some p.2 ∧ H p.1 = none ∧ p.1 ≠ X.env.locals ∧ p.1 ∉ X.fs ∧ ∀ v, p.2.data ≠ .cell v) : Inv X pins' σ H s :=
  ⟨I.ok, I.os, I.bare, I.base, I.loc, I.cell, I.free, I.freeC, fun p hp => (List.mem_append.mp hp).elim (fun z => I.pin p (List.mem_append_left _ z)) (h p), I.hok, I.len⟩

theorem nodup_ix {N : List Str} (hN : N.Nodup) {i j : Nat} {x : Str} (a : N[i]? = some x) (b : N[j]? = some x) : i = j := by
  obtain ⟨h1, e1⟩ := List.getElem?_eq_some_iff.mp a
  obtain ⟨h2, e2⟩ := List.getElem?_eq_some_iff.mp b
  exact (List.getElem_inj hN).mp (e1.trans e2.symm)

/-- a name is stored; what changed -/
theorem store_ok2 {M : Model} {A : Around} {E : Value → Shared → Prop} {i : Nat} {x : Str} {v : V} {u : Value} {Q : Unit → Shared → Prop} (I : Inv X pins σ H s) (hN : X.N.Nodup) (hi : X.N[i]? = some x) (hx : Loc X.env.scope x) (r : RelV v u)
    (h : ∀ s', Inv X pins (σ.set i (some v)) H s' → (∃ a, Heap.SameBut a s.heap s'.heap ∧ (a = X.env.locals ∨ X.env.cells.lookup x = some a)) → Q () s') (hf : X.fn x = true ∨ X.env.scope.names.lookup x = some .local := by first | exact .inl rfl | exact .inr rfl | assumption) : wpAny M A (storeName X.env x u) Q E s := by
  obtain ⟨m, hn, hl⟩ := id I.loc
  have hcls : (X.env.scope.kind == .class || (X.env.scope.kind == .module && X.env.locals != X.env.globals)) = false := by rw [I.ok.kind]; rfl
  have hiσ : i < σ.length := by rw [I.len]; exact (List.getElem?_eq_some_iff.mp hi).1
  have cne := I.cne
  have tracked : ∀ {a : Addr} {h' : Heap}, (∃ o, s.heap.get? a = some o ∧ H a = none) → Heap.SameBut a s.heap h' → HOk X.prog X.w H h' := fun {a h'} ha hs b ob e => by
    obtain ⟨_, _, hfree⟩ := ha
    refine (I.hok b ob e).stay (fun c w' hc q => (hs.2 c ?_).trans q) (fun _ q => q) fun _ _ q => q
    rintro rfl
    rcases hc with rfl | hc
    · rw [hfree] at e; cases e
    · rw [hfree] at hc; cases hc
  rcases hx with hk | hk
  · refine wpAny_storeName_local hk hn (fun h' hn' hs => ?_) hcls
    obtain ⟨oL, _, _, hoL, _⟩ := id hn
    refine h _ ⟨I.ok, I.os, I.bare, ⟨fun b o e n hb hx => ?_, fun b o e n hb hx => ?_, I.base.free, fun b o e hx => ?_, I.base.tups, I.base.frzs, I.base.tbls⟩, ⟨_, hn', fun j y v' e1 e2 e3 => ?_⟩, fun y c e => ?_, I.free, I.freeC, fun p hp => ?_, tracked ⟨oL, hoL, I.free⟩ hs, by simpa using I.len⟩ ⟨_, hs, .inl rfl⟩
    · exact (hs.2 b (Nat.ne_of_lt (Nat.lt_of_lt_of_le (Heap.lt_size e) I.ok.above))).trans (I.base.keep b o e n hb hx)
    · obtain ⟨sl, e1⟩ := I.base.slot b o e n hb hx
      exact ⟨sl, (hs.2 b (Nat.ne_of_lt (Nat.lt_of_lt_of_le (Heap.lt_size e) I.ok.above))).trans e1⟩
    · obtain ⟨o', e1⟩ := I.base.there b o e hx
      exact ⟨o', (hs.2 b (Nat.ne_of_lt (Nat.lt_of_lt_of_le (Heap.lt_size e) I.ok.above))).trans e1⟩
    · by_cases hj : j = i
      · subst hj
        rw [hi] at e1; cases e1
        rw [List.getElem?_set_self hiσ] at e2
        cases e2
        exact ⟨u, r, .inl ⟨hk, by simp⟩⟩
      · rw [List.getElem?_set_ne (Ne.symm hj)] at e2
        obtain ⟨u', r', q⟩ := hl j y v' e1 e2 e3
        refine ⟨u', r', ?_⟩
        rcases q with ⟨k, e⟩ | ⟨k, c, e, z⟩
        · refine .inl ⟨k, ?_⟩
          have : y ≠ x := fun e => hj (nodup_ix hN e1 (e ▸ hi))
          simp [this, e]
        · exact .inr ⟨k, c, e, z.sameBut hs (cne y c e)⟩
    · obtain ⟨w', z⟩ := I.cell y c e
      exact ⟨w', z.sameBut hs (cne y c e)⟩
    · obtain ⟨e, n, ne, nf, d⟩ := I.pin p hp
      exact ⟨(hs.2 p.1 ne).trans e, n, ne, nf, d⟩
  · have hfn : X.fn x = true := by
      rcases hf with z | z
      · exact z
      · rw [z] at hk; cases hk
    obtain ⟨c, hc⟩ := I.ok.has x (.inl hk)
    obtain ⟨w', z⟩ := I.cell x c hc
    refine wpAny_storeName_cell I.ok.kind hk hc z (fun h' hc' hs => ?_)
    obtain ⟨oc, hoc, hocd⟩ := id z
    refine h { s with heap := h' } ⟨I.ok, I.os, I.bare, ⟨fun b o e n hb hx => ?_, fun b o e n hb hx => ?_, I.base.free, fun b o e hx => ?_, I.base.tups, I.base.frzs, I.base.tbls⟩, ⟨m, hn.sameBut hs (Ne.symm (cne x c hc)), fun j y v' e1 e2 e3 => ?_⟩, fun y c' e => ?_, I.free, I.freeC, fun p hp => ?_, tracked ⟨oc, hoc, I.freeC x c hc⟩ hs, by simpa using I.len⟩ ⟨c, hs, .inr hc⟩
    · exact (hs.2 b (Nat.ne_of_lt (Nat.lt_of_lt_of_le (Heap.lt_size e) (I.ok.cab x c hfn hc)))).trans (I.base.keep b o e n hb hx)
    · obtain ⟨sl, e1⟩ := I.base.slot b o e n hb hx
      exact ⟨sl, (hs.2 b (Nat.ne_of_lt (Nat.lt_of_lt_of_le (Heap.lt_size e) (I.ok.cab x c hfn hc)))).trans e1⟩
    · obtain ⟨o', e1⟩ := I.base.there b o e hx
      exact ⟨o', (hs.2 b (Nat.ne_of_lt (Nat.lt_of_lt_of_le (Heap.lt_size e) (I.ok.cab x c hfn hc)))).trans e1⟩
    · by_cases hj : j = i
      · subst hj
        rw [hi] at e1; cases e1
        rw [List.getElem?_set_self hiσ] at e2
        cases e2
        exact ⟨u, r, .inr ⟨.inl hk, c, hc, hc'⟩⟩
      · rw [List.getElem?_set_ne (Ne.symm hj)] at e2
        obtain ⟨u', r', q⟩ := hl j y v' e1 e2 e3
        refine ⟨u', r', ?_⟩
        rcases q with q | ⟨k, c', e, z'⟩
        · exact .inl q
        · refine .inr ⟨k, c', e, z'.sameBut hs ?_⟩
          rintro rfl
          exact hj (nodup_ix hN e1 (I.ok.inj _ _ _ e hc ▸ hi))
    · by_cases hcc : c' = c
      · subst hcc; exact ⟨_, hc'⟩
      · obtain ⟨w2, z2⟩ := I.cell y c' e
        exact ⟨w2, z2.sameBut hs hcc⟩
    · obtain ⟨e, n, ne, nf, d⟩ := I.pin p hp
      refine ⟨(hs.2 p.1 ?_).trans e, n, ne, nf, d⟩
      intro q
      rw [q, hoc] at e
      have q' : oc = p.2 := Option.some.inj e
      exact d w' (by rw [← q']; exact hocd)
theorem store_ok {M : Model} {A : Around} {E : Value → Shared → Prop} {i : Nat} {x : Str} {v : V} {u : Value} {Q : Unit → Shared → Prop} (I : Inv X pins σ H s) (hN : X.N.Nodup) (hi : X.N[i]? = some x) (hx : Loc X.env.scope x) (r : RelV v u)
    (h : ∀ s', Inv X pins (σ.set i (some v)) H s' → Q () s') (hf : X.fn x = true ∨ X.env.scope.names.lookup x = some .local := by first | exact .inl rfl | exact .inr rfl | assumption) : wpAny M A (storeName X.env x u) Q E s :=
  store_ok2 I hN hi hx r (fun s' I' _ => h s' I') hf
/-- behind a call or a block, the state as it is -/
theorem Inv.call' {s' : Shared} {ch : List Addr} (I : Inv X pins σ H s) (ho : s'.os = s.os) (u : Un (frs X.stack) ch H H' s.heap s'.heap) (hok : HOk X.prog X.w H' s'.heap) (hg : AllBare s'.gens)
    (hch : ∀ b ∈ ch, (b ∈ X.ex ∨ X.s_0.heap.objs.size ≤ b) ∧ b ≠ X.env.locals ∧ (∀ x c, X.env.cells.lookup x = some c → c ≠ b) ∧ ∀ p ∈ X.pn ++ pins, p.1 ≠ b) : Inv X pins σ H' s' := by
  obtain ⟨h', g', d', t', o'⟩ := s'
  have e : o' = s.os := ho
  subst e
  exact I.call (g' := g') (t' := t') (d' := d') u hok hg hch
end

/-! ### the judgements -/
/-- an exception: its class, its own dict's address (where it has one), the abstract heap behind it -/
abbrev XK := Value → Option Addr → Hp → Prop
abbrev St := List (Option V)
abbrev VK := V → Hp → Prop
/-- an expression's reading; a test's; an argument list's -/
abbrev TE := St → Hp → VK → Prop
abbrev TT := St → Hp → (Bool → Hp → Prop) → Prop
abbrev TA := St → Hp → (List V → Hp → Prop) → Prop
/-- what is wanted behind a statement -/
structure Ends where
  nx : St → Hp → Prop
  rt : VK
  bk : St → Hp → Prop := fun _ _ => False
  ct : St → Hp → Prop := fun _ _ => False
abbrev TS := Ends → St → Hp → Prop

def EP (X : Cx) (pins : List (Addr × Obj)) (σ : St) (Q : VK) (u : Value) (s' : Shared) : Prop := ∃ v H', Inv X pins σ H' s' ∧ RelV v u ∧ Q v H'
def TP (X : Cx) (pins : List (Addr × Obj)) (σ : St) (Q : Bool → Hp → Prop) (b : Bool) (s' : Shared) : Prop := ∃ H', Inv X pins σ H' s' ∧ Q b H'
def AP (X : Cx) (pins : List (Addr × Obj)) (σ : St) (Q : List V → Hp → Prop) (us : List Value) (s' : Shared) : Prop := ∃ vs H', Inv X pins σ H' s' ∧ Vals vs us ∧ Q vs H'
def SP (X : Cx) (pins : List (Addr × Obj)) (D : Ends) (f : Flow) (s' : Shared) : Prop :=
  match f with
  | .next => ∃ σ' H', Inv X pins σ' H' s' ∧ D.nx σ' H'
  | .brk => ∃ σ' H', Inv X pins σ' H' s' ∧ D.bk σ' H'
  | .cont => ∃ σ' H', Inv X pins σ' H' s' ∧ D.ct σ' H'
  | .ret u => ∃ v σ' H', Inv X pins σ' H' s' ∧ RelV v u ∧ D.rt v H'

def PE (X : Cx) (e : Expr) (t : TE) : Prop :=
  ∀ (pins : List (Addr × Obj)) (s : Shared) (σ : St) (H : Hp) (Q : VK), Inv X pins σ H s → t σ H Q → wpAny (model X.prog X.w) X.A (eval e X.env) (EP X pins σ Q) X.xe s
def PT (X : Cx) (e : Expr) (t : TT) : Prop :=
  ∀ (pins : List (Addr × Obj)) (s : Shared) (σ : St) (H : Hp) (Q : Bool → Hp → Prop), Inv X pins σ H s → t σ H Q → wpAny (model X.prog X.w) X.A (isTrue e X.env (eval e X.env)) (TP X pins σ Q) X.xe s
/-- a test whatever its 'whole' is (and, or) -/
def PW (X : Cx) (e : Expr) (t : TT) : Prop :=
  ∀ (whole : Sem Value) (pins : List (Addr × Obj)) (s : Shared) (σ : St) (H : Hp) (Q : Bool → Hp → Prop), Inv X pins σ H s → t σ H Q → wpAny (model X.prog X.w) X.A (isTrue e X.env whole) (TP X pins σ Q) X.xe s
theorem PW.pt {X : Cx} {e : Expr} {t : TT} (h : PW X e t) : PT X e t := h _
/-- an argument list (no star), from the left -/
def PA (X : Cx) (es : List Expr) (t : TA) : Prop :=
  ∀ (pos : Pos) (pins : List (Addr × Obj)) (s : Shared) (σ : St) (H : Hp) (Q : List V → Hp → Prop), Inv X pins σ H s → t σ H Q → wpAny (model X.prog X.w) X.A (spliced (backTo pos (starEach es X.env))) (AP X pins σ Q) X.xe s
def PS (X : Cx) (st : Stmt) (t : TS) : Prop :=
  ∀ (pins : List (Addr × Obj)) (s : Shared) (σ : St) (H : Hp) (D : Ends), Inv X pins σ H s → t D σ H → wpAny (model X.prog X.w) X.A (exec st X.env) (SP X pins D) X.xe s
def PSs (X : Cx) (st : List Stmt) (t : TS) : Prop :=
  ∀ (pins : List (Addr × Obj)) (s : Shared) (σ : St) (H : Hp) (D : Ends), Inv X pins σ H s → t D σ H → wpAny (model X.prog X.w) X.A (execs st X.env) (SP X pins D) X.xe s
/-- weaken the end -/
theorem thn {α : Type} {t : Sem α} {Q Q' : α → Shared → Prop} {M : Model} {A : Around} {E : Value → Shared → Prop} {s : Shared} (h : wpAny M A t Q E s) (hQ : ∀ a s, Q a s → Q' a s) : wpAny M A t Q' E s := wpAny_mono h hQ fun _ _ x => x
end L2

namespace L2
open PySem PySem.Spec PyProof.Rows
section
variable {X : Cx}

/-! ### names and constants -/
def tVar (i : Nat) : TE := fun σ H Q => ∃ v, σ[i]? = some (some v) ∧ Q v H
def tC (v : V) : TE := fun _ H Q => Q v H
theorem pe_var {i : Nat} {x : Str} {pos : Pos} (hN : X.N[i]? = some x) (hv : Vis X.env.scope x) (hd : (x == ("__debug__" : Str)) = false := by decide) (hcd : (x == ("__classdict__" : Str)) = false := by decide) : PE X (.Name x pos) (tVar i) := by
  intro pins s σ H Q I h
  obtain ⟨v, e, h⟩ := h
  obtain ⟨m, hn, hl⟩ := I.loc
  obtain ⟨u, r, l⟩ := hl i x v hN e hv
  have fin : EP X pins σ Q u s := ⟨v, H, I, r, h⟩
  rcases l with ⟨hk, hm⟩ | ⟨hk, c, hc, hcell⟩
  · exact wpAny_Name (wpAny_loadName_local I.ok.kind hk hn hm fin) hd
  · rcases hk with hk | hk
    · exact wpAny_Name (wpAny_loadName_cell I.ok.kind hk hc hcell fin) hd
    · exact wpAny_Name (wpAny_loadName_free I.ok.kind hk hc hcell fin hcd) hd
theorem pe_int {i j pos} : PE X (.Constant (.int i) j pos) (tC (.int i)) := fun _ _ _ H _ I h => wpAny_Constant_int ⟨.int i, H, I.tok _, ⟨_, rfl⟩, h⟩
theorem pe_bl {b j pos} : PE X (.Constant (.bool b) j pos) (tC (.bl b)) := fun _ _ _ H _ I h => Constant_bool ⟨.bl b, H, I, rfl, h⟩
/-- a global name of the def -/
def Gl (X : Cx) (x : Str) : Prop := X.env.kindOf x = some .globalImplicit
theorem ld_glob {E : Value → Shared → Prop} {pins : List (Addr × Obj)} {s : Shared} {σ : St} {H : Hp} {x : Str} {u : Value} {pos : Pos} {Q : Value → Shared → Prop} (I : Inv X pins σ H s) (hg : Gl X x) (hm : X.mg x = some u) (h : Q u s)
    (hd : (x == ("__debug__" : Str)) = false := by decide) : wpAny (model X.prog X.w) X.A (eval (.Name x pos) X.env) Q E s :=
  Calls.Name_function_global I.ok.kind hg (Calls.loadGlobal_global (by rw [I.ok.glob]; exact I.mod.glob.keeps I.bk) hm h) hd
theorem ld_blt {E : Value → Shared → Prop} {pins : List (Addr × Obj)} {s : Shared} {σ : St} {H : Hp} {x : Str} {u : Value} {pos : Pos} {Q : Value → Shared → Prop} (I : Inv X pins σ H s) (hg : Gl X x) (hm : X.mg x = none) (hv : bootBuiltins x = some u) (h : Q u s)
    (hn : x ≠ "__name__" := by decide) (hd : (x == ("__debug__" : Str)) = false := by decide) : wpAny (model X.prog X.w) X.A (eval (.Name x pos) X.env) Q E s := by
  obtain ⟨mb, h1, h2⟩ := I.mod.blt
  exact Calls.Name_function_global I.ok.kind hg (Calls.loadGlobal_builtin (by rw [I.ok.glob]; exact I.mod.glob.keeps I.bk) hm (by rw [I.ok.blt]; exact h1.keeps I.bk) ((h2 x hn).trans hv) h) hd
/-- a module's constant, a class, a function, as a value -/
theorem pe_glob {x : Str} {v : V} {u : Value} {pos : Pos} (hg : Gl X x) (hm : X.mg x = some u) (r : RelV v u) (hd : (x == ("__debug__" : Str)) = false := by decide) : PE X (.Name x pos) (tC v) :=
  fun _ _ _ H _ I h => ld_glob I hg hm ⟨v, H, I, r, h⟩ hd
/-! ### arithmetic -/
variable {a b : Expr} {ta tb : TE} {pos : Pos}
/-! ### comparisons -/
/-- a comparison as a value, as a test -/
def tB (t : TE) : TT := fun σ H Q => t σ H fun x H1 => ∃ c, x = .bl c ∧ Q c H1
/-- an expression whose value is a bool, as a test -/
theorem pt_val {e : Expr} {t : TE} (h : PE X e t) (he : ∀ whole, isTrue e X.env whole = (do let v ← whole; standAt e.pos; holding [v] (truthy v)) := by intro _; rfl) : PT X e (tB t) := by
  intro pins s σ H Q I hw
  refine isTrue_plain (thn (h pins s σ H _ I hw) fun v s1 ⟨x, H1, I1, r1, q1⟩ => ?_) (he _)
  obtain ⟨d, rfl, q⟩ := q1
  cases r1
  exact wpAny_truthy_bool ⟨H1, I1, q⟩

/-! ### and, or, not -/
variable {tA tB' : TT} {rest : List Expr}
def tAnd (t u : TT) : TT := fun σ H Q => t σ H fun c H1 => if c = true then u σ H1 Q else Q false H1
def tOr (t u : TT) : TT := fun σ H Q => t σ H fun c H1 => if c = true then Q true H1 else u σ H1 Q
def tNot (t : TT) : TT := fun σ H Q => t σ H fun c H1 => Q (!c) H1
theorem pw_and1 (ha : PT X a tA) : PW X (.BoolOp .And [a] pos) tA := by
  intro wh pins s σ H Q I h
  refine isTrue_and (thn (ha pins s σ H Q I h) fun c s1 e => ?_)
  cases c with
  | true => exact isTrue_and_nil e
  | false => exact e
theorem pw_or1 (ha : PT X a tA) : PW X (.BoolOp .Or [a] pos) tA := by
  intro wh pins s σ H Q I h
  refine isTrue_or (thn (ha pins s σ H Q I h) fun c s1 e => ?_)
  cases c with
  | false => exact isTrue_or_nil e
  | true => exact e
theorem pw_and (ha : PT X a tA) (hb : PW X (.BoolOp .And (b :: rest) pos) tB') : PW X (.BoolOp .And (a :: b :: rest) pos) (tAnd tA tB') := by
  intro wh pins s σ H Q I h
  refine isTrue_and (thn (ha pins s σ H _ I h) fun c s1 ⟨H1, I1, q1⟩ => ?_)
  cases c with
  | true => exact hb wh pins s1 σ H1 Q I1 q1
  | false => exact ⟨H1, I1, q1⟩
theorem pw_or (ha : PT X a tA) (hb : PW X (.BoolOp .Or (b :: rest) pos) tB') : PW X (.BoolOp .Or (a :: b :: rest) pos) (tOr tA tB') := by
  intro wh pins s σ H Q I h
  refine isTrue_or (thn (ha pins s σ H _ I h) fun c s1 ⟨H1, I1, q1⟩ => ?_)
  cases c with
  | true => exact ⟨H1, I1, q1⟩
  | false => exact hb wh pins s1 σ H1 Q I1 q1
theorem pt_not (ha : PT X a tA) : PT X (.UnaryOp .Not a pos) (tNot tA) := by
  intro pins s σ H Q I h
  exact isTrue_not (ha pins s σ H (fun c H1 => Q (!c) H1) I h)
/-- .. as values (bools) -/
def tAndV (ta tb : TE) : TE := fun σ H Q => ta σ H fun x H1 => ∃ c, x = .bl c ∧ if c = true then tb σ H1 Q else Q (.bl false) H1
def tNotV (ta : TE) : TE := fun σ H Q => ta σ H fun x H1 => ∃ c, x = .bl c ∧ Q (.bl (!c)) H1
theorem pe_one {op} {t : TE} (h : PE X a t) : PE X (.BoolOp op [a] pos) t := fun pins s σ H Q I hw => BoolOp_one (h pins s σ H Q I hw)
theorem pe_and (ha : PE X a ta) (hb : PE X (.BoolOp .And (b :: rest) pos) tb) : PE X (.BoolOp .And (a :: b :: rest) pos) (tAndV ta tb) := by
  intro pins s σ H Q I h
  refine BoolOp_and (thn (ha pins s σ H _ I h) fun v s1 ⟨x, H1, I1, r1, q1⟩ => ?_)
  obtain ⟨c, rfl, q1⟩ := q1
  cases r1
  refine wpAny_truthy_bool ?_
  cases c with
  | true => exact hb pins s1 σ H1 Q I1 q1
  | false => exact ⟨.bl false, H1, I1, rfl, q1⟩
theorem pe_not (ha : PE X a ta) : PE X (.UnaryOp .Not a pos) (tNotV ta) := by
  intro pins s σ H Q I h
  refine UnaryOp_ (thn (ha pins s σ H _ I h) fun v s1 ⟨x, H1, I1, r1, q1⟩ => ?_)
  obtain ⟨c, rfl, q1⟩ := q1
  cases r1
  exact not_of (wpAny_truthy_bool ⟨.bl (!c), H1, I1, rfl, q1⟩)
/-- a if t else b -/
def tIf (t : TT) (ta tb : TE) : TE := fun σ H Q => t σ H fun c H1 => if c = true then ta σ H1 Q else tb σ H1 Q
theorem pe_ifExp {c : Expr} (hc : PT X c tA) (ha : PE X a ta) (hb : PE X b tb) : PE X (.IfExp c a b pos) (tIf tA ta tb) := by
  intro pins s σ H Q I h
  refine wpAny_IfExp (thn (hc pins s σ H _ I h) fun d s1 ⟨H1, I1, q1⟩ => ?_)
  cases d with
  | true => exact ha pins s1 σ H1 Q I1 q1
  | false => exact hb pins s1 σ H1 Q I1 q1
end
end L2

namespace L2
open PySem PySem.Spec PyProof.Rows

/-! ### a list, a tuple that is read: tracked, frozen, or an object of the module -/
def SqL (K : PySem.W.Frag) (H : Hp) (a : Addr) (xs : List V) : Prop :=
  Rd H a (.lst xs) ∨
    ∃ (o : Obj) (its : Array Value) (n : Nat), K.lookup a = some o ∧ o.cls = .type "list" ∧ o.dict = none ∧ o.data = .seq its n ∧ its.size ≤ sizeLine ∧ Vals xs its.toList
def SqT (K : PySem.W.Frag) (H : Hp) (a : Addr) (xs : List V) : Prop :=
  Rd H a (.tup xs) ∨
    ∃ (o : Obj) (its : Array Value) (n : Nat), K.lookup a = some o ∧ o.cls = .type "tuple" ∧ o.data = .seq its n ∧ its.size ≤ sizeLine ∧ Vals xs its.toList
def absV : Value → Option V
  | .none => some .non
  | .bool b => some (.bl b)
  | .int i _ => some (.int i)
  | .str x _ => some (.str x)
  | .bytes b _ => some (.byt b)
  | .float b _ => some (.flt b)
  | .ref a => some (.ref a)
  | .type n => some (.ty n)
  | _ => none
theorem RelV.abs {x : V} {u : Value} (r : RelV x u) : absV u = some x := by
  cases x with
  | non => cases r; rfl
  | bl _ => cases r; rfl
  | int _ => obtain ⟨t, rfl⟩ := r; rfl
  | str _ => obtain ⟨t, rfl⟩ := r; rfl
  | byt _ => obtain ⟨t, rfl⟩ := r; rfl
  | flt _ => obtain ⟨t, rfl⟩ := r; rfl
  | ref _ => cases r; rfl
  | ty _ => cases r; rfl
theorem RelV.inj {x y : V} {u : Value} (r : RelV x u) (q : RelV y u) : x = y := Option.some.inj (r.abs.symm.trans q.abs)
theorem Vals.inj : ∀ {xs ys : List V} {us : List Value}, Vals xs us → Vals ys us → xs = ys
  | _, _, _, .nil, .nil => rfl
  | _, _, _, .cons r t, .cons r' t' => by rw [r.inj r', Vals.inj t t']
section
variable {X : Cx} {pins : List (Addr × Obj)} {σ : St} {H : Hp} {s : Shared} {a : Addr} {xs ys : List V}
theorem SqL.of {K : PySem.W.Frag} (h : H a = some (.lst xs)) : SqL K H a xs := .inl (.inl h)
theorem SqT.of {K : PySem.W.Frag} (h : H a = some (.tup xs)) : SqT K H a xs := .inl (.inl h)
theorem Inv.list (I : Inv X pins σ H s) (h : SqL X.K H a xs) : ∃ its : List Value, Vals xs its ∧ PlainL s.heap a its.toArray ∧ xs.length ≤ sizeLine := by
  rcases h with h | ⟨o, its, n, hk, hc, hd, hs, hz, r⟩
  · obtain ⟨z, its, n, r, e⟩ := h.ok I.hok
    exact ⟨its, r, ⟨_, n, e, rfl, rfl, rfl⟩, z⟩
  · refine ⟨its.toList, r, ⟨o, n, I.kIn a o hk, hc, hd, by simpa using hs⟩, ?_⟩
    have e := r.length
    simp only [Array.length_toList] at e
    omega
theorem Inv.tuple (I : Inv X pins σ H s) (h : SqT X.K H a xs) : ∃ its : List Value, Vals xs its ∧ IsTup s.heap a its.toArray ∧ xs.length ≤ sizeLine := by
  rcases h with h | ⟨o, its, n, hk, hc, hs, hz, r⟩
  · obtain ⟨z, its, r, p⟩ := h.ok I.hok
    exact ⟨its, r, p, z⟩
  · refine ⟨its.toList, r, ⟨o, I.kIn a o hk, hc, n, by simpa using hs⟩, ?_⟩
    have e := r.length
    simp only [Array.length_toList] at e
    omega
theorem Inv.list_inj (I : Inv X pins σ H s) (h : SqL X.K H a xs) (h' : SqL X.K H a ys) : xs = ys := by
  obtain ⟨its, r, ⟨o, n, e, _, _, d⟩, _⟩ := I.list h
  obtain ⟨its', r', ⟨o', n', e', _, _, d'⟩, _⟩ := I.list h'
  rw [e] at e'; cases e'
  rw [d] at d'
  injection d' with d1 _
  have : its = its' := by simpa using congrArg Array.toList d1
  subst this
  exact r.inj r'
end

/-! ### another wish about exceptions -/
abbrev Cx.wish (X : Cx) (E : Value → Shared → Prop) : Cx := { X with xe := E }
/-- no exception leaves -/
abbrev Cx.nox (X : Cx) : Cx := X.wish fun _ _ => False
theorem Cx.Ok.wish {X : Cx} (ok : X.Ok) (E : Value → Shared → Prop) : (X.wish E).Ok :=
  ⟨ok.mod, ok.kind, ok.glob, ok.blt, ok.above, ok.inj, ok.has, ok.cab, ok.hd, ok.frames, ok.stk, ok.exf, ok.bs, ok.bsz, ok.noex, ok.exfs, ok.funs, ok.frf⟩
theorem Cx.Ok.unwish {X : Cx} {E : Value → Shared → Prop} (ok : (X.wish E).Ok) : X.Ok :=
  ⟨ok.mod, ok.kind, ok.glob, ok.blt, ok.above, ok.inj, ok.has, ok.cab, ok.hd, ok.frames, ok.stk, ok.exf, ok.bs, ok.bsz, ok.noex, ok.exfs, ok.funs, ok.frf⟩
section
variable {X : Cx} {pins : List (Addr × Obj)} {σ : St} {H : Hp} {s : Shared} {E : Value → Shared → Prop}
theorem Inv.wish (I : Inv X pins σ H s) (E : Value → Shared → Prop) : Inv (X.wish E) pins σ H s := ⟨I.ok.wish E, I.os, I.bare, I.base, I.loc, I.cell, I.free, I.freeC, I.pin, I.hok, I.len⟩
theorem Inv.unwish (I : Inv (X.wish E) pins σ H s) : Inv X pins σ H s := ⟨I.ok.unwish, I.os, I.bare, I.base, I.loc, I.cell, I.free, I.freeC, I.pin, I.hok, I.len⟩
theorem SP.unwish {D : Ends} {f : Flow} {s' : Shared} (h : SP (X.wish E) pins D f s') : SP X pins D f s' := by
  cases f with
  | next => obtain ⟨σ', H', I, q⟩ := h; exact ⟨σ', H', I.unwish, q⟩
  | brk => obtain ⟨σ', H', I, q⟩ := h; exact ⟨σ', H', I.unwish, q⟩
  | cont => obtain ⟨σ', H', I, q⟩ := h; exact ⟨σ', H', I.unwish, q⟩
  | ret u => obtain ⟨v, σ', H', I, r, q⟩ := h; exact ⟨v, σ', H', I.unwish, r, q⟩
theorem PE.nox {e : Expr} {t : TE} (h : PE X.nox e t) : PE X e t := fun pins s σ H Q I hw =>
  wpAny_mono (h pins s σ H Q (I.wish _) hw) (fun _ _ ⟨v, H', I', r, q⟩ => ⟨v, H', I'.unwish, r, q⟩) fun _ _ z => False.elim z
theorem PT.nox {e : Expr} {t : TT} (h : PT X.nox e t) : PT X e t := fun pins s σ H Q I hw =>
  wpAny_mono (h pins s σ H Q (I.wish _) hw) (fun _ _ ⟨H', I', q⟩ => ⟨H', I'.unwish, q⟩) fun _ _ z => False.elim z
theorem PSs.nox {st : List Stmt} {t : TS} (h : PSs X.nox st t) : PSs X st t := fun pins s σ H D I hw =>
  wpAny_mono (h pins s σ H D (I.wish _) hw) (fun _ _ q => q.unwish) fun _ _ z => False.elim z
end

/-! ### blocks and small statements -/
section
variable {X : Cx} {st : Stmt} {rest : List Stmt} {t u : TS} {e : Expr} {te : TE} {pos : Pos}
def tNext : TS := fun D σ H => D.nx σ H
def tSeq (t u : TS) : TS := fun D σ H => t { D with nx := u D } σ H
theorem pss_nil : PSs X [] tNext := fun _ _ σ H _ I h => wpAny_execs_nil ⟨σ, H, I, h⟩
theorem pss_cons (h1 : PS X st t) (h2 : PSs X rest u) : PSs X (st :: rest) (tSeq t u) := by
  intro pins s σ H D I h
  refine wpAny_execs_cons (thn (h1 pins s σ H { D with nx := u D } I h) fun f s1 q => ?_)
  cases f with
  | next =>
    obtain ⟨σ', H', I', q⟩ := q
    exact h2 pins s1 σ' H' D I' q
  | ret v => exact q
  | brk => exact q
  | cont => exact q
theorem pss_one (h1 : PS X st t) : PSs X [st] t := by
  intro pins s σ H D I h
  refine wpAny_execs_cons (thn (h1 pins s σ H D I h) fun f s1 q => ?_)
  cases f with
  | next => exact wpAny_execs_nil q
  | ret v => exact q
  | brk => exact q
  | cont => exact q
/-- in a def's body nothing is shown -/
theorem Inv.quiet {pins : List (Addr × Obj)} {σ : St} {H : Hp} {s : Shared} (I : Inv X pins σ H s) : interactive X.env = false := by simp [interactive, I.ok.kind]
/-- an expression whose value is dropped -/
def tDrop (te : TE) : TS := fun D σ H => te σ H fun _ H1 => D.nx σ H1
theorem ps_expr (he : PE X e te) (hs : swapsWith e none pos.line X.env = pure false := by rfl) : PS X (.Expr e pos) (tDrop te) := by
  intro pins s σ H D I h
  exact wpAny_Expr_any (thn (he pins s σ H _ I h) fun v s1 ⟨x, H1, I1, r1, q1⟩ => ⟨σ, H1, I1, q1⟩) I.quiet hs
def tRet (te : TE) : TS := fun D σ H => te σ H D.rt
theorem ps_ret (he : PE X e te) : PS X (.Return (some e) pos) (tRet te) := by
  intro pins s σ H D I h
  exact wpAny_Return_some (thn (he pins s σ H _ I h) fun v s1 ⟨x, H1, I1, r1, q1⟩ => ⟨x, σ, H1, I1, r1, q1⟩)
def tIfS (c : TT) (t u : TS) : TS := fun D σ H => c σ H fun b H1 => if b = true then t D σ H1 else u D σ H1
theorem ps_if {c : Expr} {a b : List Stmt} {tc : TT} (hc : PT X c tc) (ha : PSs X a t) (hb : PSs X b u) : PS X (.If c a b pos) (tIfS tc t u) := by
  intro pins s σ H D I h
  refine wpAny_If (thn (hc pins s σ H _ I h) fun d s1 ⟨H1, I1, q1⟩ => ?_)
  cases d with
  | true => exact ha pins s1 σ H1 D I1 q1
  | false => exact hb pins s1 σ H1 D I1 q1
/-- code that the proof never comes to -/
def tNever : TS := fun _ _ _ => False
theorem pss_never {sts : List Stmt} : PSs X sts tNever := fun _ _ _ _ _ _ h => h.elim
end

/-! ### targets -/
abbrev TG := V → St → Hp → (St → Hp → Prop) → Prop
def PG (X : Cx) (target : Expr) (t : TG) : Prop :=
  ∀ (pins : List (Addr × Obj)) (s : Shared) (σ : St) (H : Hp) (v : V) (u : Value) (Q : St → Hp → Prop), Inv X pins σ H s → RelV v u → t v σ H Q →
    wpAny (model X.prog X.w) X.A (assign target X.env u) (fun _ s' => ∃ σ' H', Inv X pins σ' H' s' ∧ Q σ' H') X.xe s
/-- o[i] = v, by values -/
abbrev TSet := V → V → V → Hp → (Hp → Prop) → Prop
def PSet (X : Cx) (t : TSet) : Prop :=
  ∀ (pins : List (Addr × Obj)) (s : Shared) (σ : St) (H : Hp) (o i v : V) (ov iv u : Value) (Q : Hp → Prop), Inv X pins σ H s → RelV o ov → RelV i iv → RelV v u → t o i v H Q →
    wpAny (model X.prog X.w) X.A (setItem ov iv u) (fun _ s' => ∃ H', Inv X pins σ H' s' ∧ Q H') X.xe s
section
variable {X : Cx} {pos : Pos}
def gName (i : Nat) : TG := fun v σ H Q => Q (σ.set i (some v)) H
theorem pg_name {i : Nat} {x : Str} (hN : X.N.Nodup) (hi : X.N[i]? = some x) (hx : Loc X.env.scope x) (hf : X.fn x = true ∨ X.env.scope.names.lookup x = some .local := by first | exact .inl rfl | exact .inr rfl | assumption) : PG X (.Name x pos) (gName i) := by
  intro pins s σ H v u Q I r h
  exact wpAny_assign_Name (store_ok I hN hi hx r (fun s' I' => ⟨_, H, I', h⟩) hf)
/-- o[i] = .. -/
def gSub (to ti : TE) (t : TSet) : TG := fun v σ H Q => to σ H fun o H1 => ti σ H1 fun i H2 => t o i v H2 fun H3 => Q σ H3
theorem pg_sub {o i : Expr} {to ti : TE} {t : TSet} (ho : PE X o to) (hi : PE X i ti) (hs : PSet X t)
    (ha : ∀ v, assign (.Subscript o i pos) X.env v = (do
      let ov ← holding [v] (eval o X.env)
      let iv ← holding [v, ov] (eval i X.env)
      standAt pos
      holding [v, ov, iv] (setItem ov iv v)
      release [v, ov, iv] []) := by intro _; rfl) : PG X (.Subscript o i pos) (gSub to ti t) := by
  intro pins s σ H v u Q I r h
  rw [ha]
  refine wpAny_bind (wpAny_holding (thn (ho pins s σ H _ I h) fun ov s1 ⟨x, H1, I1, r1, q1⟩ => ?_))
  refine wpAny_bind (wpAny_holding (thn (hi pins s1 σ H1 _ I1 q1) fun iv s2 ⟨y, H2, I2, r2, q2⟩ => ?_))
  refine wpAny_bind (wpAny_standAt (wpAny_bind (wpAny_holding (thn (hs pins s2 σ H2 x y v ov iv u _ I2 r1 r2 r q2) fun _ s3 ⟨H3, I3, q3⟩ => ?_))))
  exact wpAny_release ⟨σ, H3, I3, q3⟩
/-- target = value -/
def tAsg (te : TE) (g : TG) : TS := fun D σ H => te σ H fun x H1 => g x σ H1 D.nx
theorem ps_asg {tg e : Expr} {te : TE} {g : TG} (he : PE X e te) (hg : PG X tg g) (hs : swapsWithSole [tg] e pos.line X.env = pure false := by rfl) (hw : swappedStores [tg] e X.env = pure none := by rfl)
    (h1 : (assignEach [tg] X.env).map (·.2) = [assign tg X.env] := by rfl) : PS X (.Assign [tg] e pos) (tAsg te g) := by
  intro pins s σ H D I h
  refine wpAny_Assign_stores (thn (he pins s σ H _ I h) fun v s1 ⟨x, H1, I1, r1, q1⟩ => ?_) hs hw
  rw [h1]
  exact thn (hg pins s1 σ H1 x v _ I1 r1 q1) fun _ s2 q => q
/-- name = value -/
theorem ps_set {i : Nat} {x : Str} {e : Expr} {te : TE} {pos' : Pos} (hN : X.N.Nodup) (hi : X.N[i]? = some x) (hx : Loc X.env.scope x) (he : PE X e te) (hs : swapsWith e (some (.Name x pos')) pos.line X.env = pure false := by rfl) (hf : X.fn x = true ∨ X.env.scope.names.lookup x = some .local := by first | exact .inl rfl | exact .inr rfl | assumption) :
    PS X (.Assign [.Name x pos'] e pos) (tAsg te (gName i)) := by
  intro pins s σ H D I h
  refine wpAny_Assign_Name (thn (he pins s σ H _ I h) fun v s1 ⟨y, H1, I1, r1, q1⟩ => ?_) hs
  exact store_ok I1 hN hi hx r1 (fun s2 I2 => ⟨_, H1, I2, q1⟩) hf
end

/-! ### while -/
section
variable {X : Cx} {pos : Pos}
/-- the invariant W with its measure -/
def tWhile (c : TT) (tb : TS) : TS := fun D σ H => ∃ W : Nat → St → Hp → Prop, (∃ m, W m σ H) ∧ ∀ m σ H, W m σ H →
  c σ H fun b H1 => if b = true then ∃ N : St → Hp → Prop, (∀ σ' H', N σ' H' → ∃ m', m' < m ∧ W m' σ' H') ∧ tb { D with nx := N, ct := N, bk := D.nx } σ H1 else D.nx σ H1
theorem ps_while {c : Expr} {body : List Stmt} {tc : TT} {tb : TS} (hp : PassesOwn (model X.prog X.w) X.A X.env X.xe) (hc : PT X c tc) (hb : PSs X body tb) : PS X (.While c body [] pos) (tWhile tc tb) := by
  intro pins s σ H D I h
  obtain ⟨W, ⟨m0, w0⟩, turn⟩ := h
  refine wpAny_While (codeAny_whileLoop (fun n s' => ∃ σ' H', Inv X pins σ' H' s' ∧ W n σ' H') ?_ m0 ⟨σ, H, I, w0⟩)
  rintro n s1 ⟨σ1, H1, I1, w1⟩
  refine wpAny_passesOwn hp (thn (hc pins s1 σ1 H1 _ I1 (turn n σ1 H1 w1)) fun b s2 ⟨H2, I2, q2⟩ => ?_)
  cases b with
  | true =>
    obtain ⟨N, hN, q2⟩ := q2
    rw [if_pos rfl]
    refine wpAny_passesOwn hp (thn (hb pins s2 σ1 H2 _ I2 q2) fun f s3 q3 => ?_)
    cases f with
    | next =>
      obtain ⟨σ3, H3, I3, n3⟩ := q3
      obtain ⟨m', hm, w3⟩ := hN σ3 H3 n3
      exact ⟨m', hm, σ3, H3, I3, w3⟩
    | cont =>
      obtain ⟨σ3, H3, I3, n3⟩ := q3
      obtain ⟨m', hm, w3⟩ := hN σ3 H3 n3
      exact ⟨m', hm, σ3, H3, I3, w3⟩
    | brk => exact q3
    | ret v => exact q3
  | false =>
    rw [if_neg Bool.false_ne_true]
    exact wpAny_execs_nil ⟨σ1, H2, I2, q2⟩
end

/-! ### what a loop or a comprehension walks -/
/-- at turn i: it yields x (the heap may grow), or it stops -/
structure It where
  go : Nat → Hp → Prop
  yld : Nat → Hp → V → Hp → Prop
  stop : Nat → Hp → Prop
/-- the iterator's own objects may turn: they are not the frame's, not pinned, younger than the entry (or a comprehension's own) -/
def FpOk (X : Cx) (pins : List (Addr × Obj)) (H : Hp) (b : Addr) : Prop :=
  H b = none ∧ b ≠ X.env.locals ∧ b ∉ X.fs ∧ (b ∈ X.ex ∨ X.s_0.heap.objs.size ≤ b) ∧ (∀ x c, X.env.cells.lookup x = some c → c ≠ b) ∧ ∀ p ∈ X.pn ++ pins, p.1 ≠ b
theorem Inv.fpOk {X : Cx} {pins : List (Addr × Obj)} {σ : St} {H H' : Hp} {s : Shared} {b : Addr} (I : Inv X pins σ H s) (hb : s.heap.objs.size ≤ b) (hn : H' b = none) : FpOk X pins H' b := by
  refine ⟨hn, Nat.ne_of_gt (Nat.lt_of_lt_of_le I.lt hb), I.nofs hb, .inr (Nat.le_trans I.sz hb), fun x c e z => ?_, fun p hp z => ?_⟩
  · obtain ⟨v, q⟩ := I.cell x c e
    exact absurd (Nat.lt_of_lt_of_le q.lt (by rw [z]; exact hb)) (Nat.lt_irrefl _)
  · exact absurd (Nat.lt_of_lt_of_le (Heap.lt_size (I.pin p hp).1) (by rw [z]; exact hb)) (Nat.lt_irrefl _)
structure Turn (P : Program) (w : World) (K : PySem.W.Frag) (tg : Expr) (J : It) (fp : List Addr) (it : Addr) (tn : Nat → Heap → Prop) : Prop where
  mem : it ∈ fp
  obj : ∀ i h, tn i h → ∀ b ∈ fp, ∃ o, h.get? b = some o ∧ ∀ v, o.data ≠ .cell v
  keep : ∀ i h h', tn i h → (∀ b ∈ fp, ∀ o, h.get? b = some o → h'.get? b = some o) → tn i h'
  item : ∀ (X : Cx), X.prog = P → X.w = w → X.K = K → X.calm = true → ∀ (i : Nat) (pins : List (Addr × Obj)) (s : Shared) (σ : St) (H : Hp) (E : Value → Shared → Prop), Inv X pins σ H s → (∀ b ∈ fp, FpOk X pins H b) → tn i s.heap → J.go i H →
    wpAny (model P w) X.A (pyNext (.ref it)) (fun r s1 => ∃ u, r = some u ∧
      wpAny (model P w) X.A (letOwnedTupleGo tg (.ref it) u) (fun _ s2 => ∃ x H', Inv X pins σ H' s2 ∧ RelV x u ∧ J.yld i H x H' ∧ tn (i + 1) s2.heap ∧ ∀ b ∈ fp, H' b = none) E s1) E s
  done : ∀ (X : Cx), X.prog = P → X.w = w → X.K = K → X.calm = true → ∀ (i : Nat) (pins : List (Addr × Obj)) (s : Shared) (σ : St) (H : Hp) (E : Value → Shared → Prop), Inv X pins σ H s → (∀ b ∈ fp, FpOk X pins H b) → tn i s.heap → J.stop i H →
    wpAny (model P w) X.A (pyNext (.ref it)) (fun r s1 => r = none ∧ Inv X pins σ H s1) E s
  self : ∀ (A : Around) (i : Nat) (s : Shared) (Q : Value → Shared → Prop) (E : Value → Shared → Prop), tn i s.heap → Q (.ref it) s → wpAny (model P w) A (pyIter (.ref it)) Q E s
abbrev TI := St → Hp → (It → Hp → Prop) → Prop
/-- an iterator has come -/
def PIE (X : Cx) (pins : List (Addr × Obj)) (σ : St) (tg : Expr) (R : It → Hp → Prop) (itv : Value) (s2 : Shared) : Prop :=
  ∃ (it : Addr) (fp : List Addr) (tn : Nat → Heap → Prop) (J : It) (H' : Hp), itv = .ref it ∧ Inv X pins σ H' s2 ∧ Turn X.prog X.w X.K tg J fp it tn ∧ tn 0 s2.heap ∧ (∀ b ∈ fp, FpOk X pins H' b) ∧ R J H'
def PI (X : Cx) (tg iter : Expr) (wi : TI) : Prop :=
  ∀ (pins : List (Addr × Obj)) (s : Shared) (σ : St) (H : Hp) (R : It → Hp → Prop), Inv X pins σ H s → wi σ H R →
    wpAny (model X.prog X.w) X.A (eval iter X.env) (fun v s1 => wpAny (model X.prog X.w) X.A (pyIter v) (PIE X pins σ tg R) X.xe s1) X.xe s

/-- the step ahead of the store is nothing for an iterator that keeps no tuple -/
theorem go_of {M : Model} {A : Around} {E : Value → Shared → Prop} {s : Shared} {tg : Expr} {it : Addr} {u : Value} {o : Obj} {n : String} {vs : Array Value} {Q : Unit → Shared → Prop} (ho : s.heap.get? it = some o) (hc : o.cls = .type n) (hd : o.data = .fields vs)
    (hn : ["enumerate", "zip", "dict_itemiterator", "dict_reverseitemiterator", "odict_iterator", "itertools.zip_longest", "itertools.pairwise"].contains n = false) (hQ : Q () s) : wpAny M A (letOwnedTupleGo tg (.ref it) u) Q E s := by
  unfold letOwnedTupleGo
  cases tg <;> first
    | exact wpAny_pure hQ
    | (cases u <;> first
        | exact wpAny_pure hQ
        | (refine wpAny_bind (wpAny_load ho ?_)
           rw [hc, hd]
           show wpAny M A (if (["enumerate", "zip", "dict_itemiterator", "dict_reverseitemiterator", "odict_iterator", "itertools.zip_longest", "itertools.pairwise"].contains n && vs[0]? == some (rawInt _)) = true then _ else _) Q E s
           rw [if_neg (by intro h; rw [hn, Bool.false_and] at h; cases h)]
           exact wpAny_pure hQ))

/-- the list at a, as it stands at each turn (a loop may append to it) -/
def Itl (K : PySem.W.Frag) (a : Addr) : It :=
  ⟨fun i H => ∃ xs x, SqL K H a xs ∧ xs[i]? = some x, fun i H x H' => H' = H ∧ ∀ xs, SqL K H a xs → xs[i]? = some x, fun i H => ∃ xs, SqL K H a xs ∧ xs.length ≤ i⟩
/-- lo, lo + 1, .. (n of them) -/
def Itr (lo : Int) (n : Nat) : It := ⟨fun i _ => i < n, fun i H x H' => H' = H ∧ x = .int (lo + i), fun i _ => n ≤ i⟩
theorem turn_list {P : Program} {w : World} {K : PySem.W.Frag} {tg : Expr} (a it : Addr) : Turn P w K tg (Itl K a) [it] it (fun i h => h.IsListIter it a i) where
  mem := by simp
  obj := fun i h st b hb => by
    have e : b = it := by simpa using hb
    subst e
    obtain ⟨o, e, c, d⟩ := st
    exact ⟨o, e, fun v z => by rw [d] at z; cases z⟩
  keep := fun i h h' st k => st.at fun o e => k it (by simp) o e
  item := by
    intro X hP hw hK hc i pins s σ H E I hf st hg
    subst hP hw hK
    obtain ⟨xs, x, hq, hx⟩ := hg
    obtain ⟨its, rv, p, hz⟩ := I.list hq
    obtain ⟨u, hu, ru⟩ := rv.get hx
    obtain ⟨f0, f1, f2, f3, f4, f5⟩ := hf it (by simp)
    refine wpAny_pyNext_list_item st p.isList (x := u) (by simpa using hu) fun h' st' sb => ?_
    have I1 : Inv X pins σ H { s with heap := h' } := I.turned (t' := s.toks) (fun b o hb e => (sb.2 b hb).trans e) f0 f1 f3 f4 f5
    obtain ⟨o, e, c, d⟩ := id st'
    exact ⟨u, rfl, go_of (s := { s with heap := h' }) e c d (by decide) ⟨x, H, I1, ru, ⟨rfl, fun ys hy => by rw [I.list_inj hy hq]; exact hx⟩, st', fun b hb => (hf b hb).1⟩⟩
  done := by
    intro X hP hw hK hc i pins s σ H E I hf st hg
    subst hP hw hK
    obtain ⟨xs, hq, hx⟩ := hg
    obtain ⟨its, rv, p, hz⟩ := I.list hq
    obtain ⟨f0, f1, f2, f3, f4, f5⟩ := hf it (by simp)
    have hl := rv.length
    exact wpAny_pyNext_list_end (I.ok.hd hc) st p.isList (by simp; omega) fun h' eb => ⟨rfl, I.turned (t' := s.toks) (fun b o hb e => eb b o hb e) f0 f1 f3 f4 f5⟩
  self := fun _ _ _ _ _ st h => wpAny_pyIter_listiter st h
theorem turn_range {P : Program} {w : World} {K : PySem.W.Frag} {tg : Expr} (it : Addr) (lo : Int) (n : Nat) : Turn P w K tg (Itr lo n) [it] it (fun i h => IsRangeIter h it (lo + (i : Nat) * 1) ((n : Int) - (i : Nat)) 1) where
  mem := by simp
  obj := fun i h st b hb => by
    have e : b = it := by simpa using hb
    subst e
    exact ⟨_, st, fun v z => by
      have z' : Data.fields _ = Data.cell v := z
      cases z'⟩
  keep := fun i h h' st k => k it (by simp) _ st
  item := by
    intro X hP hw hK hc i pins s σ H E I hf st hg
    subst hP hw hK
    obtain ⟨f0, f1, f2, f3, f4, f5⟩ := hf it (by simp)
    have W := Walks.range (prog := X.prog) (w := X.w) (I.ok.hd hc) it lo 1 n
    refine W.item i s _ _ hg st fun v h' tk hv st' kk => ?_
    obtain ⟨t, rfl⟩ := hv
    have I1 : Inv X pins σ H { s with heap := h', toks := tk } := I.turned (fun b o hb e => kk b o (by simpa using hb) e) f0 f1 f3 f4 f5
    refine ⟨_, rfl, go_of (s := { s with heap := h', toks := tk }) (n := "range_iterator") st' rfl rfl (by decide) ⟨.int (lo + i), H, I1, ⟨t, ?_⟩, ⟨rfl, rfl⟩, st', fun b hb => (hf b hb).1⟩⟩
    rw [Int.mul_one]
  done := by
    intro X hP hw hK hc i pins s σ H E I hf st hg
    subst hP hw hK
    obtain ⟨f0, f1, f2, f3, f4, f5⟩ := hf it (by simp)
    exact wpAny_pyNext_range_end (I.ok.hd hc) st (by have : n ≤ i := hg; omega) fun h' eb => ⟨rfl, I.turned (t' := s.toks) (fun b o hb e => eb b o hb e) f0 f1 f3 f4 f5⟩
  self := fun _ _ _ _ _ st h => wpAny_pyIter_rangeiter st h
end L2

namespace L2
open PySem PySem.Spec PyProof.Rows
section
variable {X : Cx} {tg : Expr}
def iList (K : PySem.W.Frag) (tl : TE) : TI := fun σ H R => tl σ H fun x H1 => ∃ a, x = .ref a ∧ (∃ xs, SqL K H1 a xs) ∧ R (Itl K a) H1
theorem pi_list {l : Expr} {tl : TE} (hl : PE X l tl) : PI X tg l (iList X.K tl) := by
  intro pins s σ H R I h
  refine thn (hl pins s σ H _ I h) fun v s1 ⟨x, H1, I1, r1, q1⟩ => ?_
  obtain ⟨a, e, ⟨xs, hq⟩, q⟩ := q1
  subst e
  cases r1
  obtain ⟨its, rv, p, hz⟩ := I1.list hq
  refine wpAny_pyIter_list p.isList ?_
  refine ⟨s1.heap.objs.size, [s1.heap.objs.size], _, _, H1, rfl, I1.kept (t' := s1.toks) fun b o e => Heap.get?_push_of_some _ e, turn_list a _, ⟨_, Heap.get?_push_size _ rfl, rfl, rfl⟩, fun b hb => ?_, q⟩
  have e : b = s1.heap.objs.size := by simpa using hb
  subst e
  exact I1.fpOk (Nat.le_refl _) (I1.hok.fresh (Nat.le_refl _))
/-- a range object just made, walked -/
theorem range_it {pins : List (Addr × Obj)} {σ : St} {H : Hp} {s : Shared} {R : It → Hp → Prop} {E : Value → Shared → Prop} {lo hi : Int} {t u v : Tok} {tk : Nat} (I : Inv X pins σ H s) (h1 : -(2 ^ 62) ≤ lo) (h2 : lo < 2 ^ 62) (h3 : -(2 ^ 62) ≤ hi) (h4 : hi < 2 ^ 62)
    (q : R (Itr lo (hi - lo).toNat) H) : wpAny (model X.prog X.w) X.A (pyIter (.ref s.heap.objs.size)) (PIE X pins σ tg R) E { s with heap := s.heap.push { cls := .type "range", data := .fields #[.int lo t, .int hi u, .int 1 v] }, toks := tk } := by
  refine wpAny_pyIter_range (IsRange.new ..) (small_one h1 h2 h3 h4) ?_
  have I1 : Inv X pins σ H { s with heap := s.heap.push { cls := .type "range", data := .fields #[.int lo t, .int hi u, .int 1 v] }, toks := tk } := I.kept fun b o e => Heap.get?_push_of_some _ e
  refine ⟨(s.heap.push { cls := .type "range", data := .fields #[.int lo t, .int hi u, .int 1 v] }).objs.size, [(s.heap.push { cls := .type "range", data := .fields #[.int lo t, .int hi u, .int 1 v] }).objs.size], _, _, H, rfl,
    I1.kept (t' := tk) fun b o e => Heap.get?_push_of_some _ e, turn_range _ lo (hi - lo).toNat, ?_, fun b hb => ?_, q⟩
  · have e1 : lo + ((0 : Nat) : Int) * 1 = lo := by simp
    have e2 : (((hi - lo).toNat : Nat) : Int) - ((0 : Nat) : Int) = Builtin.Range.rangeSize lo hi 1 := by rw [rangeSize_one]; split <;> omega
    show IsRangeIter _ _ (lo + ((0 : Nat) : Int) * 1) ((((hi - lo).toNat : Nat) : Int) - ((0 : Nat) : Int)) 1
    rw [e1, e2]
    exact Heap.get?_push_size _ rfl
  · have e : b = (s.heap.push { cls := .type "range", data := .fields #[.int lo t, .int hi u, .int 1 v] }).objs.size := by simpa using hb
    subst e
    exact I1.fpOk (Nat.le_refl _) (I1.hok.fresh (Nat.le_refl _))
def iRng1 (ta : TA) : TI := fun σ H R => ta σ H fun vs H1 => ∃ j : Int, vs = [.int j] ∧ -(2 ^ 62) ≤ j ∧ j < 2 ^ 62 ∧ R (Itr 0 j.toNat) H1
theorem pi_range1 {a : Expr} {ta : TA} {p pos : Pos} (hg : Gl X "range") (hm : X.mg "range" = none) (ha : PA X [a] ta) (hs : starEach [a] X.env = [(false, eval a X.env)] := by rfl) : PI X tg (.Call (.Name "range" p) [a] [] pos) (iRng1 ta) := by
  intro pins s σ H R I h
  refine Call_ (ld_blt I hg hm boot_range (PyProof.Rows.callWith_type1 (thn (ha pos pins s σ H _ I h) fun us s1 ⟨vs, H1, I1, r1, q1⟩ => ?_) hs rfl))
  obtain ⟨j, e, q1, q2, q⟩ := q1
  subst e
  cases r1 with
  | cons r rr =>
    cases rr
    obtain ⟨t, rfl⟩ := r
    exact call_range_1 (range_it I1 (by omega) (by omega) q1 q2 (by simpa using q))
/-! ### for -/
/-- W: the invariant by the turn and a measure; N: what the body is to reach -/
def tFor (wi : TI) (g : TG) (tb : TS) : TS := fun D σ H => wi σ H fun J H1 => ∃ W : Nat → Nat → St → Hp → Prop, (∃ m, W 0 m σ H1) ∧ ∀ i m σ H, W i m σ H →
  (J.stop i H ∧ D.nx σ H) ∨ (J.go i H ∧ ∃ N : St → Hp → Prop, (∀ σ' H', N σ' H' → ∃ m', m' < m ∧ W (i + 1) m' σ' H') ∧ ∀ x H', J.yld i H x H' → g x σ H' fun σ2 H2 => tb { D with nx := N, ct := N, bk := D.nx } σ2 H2)
/-- the records at fp as they stand -/
def pinsAt (fp : List Addr) (h : Heap) : List (Addr × Obj) := fp.filterMap fun b => (h.get? b).map fun o => (b, o)
theorem mem_pinsAt {fp : List Addr} {h : Heap} {b : Addr} {o : Obj} (hb : b ∈ fp) (e : h.get? b = some o) : (b, o) ∈ pinsAt fp h := List.mem_filterMap.mpr ⟨b, hb, by rw [e]; rfl⟩
theorem of_pinsAt {fp : List Addr} {h : Heap} {p : Addr × Obj} (hp : p ∈ pinsAt fp h) : p.1 ∈ fp ∧ h.get? p.1 = some p.2 := by
  obtain ⟨b, hb, e⟩ := List.mem_filterMap.mp hp
  cases q : h.get? b with
  | none => rw [q] at e; cases e
  | some o =>
    rw [q] at e
    have e' : (b, o) = p := Option.some.inj e
    subst e'
    exact ⟨hb, q⟩
theorem Inv.pinned {pins : List (Addr × Obj)} {σ : St} {H : Hp} {s : Shared} {fp : List Addr} (I : Inv X pins σ H s) (hf : ∀ b ∈ fp, FpOk X pins H b) (ho : ∀ b ∈ fp, ∃ o, s.heap.get? b = some o ∧ ∀ v, o.data ≠ .cell v) : Inv X (pins ++ pinsAt fp s.heap) σ H s :=
  I.pins_of fun p hp => (List.mem_append.mp hp).elim (fun z => I.pin p (List.mem_append_right _ z)) fun z => by
    obtain ⟨hb, e⟩ := of_pinsAt z
    obtain ⟨f0, f1, f2, _⟩ := hf p.1 hb
    obtain ⟨o, e', d⟩ := ho p.1 hb
    rw [e] at e'; cases e'
    exact ⟨e, f0, f1, f2, d⟩
theorem Inv.unpinned {pins pl : List (Addr × Obj)} {σ : St} {H : Hp} {s : Shared} (I : Inv X (pins ++ pl) σ H s) : Inv X pins σ H s := I.pins_of fun p hp => I.pin p (List.mem_append_right _ (List.mem_append_left _ hp))
theorem ps_for {iter : Expr} {body : List Stmt} {wi : TI} {g : TG} {tb : TS} {pos : Pos} (hp : PassesOwn (model X.prog X.w) X.A X.env X.xe) (hc : X.calm = true) (hi : PI X tg iter wi) (hg : PG X tg g) (hb : PSs X body tb)
    (hs : ∀ x, foldedSetIterable iter X.env x = pure x := by intro _; rfl) : PS X (.For tg iter body [] pos) (tFor wi g tb) := by
  intro pins s σ H D I h
  refine wpAny_For (thn (hi pins s σ H _ I h) fun v s1 h1 => thn h1 fun itv s2 h2 => ?_) hs
  obtain ⟨it, fp, tn, J, H2, e, I2, T, st2, f2, W, ⟨m0, w0⟩, turn⟩ := h2
  subst e
  -- what stays true of the iterator's objects through the loop
  have stat : ∀ {H' : Hp}, (∀ b ∈ fp, H' b = none) → ∀ b ∈ fp, FpOk X pins H' b := fun hn b hb => ⟨hn b hb, (f2 b hb).2⟩
  refine codeAny_forLoop_any (fun n s' => ∃ i σ' H', Inv X pins σ' H' s' ∧ tn i s'.heap ∧ (∀ b ∈ fp, H' b = none) ∧ W i n σ' H') ?_ m0 ⟨0, σ, H2, I2, st2, fun b hb => (f2 b hb).1, w0⟩
  rintro n s3 ⟨i, σ3, H3, I3, st3, fr3, w3⟩
  rcases turn i n σ3 H3 w3 with ⟨stop, qn⟩ | ⟨go, N, hN, step⟩
  · refine wpAny_passesOwn hp (thn (T.done X rfl rfl rfl hc i pins s3 σ3 H3 X.xe I3 (stat fr3) st3 stop) fun r s4 ⟨hr, I4⟩ => ?_)
    subst hr
    exact wpAny_execs_nil ⟨σ3, H3, I4, qn⟩
  · refine wpAny_passesOwn hp (thn (T.item X rfl rfl rfl hc i pins s3 σ3 H3 X.xe I3 (stat fr3) st3 go) fun r s4 ⟨u, hr, h4⟩ => ?_)
    subst hr
    refine wpAny_passesOwn hp (thn h4 fun _ s5 ⟨x, H5, I5, r5, y5, st5, fr5⟩ => ?_)
    have I5' := I5.pinned (stat fr5) (T.obj _ _ st5)
    refine wpAny_passesOwn hp (thn (hg _ s5 σ3 H5 x u _ I5' r5 (step x H5 y5)) fun _ s6 ⟨σ6, H6, I6, q6⟩ => ?_)
    refine wpAny_passesOwn hp (thn (hb _ s6 σ6 H6 _ I6 q6) fun f s7 q7 => ?_)
    have again : ∀ {σ7 : St} {H7 : Hp}, Inv X (pins ++ pinsAt fp s5.heap) σ7 H7 s7 → N σ7 H7 → ∃ m, m < n ∧ ∃ i σ' H', Inv X pins σ' H' s7 ∧ tn i s7.heap ∧ (∀ b ∈ fp, H' b = none) ∧ W i m σ' H' := fun {σ7 H7} I7 n7 => by
      obtain ⟨m', hm, w7⟩ := hN σ7 H7 n7
      refine ⟨m', hm, i + 1, σ7, H7, I7.unpinned, T.keep _ _ _ st5 fun b hb o e => (I7.pin (b, o) (List.mem_append_right _ (List.mem_append_right _ (mem_pinsAt hb e)))).1, fun b hb => ?_, w7⟩
      obtain ⟨o, e, d⟩ := T.obj _ _ st5 b hb
      exact (I7.pin (b, o) (List.mem_append_right _ (List.mem_append_right _ (mem_pinsAt hb e)))).2.1
    cases f with
    | next => obtain ⟨σ7, H7, I7, n7⟩ := q7; exact again I7 n7
    | cont => obtain ⟨σ7, H7, I7, n7⟩ := q7; exact again I7 n7
    | brk => obtain ⟨σ7, H7, I7, q7⟩ := q7; exact ⟨σ7, H7, I7.unpinned, q7⟩
    | ret v => obtain ⟨x7, σ7, H7, I7, r7, q7⟩ := q7; exact ⟨x7, σ7, H7, I7.unpinned, r7, q7⟩
end

/-! ### the forms one uses -/
/-- over a list that the body leaves as it is -/
theorem for_list {K : PySem.W.Frag} {a : Addr} {xs : List V} {g : TG} {tb : TS} {D : Ends} {σ : St} {H : Hp} (Pv : Nat → St → Hp → Prop) (h0 : Pv 0 σ H) (hl : ∀ i σ H, i ≤ xs.length → Pv i σ H → SqL K H a xs)
    (hs : ∀ i x σ H, xs[i]? = some x → Pv i σ H → g x σ H fun σ2 H2 => tb { D with nx := Pv (i + 1), ct := Pv (i + 1), bk := D.nx } σ2 H2) (hd : ∀ σ H, Pv xs.length σ H → D.nx σ H) :
    ∃ W : Nat → Nat → St → Hp → Prop, (∃ m, W 0 m σ H) ∧ ∀ i m σ H, W i m σ H →
      ((Itl K a).stop i H ∧ D.nx σ H) ∨ ((Itl K a).go i H ∧ ∃ N : St → Hp → Prop, (∀ σ' H', N σ' H' → ∃ m', m' < m ∧ W (i + 1) m' σ' H') ∧ ∀ x H', (Itl K a).yld i H x H' → g x σ H' fun σ2 H2 => tb { D with nx := N, ct := N, bk := D.nx } σ2 H2) := by
  refine ⟨fun i m σ H => m = xs.length - i ∧ i ≤ xs.length ∧ Pv i σ H, ⟨xs.length, by simp, Nat.zero_le _, h0⟩, ?_⟩
  rintro i m σ H ⟨rfl, hi, p⟩
  have q := hl i σ H hi p
  by_cases hlt : i < xs.length
  · refine .inr ⟨⟨xs, xs[i], q, by simp [hlt]⟩, Pv (i + 1), fun σ' H' p' => ⟨xs.length - (i + 1), by omega, rfl, hlt, p'⟩, fun x H' y => ?_⟩
    obtain ⟨e, y⟩ := y
    subst e
    exact hs i x σ _ (y xs q) p
  · have e : i = xs.length := by omega
    subst e
    exact .inl ⟨⟨xs, q, Nat.le_refl _⟩, hd σ H p⟩
theorem for_range {lo : Int} {n : Nat} {g : TG} {tb : TS} {D : Ends} {σ : St} {H : Hp} (Pv : Nat → St → Hp → Prop) (h0 : Pv 0 σ H)
    (hs : ∀ i σ H, i < n → Pv i σ H → g (.int (lo + i)) σ H fun σ2 H2 => tb { D with nx := Pv (i + 1), ct := Pv (i + 1), bk := D.nx } σ2 H2) (hd : ∀ σ H, Pv n σ H → D.nx σ H) :
    ∃ W : Nat → Nat → St → Hp → Prop, (∃ m, W 0 m σ H) ∧ ∀ i m σ H, W i m σ H →
      ((Itr lo n).stop i H ∧ D.nx σ H) ∨ ((Itr lo n).go i H ∧ ∃ N : St → Hp → Prop, (∀ σ' H', N σ' H' → ∃ m', m' < m ∧ W (i + 1) m' σ' H') ∧ ∀ x H', (Itr lo n).yld i H x H' → g x σ H' fun σ2 H2 => tb { D with nx := N, ct := N, bk := D.nx } σ2 H2) := by
  refine ⟨fun i m σ H => m = n - i ∧ i ≤ n ∧ Pv i σ H, ⟨n, by simp, Nat.zero_le _, h0⟩, ?_⟩
  rintro i m σ H ⟨rfl, hi, p⟩
  by_cases hlt : i < n
  · refine .inr ⟨hlt, Pv (i + 1), fun σ' H' p' => ⟨n - (i + 1), by omega, rfl, hlt, p'⟩, fun x H' y => ?_⟩
    obtain ⟨e, y⟩ := y
    subst e y
    exact hs i σ _ hlt p
  · have e : i = n := by omega
    subst e
    exact .inl ⟨Nat.le_refl _, hd σ H p⟩
/-- while, by a word and a measure of the state -/
theorem while_by {c : TT} {tb : TS} {D : Ends} {σ : St} {H : Hp} (Pv : St → Hp → Prop) (μ : St → Hp → Nat) (h0 : Pv σ H)
    (hs : ∀ σ H, Pv σ H → c σ H fun b H1 => if b = true then tb { D with nx := fun σ' H' => Pv σ' H' ∧ μ σ' H' < μ σ H, ct := fun σ' H' => Pv σ' H' ∧ μ σ' H' < μ σ H, bk := D.nx } σ H1 else D.nx σ H1)
    (mono : ∀ σ H Q Q', (∀ b H1, Q b H1 → Q' b H1) → c σ H Q → c σ H Q') : tWhile c tb D σ H := by
  refine ⟨fun m σ H => m = μ σ H ∧ Pv σ H, ⟨_, rfl, h0⟩, ?_⟩
  rintro m σ H ⟨rfl, p⟩
  refine mono σ H _ _ (fun b H1 q => ?_) (hs σ H p)
  cases b with
  | true => exact ⟨_, fun σ' H' ⟨p', l⟩ => ⟨_, l, rfl, p'⟩, q⟩
  | false => exact q
end L2

namespace L2
open PySem PySem.Spec PyProof.Rows

abbrev R2 := V → V → Hp → VK → Prop
/-- a two-place operation on values: f is binaryOp op, inplaceOp op or compareOp op -/
def OpR (X : Cx) (f : Value → Value → Sem Value) (r : R2) : Prop :=
  ∀ (pins : List (Addr × Obj)) (s : Shared) (σ : St) (H : Hp) (x y : V) (v u : Value) (Q : VK), Inv X pins σ H s → RelV x v → RelV y u → r x y H Q →
    wpAny (model X.prog X.w) X.A (f v u) (EP X pins σ Q) X.xe s
/-- a one-place operation -/
def UnR (X : Cx) (f : Value → Sem Value) (r : V → Hp → VK → Prop) : Prop :=
  ∀ (pins : List (Addr × Obj)) (s : Shared) (σ : St) (H : Hp) (x : V) (v : Value) (Q : VK), Inv X pins σ H s → RelV x v → r x H Q →
    wpAny (model X.prog X.w) X.A (f v) (EP X pins σ Q) X.xe s
/-- a call of a value that is known (a builtin, a type) with values -/
def CallR (X : Cx) (f : Value) (r : List V → Hp → VK → Prop) : Prop :=
  ∀ (pins : List (Addr × Obj)) (s : Shared) (σ : St) (H : Hp) (xs : List V) (us : List Value) (Q : VK), Inv X pins σ H s → Vals xs us → r xs H Q →
    wpAny (model X.prog X.w) X.A (call f us) (EP X pins σ Q) X.xe s
def tOp (r : R2) (ta tb : TE) : TE := fun σ H Q => ta σ H fun x H1 => tb σ H1 fun y H2 => r x y H2 Q
def tUn (r : V → Hp → VK → Prop) (ta : TE) : TE := fun σ H Q => ta σ H fun x H1 => r x H1 Q
/-- ints in, under C, and a value out -/
def rI (C : Int → Int → Prop) (g : Int → Int → V) : R2 := fun x y H Q => ∃ i j, x = .int i ∧ y = .int j ∧ C i j ∧ Q (g i j) H
def rI0 (g : Int → Int → V) : R2 := fun x y H Q => ∃ i j, x = .int i ∧ y = .int j ∧ Q (g i j) H
def rU (g : Int → V) : V → Hp → VK → Prop := fun x H Q => ∃ i, x = .int i ∧ Q (g i) H

section
variable {X : Cx} {a b c : Expr} {ta tb tc : TE} {pos : Pos}

theorem binT (ha : PE X a ta) (hb : PE X b tb) {pins : List (Addr × Obj)} {s : Shared} {σ : St} {H : Hp} {R : V → V → Hp → Prop} (I : Inv X pins σ H s)
    (h : ta σ H fun x H1 => tb σ H1 fun y H2 => R x y H2) {Q : Value → Shared → Prop} {f : Value → Value → Sem Value}
    (hf : ∀ v u s2 x y H2, Inv X pins σ H2 s2 → RelV x v → RelV y u → R x y H2 → wpAny (model X.prog X.w) X.A (f v u) Q X.xe s2) :
    wpAny (model X.prog X.w) X.A (eval a X.env) (fun v s₁ => wpAny (model X.prog X.w) X.A (eval b X.env) (fun u s₂ => wpAny (model X.prog X.w) X.A (f v u) Q X.xe s₂) X.xe s₁) X.xe s := by
  refine thn (ha pins s σ H _ I h) fun v s1 ⟨x, H1, I1, r1, q1⟩ => ?_
  refine thn (hb pins s1 σ H1 _ I1 q1) fun u s2 ⟨y, H2, I2, r2, q2⟩ => ?_
  exact hf v u s2 x y H2 I2 r1 r2 q2

theorem pe_op {op : Operator} {r : R2} (ho : OpR X (binaryOp op) r) (ha : PE X a ta) (hb : PE X b tb) : PE X (.BinOp a op b pos) (tOp r ta tb) := by
  intro pins s σ H Q I h
  exact wpAny_BinOp (binT ha hb I h fun v u s2 x y H2 I2 rx ry q => ho pins s2 σ H2 x y v u Q I2 rx ry q)
theorem pe_un {op : UnaryOp} {r : V → Hp → VK → Prop} (ho : UnR X (unaryOp op) r) (ha : PE X a ta) : PE X (.UnaryOp op a pos) (tUn r ta) := by
  intro pins s σ H Q I h
  exact UnaryOp_ (thn (ha pins s σ H _ I h) fun v s1 ⟨x, H1, I1, r1, q1⟩ => ho pins s1 σ H1 x v Q I1 r1 q1)
/-! ### ints -/
theorem opI {f : Value → Value → Sem Value} {C : Int → Int → Prop} {g : Int → Int → Int}
    (rule : ∀ (i j : Int) (t u : Tok) (s : Shared) (Q : Value → Shared → Prop) (E : Value → Shared → Prop), C i j → Q (.int (g i j) s.toks) { s with toks := s.toks + 1 } → wpAny (model X.prog X.w) X.A (f (.int i t) (.int j u)) Q E s) :
    OpR X f (rI C fun i j => .int (g i j)) := by
  intro pins s σ H x y v u Q I rx ry h
  obtain ⟨i, j, rfl, rfl, hc, q⟩ := h
  obtain ⟨t, rfl⟩ := rx
  obtain ⟨t', rfl⟩ := ry
  exact rule i j t t' s _ _ hc ⟨.int (g i j), H, I.tok _, ⟨_, rfl⟩, q⟩
theorem opI0 {f : Value → Value → Sem Value} {g : Int → Int → Int}
    (rule : ∀ (i j : Int) (t u : Tok) (s : Shared) (Q : Value → Shared → Prop) (E : Value → Shared → Prop), Q (.int (g i j) s.toks) { s with toks := s.toks + 1 } → wpAny (model X.prog X.w) X.A (f (.int i t) (.int j u)) Q E s) :
    OpR X f (rI0 fun i j => .int (g i j)) := by
  intro pins s σ H x y v u Q I rx ry h
  obtain ⟨i, j, rfl, rfl, q⟩ := h
  obtain ⟨t, rfl⟩ := rx
  obtain ⟨t', rfl⟩ := ry
  exact rule i j t t' s _ _ ⟨.int (g i j), H, I.tok _, ⟨_, rfl⟩, q⟩
theorem opB0 {f : Value → Value → Sem Value} {g : Int → Int → Bool}
    (rule : ∀ (i j : Int) (t u : Tok) (s : Shared) (Q : Value → Shared → Prop) (E : Value → Shared → Prop), Q (.bool (g i j)) s → wpAny (model X.prog X.w) X.A (f (.int i t) (.int j u)) Q E s) :
    OpR X f (rI0 fun i j => .bl (g i j)) := by
  intro pins s σ H x y v u Q I rx ry h
  obtain ⟨i, j, rfl, rfl, q⟩ := h
  obtain ⟨t, rfl⟩ := rx
  obtain ⟨t', rfl⟩ := ry
  exact rule i j t t' s _ _ ⟨.bl (g i j), H, I, rfl, q⟩

def CMul (i j : Int) : Prop := (-(2 ^ 64) < i ∧ i < 2 ^ 64) ∨ (-(2 ^ 64) < j ∧ j < 2 ^ 64)
theorem CMul.ok {i j : Int} (h : CMul i j) : IntMulOk i j := by
  rcases h with ⟨h1, h2⟩ | ⟨h1, h2⟩
  · exact .of_left (intBits_le_64 h1 h2)
  · exact .of_right (intBits_le_64 h1 h2)
theorem op_add : OpR X (binaryOp .Add) (rI0 fun i j => .int (i + j)) := opI0 fun _ _ _ _ _ _ _ q => add_int q
theorem op_sub : OpR X (binaryOp .Sub) (rI0 fun i j => .int (i - j)) := opI0 fun _ _ _ _ _ _ _ q => sub_int q
/-- % by a positive divisor of any size -/
theorem op_mod : OpR X (binaryOp .Mod) (rI (fun _ j => 0 < j) fun i j => .int (i % j)) := opI fun i j _ _ _ _ _ hc q => by
  have h1 : (0 : Int) < j := hc
  exact mod_int' (by omega) (by rw [Int.fmod_eq_emod_of_nonneg i (by omega)]; exact q)
theorem unI {f : Value → Sem Value} {g : Int → Int}
    (rule : ∀ (i : Int) (t : Tok) (s : Shared) (Q : Value → Shared → Prop) (E : Value → Shared → Prop), Q (.int (g i) s.toks) { s with toks := s.toks + 1 } → wpAny (model X.prog X.w) X.A (f (.int i t)) Q E s) :
    UnR X f (rU fun i => .int (g i)) := by
  intro pins s σ H x v Q I rx h
  obtain ⟨i, rfl, q⟩ := h
  obtain ⟨t, rfl⟩ := rx
  exact rule i t s _ _ ⟨.int (g i), H, I.tok _, ⟨_, rfl⟩, q⟩
theorem un_neg : UnR X (unaryOp .USub) (rU fun i => .int (-i)) := unI fun _ _ _ _ _ q => neg_int q
/-! ### bools among ints: n += (a < b) -/
end

/-! ### comparisons -/
/-- the scalars that == tells apart as data does -/
def scal : V → V → Bool
  | .non, .non => true | .non, .int _ => true | .int _, .non => true | .non, .bl _ => true | .bl _, .non => true | .non, .str _ => true | .str _, .non => true
  | .int _, .int _ => true | .bl _, .bl _ => true | .str _, .str _ => true | .byt _, .byt _ => true
  | .int _, .str _ => true | .str _, .int _ => true | .bl _, .str _ => true | .str _, .bl _ => true
  | _, _ => false
def rEq : R2 := fun x y H Q => scal x y = true ∧ Q (.bl (decide (x = y))) H
theorem dec_int {i j : Int} : decide (V.int i = V.int j) = (i == j) := by
  rw [Bool.eq_iff_iff]
  simp
theorem dec_bl {i j : Bool} : decide (V.bl i = V.bl j) = (i == j) := by
  rw [Bool.eq_iff_iff]
  simp
theorem dec_str {i j : Str} : decide (V.str i = V.str j) = (i == j) := by
  rw [Bool.eq_iff_iff]
  simp
theorem dec_byt {i j : Array UInt8} : decide (V.byt i = V.byt j) = (i.toList == j.toList) := by
  rw [Bool.eq_iff_iff]
  cases i
  cases j
  simp

section
variable {X : Cx} {a b c : Expr} {ta tb tc : TE} {pos : Pos}
theorem fin_bl {pins : List (Addr × Obj)} {σ : St} {H : Hp} {s : Shared} {Q : VK} {k k' : Bool} (I : Inv X pins σ H s) (q : Q (.bl k) H) (e : k = k') : EP X pins σ Q (.bool k') s := by
  subst e
  exact ⟨.bl k, H, I, rfl, q⟩
theorem op_eq : OpR X (compareOp .Eq) rEq := by
  intro pins s σ H x y v u Q I rx ry h
  obtain ⟨hs, q⟩ := h
  cases x with
  | non =>
    cases rx
    cases y with
    | non => cases ry; exact PySem.EqNone.eq_none_none (fin_bl I q (by simp))
    | bl j => cases ry; exact PySem.EqNone.eq_none_bool (fin_bl I q (by simp))
    | int j => obtain ⟨t', rfl⟩ := ry; exact PySem.EqNone.eq_none_int (fin_bl I q (by simp))
    | str j => obtain ⟨t', rfl⟩ := ry; exact PySem.EqNone.eq_none_str (fin_bl I q (by simp))
    | _ => exact absurd (show false = true from hs) Bool.false_ne_true
  | bl i =>
    cases rx
    cases y with
    | non => cases ry; exact PySem.EqNone.eq_bool_none (fin_bl I q (by simp))
    | bl j => cases ry; exact eq_bool (fin_bl I q dec_bl)
    | str j => obtain ⟨t', rfl⟩ := ry; exact PySem.EqMixed.eq_bool_str (fin_bl I q (by simp))
    | _ => exact absurd (show false = true from hs) Bool.false_ne_true
  | int i =>
    obtain ⟨t, rfl⟩ := rx
    cases y with
    | non => cases ry; exact PySem.EqNone.eq_int_none (fin_bl I q (by simp))
    | int j => obtain ⟨t', rfl⟩ := ry; exact eq_int (fin_bl I q dec_int)
    | str j => obtain ⟨t', rfl⟩ := ry; exact PySem.EqMixed.eq_int_str (fin_bl I q (by simp))
    | _ => exact absurd (show false = true from hs) Bool.false_ne_true
  | str i =>
    obtain ⟨t, rfl⟩ := rx
    cases y with
    | non => cases ry; exact PySem.EqNone.eq_str_none (fin_bl I q (by simp))
    | bl j => cases ry; exact PySem.EqMixed.eq_str_bool (fin_bl I q (by simp))
    | int j => obtain ⟨t', rfl⟩ := ry; exact PySem.EqMixed.eq_str_int (fin_bl I q (by simp))
    | str j => obtain ⟨t', rfl⟩ := ry; exact eq_str (fin_bl I q dec_str)
    | _ => exact absurd (show false = true from hs) Bool.false_ne_true
  | byt i =>
    obtain ⟨t, rfl⟩ := rx
    cases y with
    | byt j => obtain ⟨t', rfl⟩ := ry; exact PySem.W.eq_bytes (fin_bl I q dec_byt)
    | _ => exact absurd (show false = true from hs) Bool.false_ne_true
  | _ => cases y <;> exact absurd (show false = true from hs) Bool.false_ne_true
theorem op_lt : OpR X (compareOp .Lt) (rI0 fun i j => .bl (decide (i < j))) := opB0 fun _ _ _ _ _ _ _ q => lt_int q
theorem op_gt : OpR X (compareOp .Gt) (rI0 fun i j => .bl (decide (j < i))) := opB0 fun _ _ _ _ _ _ _ q => gt_int q
theorem op_ge : OpR X (compareOp .GtE) (rI0 fun i j => .bl (decide (j ≤ i))) := opB0 fun _ _ _ _ _ _ _ q => ge_int q
/-- two rules for one operation: by cases -/
theorem OpR.or {f : Value → Value → Sem Value} {r r' : R2} (h : OpR X f r) (h' : OpR X f r') : OpR X f (fun x y H Q => r x y H Q ∨ r' x y H Q) := by
  intro pins s σ H x y v u Q I rx ry q
  rcases q with q | q
  · exact h pins s σ H x y v u Q I rx ry q
  · exact h' pins s σ H x y v u Q I rx ry q

theorem nomark (b : Expr) {op : CmpOp} (h : op ≠ .In := by decide) (h2 : op ≠ .NotIn := by decide) : behindInMarks op b = false := by
  have e1 : (op == CmpOp.In) = false := by cases op <;> first | rfl | exact absurd rfl h
  have e2 : (op == CmpOp.NotIn) = false := by cases op <;> first | rfl | exact absurd rfl h2
  cases b <;> simp [behindInMarks, e1, e2]
/-- a comparison as a value; hm: nomark b, or (for in, not in) by with_unfolding_all rfl -/
theorem pe_cmpR {op : CmpOp} {r : R2} (ho : OpR X (compareOp op) r) (ha : PE X a ta) (hb : PE X b tb) (hm : behindInMarks op b = false) : PE X (.Compare a [op] [b] pos) (tOp r ta tb) := by
  intro pins s σ H Q I h
  exact wpAny_Compare1 (binT ha hb I h fun v u s2 x y H2 I2 rx ry q => ho pins s2 σ H2 x y v u Q I2 rx ry q) hm
/-- a reading of a value as a test -/
def tTest (t : TE) : TT := fun σ H Q => t σ H fun x H' => ∃ k, x = .bl k ∧ Q k H'
theorem pt_cmpR {op : CmpOp} {r : R2} (ho : OpR X (compareOp op) r) (ha : PE X a ta) (hb : PE X b tb) (hm : behindInMarks op b = false) : PT X (.Compare a [op] [b] pos) (tTest (tOp r ta tb)) := by
  intro pins s σ H Q I h
  refine wpAny_isTrue_Compare1 (thn (ha pins s σ H _ I h) fun v s1 ⟨x, H1, I1, r1, q1⟩ => thn (hb pins s1 σ H1 _ I1 q1) fun u s2 ⟨y, H2, I2, r2, q2⟩ =>
    thn (ho pins s2 σ H2 x y v u _ I2 r1 r2 q2) fun c s3 ⟨z, H3, I3, r3, k, e, q3⟩ => ?_) hm
  subst e
  cases r3
  exact wpAny_truthy_bool ⟨H3, I3, q3⟩
/-! ### truth -/
theorem line63 : (sizeLine : Nat) < 2 ^ 63 := by rw [sizeLine_eq]; decide
/-! ### strs and bytes -/
/-! ### scalar builtins, by CallR -/
theorem vals1 {x : V} {us : List Value} (r : Vals [x] us) : ∃ u, us = [u] ∧ RelV x u := by
  cases r with
  | cons r1 r2 => cases r2; exact ⟨_, rfl, r1⟩
theorem call_abs : CallR X (.builtin "abs") (fun xs H Q => ∃ i, xs = [.int i] ∧ Q (.int (if i < 0 then -i else i)) H) := by
  intro pins s σ H xs us Q I r h
  obtain ⟨i, rfl, q⟩ := h
  obtain ⟨u, rfl, t, rfl⟩ := vals1 r
  exact call_abs_int fun u tk => ⟨.int (if i < 0 then -i else i), H, I.tok _, ⟨_, rfl⟩, q⟩
end
end L2

namespace L2
open PySem PySem.Spec PyProof.Rows

/-! ### an instance, its attributes a map -/
structure ObjM (h : Heap) (x dx C : Addr) (mA : Str → Option Value) : Prop where
  obj : h.get? x = some (PySem.W.instObj C dx)
  ns : h.Ns1 dx mA
  ne : dx ≠ x

theorem lookIn_ns {h : Heap} {dx : Addr} {mA : Str → Option Value} (n : h.Ns1 dx mA) : ∃ od, h.get? dx = some od ∧ ∀ name, PySem.W.lookIn name od = some (mA name) := by
  obtain ⟨o, es, ep, ho, hd, hk, _, hm⟩ := n
  refine ⟨o, ho, fun name => ?_⟩
  have e := hm name
  unfold nsFind findBy at e
  rw [← Array.find?_toList] at e
  unfold PySem.W.lookIn
  rw [hd]
  dsimp only
  split
  · rename_i y q
    rw [q] at e
    exact congrArg some e
  · rename_i q
    rw [q] at e
    have a : es.toList.any (·.refKey) = false := by
      rw [List.any_eq_false]
      intro y hy
      obtain ⟨z, t, hkey⟩ := hk y (Array.mem_toList_iff.mp hy)
      simp [DictEntry.refKey, hkey]
    have a' : ¬ es.toList.any (·.refKey) = true := by rw [a]; exact Bool.false_ne_true
    rw [if_neg a']
    exact congrArg some e

theorem ObjM.look {h : Heap} {x dx C : Addr} {mA : Str → Option Value} (I : ObjM h x dx C mA) : ∃ od, PySem.W.InstAt h x (PySem.W.instObj C dx) C (some od) ∧ ∀ name, PySem.W.lookIn name od = some (mA name) :=
  let ⟨od, ho, hl⟩ := lookIn_ns I.ns
  ⟨od, ⟨I.obj, rfl, rfl, ho⟩, hl⟩

section
variable {prog : Program} {w : World} {A : Around} {E : Value → Shared → Prop} {s : Shared} {K : PySem.W.Frag} {x dx C f : Addr} {mA : Str → Option Value} {name : Str} {v : Value}

theorem get_map {expr : Bool} {Q : Value → Shared → Prop} (X : K.In s.heap) (I : ObjM s.heap x dx C mA) (hg : PySem.W.plainGet K C name = true) (hh : PySem.W.hasDictIn K C = true)
    (ha : PySem.W.findIn K (.ref C) name = some none) (hv : mA name = some v) (hv' : PySem.W.handedIn v = true) (h : Q v { s with toks := s.toks + 1 }) :
    wpAny (model prog w) A (getAttr (.ref x) name expr) Q E s := by
  obtain ⟨od, J, hl⟩ := I.look
  exact PySem.W.get_value X J (PySem.W.plainGet_of hg).1 (PySem.W.findObj_own hh ha rfl (by rw [hl, hv])) hv' h

theorem get_meth {pl : Sem Bool} {Q : Value × List Value → Shared → Prop} (X : K.In s.heap) (I : ObjM s.heap x dx C mA) (hg : PySem.W.plainGet K C name = true)
    (hf : PySem.W.findIn K (.ref C) name = some (some (.ref f))) (ht : PySem.W.isFn K (.ref f) = true) (hv : mA name = none) (h : Q (.ref f, [.ref x]) s) :
    wpAny (model prog w) A (getMethod (.ref x) name pl) Q E s := by
  obtain ⟨od, J, hl⟩ := I.look
  exact PySem.W.method_fn X J (PySem.W.plainGet_of hg).1 (PySem.W.plainGet_of hg).2 hf (beq_iff_eq.mp ht) (by show (PySem.W.lookIn name od).map (·.isSome) = some false; rw [hl, hv]; rfl) h

theorem set_map {ns : List Str} {Q : Unit → Shared → Prop} (X : K.In s.heap) (I : ObjM s.heap x dx C mA)
    (hs : PySem.W.findIn K (.ref C) "__setattr__" = some (some (.builtin "object.__setattr__"))) (hp : PySem.W.plainOver K C = true) (ht : PySem.W.takerIn K C name = some none) (hh : PySem.W.hasDictIn K C = true)
    (hw : PySem.Within mA ns) (hsz : ns.length ≤ sizeLine)
    (h : ∀ h', ObjM h' x dx C (fun y => if y = name then some v else mA y) → Heap.SameBut dx s.heap h' → Q () { s with heap := h', toks := s.toks + 2 }) :
    wpAny (model prog w) A (setAttr (.ref x) name v) Q E s := by
  obtain ⟨od, J, hl⟩ := I.look
  refine PySem.W.set_plain X J hs (PySem.W.osa_open (s := { s with toks := s.toks + 1 }) (r := none) X J hp ht fun b => ?_)
  obtain ⟨cd, hc, hd'⟩ := PySem.W.any_some hh
  have hx : s.heap.get? x = some ⟨.ref C, some dx, .plain, #[]⟩ := I.obj
  refine wpAny_bind (wpAny_pure (wpAny_bind (wpAny_bind (wpAny_loadPart hx (wpAny_bind (PySem.W.Looks.here (s := { s with toks := s.toks + 1 }) (PySem.W.looks_clsIn X hc) ?_))))))
  rw [hd']
  refine wpAny_pure (a := some dx) (wpAny_bind (wpAny_pure (wpAny_bind ?_)))
  refine wpAny_nsSet1 (s := { s with toks := s.toks + 1 }) I.ns fun h' hn2 hs2 => ?_
  obtain ⟨oD, esD, epD, hoD, hdD, hcD⟩ := hn2.count (PySem.Within.cons name v hw)
  refine wpAny_bind (wpAny_lookBehind hoD (by rw [hdD]; exact pastItsLine_dict (Nat.le_trans hcD (by rw [List.length_cons]; omega))) ?_)
  exact wpAny_pure (h _ ⟨(hs2.2 _ (Ne.symm I.ne)).trans I.obj, hn2, I.ne⟩ hs2)

/-- C(..): the dict at the heap's end, the instance behind it; then its __init__ -/
theorem make_map {R : Result → Shared → Prop} {vs : List Value} {kw : List (Str × Value)} (X : K.In s.heap) (hm : PySem.W.makesIn K C = true)
    (hi : PySem.W.findIn K (.ref C) "__init__" = some (some (.ref f))) (hf : PySem.W.typeIn K (.ref f) = some (.type "function"))
    (h : codeAny (model prog w) (A.under (.builtin "type.__call__" ⟨.ref C :: vs, kw⟩)) (.call (.ref f) ⟨.ref (s.heap.objs.size + 1) :: vs, kw⟩) (PySem.W.InitBack (s.heap.objs.size + 1) R)
      { s with heap := (s.heap.push PySem.W.emptyDict).push (PySem.W.instObj C s.heap.objs.size) }) :
    codeAny (model prog w) A (.call (.ref C) ⟨vs, kw⟩) R s := by
  obtain ⟨hh, g, d, t, os⟩ := s
  exact PySem.W.make_core (PySem.W.makes_of X hm) (PySem.W.looks_findIn X hi) (fun self => PySem.W.bind_fn X self hf) (.inl rfl) h
end

/-! ### the attributes as a list of pairs -/
def putF (f : Str) (v : V) : List (Str × V) → List (Str × V)
  | [] => [(f, v)]
  | (g, x) :: r => if g = f then (g, v) :: r else (g, x) :: putF f v r
theorem lookup_putF (f g : Str) (v : V) : ∀ fs : List (Str × V), (putF f v fs).lookup g = if g = f then some v else fs.lookup g
  | [] => by
    show List.lookup g [(f, v)] = _
    by_cases h : g = f
    · have hb : (g == f) = true := beq_iff_eq.mpr h
      simp only [List.lookup, hb, if_pos h]
    · have hb : (g == f) = false := beq_eq_false_iff_ne.mpr h
      simp only [List.lookup, hb, if_neg h]
  | (k, x) :: r => by
    have ih := lookup_putF f g v r
    rw [show putF f v ((k, x) :: r) = (if k = f then (k, v) :: r else (k, x) :: putF f v r) from rfl]
    by_cases hk : k = f
    · rw [if_pos hk]
      by_cases h : g = k
      · have hb : (g == k) = true := beq_iff_eq.mpr h
        simp only [List.lookup, hb, if_pos (h.trans hk)]
      · have hb : (g == k) = false := beq_eq_false_iff_ne.mpr h
        simp only [List.lookup, hb, if_neg (fun e : g = f => h (e.trans hk.symm))]
    · rw [if_neg hk]
      by_cases h : g = k
      · have hb : (g == k) = true := beq_iff_eq.mpr h
        simp only [List.lookup, hb, if_neg (fun e : g = f => hk (h.symm.trans e))]
      · have hb : (g == k) = false := beq_eq_false_iff_ne.mpr h
        simp only [List.lookup, hb]
        exact ih
theorem keys_putF (f : Str) (v : V) : ∀ fs : List (Str × V), f ∈ (putF f v fs).map (·.1) ∧ ∀ g, g ∈ fs.map (·.1) → g ∈ (putF f v fs).map (·.1)
  | [] => ⟨by simp [putF], fun g h => by simp at h⟩
  | (k, x) :: r => by
    obtain ⟨i1, i2⟩ := keys_putF f v r
    rw [show putF f v ((k, x) :: r) = (if k = f then (k, v) :: r else (k, x) :: putF f v r) from rfl]
    by_cases hk : k = f
    · rw [if_pos hk]
      subst hk
      exact ⟨by simp, fun g h => by simpa using h⟩
    · rw [if_neg hk]
      refine ⟨?_, fun g h => ?_⟩
      · rw [List.map_cons]
        exact List.mem_cons_of_mem _ i1
      · rw [List.map_cons] at h ⊢
        rcases List.mem_cons.mp h with e | e
        · exact List.mem_cons.mpr (.inl e)
        · exact List.mem_cons_of_mem _ (i2 g e)
theorem length_putF (f : Str) (v : V) : ∀ fs : List (Str × V), (putF f v fs).length ≤ fs.length + 1
  | [] => by simp [putF]
  | (k, x) :: r => by
    have ih := length_putF f v r
    rw [show putF f v ((k, x) :: r) = (if k = f then (k, v) :: r else (k, x) :: putF f v r) from rfl]
    by_cases hk : k = f
    · rw [if_pos hk, List.length_cons, List.length_cons]; omega
    · rw [if_neg hk, List.length_cons, List.length_cons]; omega

theorem RelO.some_of {v : V} {o : Option Value} (r : RelO (some v) o) : ∃ u, o = some u ∧ RelV v u := by
  cases o with
  | none => exact (show False from r).elim
  | some u => exact ⟨u, rfl, r⟩
theorem RelO.none_of {o : Option Value} (r : RelO none o) : o = none := by
  cases o with
  | none => rfl
  | some u => exact (show False from r).elim
theorem handed_of {v : V} {u : Value} (r : RelV v u) : PySem.W.handedIn u = true := by
  cases v with
  | non => cases (show u = Value.none from r); rfl
  | bl b => cases (show u = Value.bool b from r); rfl
  | int i => obtain ⟨t, e⟩ := (show ∃ t, u = Value.int i t from r); cases e; rfl
  | str x => obtain ⟨t, e⟩ := (show ∃ t, u = Value.str x t from r); cases e; rfl
  | byt b => obtain ⟨t, e⟩ := (show ∃ t, u = Value.bytes b t from r); cases e; rfl
  | flt b => obtain ⟨t, e⟩ := (show ∃ t, u = Value.float b t from r); cases e; rfl
  | ref a => cases (show u = Value.ref a from r); rfl
  | ty n => cases (show u = Value.type n from r); rfl

section
variable {P : Program} {w : World} {H H' : Hp} {h h' : Heap} {a C dx : Addr} {fs fs' : List (Str × V)}
theorem ins_get (hok : HOk P w H h) (e : H a = some (.ins C dx fs)) : ∃ mA, ObjM h a dx C mA ∧ (∀ f, RelO (fs.lookup f) (mA f)) ∧ PySem.Within mA (fs.map (·.1)) ∧ fs.length ≤ 1000 ∧ H dx = some (.own a) := by
  obtain ⟨d, z, ne, ob, mA, n, r, q⟩ := (show ObjOk P w H h a (.ins C dx fs) from hok a _ e)
  exact ⟨mA, ⟨ob, n, ne⟩, r, q, z, d⟩
end

/-! ### what of the text a class must have -/
structure Cls (K : PySem.W.Frag) (C : Addr) : Prop where
  pg : PySem.W.plainGet K C Str.empty = true
  hd : PySem.W.hasDictIn K C = true
  po : PySem.W.plainOver K C = true
  sa : PySem.W.findIn K (.ref C) "__setattr__" = some (some (.builtin "object.__setattr__"))
theorem Cls.get {K : PySem.W.Frag} {C : Addr} (c : Cls K C) (f : Str) : PySem.W.plainGet K C f = true := c.pg
/-- no class of it has the name -/
def NoAttr (K : PySem.W.Frag) (C : Addr) (f : Str) : Prop := PySem.W.findIn K (.ref C) f = some none
theorem NoAttr.taker {K : PySem.W.Frag} {C : Addr} {f : Str} (n : NoAttr K C f) : PySem.W.takerIn K C f = some none := by
  unfold PySem.W.takerIn
  rw [show PySem.W.findIn K (.ref C) f = some none from n]
  rfl
/-- a constant of the class -/
structure Con (K : PySem.W.Frag) (C : Addr) (f : Str) (v : V) (u : Value) : Prop where
  at_ : PySem.W.findIn K (.ref C) f = some (some u)
  rel : RelV v u
  get : PySem.W.specialIn K u "__get__" = some none
  cp : PySem.W.copiedNames.contains f = false
/-- a method: a plain def of the class or of one above it -/
structure Meth (K : PySem.W.Frag) (C : Addr) (m : Str) (f : Addr) : Prop where
  at_ : PySem.W.findIn K (.ref C) m = some (some (.ref f))
  fn : PySem.W.isFn K (.ref f) = true
  kp : PySem.W.keepIn K (.ref f) = true

section
variable {X : Cx} {pins : List (Addr × Obj)} {σ : St} {H : Hp} {s : Shared} {a C dx : Addr} {fs : List (Str × V)} {f : Str} {v : V} {A : Around} {E : Value → Shared → Prop}

theorem getattr_ok {b : Bool} {Q : Value → Shared → Prop} (I : Inv X pins σ H s) (e : H a = some (.ins C dx fs)) (c : Cls X.K C) (n : NoAttr X.K C f) (l : fs.lookup f = some v)
    (h : ∀ u s', Inv X pins σ H s' → RelV v u → Q u s') : wpAny (model X.prog X.w) A (getAttr (.ref a) f b) Q E s := by
  obtain ⟨mA, O, r, _, _, _⟩ := ins_get I.hok e
  obtain ⟨u, hu, ru⟩ := RelO.some_of (v := v) (o := mA f) (by rw [← l]; exact r f)
  exact get_map I.kIn O (c.get f) c.hd n hu (handed_of ru) (h u _ (I.tok _) ru)

theorem getmeth_ok {m : Str} {g : Addr} {pl : Sem Bool} {Q : Value × List Value → Shared → Prop} (I : Inv X pins σ H s) (e : H a = some (.ins C dx fs)) (c : Cls X.K C) (k : Meth X.K C m g) (l : fs.lookup m = none)
    (h : Q (.ref g, [.ref a]) s) : wpAny (model X.prog X.w) A (getMethod (.ref a) m pl) Q E s := by
  obtain ⟨mA, O, r, _, _, _⟩ := ins_get I.hok e
  have hn : mA m = none := RelO.none_of (by rw [← l]; exact r m)
  exact get_meth I.kIn O (c.get m) k.at_ k.fn hn h

theorem setattr_ok {y : V} {u : Value} {Q : Unit → Shared → Prop} (I : Inv X pins σ H s) (e : H a = some (.ins C dx fs)) (c : Cls X.K C) (n : NoAttr X.K C f) (hl : fs.length < 1000) (ry : RelV y u)
    (h : ∀ s', Inv X pins σ (upd H a (.ins C dx (putF f y fs))) s' → Q () s') : wpAny (model X.prog X.w) A (setAttr (.ref a) f u) Q E s := by
  obtain ⟨mA, O, r, wi, _, ho⟩ := ins_get I.hok e
  have hz : (fs.map (·.1)).length ≤ sizeLine := by rw [List.length_map, sizeLine_eq]; omega
  refine set_map I.kIn O c.sa c.po n.taker c.hd wi hz fun h' O' sb => h _ ?_
  have hd : ∃ o, h'.get? dx = some o := let ⟨o, _, _, e', _⟩ := O'.ns; ⟨o, e'⟩
  refine I.write (x := a) (e := dx) (by rw [e]; exact True.intro) (.inr ho) (fun b q hb z => (sb.2 b hb).trans z) hd ?_
  refine ⟨by rw [upd_ne O.ne]; exact ho, ?_, O.ne, O'.obj, _, O'.ns, fun g => ?_, fun g hg => ?_⟩
  · have := length_putF f y fs; omega
  · show RelO ((putF f y fs).lookup g) (if g = f then some u else mA g)
    rw [lookup_putF]
    by_cases q : g = f
    · rw [if_pos q, if_pos q]; exact ry
    · rw [if_neg q, if_neg q]; exact r g
  · by_cases q : g = f
    · rw [q]; exact (keys_putF f y fs).1
    · refine (keys_putF f y fs).2 g (wi g fun z => hg ?_)
      show (if g = f then some u else mA g) = none
      rw [if_neg q]; exact z

/-- a new instance, tracked, without attributes -/
theorem Inv.made (I : Inv X pins σ H s) : Inv X pins σ (upd (upd H s.heap.objs.size (.own (s.heap.objs.size + 1))) (s.heap.objs.size + 1) (.ins C s.heap.objs.size []))
    { s with heap := (s.heap.push PySem.W.emptyDict).push (PySem.W.instObj C s.heap.objs.size) } := by
  have e1 : (s.heap.push PySem.W.emptyDict).get? s.heap.objs.size = some PySem.W.emptyDict := Heap.get?_push_size s.heap rfl
  have e2 : ((s.heap.push PySem.W.emptyDict).push (PySem.W.instObj C s.heap.objs.size)).get? (s.heap.objs.size + 1) = some (PySem.W.instObj C s.heap.objs.size) := by
    have := Heap.get?_push_size (s.heap.push PySem.W.emptyDict) (o := PySem.W.instObj C s.heap.objs.size) rfl
    rwa [Heap.size_push] at this
  have e3 : (s.heap.push PySem.W.emptyDict).Ns s.heap.objs.size (fun _ => none) := ⟨PySem.W.emptyDict, #[], _, e1, rfl, (fun e he => absurd he (by simp)), fun _ => rfl⟩
  have I1 := I.laid (a := s.heap.objs.size) (o := .own (s.heap.objs.size + 1)) (h' := s.heap.push PySem.W.emptyDict) (t' := s.toks) (fun b u q => Heap.get?_push_of_some _ q) (Nat.le_refl _) ⟨_, e1⟩
  refine I1.laid (a := s.heap.objs.size + 1) (o := .ins C s.heap.objs.size []) (t' := s.toks) (fun b u q => Heap.get?_push_of_some _ q) (Nat.le_of_eq (Heap.size_push _ _)) ?_
  have ne : s.heap.objs.size ≠ s.heap.objs.size + 1 := Nat.ne_of_lt (Nat.lt_succ_self _)
  refine ⟨by rw [upd_ne ne, upd_same], Nat.zero_le _, ne, e2, fun _ => none, (Heap.Ns1.of_empty e3).at fun o q => Heap.get?_push_of_some _ q, fun _ => True.intro, fun y hy => absurd rfl hy⟩

/-- e.f where nothing but the object is asked: through attributeBase (super) and the last hold -/
theorem attr_of {prog : Program} {w : World} {env : Env} {e : Expr} {f : Str} {pos : Pos} {s : Shared} {Q : Value → Shared → Prop} (hb : attributeBase e f env (eval e env) = eval e env)
    (h : wpAny (model prog w) A (eval e env) (fun o s₁ => wpAny (model prog w) A (getAttr o f true) Q E s₁) E s) : wpAny (model prog w) A (eval (.Attribute e f pos) env) Q E s :=
  Attribute_any_ h (by rw [arm_eval_Attribute, hb])
end

/-! ### readings and rules -/
/-- e.f, an attribute of the instance -/
def tFld (K : PySem.W.Frag) (ta : TE) (f : Str) : TE := fun σ H Q => ta σ H fun x H1 => ∃ a C dx fs v, x = .ref a ∧ H1 a = some (.ins C dx fs) ∧ Cls K C ∧ NoAttr K C f ∧ fs.lookup f = some v ∧ Q v H1
/-- e.f = value -/
def sFld (K : PySem.W.Frag) (ta tv : TE) (f : Str) : TS := fun D σ H => tv σ H fun y H1 => ta σ H1 fun x H2 => ∃ a C dx fs, x = .ref a ∧ H2 a = some (.ins C dx fs) ∧ Cls K C ∧ NoAttr K C f ∧ fs.length < 1000 ∧
  D.nx σ (upd H2 a (.ins C dx (putF f y fs)))
section
variable {X : Cx} {o e value : Expr} {f : Str} {pos pos' tpos : Pos} {ta tv : TE}
theorem pe_fld (he : PE X e ta) (hb : attributeBase e f X.env (eval e X.env) = eval e X.env) : PE X (.Attribute e f pos) (tFld X.K ta f) := by
  intro pins s σ H Q I h
  refine attr_of hb (thn (he pins s σ H _ I h) fun u s1 ⟨x, H1, I1, rx, a, C, dx, fs, v, ex, ea, c, n, l, q⟩ => ?_)
  subst ex
  obtain rfl : u = Value.ref a := rx
  exact getattr_ok I1 ea c n l fun u' s2 I2 ru => ⟨v, H1, I2, ru, q⟩
theorem ps_fld (ha : PE X o ta) (hv : PE X value tv) (hs : swapsWith value (some (.Attribute o f pos')) pos.line X.env = pure false) : PS X (.Assign [.Attribute o f pos'] value pos) (sFld X.K ta tv f) := by
  intro pins s σ H D I h
  refine plainObj_wpAny_Assign_Attribute (thn (hv pins s σ H _ I h) fun u s1 ⟨y, H1, I1, ry, q⟩ => thn (ha pins s1 σ H1 _ I1 q) fun ov s2 ⟨x, H2, I2, rx, a, C, dx, fs, ex, ea, c, n, l, q2⟩ => ?_) hs
  subst ex
  obtain rfl : ov = Value.ref a := rx
  exact setattr_ok I2 ea c n l ry fun s3 I3 => ⟨σ, _, I3, q2⟩
end

/-! ### isinstance -/
section
variable {X : Cx} {pins : List (Addr × Obj)} {σ : St} {H : Hp} {s : Shared} {A : Around} {E : Value → Shared → Prop} {Q : Value → Shared → Prop} {c : Value} {b : Bool}
/-- the type of a value, as the fragment's deciders take it; for an instance its class -/
inductive TyOf (K : PySem.W.Frag) (H : Hp) : V → Value → Prop where
  | non : TyOf K H .non (.type "NoneType")
  | bl (x : Bool) : TyOf K H (.bl x) (.type "bool")
  | int (i : Int) : TyOf K H (.int i) (.type "int")
  | str (x : Str) : TyOf K H (.str x) (.type "str")
  | flt (x : UInt64) : TyOf K H (.flt x) (.type "float")
  | lst {a : Addr} {xs : List V} (e : H a = some (.lst xs)) : TyOf K H (.ref a) (.type "list")
  | frz {a : Addr} {o : Obj} {xs : List V} (e : H a = some (.frz o (.lst xs))) : TyOf K H (.ref a) (.type "list")
  | tup {a : Addr} {xs : List V} (e : H a = some (.tup xs)) : TyOf K H (.ref a) (.type "tuple")
  | dK {a : Addr} {kvs : List (Key × V)} (e : H a = some (.dK kvs)) : TyOf K H (.ref a) (.type "dict")
  | dT {a : Addr} {kvs : List (List Key × V)} (e : H a = some (.dT kvs)) : TyOf K H (.ref a) (.type "dict")
  | ins {a C dx : Addr} {fs : List (Str × V)} (e : H a = some (.ins C dx fs)) (cl : Cls K C) (ha : PySem.W.findIn K (.ref C) "__class__" = some (some (.builtin "object.__class__")))
      (hn : PySem.W.specialIn K (.builtin "object.__class__") "__get__" = some (some (.builtin "getset_descriptor.__get__"))) (htk : PySem.W.takesIn K (.builtin "object.__class__") = some true)
      (hm : PySem.W.mroIn K C (.type "object") = some true) : TyOf K H (.ref a) (.ref C)
end
end L2

namespace L2
open PySem PySem.Spec PyProof.Rows

/-! ### room -/
structure Room (k : Nat) (A : Around) : Prop where
  hd : A.handled = none
  dp : A.depth + 3 * k + 5 < recursionLimit
  un : A.units + 16 * k + 200 < cLine
theorem Room.mono {j k : Nat} {A : Around} (r : Room k A) (h : j ≤ k) : Room j A := ⟨r.hd, by have := r.dp; omega, by have := r.un; omega⟩
theorem Room.deeper {k : Nat} {A : Around} (r : Room (k + 1) A) (env : Env) : Room k (A.deeper env) :=
  ⟨r.hd, by have := r.dp; show A.depth + 1 + 3 * k + 5 < _; omega, by have := r.un; show A.units + 3 + 16 * k + 200 < _; omega⟩
theorem Room.in1 {k : Nat} {A : Around} (r : Room (k + 1) A) : Room k A.in1 :=
  ⟨r.hd, by have := r.dp; show A.depth + 3 * k + 5 < _; omega, by have := r.un; show A.units + 1 + 16 * k + 200 < _; omega⟩
theorem make_depth {A : Around} {C : Addr} {us : List Value} {kw : List (Str × Value)} : (A.under (.builtin "type.__call__" ⟨.ref C :: us, kw⟩)).depth = A.depth + 1 := by
  first | rfl | simp [Around.under, Code.weight, Code.isCreation, Code.isGuard, Code.isCaller, Code.frames, Code.isFrame, guardIds]
theorem make_units {A : Around} {C : Addr} {us : List Value} {kw : List (Str × Value)} : (A.under (.builtin "type.__call__" ⟨.ref C :: us, kw⟩)).units = A.units + 1 := by
  first | rfl | simp [Around.under, Code.cUnits, Code.frames, Code.isFrame]
theorem Room.make {k : Nat} {A : Around} (r : Room (k + 1) A) (C : Addr) (us : List Value) (kw : List (Str × Value)) : Room k (A.under (.builtin "type.__call__" ⟨.ref C :: us, kw⟩)) :=
  ⟨r.hd, by have := r.dp; rw [make_depth]; omega, by have := r.un; rw [make_units]; omega⟩
theorem Room.depth {k : Nat} {A : Around} (r : Room k A) : A.depth < recursionLimit := by have := r.dp; omega
theorem Room.units {k : Nat} {A : Around} (r : Room k A) : A.units + 64 < cLine := by have := r.un; omega
/-! ### argument lists and displays -/
def tNil : TA := fun _ H Q => Q [] H
def tCons (ta : TE) (tr : TA) : TA := fun σ H Q => ta σ H fun x H1 => tr σ H1 fun xs H2 => Q (x :: xs) H2
section
variable {X : Cx} {e : Expr} {es : List Expr} {te : TE} {t : TA} {pos : Pos}
theorem pa_nil : PA X [] tNil := fun _ _ _ _ H Q I h => Calls.spliced_nil ⟨[], H, I, .nil, h⟩
theorem pa_cons (ha : PE X e te) (hr : PA X es t) (hs : starEach (e :: es) X.env = (false, eval e X.env) :: starEach es X.env := by rfl) : PA X (e :: es) (tCons te t) := by
  intro pos pins s σ H Q I h
  rw [hs]
  show wpAny _ _ (spliced ((false, eval e X.env) :: backTo pos (starEach es X.env))) _ _ s
  refine Calls.spliced_cons (thn (ha pins s σ H _ I h) fun u s1 ⟨x, H1, I1, r1, q1⟩ => ?_)
  exact thn (hr pos pins s1 σ H1 _ I1 q1) fun us s2 ⟨xs, H2, I2, r2, q2⟩ => ⟨x :: xs, H2, I2, .cons r1 r2, q2⟩

/-- a tuple, a list of written items -/
def tTup (t : TA) : TE := fun σ H Q => t σ H fun xs H1 => xs.length ≤ sizeLine ∧ ∀ p, H1 p = none → Q (.ref p) (upd H1 p (.tup xs))
def tLst (t : TA) : TE := fun σ H Q => t σ H fun xs H1 => xs.length ≤ sizeLine ∧ ∀ p, H1 p = none → Q (.ref p) (upd H1 p (.lst xs))
theorem pe_tup {x1} (h : PA X es t) : PE X (.Tuple es x1 pos) (tTup t) := by
  intro pins s σ H Q I hq
  refine wpAny_Tuple_spliced (thn (h pos pins s σ H _ I hq) fun us s1 ⟨xs, H1, I1, r, z, q⟩ => ⟨by rw [← r.length]; exact z, ?_⟩)
  have hf : H1 s1.heap.objs.size = none := I1.hok.fresh (Nat.le_refl _)
  refine ⟨.ref s1.heap.objs.size, upd H1 s1.heap.objs.size (.tup xs), I1.laid (t' := s1.toks) (fun b u e => Heap.get?_push_of_some _ e) (Nat.le_refl _) ?_, rfl, q _ hf⟩
  exact ⟨z, us, r, ⟨_, Heap.get?_push_size _ rfl, rfl, _, rfl⟩⟩
theorem pe_lst (h : PA X es t) : PE X (.List es pos) (tLst t) := by
  intro pins s σ H Q I hq
  refine wpAny_List_spliced (thn (h pos pins s σ H _ I hq) fun us s1 ⟨xs, H1, I1, r, z, q⟩ => ⟨by rw [← r.length]; exact z, ?_⟩)
  have hf : H1 s1.heap.objs.size = none := I1.hok.fresh (Nat.le_refl _)
  refine ⟨.ref s1.heap.objs.size, upd H1 s1.heap.objs.size (.lst xs), I1.laid (t' := s1.toks) (fun b u e => Heap.get?_push_of_some _ e) (Nat.le_refl _) ?_, rfl, q _ hf⟩
  exact ⟨z, us, 0, r, Heap.get?_push_size _ rfl⟩
end

/-! ### what a def promises -/
/-- a def's promise: the bound arguments in the parameters' order, the heap, the wanted end, the wanted exception -/
abbrev Sp := List V → Hp → VK → XK → Prop
/-- how an exception lies behind a call (file 08 gives it): the callers' frames, abstract heap and state ahead of the call, the wish, the exception, the state -/
abbrev CXT := List Env → Hp → Shared → XK → Value → Shared → Prop

/-- the state at a call -/
structure Env0 (P : Program) (w : World) (K : PySem.W.Frag) (mg : Str → Option Value) (base : Heap) (A : Around) (outer : List Env) (s : Shared) (H : Hp) : Prop where
  frames : A.frames = some outer
  mod : Mod K mg base
  bs : ∀ b o, base.get? b = some o → s.heap.get? b = some o ∧ H b = none
  bsz : base.objs.size ≤ s.heap.objs.size
  funs : s.heap.FunFrames base outer
  frf : ∀ b ∈ frs outer, H b = none
  hok : HOk P w H s.heap
  bare : AllBare s.gens
/-- a call's end -/
def CE (outer : List Env) (P : Program) (w : World) (H : Hp) (s : Shared) (Q : VK) (u : Value) (s' : Shared) : Prop :=
  ∃ v H', s'.os = s.os ∧ AllBare s'.gens ∧ Un (frs outer) [] H H' s.heap s'.heap ∧ HOk P w H' s'.heap ∧ RelV v u ∧ Q v H'
def CR (CX : CXT) (outer : List Env) (P : Program) (w : World) (H : Hp) (s : Shared) (Q : VK) (E : XK) (r : Result) (s' : Shared) : Prop :=
  match r with
  | .ok (.ret u) => CE outer P w H s Q u s'
  | .ok _ => False
  | .error e => CX outer H s E e s'
structure FnOk (P : Program) (w : World) (K : PySem.W.Frag) (mg : Str → Option Value) (base : Heap) (CX : CXT) (k : Nat) (f : Addr) (fd : FuncData) (ps : List Str) (sp : Sp) : Prop where
  len : ∀ vs H Q E, sp vs H Q E → vs.length = ps.length
  run : ∀ (A : Around) (outer : List Env) (s : Shared) (H : Hp) (args : Args) (us : List Value) (vs : List V) (Q : VK) (E : XK), Room k A → Env0 P w K mg base A outer s H → BindsTo s fd args (ps.zip us) → Vals vs us → sp vs H Q E →
    codeAny (model P w) A (.call (.ref f) args) (CR CX outer P w H s Q E) s
theorem FnOk.mono {P : Program} {w : World} {K : PySem.W.Frag} {mg : Str → Option Value} {base : Heap} {CX : CXT} {j k : Nat} {f : Addr} {fd : FuncData} {ps : List Str} {sp : Sp} (F : FnOk P w K mg base CX j f fd ps sp) (h : j ≤ k) :
    FnOk P w K mg base CX k f fd ps sp := ⟨F.len, fun A outer s H args us vs Q E hr => F.run A outer s H args us vs Q E (hr.mono h)⟩
theorem Env0.make {P : Program} {w : World} {K : PySem.W.Frag} {mg : Str → Option Value} {base : Heap} {A : Around} {outer : List Env} {s : Shared} {H : Hp} (e : Env0 P w K mg base A outer s H) (C : Addr) (us : List Value) (kw : List (Str × Value)) :
    Env0 P w K mg base (A.under (.builtin "type.__call__" ⟨.ref C :: us, kw⟩)) outer s H := ⟨by first | exact e.frames | (simpa [Around.under, Code.envs, Code.isFrame, pushEnvs] using e.frames), e.mod, e.bs, e.bsz, e.funs, e.frf, e.hok, e.bare⟩
theorem Env0.in1 {P : Program} {w : World} {K : PySem.W.Frag} {mg : Str → Option Value} {base : Heap} {A : Around} {outer : List Env} {s : Shared} {H : Hp} (e : Env0 P w K mg base A outer s H) :
    Env0 P w K mg base A.in1 outer s H := ⟨e.frames, e.mod, e.bs, e.bsz, e.funs, e.frf, e.hok, e.bare⟩

section
variable {X : Cx} {pins : List (Addr × Obj)} {σ : St} {H : Hp} {s s' : Shared}
/-- from a body: what a callee wants -/
theorem Inv.env0 (I : Inv X pins σ H s) : Env0 X.prog X.w X.K X.mg X.base X.A X.stack s H :=
  ⟨I.ok.frames, I.ok.mod, I.bs, Nat.le_trans I.ok.bsz I.sz, I.stack, I.stkFree, I.hok, I.bare⟩
/-- behind a call -/
theorem Inv.after {Q : VK} {u : Value} (I : Inv X pins σ H s) (h : CE X.stack X.prog X.w H s Q u s') : EP X pins σ Q u s' := by
  obtain ⟨v, H', os, bare, un, hok, r, q⟩ := h
  obtain ⟨hh, g, d, t, os'⟩ := s'
  obtain rfl : os' = s.os := os
  exact ⟨v, H', I.call (h' := hh) (g' := g) (d' := d) (t' := t) (ch := []) un hok bare (fun b z => absurd z (by simp)), r, q⟩
end

/-! ### calls -/
/-- f(..): the written arguments, then the defaults dvs; E: what is wanted of an exception -/
def tCall (sp : Sp) (dvs : List V) (E : XK) (t : TA) : TE := fun σ H Q => t σ H fun vs H1 => sp (vs ++ dvs) H1 Q E
/-- o.m(..) of an instance of the class at C -/
def tMeth (C : Addr) (m : Str) (sp : Sp) (dvs : List V) (E : XK) (ta : TE) (t : TA) : TE := fun σ H Q => ta σ H fun x H1 => ∃ a dx fs, x = .ref a ∧ H1 a = some (.ins C dx fs) ∧ fs.lookup m = none ∧
  t σ H1 fun vs H2 => sp (x :: (vs ++ dvs)) H2 Q E
/-- C(..): a new instance and its dict, then __init__ -/
def tMake (C : Addr) (sp : Sp) (dvs : List V) (E : XK) (t : TA) : TE := fun σ H Q => t σ H fun vs H1 => ∀ x dx, H1 x = none → H1 dx = none → dx ≠ x →
  sp (.ref x :: (vs ++ dvs)) (upd (upd H1 dx (.own x)) x (.ins C dx [])) (fun v H2 => v = .non ∧ Q (.ref x) H2) E

/-- how the parameters are bound: us the positional arguments, kw the keywords' values by name, ds the defaults that fill up -/
def Binds (K : PySem.W.Frag) (fd : FuncData) (ps : List Str) (ds : List Value) : Prop :=
  ∀ (s : Shared) (us : List Value), K.In s.heap → (us ++ ds).length = ps.length → BindsTo s fd ⟨us, []⟩ (ps.zip (us ++ ds))
/-- every parameter is given -/
theorem Binds.all {K : PySem.W.Frag} {fd : FuncData} {ps : List Str} (h : ∀ us : List Value, us.length = ps.length → bindArgs fd ⟨us, []⟩ = pure (ps.zip us)) : Binds K fd ps [] := fun s us _ hl => by
  rw [List.append_nil] at hl ⊢
  exact .of_eq (h us hl)

/-- an exception of a callee reaches what this body wants of exceptions -/
def Passes (CX : CXT) (X : Cx) (E : XK) : Prop := ∀ (pins : List (Addr × Obj)) (σ : St) (H : Hp) (s : Shared) (e : Value) (s' : Shared), Inv X pins σ H s → CX X.stack H s E e s' → X.xe e s'

section
variable {X : Cx} {CX : CXT} {k : Nat} {f C : Addr} {fd : FuncData} {ps : List Str} {sp : Sp} {dvs : List V} {ds : List Value} {E : XK} {x m : Str} {p pos apos : Pos} {e o : Expr} {es : List Expr} {ta : TE} {t : TA}

/-- the callee runs -/
theorem run_fn {pins : List (Addr × Obj)} {σ : St} {H : Hp} {s : Shared} {Q : VK} {us : List Value} {vs : List V} (F : FnOk X.prog X.w X.K X.mg X.base CX k f fd ps sp) (hr : Room k X.A) (hb : Binds X.K fd ps ds) (hd : Vals dvs ds) (hx : Passes CX X E)
    (I : Inv X pins σ H s) (r : Vals vs us) (h : sp (vs ++ dvs) H Q E) : wpAny (model X.prog X.w) X.A (call (.ref f) us) (EP X pins σ Q) X.xe s := by
  have r2 : Vals (vs ++ dvs) (us ++ ds) := r.append hd
  have hl : (us ++ ds).length = ps.length := by rw [← r2.length]; exact F.len _ _ _ _ h
  refine wpAny_call (codeAny_mono (F.run X.A X.stack s H ⟨us, []⟩ (us ++ ds) (vs ++ dvs) Q E hr I.env0 (hb s us I.kIn hl) r2 h) fun r s' hq => ?_)
  cases r with
  | error e => exact hx pins σ H s e s' I hq
  | ok fl =>
    cases fl with
    | ret u => exact I.after hq
    | next => exact False.elim hq
    | brk => exact False.elim hq
    | cont => exact False.elim hq

theorem pe_call (F : FnOk X.prog X.w X.K X.mg X.base CX k f fd ps sp) (hr : Room k X.A) (hg : Gl X x) (hm : X.mg x = some (.ref f)) (hk : PySem.W.keepIn X.K (.ref f) = true) (hb : Binds X.K fd ps ds) (hd : Vals dvs ds) (hx : Passes CX X E)
    (ha : PA X (e :: es) t) (hdb : (x == ("__debug__" : Str)) = false := by decide) (he : starEach (e :: es) X.env = (false, eval e X.env) :: starEach es X.env := by rfl) (hpl : (backTo pos (starEach es X.env)).any (·.1) = false := by rfl) :
    PE X (.Call (.Name x p) (e :: es) [] pos) (tCall sp dvs E t) := by
  intro pins s σ H Q I h
  refine wpAny_Call_Name_kw (ld_glob I hg hm ?_ hdb)
  refine PySem.W.callWith_K (h₀ := X.base) I.ok.mod.kin hk (thn (ha pos pins s σ H _ I h) fun us s1 ⟨vs, H1, I1, r, q⟩ => ⟨I1.kIn, ?_⟩) he hpl
  exact run_fn F hr hb hd hx I1 r q
/-- o.m(e, ..) -/
theorem pe_meth {pl : Sem Bool} (he : PE X o ta) (c : Cls X.K C) (hm : Meth X.K C m f) (F : FnOk X.prog X.w X.K X.mg X.base CX k f fd ps sp) (hr : Room k X.A) (hb : Binds X.K fd ps ds) (hd : Vals dvs ds) (hx : Passes CX X E) (ha : PA X (e :: es) t)
    (hst : starEach (e :: es) X.env = (false, eval e X.env) :: starEach es X.env := by rfl) (hpl : (backTo pos (starEach es X.env)).any (·.1) = false := by rfl)
    (ht : eval (.Call (.Attribute o m apos) (e :: es) [] pos) X.env = (do
      let ov ← eval o X.env
      standAt apos.atName
      let (f, first) ← holding [ov] (getMethod ov m pl)
      callWith pos f first (backTo pos (starEach (e :: es) X.env)) (backToKw pos (keywordEach [] X.env))) := by rfl) :
    PE X (.Call (.Attribute o m apos) (e :: es) [] pos) (tMeth C m sp dvs E ta t) := by
  intro pins s σ H Q I h
  refine PySem.W.methodCall_KW (pl := pl) (thn (he pins s σ H _ I h) fun u s1 ⟨x, H1, I1, rx, a, dx, fs, ex, ea, l, q⟩ => ?_) ht
  subst ex
  obtain rfl : u = Value.ref a := rx
  refine getmeth_ok I1 ea c hm l ?_
  refine PySem.W.callWith_K (first := [.ref a]) (h₀ := X.base) I.ok.mod.kin hm.kp (thn (ha pos pins s1 σ H1 _ I1 q) fun us s2 ⟨vs, H2, I2, r, q2⟩ => ⟨I2.kIn, ?_⟩) hst hpl
  exact run_fn (us := .ref a :: us) (vs := .ref a :: vs) F hr hb hd hx I2 (.cons rfl r) q2
/-- o.m() -/
theorem pe_meth0 {pl : Sem Bool} (he : PE X o ta) (c : Cls X.K C) (hm : Meth X.K C m f) (F : FnOk X.prog X.w X.K X.mg X.base CX k f fd ps sp) (hr : Room k X.A) (hb : Binds X.K fd ps ds) (hd : Vals dvs ds) (hx : Passes CX X E)
    (ht : eval (.Call (.Attribute o m apos) [] [] pos) X.env = (do
      let ov ← eval o X.env
      standAt apos.atName
      let (f, first) ← holding [ov] (getMethod ov m pl)
      callWith pos f first (backTo pos (starEach [] X.env)) (backToKw pos (keywordEach [] X.env))) := by rfl) :
    PE X (.Call (.Attribute o m apos) [] [] pos) (tMeth C m sp dvs E ta tNil) := by
  intro pins s σ H Q I h
  refine PySem.W.methodCall_KW (pl := pl) (thn (he pins s σ H _ I h) fun u s1 ⟨x, H1, I1, rx, a, dx, fs, ex, ea, l, q⟩ => ?_) ht
  subst ex
  obtain rfl : u = Value.ref a := rx
  refine getmeth_ok I1 ea c hm l ?_
  exact PySem.W.callWith_K0 (first := [.ref a]) I1.kIn hm.kp (run_fn (us := [.ref a]) (vs := [.ref a]) F hr hb hd hx I1 (.cons rfl .nil) q)

/-- what a class must have to be made -/
structure Mk (K : PySem.W.Frag) (C f : Addr) : Prop where
  makes : PySem.W.makesIn K C = true
  init : PySem.W.findIn K (.ref C) "__init__" = some (some (.ref f))
  fn : PySem.W.isFn K (.ref f) = true
  kp : PySem.W.keepIn K (.ref C) = true

theorem run_make {pins : List (Addr × Obj)} {σ : St} {H : Hp} {s : Shared} {Q : VK} {us : List Value} {vs : List V} (M : Mk X.K C f) (F : FnOk X.prog X.w X.K X.mg X.base CX k f fd ps sp) (hr : Room (k + 1) X.A) (hb : Binds X.K fd ps ds) (hd : Vals dvs ds)
    (hx : Passes CX X E) (I : Inv X pins σ H s) (r : Vals vs us)
    (h : ∀ x dx, H x = none → H dx = none → dx ≠ x → sp (.ref x :: (vs ++ dvs)) (upd (upd H dx (.own x)) x (.ins C dx [])) (fun v H2 => v = .non ∧ Q (.ref x) H2) E) :
    wpAny (model X.prog X.w) X.A (call (.ref C) us) (EP X pins σ Q) X.xe s := by
  have hq := h (s.heap.objs.size + 1) s.heap.objs.size (I.hok.fresh (Nat.le_succ _)) (I.hok.fresh (Nat.le_refl _)) (Nat.ne_of_lt (Nat.lt_succ_self _))
  have I2 := Inv.made (C := C) I
  have r2 : Vals (V.ref (s.heap.objs.size + 1) :: (vs ++ dvs)) (Value.ref (s.heap.objs.size + 1) :: (us ++ ds)) := .cons rfl (r.append hd)
  have hl : (Value.ref (s.heap.objs.size + 1) :: us ++ ds).length = ps.length := by
    have e := r2.length
    rw [F.len _ _ _ _ hq] at e
    exact e.symm
  refine wpAny_call (make_map (f := f) I.kIn M.makes M.init (beq_iff_eq.mp M.fn) (codeAny_mono (F.run _ X.stack _ _ ⟨Value.ref (s.heap.objs.size + 1) :: us, []⟩ (Value.ref (s.heap.objs.size + 1) :: (us ++ ds)) _ _ E (hr.make C us [])
    (I2.env0.make C us []) (hb _ (Value.ref (s.heap.objs.size + 1) :: us) I2.kIn hl) r2 hq) fun r s' hq' => ?_))
  cases r with
  | error e => exact hx pins σ _ _ e s' I2 hq'
  | ok fl =>
    cases fl with
    | ret u =>
      obtain ⟨v, H', I3, rv, ev, q3⟩ := I2.after hq'
      subst ev
      exact ⟨rv, ⟨V.ref (s.heap.objs.size + 1), H', I3, rfl, q3⟩⟩
    | next => exact False.elim hq'
    | brk => exact False.elim hq'
    | cont => exact False.elim hq'
theorem pe_make0 (M : Mk X.K C f) (F : FnOk X.prog X.w X.K X.mg X.base CX k f fd ps sp) (hr : Room (k + 1) X.A) (hg : Gl X x) (hm : X.mg x = some (.ref C)) (hb : Binds X.K fd ps ds) (hd : Vals dvs ds) (hx : Passes CX X E)
    (hdb : (x == ("__debug__" : Str)) = false := by decide) : PE X (.Call (.Name x p) [] [] pos) (tMake C sp dvs E tNil) := by
  intro pins s σ H Q I h
  refine wpAny_Call_Name_kw (ld_glob I hg hm ?_ hdb)
  exact PySem.W.callWith_K0 I.kIn M.kp (run_make (us := []) M F hr hb hd hx I .nil h)
end

/-! ### keywords -/
section
variable {X : Cx} {CX : CXT} {k : Nat} {f C : Addr} {fd : FuncData} {ps ks : List Str} {sp : Sp} {E : XK} {x m : Str} {p pos apos kpos : Pos} {e o : Expr} {es : List Expr} {kws : List Keyword} {te ta : TE} {t tk : TA} {nm : Option Str}
/-- how a call with keywords binds: g puts the positional values us and the keywords' values ws (names ks) in the parameters' order, defaults among them -/
structure KBinds (K : PySem.W.Frag) (fd : FuncData) (ps ks : List Str) (g : List Value → List Value → List Value) (gV : List V → List V → List V) : Prop where
  to : ∀ (s : Shared) (us ws : List Value), K.In s.heap → (g us ws).length = ps.length → BindsTo s fd ⟨us, ks.zip ws⟩ (ps.zip (g us ws))
  rel : ∀ {vs : List V} {us : List Value} {zs : List V} {ws : List Value}, Vals vs us → Vals zs ws → Vals (gV vs zs) (g us ws)
variable {g : List Value → List Value → List Value} {gV : List V → List V → List V}
end

/-! ### a def's body keeps its promise -/
/-- names: the parameters first -/
structure FnScope (N P : List Str) (sc : Scope) : Prop where
  kind : sc.kind = .function
  co : sc.isCoroutine = false
  gen : sc.isGenerator = false
  nd : N.Nodup
  pre : N.take P.length = P
  par : ∀ x ∈ P, sc.names.lookup x = some .local ∨ sc.names.lookup x = some .cell
  nofree : ∀ y ∈ sc.names, y.2 ≠ .free

theorem bindL_out {kindOf : Str → Option NameKind} {x : Str} : ∀ {binds : List (Str × Value)} {m : Str → Option Value}, (∀ v, (x, v) ∉ binds) → bindL kindOf binds m x = m x
  | [], _, _ => rfl
  | (n, v) :: r, m, h => by
    unfold bindL
    rw [bindL_out fun w hw => h w (List.mem_cons_of_mem _ hw)]
    split
    · have : x ≠ n := by rintro rfl; exact h v List.mem_cons_self
      simp [this]
    · rfl
theorem bindC_out {kindOf : Str → Option NameKind} {x : Str} : ∀ {binds : List (Str × Value)} {m : Str → Option Value}, (∀ v, (x, v) ∉ binds) → bindC kindOf binds m x = m x
  | [], _, _ => rfl
  | (n, v) :: r, m, h => by
    unfold bindC
    rw [bindC_out fun w hw => h w (List.mem_cons_of_mem _ hw)]
    split
    · rfl
    · have : x ≠ n := by rintro rfl; exact h v List.mem_cons_self
      simp [this]
theorem bindL_get {kindOf : Str → Option NameKind} {x : Str} {v : Value} : ∀ {P : List Str} {vs : List Value} {i : Nat} {m : Str → Option Value}, P.Nodup → P[i]? = some x → vs[i]? = some v → kindOf x = some .local →
    bindL kindOf (P.zip vs) m x = some v
  | [], _, _, _, _, h, _, _ => by simp at h
  | _ :: _, [], _, _, _, _, h, _ => by simp at h
  | p :: P, w :: vs, 0, m, nd, h1, h2, hk => by
    simp at h1 h2; subst h1; subst h2
    show bindL kindOf ((p, w) :: P.zip vs) m p = _
    unfold bindL
    rw [bindL_out fun v hv => (List.nodup_cons.mp nd).1 (List.of_mem_zip hv).1, if_pos hk]
    simp
  | p :: P, w :: vs, i + 1, m, nd, h1, h2, hk => by
    show bindL kindOf ((p, w) :: P.zip vs) m x = _
    unfold bindL
    exact bindL_get (i := i) (List.nodup_cons.mp nd).2 (by simpa using h1) (by simpa using h2) hk
theorem bindC_get {kindOf : Str → Option NameKind} {x : Str} {v : Value} : ∀ {P : List Str} {vs : List Value} {i : Nat} {m : Str → Option Value}, P.Nodup → P[i]? = some x → vs[i]? = some v → kindOf x ≠ some .local →
    bindC kindOf (P.zip vs) m x = some v
  | [], _, _, _, _, h, _, _ => by simp at h
  | _ :: _, [], _, _, _, _, h, _ => by simp at h
  | p :: P, w :: vs, 0, m, nd, h1, h2, hk => by
    simp at h1 h2; subst h1; subst h2
    show bindC kindOf ((p, w) :: P.zip vs) m p = _
    unfold bindC
    rw [bindC_out fun v hv => (List.nodup_cons.mp nd).1 (List.of_mem_zip hv).1, if_neg hk]
    simp
  | p :: P, w :: vs, i + 1, m, nd, h1, h2, hk => by
    show bindC kindOf ((p, w) :: P.zip vs) m x = _
    unfold bindC
    exact bindC_get (i := i) (List.nodup_cons.mp nd).2 (by simpa using h1) (by simpa using h2) hk

/-- the names' values at the entry -/
def start (N : List Str) (vs : List V) : St := vs.map some ++ List.replicate (N.length - vs.length) none

/-- the context of a def's body, at its entry; an exception leaves the frame, then lies as CX says -/
def cxOf (CX : CXT) (P : Program) (w : World) (K : PySem.W.Frag) (mg : Str → Option Value) (base : Heap) (N : List Str) (qual : Str) (scope : Scope) (f : Addr) (cd : Value) (A : Around) (outer : List Env) (s : Shared) (H : Hp) (E : XK) : Cx where
  prog := P
  w := w
  K := K
  mg := mg
  base := base
  A := A.deeper (envOfC qual scope s.heap.objs.size f cd)
  N := N
  s_0 := s
  H_0 := H
  env := envOfC qual scope s.heap.objs.size f cd
  outer := outer
  stack := envOfC qual scope s.heap.objs.size f cd :: outer
  ex := []
  calm := true
  fn := fun _ => true
  pn := []
  xe := fun e s' => wpAny (model P w) (A.deeper (envOfC qual scope s.heap.objs.size f cd)) (leaving (envOfC qual scope s.heap.objs.size f cd) e) (fun _ s'' => CX outer H s E e s'') (fun e' s'' => CX outer H s E e' s'') s'

theorem cell_has {sc : Scope} {n : Nat} {x : Str} (h : sc.names.lookup x = some .cell) : ∃ c, (cellsFrom n sc.names []).lookup x = some c := by
  have q := PySem.W.cellsFrom_some sc.names n [] (.inl h)
  exact Option.isSome_iff_exists.mp q

theorem inv_start {CX : CXT} {P : Program} {w : World} {K : PySem.W.Frag} {mg : Str → Option Value} {base : Heap} {N ps : List Str} {qual : Str} {scope : Scope} {f : Addr} {cd : Value} {A : Around} {outer : List Env} {s s1 : Shared} {H : Hp} {E : XK} {us : List Value} {vs : List V}
    (S : FnScope N ps scope) (hd : A.handled = none) (e0 : Env0 P w K mg base A outer s H) (hl : vs.length = ps.length) (r : Vals vs us)
    (x : InCallC s s.heap.objs.size (bindL (envOfC qual scope s.heap.objs.size f cd).kindOf (ps.zip us) fun _ => none) (cellsFrom (s.heap.objs.size + 1) scope.names []) (bindC (envOfC qual scope s.heap.objs.size f cd).kindOf (ps.zip us) fun _ => none) s1) :
    Inv (cxOf CX P w K mg base N qual scope f cd A outer s H E) [] (start N vs) H s1 := by
  have hpl : ps.length ≤ N.length := by have := congrArg List.length S.pre; rw [List.length_take] at this; omega
  obtain ⟨h1, tk, rfl, hk⟩ := x.done
  have noA : ∀ b : Addr, b ∉ (cxOf CX P w K mg base N qual scope f cd A outer s H E).ex := fun b z => absurd (show b ∈ ([] : List Addr) from z) (by simp)
  refine ⟨⟨e0.mod, S.kind, rfl, rfl, Nat.le_refl _, fun y z c h1 h2 => ?_, fun y hy => ?_, fun y c _ h => ?_, fun _ => hd, Around.frames_deeper e0.frames, .inr ⟨rfl, rfl⟩, fun b z => absurd z (noA b), e0.bs, e0.bsz, fun b _ _ => noA b, fun b z => absurd z (noA b), e0.funs, e0.frf⟩,
    rfl, e0.bare, Un.kept hk, ⟨_, x.toInCall.ns, fun i y v h1 h2 h3 => ?_⟩, fun y c h => ⟨_, x.cell y c h⟩, e0.hok.fresh (Nat.le_refl _), fun y c h => ?_, fun p hp => absurd (show p ∈ ([] : List (Addr × Obj)) from hp) (by simp), e0.hok.kept hk, ?_⟩
  · exact name_of_addr x.apart (PySem.mem_of_lookup h1) (PySem.mem_of_lookup h2)
  · have hy : scope.names.lookup y = some .cell ∨ scope.names.lookup y = some .free := hy
    rcases hy with hy | hy
    · exact cell_has hy
    · exact absurd rfl (S.nofree _ (PySem.mem_of_lookup hy))
  · exact Nat.le_of_lt (x.above y c (PySem.mem_of_lookup h))
  · have hi : i < vs.length := by
      unfold start at h2
      by_cases hi : i < vs.length
      · exact hi
      · rw [List.getElem?_append_right (by simpa using hi)] at h2
        rw [List.getElem?_replicate] at h2
        split at h2 <;> cases h2
    have ha : vs[i]? = some v := by
      unfold start at h2
      rw [List.getElem?_append_left (by simpa using hi), List.getElem?_map] at h2
      cases e : vs[i]? with
      | none => rw [e] at h2; cases h2
      | some a => rw [e] at h2; cases h2; rfl
    obtain ⟨u, hu, rv⟩ := r.get ha
    have hp : ps[i]? = some y := by
      rw [← S.pre, List.getElem?_take_of_lt (by omega)]; exact h1
    have ndP : ps.Nodup := by rw [← S.pre]; exact S.nd.sublist (List.take_sublist _ _)
    refine ⟨u, rv, ?_⟩
    rcases S.par y (List.mem_of_getElem? hp) with k | k
    · exact .inl ⟨k, bindL_get ndP hp hu k⟩
    · obtain ⟨c, e⟩ := cell_has (n := s.heap.objs.size + 1) k
      refine .inr ⟨.inl k, c, e, ?_⟩
      have q := x.cell y c e
      rw [bindC_get ndP hp hu (by show scope.names.lookup y ≠ _; rw [k]; decide)] at q
      exact q
  · exact e0.hok.fresh (Nat.le_of_lt (x.above y c (PySem.mem_of_lookup h)))
  · unfold start
    show _ = N.length
    rw [List.length_append, List.length_map, List.length_replicate]
    omega

/-- THE RULE: a def (or a method) of the text, by its body. The body's reading t is chosen for each entry; it is run at the parameters' values -/
theorem fn_of {CX : CXT} {P : Program} {w : World} {K : PySem.W.Frag} {mg : Str → Option Value} {base : Heap} {k : Nat} {f : Addr} {name qual : Str} {params : Arguments} {body : List Stmt} {scope : Scope} {dV kV doc pm cdv ct oc : Value} {an od : Option Addr}
    {osl : Array (Option Value)} {N ps : List Str} {sp : Sp} (lk : K.lookup f = some ⟨oc, od, .func (PySem.W.fnOf name qual params body scope dV kV doc pm an cdv ct), osl⟩) (hcd : PySem.W.codeIn K cdv qual = true) (S : FnScope N ps scope)
    (len : ∀ vs H Q E, sp vs H Q E → vs.length = ps.length)
    (hbody : ∀ (A : Around) (outer : List Env) (s : Shared) (H : Hp) (vs : List V) (Q : VK) (E : XK), Room k (A.deeper (envOfC qual scope s.heap.objs.size f cdv)) → sp vs H Q E →
      ∃ t, PSs (cxOf CX P w K mg base N qual scope f cdv A outer s H E) body t ∧ t { nx := fun _ H' => Q .non H', rt := Q } (start N vs) H) :
    FnOk P w K mg base CX (k + 1) f (PySem.W.fnOf name qual params body scope dV kV doc pm an cdv ct) ps sp := by
  refine ⟨len, fun A outer s H args us vs Q E hr e0 hb r hsp => ?_⟩
  have hl := len _ _ _ _ hsp
  have KX : K.In s.heap := e0.mod.kin.keeps fun b o e => (e0.bs b o e).1
  have lim : s.heap.NoLimit := e0.mod.nolimit.keeps fun b o e => (e0.bs b o e).1
  have hkind : ∀ y ∈ ps.zip us, scope.names.lookup y.1 = some .local ∨ (scope.names.lookup y.1 = some .cell ∧ ((cellsFrom (s.heap.objs.size + 1) scope.names []).lookup y.1).isSome = true) := fun ⟨n, v⟩ hy => by
    rcases S.par n (List.of_mem_zip hy).1 with q | q
    · exact .inl q
    · exact .inr ⟨q, PySem.W.cellsFrom_some _ _ _ (.inl q)⟩
  refine codeAny_call_function hr.depth (KX _ _ lk) rfl S.co S.gen rfl (PySem.W.codeRec_of KX hcd) (hb _ _ _ _ ?_)
  refine wpAny_newFunctionEnv_cells S.kind hkind fun env he s1 x => ?_
  subst he
  refine ⟨lim.keeps x.toInCall.keep, codeAny_func ?_⟩
  obtain ⟨t, ht, hq⟩ := hbody A outer s H vs Q E (hr.deeper _) hsp
  have I : Inv (cxOf CX P w K mg base N qual scope f cdv A outer s H E) [] (start N vs) H s1 := inv_start S hr.hd e0 hl r x
  refine wpAny_mono (ht [] s1 (start N vs) H _ I hq) (fun fl s' hs => ?_) fun e s' hs => hs
  have fin : ∀ {σ' : St} {H' : Hp} {v : V} {u : Value}, Inv (cxOf CX P w K mg base N qual scope f cdv A outer s H E) [] σ' H' s' → RelV v u → Q v H' → CE outer P w H s Q u s' :=
    fun {σ' H' v u} J rv q => ⟨v, H', J.os, J.bare, J.base, J.hok, rv, q⟩
  cases fl with
  | ret u =>
    obtain ⟨v, σ', H', J, rv, q⟩ := hs
    exact fin J rv q
  | next =>
    obtain ⟨σ', H', J, q⟩ := hs
    exact fin (v := V.non) (u := Value.none) J rfl q
  | brk =>
    obtain ⟨_, _, _, q⟩ := hs
    exact False.elim q
  | cont =>
    obtain ⟨_, _, _, q⟩ := hs
    exact False.elim q
end L2

namespace L2
open PySem PySem.Spec PyProof.Rows
section
variable {X : Cx} {x : Str} {p pos : Pos} {e : Expr} {es : List Expr} {t : TA} {id T : String} {r : List V → Hp → VK → Prop}

def tCB (r : List V → Hp → VK → Prop) (t : TA) : TE := fun σ H Q => t σ H fun vs H1 => r vs H1 Q
/-- f(e, ..), f a built-in function -/
theorem pe_callB (hc : CallR X (.builtin id) r) (hg : Gl X x) (hm : X.mg x = none) (hv : bootBuiltins x = some (.builtin id)) (ha : PA X (e :: es) t) (hn : x ≠ "__name__" := by decide) (hdb : (x == ("__debug__" : Str)) = false := by decide)
    (he : starEach (e :: es) X.env = (false, eval e X.env) :: starEach es X.env := by rfl) (hpl : (backTo pos (starEach es X.env)).any (·.1) = false := by rfl) : PE X (.Call (.Name x p) (e :: es) [] pos) (tCB r t) := by
  intro pins s σ H Q I h
  refine wpAny_Call_Name_kw (ld_blt I hg hm hv ?_ hn hdb)
  exact PyProof.Rows.callWith_builtin1 (thn (ha pos pins s σ H _ I h) fun us s1 ⟨vs, H1, I1, r1, q1⟩ => hc pins s1 σ H1 vs us Q I1 r1 q1) he hpl
/-- T(e, ..), T a built-in type -/
theorem pe_callTy (hc : CallR X (.type T) r) (hg : Gl X x) (hm : X.mg x = none) (hv : bootBuiltins x = some (.type T)) (ha : PA X (e :: es) t) (hn : x ≠ "__name__" := by decide) (hdb : (x == ("__debug__" : Str)) = false := by decide)
    (he : starEach (e :: es) X.env = (false, eval e X.env) :: starEach es X.env := by rfl) (hpl : (backTo pos (starEach es X.env)).any (·.1) = false := by rfl) : PE X (.Call (.Name x p) (e :: es) [] pos) (tCB r t) := by
  intro pins s σ H Q I h
  refine wpAny_Call_Name_kw (ld_blt I hg hm hv ?_ hn hdb)
  exact PyProof.Rows.callWith_type1 (thn (ha pos pins s σ H _ I h) fun us s1 ⟨vs, H1, I1, r1, q1⟩ => hc pins s1 σ H1 vs us Q I1 r1 q1) he hpl
end
end L2

namespace HT
open PySem PyProof.Rows

section
open PySem.SeqAt
open PySem.AutoSeq1 (wpAny_loadPart')
open PySem.MeetsSeq PySem.MeetsSeq2 PySem.MeetsSeq3

end

section
variable {prog : Program} {w : World} {A : Around} {E : Value → Shared → Prop} {s : Shared}

/-! ### t[a:b], not the whole -/
/-- a slice's bound as a place among n (d where it is left out) -/
def sIx (n d : Nat) : Option Int → Nat
  | none => d
  | some v => if v < 0 then (v + (n : Int)).toNat else min v.toNat n
theorem sIx_none (n d : Nat) : sIx n d none = d := rfl
theorem sIx_nat (n d k : Nat) : sIx n d (some (k : Int)) = min k n := by
  show (if (k : Int) < 0 then ((k : Int) + (n : Int)).toNat else min (k : Int).toNat n) = min k n
  rw [if_neg (by omega), Int.toNat_natCast]
end
end HT

namespace L2
open PySem PySem.Spec PyProof.Rows

/-! ### the parts of a slice -/
abbrev TO := St → Hp → (Option Int → Hp → Prop) → Prop
/-- a slice's part (left out, or an int) -/
def PO (X : Cx) (e : Option Expr) (t : TO) : Prop :=
  ∀ (pins : List (Addr × Obj)) (s : Shared) (σ : St) (H : Hp) (Q : Option Int → Hp → Prop), Inv X pins σ H s → t σ H Q →
    wpAny (model X.prog X.w) X.A (evalPart e X.env) (fun u s' => ∃ o H', Inv X pins σ H' s' ∧ IsPart u o ∧ Q o H') X.xe s
def tNoPart : TO := fun _ H Q => Q none H
def tPart (t : TE) : TO := fun σ H Q => t σ H fun x H1 => ∃ i, x = .int i ∧ Q (some i) H1

section
variable {X : Cx} {e : Expr} {te : TE} {lo hi : Option Expr} {tl th : TO} {pos p2 : Pos}

theorem po_none : PO X none tNoPart := by
  intro pins s σ H Q I h
  rw [evalPart_none]
  exact wpAny_pure ⟨none, H, I, .none, h⟩
theorem po_some (h : PE X e te) : PO X (some e) (tPart te) := by
  intro pins s σ H Q I hw
  rw [evalPart_some]
  refine thn (h pins s σ H _ I hw) fun u s1 ⟨x, H1, I1, r1, q1⟩ => ?_
  obtain ⟨i, rfl, q⟩ := q1
  obtain ⟨t, rfl⟩ := r1
  exact ⟨some i, H1, I1, .int i t, q⟩

/-- what a slice of a value is, by values: the slice object stands at sl -/
def SlR (X : Cx) (r : V → Option Int → Option Int → Hp → VK → Prop) : Prop :=
  ∀ (pins : List (Addr × Obj)) (s : Shared) (σ : St) (H : Hp) (x : V) (v vl vu : Value) (lo hi : Option Int) (sl : Addr) (Q : VK), Inv X pins σ H s → RelV x v → s.heap.IsSliceOf sl vl vu .none → IsPart vl lo → IsPart vu hi → r x lo hi H Q →
    ∃ T id, typeLookup (.type T) "__getitem__" = pure (some (.builtin id)) ∧ s.TypeIs v T ∧ wpAny (model X.prog X.w) X.A (getItem v (.ref sl)) (EP X pins σ Q) X.xe s
theorem SlR.or {r r' : V → Option Int → Option Int → Hp → VK → Prop} (h : SlR X r) (h' : SlR X r') : SlR X (fun x lo hi H Q => r x lo hi H Q ∨ r' x lo hi H Q) := by
  intro pins s σ H x v vl vu lo hi sl Q I rx hs pl pu q
  rcases q with q | q
  · exact h pins s σ H x v vl vu lo hi sl Q I rx hs pl pu q
  · exact h' pins s σ H x v vl vu lo hi sl Q I rx hs pl pu q
def tSl (r : V → Option Int → Option Int → Hp → VK → Prop) (te : TE) (tl th : TO) : TE := fun σ H Q => te σ H fun x H1 => tl σ H1 fun l H2 => th σ H2 fun u H3 => r x l u H3 Q
/-- a[lo:hi], any a -/
theorem pe_slice {r : V → Option Int → Option Int → Hp → VK → Prop} (hr : SlR X r) (he : PE X e te) (hl : PO X lo tl) (hu : PO X hi th) : PE X (.Subscript e (.Slice lo hi none p2) pos) (tSl r te tl th) := by
  intro pins s σ H Q I h
  refine Subscript_ (thn (he pins s σ H _ I h) fun v s1 ⟨x, H1, I1, r1, q1⟩ => ?_)
  refine wpAny_Slice (thn (hl pins s1 σ H1 _ I1 q1) fun vl s2 ⟨l, H2, I2, pl, q2⟩ => thn (hu pins s2 σ H2 _ I2 q2) fun vu s3 ⟨u, H3, I3, pu, q3⟩ => ?_)
  rw [evalPart_none]
  refine wpAny_pure ?_
  have I4 : Inv X pins σ H3 { s3 with heap := s3.heap.push { cls := .type "slice", data := .fields #[vl, vu, .none] } } := I3.kept (t' := s3.toks) fun b ob q => Heap.get?_push_of_some _ q
  obtain ⟨T, id, hT, ht, hg⟩ := hr pins { s3 with heap := s3.heap.push { cls := .type "slice", data := .fields #[vl, vu, .none] } } σ H3 x v vl vu l u s3.heap.objs.size Q I4 r1 (Heap.IsSliceOf.new ..) pl pu q3
  show wpAny (model X.prog X.w) X.A (subscriptTail e (.Slice lo hi none p2) v (.ref s3.heap.objs.size)) (EP X pins σ Q) X.xe { s3 with heap := s3.heap.push { cls := .type "slice", data := .fields #[vl, vu, .none] } }
  exact tail_any (ops := [.ref s3.heap.objs.size, v]) ht hT hg (by with_unfolding_all rfl)

/-- the items of xs[lo:hi] -/
def cutV (xs : List V) (lo hi : Option Int) : List V := (xs.drop (HT.sIx xs.length 0 lo)).take (HT.sIx xs.length xs.length hi - HT.sIx xs.length 0 lo)
theorem cutV_length (xs : List V) (lo hi : Option Int) : (cutV xs lo hi).length ≤ xs.length := by
  unfold cutV
  rw [List.length_take, List.length_drop]
  omega
/-! ### t < u, t + u -/
end
end L2

namespace L2
open PySem PySem.Spec PyProof.Rows

/-! ### places -/
/-- the place that an index of any sign means -/
def ixN (n : Nat) (i : Int) : Option Nat := if 0 ≤ i then (if i < n then some i.toNat else none) else if -(n : Int) ≤ i then some (i + n).toNat else none
def atI {α : Type} (xs : List α) (i : Int) : Option α := (ixN xs.length i).bind fun j => xs[j]?
theorem ixN_seq {n : Nat} {i : Int} {j : Nat} (h : ixN n i = some j) : seqIndex? i n = some j ∧ j < n ∧ -(n : Int) ≤ i ∧ i < n := by
  unfold ixN at h
  by_cases h0 : 0 ≤ i
  · rw [if_pos h0] at h
    by_cases h1 : i < n
    · rw [if_pos h1] at h
      have e : i.toNat = j := Option.some.inj h
      exact ⟨by rw [seqIndex_of h0 h1, e], by omega, by omega, h1⟩
    · rw [if_neg h1] at h; cases h
  · rw [if_neg h0] at h
    by_cases h1 : -(n : Int) ≤ i
    · rw [if_pos h1] at h
      have e : (i + n).toNat = j := Option.some.inj h
      exact ⟨by rw [seqIndex_neg (by omega) h1, e], by omega, h1, by omega⟩
    · rw [if_neg h1] at h; cases h
theorem atI_get {α : Type} {xs : List α} {i : Int} {v : α} (h : atI xs i = some v) : ∃ j, seqIndex? i xs.length = some j ∧ xs[j]? = some v ∧ j < xs.length ∧ -(xs.length : Int) ≤ i ∧ i < xs.length := by
  unfold atI at h
  cases e : ixN xs.length i with
  | none => rw [e] at h; cases h
  | some j =>
    rw [e] at h
    obtain ⟨h1, h2, h3, h4⟩ := ixN_seq e
    exact ⟨j, h1, h, h2, h3, h4⟩
theorem atI_nat {α : Type} {xs : List α} {j : Nat} {v : α} (h : xs[j]? = some v) : atI xs (j : Int) = some v := by
  have hj : j < xs.length := (List.getElem?_eq_some_iff.mp h).1
  have e : ixN xs.length (j : Int) = some j := by
    unfold ixN
    rw [if_pos (by omega), if_pos (by omega)]; simp
  unfold atI; rw [e]; exact h
theorem atI_last {α : Type} (xs : List α) (v : α) : atI (xs ++ [v]) (-1) = some v := by
  have hl : (xs ++ [v]).length = xs.length + 1 := by simp
  have e : ixN (xs ++ [v]).length (-1) = some xs.length := by
    unfold ixN
    rw [hl, if_neg (by decide), if_pos (by omega)]
    congr 1
    omega
  unfold atI
  rw [e]
  show (xs ++ [v])[xs.length]? = some v
  simp

/-! ### what may be subscripted -/
/-- what stands as an index of a plain subscript -/
def PlainIx (b : Expr) : Prop := ∀ o i, subscripted b false o i = operate [o, i] (getItem o i)
/-- a subscript by values -/
def IxR (X : Cx) (r : R2) : Prop :=
  ∀ (value slice : Expr) (pins : List (Addr × Obj)) (s : Shared) (σ : St) (H : Hp) (x y : V) (v u : Value) (Q : VK), Inv X pins σ H s → RelV x v → RelV y u → r x y H Q →
    subscripted slice false v u = operate [v, u] (getItem v u) → wpAny (model X.prog X.w) X.A (subscriptTail value slice v u) (EP X pins σ Q) X.xe s
/-- a call of a builtin's method by values: the receiver, the arguments -/
def MtR (X : Cx) (id : String) (r : V → List V → Hp → VK → Prop) : Prop :=
  ∀ (pins : List (Addr × Obj)) (s : Shared) (σ : St) (H : Hp) (x : V) (xs : List V) (v : Value) (us : List Value) (Q : VK), Inv X pins σ H s → RelV x v → Vals xs us → r x xs H Q →
    wpAny (model X.prog X.w) X.A (call (.builtin id) (v :: us)) (EP X pins σ Q) X.xe s
section
variable {X : Cx} {a b : Expr} {ta tb : TE} {pos : Pos}
theorem IxR.or {r r' : R2} (h : IxR X r) (h' : IxR X r') : IxR X (fun x y H Q => r x y H Q ∨ r' x y H Q) := by
  intro value slice pins s σ H x y v u Q I rx ry q hs
  rcases q with q | q
  · exact h value slice pins s σ H x y v u Q I rx ry q hs
  · exact h' value slice pins s σ H x y v u Q I rx ry q hs
theorem MtR.or {id : String} {r r' : V → List V → Hp → VK → Prop} (h : MtR X id r) (h' : MtR X id r') : MtR X id (fun x xs H Q => r x xs H Q ∨ r' x xs H Q) := by
  intro pins s σ H x xs v us Q I rx rs q
  rcases q with q | q
  · exact h pins s σ H x xs v us Q I rx rs q
  · exact h' pins s σ H x xs v us Q I rx rs q
/-- a[b] -/
theorem pe_ix {r : R2} (hr : IxR X r) (ha : PE X a ta) (hb : PE X b tb) (hs : PlainIx b) : PE X (.Subscript a b pos) (tOp r ta tb) := by
  intro pins s σ H Q I h
  exact Subscript_ (binT ha hb I h fun v u s2 x y H2 I2 rx ry q => hr a b pins s2 σ H2 x y v u Q I2 rx ry q (hs _ _))

def rIxL (K : PySem.W.Frag) : R2 := fun x y H Q => ∃ p xs i v, x = .ref p ∧ y = .int i ∧ SqL K H p xs ∧ atI xs i = some v ∧ Q v H
theorem ix_list : IxR X (rIxL X.K) := by
  intro value slice pins s σ H x y v u Q I rx ry h hs
  obtain ⟨p, xs, i, z, rfl, rfl, hq, he, q⟩ := h
  cases rx
  obtain ⟨t, rfl⟩ := ry
  obtain ⟨its, r, pl, hz⟩ := I.list hq
  obtain ⟨j, h1, h2, h3, h4, h5⟩ := atI_get he
  obtain ⟨w, ew, rw'⟩ := r.get h2
  have hl := r.length
  have hn := line63
  have fin : EP X pins σ Q w s := ⟨z, H, I, rw', q⟩
  by_cases h0 : 0 ≤ i
  · have hj : i.toNat = j := by
      rw [seqIndex_of h0 h5] at h1
      exact Option.some.inj h1
    exact item_listR pl.isList h0 (by omega) (by rw [hj]; simpa using ew) fin hs
  · have hj : (i + (its.toArray.size : Int)).toNat = j := by
      rw [seqIndex_neg (by omega) h4] at h1
      rw [List.size_toArray, ← hl]
      exact Option.some.inj h1
    exact subscriptTail_builtinR (x := w) pl.isList.typeIs slot_list_getitem.lookup
      (wpAny_getItem_list_neg (Q := fun r s' => r = w ∧ EP X pins σ Q r s') pl.isList (by omega) (by rw [List.size_toArray] <;> omega) (by omega) (by rw [hj]; simpa using ew) ⟨rfl, fin⟩) hs
/-! ### xs[i] = v, any sign -/
/-- the list's object behind a store -/
theorem mapSeq_set (its : List Value) (n j : Nat) (u : Value) : Obj.mapSeq (·.setIfInBounds j u) { cls := .type "list", data := .seq its.toArray n } = { cls := .type "list", data := .seq (its.set j u).toArray n } := by
  simp [Obj.mapSeq]
theorem Inv.lst {pins : List (Addr × Obj)} {σ : St} {H : Hp} {s : Shared} {p : Addr} {xs : List V} (I : Inv X pins σ H s) (h : H p = some (.lst xs)) :
    ∃ (its : List Value) (n : Nat), Vals xs its ∧ s.heap.get? p = some { cls := .type "list", data := .seq its.toArray n } ∧ xs.length ≤ sizeLine := by
  obtain ⟨z, its, n, r, e⟩ := I.hok p _ h
  exact ⟨its, n, r, e, z⟩
/-- the list at p is written by an update of its object -/
theorem Inv.lstUpd {pins : List (Addr × Obj)} {σ : St} {H : Hp} {s : Shared} {p : Addr} {xs ys : List V} {its its' : List Value} {n n' : Nat} {f : Obj → Obj} (I : Inv X pins σ H s) (h : H p = some (.lst xs))
    (ho : s.heap.get? p = some { cls := .type "list", data := .seq its.toArray n }) (hf : f { cls := .type "list", data := .seq its.toArray n } = { cls := .type "list", data := .seq its'.toArray n' }) (r : Vals ys its') (hz : ys.length ≤ sizeLine) (t : Nat) :
    Inv X pins σ (upd H p (.lst ys)) { s with heap := s.heap.update p f, toks := t } := by
  have e : (s.heap.update p f).get? p = some { cls := .type "list", data := .seq its'.toArray n' } := by
    rw [Heap.get?_update_self f ho (by rw [hf] <;> rfl), hf]
  refine I.write (x := p) (e := p) (by rw [h]; trivial) (.inl rfl) (fun b u hb q => (Heap.get?_update_other _ _ (Ne.symm hb)).trans q) ⟨_, e⟩ ?_
  exact ⟨hz, its', n', r, e⟩
def rSetL : V → V → V → Hp → (Hp → Prop) → Prop := fun o i v H Q => ∃ p xs k j, o = .ref p ∧ i = .int k ∧ H p = some (.lst xs) ∧ ixN xs.length k = some j ∧ Q (upd H p (.lst (xs.set j v)))
theorem set_list : PSet X rSetL := by
  intro pins s σ H o i v ov iv u Q I ro ri rv h
  obtain ⟨p, xs, k, j, rfl, rfl, hp, hj, q⟩ := h
  cases ro
  obtain ⟨t, rfl⟩ := ri
  obtain ⟨its, n, r, ho, hz⟩ := I.lst hp
  obtain ⟨h1, h2, h3, h4⟩ := ixN_seq hj
  have hl := r.length
  have hn := line63
  have I' : Inv X pins σ (upd H p (.lst (xs.set j v))) { s with heap := s.heap.update p (Obj.mapSeq (·.setIfInBounds j u)) } :=
    I.lstUpd hp ho (mapSeq_set its n j u) (r.set rv j) (by rw [List.length_set]; exact hz) s.toks
  by_cases h0 : 0 ≤ k
  · have hk : k.toNat = j := by
      rw [seqIndex_of h0 h4] at h1
      exact Option.some.inj h1
    exact PySem.W.ki_setAt ho h0 (by omega) (by rw [List.size_toArray, ← hl]; exact h4) (by rw [hk]; exact ⟨_, I', q⟩)
  · have hk : (k + (its.toArray.size : Int)).toNat = j := by
      rw [seqIndex_neg (by omega) h3] at h1
      rw [List.size_toArray, ← hl]
      exact Option.some.inj h1
    exact PySem.W.ki_setBack ho (by omega) (by rw [List.size_toArray, ← hl]; exact h3) (by omega) (by rw [hk]; exact ⟨_, I', q⟩)

/-! ### slices -/
theorem slice_bounds (lo hi : Option Int) (n : Nat) : (sliceBounds lo hi none n).1 = ((HT.sIx n 0 lo : Nat) : Int) ∧ (sliceBounds lo hi none n).2.1 = ((HT.sIx n n hi : Nat) : Int) ∧ (sliceBounds lo hi none n).2.2 = 1 := by
  refine ⟨?_, ?_, rfl⟩
  · cases lo with
    | none => simp [sliceBounds, HT.sIx]
    | some i =>
      simp only [sliceBounds, HT.sIx, Option.getD_none, show (1 : Int) > 0 by decide, if_true]
      by_cases h : i < 0
      · simp only [h, if_true] <;> omega
      · simp only [h, if_false] <;> omega
  · cases hi with
    | none => simp [sliceBounds, HT.sIx]
    | some i =>
      simp only [sliceBounds, HT.sIx, Option.getD_none, show (1 : Int) > 0 by decide, if_true]
      by_cases h : i < 0
      · simp only [h, if_true] <;> omega
      · simp only [h, if_false] <;> omega
theorem slicePick_cut (its : List Value) (lo hi : Option Int) : slicePick its.toArray lo hi none = ((its.drop (HT.sIx its.length 0 lo)).take (HT.sIx its.length its.length hi - HT.sIx its.length 0 lo)).toArray := by
  obtain ⟨h1, h2, h3⟩ := slice_bounds lo hi its.toArray.size
  unfold slicePick
  rw [h1, h2, h3]
  simp only [sliceRange_one, pick_run, List.size_toArray] <;> rfl
/-- xs[lo:hi] of a list: a new list -/
def rSlL (K : PySem.W.Frag) : V → Option Int → Option Int → Hp → VK → Prop := fun x lo hi H Q => ∃ a xs, x = .ref a ∧ SqL K H a xs ∧ ∀ p, H p = none → Q (.ref p) (upd H p (.lst (cutV xs lo hi)))
theorem sl_list : SlR X (rSlL X.K) := by
  intro pins s σ H x v vl vu lo hi sl Q I rx hs pl pu h
  obtain ⟨a, xs, rfl, hx, q⟩ := h
  cases rx
  obtain ⟨its, r, ht, hz⟩ := I.list hx
  have hlen := r.length
  refine ⟨"list", _, slot_list_getitem.lookup, ht.isList.typeIs, ?_⟩
  refine wpAny_getItem_list_slice ht.isList hs pl pu .none (by simp) ?_ (by rw [List.size_toArray] <;> omega)
  rw [slicePick_cut, ← hlen]
  refine ⟨.ref s.heap.objs.size, _, I.laid (t' := s.toks) (o := .lst (cutV xs lo hi)) (fun b ob q => Heap.get?_push_of_some _ q) (Nat.le_refl _) ?_, rfl, q _ (I.hok.fresh (Nat.le_refl _))⟩
  exact ⟨Nat.le_trans (cutV_length xs lo hi) hz, _, 0, (r.drop (HT.sIx xs.length 0 lo)).take (HT.sIx xs.length xs.length hi - HT.sIx xs.length 0 lo), Heap.get?_push_size _ rfl⟩

/-! ### in, not in: flat items -/
def flatV : V → Bool
  | .non => true
  | .bl _ => true
  | .int _ => true
  | .str _ => true
  | _ => false
/-- == of flat values -/
def eqV : V → V → Bool
  | .non, .non => true
  | .bl a, .bl b => a == b
  | .bl a, .int b => (if a then 1 else 0) == b
  | .int a, .bl b => a == (if b then 1 else 0)
  | .int a, .int b => a == b
  | .str a, .str b => a == b
  | _, _ => false
theorem eqAt_V {A : Around} {s : Shared} {y x : V} {u v : Value} (ry : RelV y u) (rx : RelV x v) (fy : flatV y = true) (fx : flatV x = true) : SeqAt.EqAt A s u v (eqV y x) := by
  cases y with
  | non =>
    cases ry
    cases x with
    | non => cases rx; exact SeqAt.EqAt.same _
    | bl b => cases rx; exact SeqAt.EqAt.none_bool b
    | int b => obtain ⟨t, rfl⟩ := rx; exact SeqAt.EqAt.none_int b t
    | str b => obtain ⟨t, rfl⟩ := rx; exact SeqAt.EqAt.none_str b t
    | _ => exact absurd (show false = true from fx) Bool.false_ne_true
  | bl a =>
    cases ry
    cases x with
    | non => cases rx; exact SeqAt.EqAt.bool_none a
    | bl b => cases rx; exact SeqAt.EqAt.bool_bool a b
    | int b => obtain ⟨t, rfl⟩ := rx; exact SeqAt.EqAt.bool_int a b t
    | str b => obtain ⟨t, rfl⟩ := rx; exact SeqAt.EqAt.bool_str a b t
    | _ => exact absurd (show false = true from fx) Bool.false_ne_true
  | int a =>
    obtain ⟨t', rfl⟩ := ry
    cases x with
    | non => cases rx; exact SeqAt.EqAt.int_none a t'
    | bl b => cases rx; exact SeqAt.EqAt.int_bool a t' b
    | int b => obtain ⟨t, rfl⟩ := rx; exact SeqAt.EqAt.int_int a t' b t
    | str b => obtain ⟨t, rfl⟩ := rx; exact SeqAt.EqAt.int_str a t' b t
    | _ => exact absurd (show false = true from fx) Bool.false_ne_true
  | str a =>
    obtain ⟨t', rfl⟩ := ry
    cases x with
    | non => cases rx; exact SeqAt.EqAt.str_none a t'
    | bl b => cases rx; exact SeqAt.EqAt.str_bool a t' b
    | int b => obtain ⟨t, rfl⟩ := rx; exact SeqAt.EqAt.str_int a t' b t
    | str b => obtain ⟨t, rfl⟩ := rx; exact SeqAt.EqAt.str_str a t' b t
    | _ => exact absurd (show false = true from fx) Bool.false_ne_true
  | _ => exact absurd (show false = true from fy) Bool.false_ne_true
/-- the items' answers, read off the values (a value's own answer does not lean on its token) -/
def eqU (x : V) (u : Value) : Bool := match u with
  | .none => eqV .non x
  | .bool b => eqV (.bl b) x
  | .int i _ => eqV (.int i) x
  | .str z _ => eqV (.str z) x
  | _ => false
theorem eqU_of {x y : V} {u : Value} (r : RelV y u) (f : flatV y = true) : eqU x u = eqV y x := by
  cases y with
  | non => cases r; rfl
  | bl b => cases r; rfl
  | int i => obtain ⟨t, rfl⟩ := r; rfl
  | str z => obtain ⟨t, rfl⟩ := r; rfl
  | _ => exact absurd (show false = true from f) Bool.false_ne_true
theorem any_eqU {x : V} : ∀ {xs : List V} {us : List Value}, Vals xs us → xs.all flatV = true → us.any (eqU x) = xs.any fun y => eqV y x
  | _, _, .nil, _ => rfl
  | y :: xs, u :: us, .cons r t, f => by
    rw [List.all_cons, Bool.and_eq_true] at f
    rw [List.any_cons, List.any_cons, eqU_of r f.1, any_eqU t f.2]
theorem mem_eqAt {A : Around} {s : Shared} {x : V} {v : Value} (rx : RelV x v) (fx : flatV x = true) : ∀ {xs : List V} {us : List Value}, Vals xs us → xs.all flatV = true → ∀ u ∈ us, SeqAt.EqAt A s u v (eqU x u)
  | _, _, .nil, _ => fun u hu => by cases hu
  | y :: xs, u :: us, .cons r t, f => fun u' hu => by
    rw [List.all_cons, Bool.and_eq_true] at f
    rcases List.mem_cons.mp hu with rfl | hu
    · rw [eqU_of r f.1]; exact eqAt_V r rx f.1 fx
    · exact mem_eqAt rx fx t f.2 u' hu
def inV (x : V) (xs : List V) : Bool := xs.any fun y => eqV y x
/-- x in a list or tuple of flat items -/
def rIn (K : PySem.W.Frag) (neg : Bool) : R2 := fun x y H Q => ∃ p xs, y = .ref p ∧ (SqL K H p xs ∨ SqT K H p xs) ∧ flatV x = true ∧ xs.all flatV = true ∧ Q (.bl (if neg then !inV x xs else inV x xs)) H
theorem op_in_seq : OpR X (compareOp .In) (rIn X.K false) := by
  intro pins s σ H x y v u Q I rx ry h
  obtain ⟨p, xs, rfl, hq, fx, fs, q⟩ := h
  cases ry
  rcases hq with hq | hq
  · obtain ⟨its, r, pl, hz⟩ := I.list hq
    refine SeqAt.in_listAt (eqU x) pl.isList (fun w hw => mem_eqAt rx fx r fs w (by simpa using hw)) ⟨.bl _, H, I, rfl, ?_⟩
    rw [show its.toArray.any (eqU x) = its.any (eqU x) by simp, any_eqU r fs]
    exact q
  · obtain ⟨its, r, pl, hz⟩ := I.tuple hq
    refine SeqAt.in_tupleAt (eqU x) pl (fun w hw => mem_eqAt rx fx r fs w (by simpa using hw)) ⟨.bl _, H, I, rfl, ?_⟩
    rw [show its.toArray.any (eqU x) = its.any (eqU x) by simp, any_eqU r fs]
    exact q
theorem op_notIn_seq : OpR X (compareOp .NotIn) (rIn X.K true) := by
  intro pins s σ H x y v u Q I rx ry h
  obtain ⟨p, xs, rfl, hq, fx, fs, q⟩ := h
  cases ry
  rcases hq with hq | hq
  · obtain ⟨its, r, pl, hz⟩ := I.list hq
    refine SeqAt.notIn_listAt (eqU x) pl.isList (fun w hw => mem_eqAt rx fx r fs w (by simpa using hw)) ⟨.bl _, H, I, rfl, ?_⟩
    rw [show its.toArray.any (eqU x) = its.any (eqU x) by simp, any_eqU r fs]
    exact q
  · obtain ⟨its, r, pl, hz⟩ := I.tuple hq
    refine SeqAt.notIn_tupleAt (eqU x) pl (fun w hw => mem_eqAt rx fx r fs w (by simpa using hw)) ⟨.bl _, H, I, rfl, ?_⟩
    rw [show its.toArray.any (eqU x) = its.any (eqU x) by simp, any_eqU r fs]
    exact q
/-! ### len, list(x), tuple(x) of any list or tuple that is read -/
theorem call_len_seq : CallR X (.builtin "len") (fun xs H Q => ∃ p ys, xs = [.ref p] ∧ (SqL X.K H p ys ∨ SqT X.K H p ys) ∧ Q (.int ys.length) H) := by
  intro pins s σ H xs us Q I r h
  obtain ⟨p, ys, rfl, hq, q⟩ := h
  obtain ⟨u, rfl, rx⟩ := vals1 r
  cases rx
  have hn := line63
  rcases hq with hq | hq
  · obtain ⟨its, r', pl, hz⟩ := I.list hq
    have hlen := r'.length
    exact Calls.call_len_list pl.isList (by simp only [List.size_toArray] <;> omega) ⟨.int ys.length, H, I.tok _, ⟨s.toks + 1, by rw [List.size_toArray, hlen]⟩, q⟩
  · obtain ⟨its, r', pl, hz⟩ := I.tuple hq
    have hlen := r'.length
    exact len_tuple pl (by simp only [List.size_toArray] <;> omega) ⟨.int ys.length, H, I.tok _, ⟨s.toks + 1, by rw [List.size_toArray, hlen]⟩, q⟩
theorem CallR.or {f : Value} {r r' : List V → Hp → VK → Prop} (h : CallR X f r) (h' : CallR X f r') : CallR X f (fun xs H Q => r xs H Q ∨ r' xs H Q) := by
  intro pins s σ H xs us Q I rs q
  rcases q with q | q
  · exact h pins s σ H xs us Q I rs q
  · exact h' pins s σ H xs us Q I rs q
theorem call_list_of : CallR X (.type "list") (fun xs H Q => ∃ p ys, xs = [.ref p] ∧ (SqL X.K H p ys ∨ SqT X.K H p ys) ∧ ∀ l, H l = none → Q (.ref l) (upd H l (.lst ys))) := by
  intro pins s σ H xs us Q I r h
  obtain ⟨p, ys, rfl, hq, q⟩ := h
  obtain ⟨u, rfl, rx⟩ := vals1 r
  cases rx
  have fin : ∀ (its : List Value), Vals ys its → ys.length ≤ sizeLine → ∀ (h' : Heap) (c' : Nat), (∀ b o', s.heap.get? b = some o' → h'.get? b = some o') →
      h'.get? s.heap.objs.size = some { cls := .type "list", dict := none, data := .seq its.toArray c', slots := #[] } → EP X pins σ Q (.ref s.heap.objs.size) { s with heap := h' } := fun its r' hz h' c' kp e =>
    ⟨.ref s.heap.objs.size, _, I.laid (t' := s.toks) kp (Nat.le_refl _) (show ObjOk X.prog X.w _ h' _ (.lst ys) from ⟨hz, its, c', r', e⟩), rfl, q _ (I.hok.fresh (Nat.le_refl _))⟩
  rcases hq with hq | hq
  · obtain ⟨its, r', pl, hz⟩ := I.list hq
    have hlen := r'.length
    obtain ⟨o, ho, hc, n, hd⟩ := pl.isList
    exact call_list_seq p (.inl rfl) ho hc hd (fun h' c' kp e => fin its r' hz h' c' kp e) (by simp only [List.size_toArray] <;> omega)
  · obtain ⟨its, r', pl, hz⟩ := I.tuple hq
    have hlen := r'.length
    obtain ⟨o, ho, hc, n, hd⟩ := pl
    exact call_list_seq p (.inr rfl) ho hc hd (fun h' c' kp e => fin its r' hz h' c' kp e) (by simp only [List.size_toArray] <;> omega)
/-! ### the call of a builtin's method: o.m(..) -/
/-- the value is of that builtin type -/
def tyV (K : PySem.W.Frag) (T : String) (x : V) (H : Hp) : Prop := match x with
  | .str _ => T = "str"
  | .int _ => T = "int"
  | .ref p => (T = "list" ∧ ∃ xs, SqL K H p xs) ∨ (T = "tuple" ∧ ∃ o, K.lookup p = some o ∧ o.cls = .type "tuple" ∧ o.dict = none) ∨
      (T = "dict" ∧ ((∃ kvs, H p = some (.dK kvs)) ∨ ∃ kvs, H p = some (.dT kvs))) ∨ (T = "set" ∧ ∃ S n, H p = some (.set S n))
  | _ => False
theorem tyV_is {pins : List (Addr × Obj)} {σ : St} {H : Hp} {s : Shared} {T : String} {x : V} {v : Value} (I : Inv X pins σ H s) (r : RelV x v) (ty : tyV X.K T x H) :
    s.TypeIs v T ∧ ∀ a, v = .ref a → ∃ ob, s.heap.get? a = some ob ∧ ob.dict = none := by
  cases x with
  | str z =>
    obtain ⟨t, rfl⟩ := r
    cases (show T = "str" from ty)
    exact ⟨typeIs_str s z t, fun _ e => nomatch e⟩
  | int i =>
    obtain ⟨t, rfl⟩ := r
    cases (show T = "int" from ty)
    exact ⟨typeIs_int s i t, fun _ e => nomatch e⟩
  | ref p =>
    cases r
    rcases ty with ⟨rfl, xs, hq⟩ | ⟨rfl, o, hk, hc, hd⟩ | ⟨rfl, hk⟩ | ⟨rfl, S, n, hk⟩
    · obtain ⟨its, _, pl, _⟩ := I.list hq
      refine ⟨pl.isList.typeIs, fun a e => ?_⟩
      cases e
      obtain ⟨o, n, e, c, hd, _⟩ := pl
      exact ⟨o, e, hd⟩
    · refine ⟨⟨o, I.kIn p o hk, hc⟩, fun a e => ?_⟩
      cases e
      exact ⟨o, I.kIn _ o hk, hd⟩
    · have z : ∃ o, s.heap.get? p = some o ∧ o.ExactDict := by
        rcases hk with ⟨kvs, hk⟩ | ⟨kvs, hk⟩
        · obtain ⟨_, _, _, _, o, _, _, e, ex, _⟩ := I.hok p _ hk
          exact ⟨o, e, ex⟩
        · obtain ⟨_, _, _, _, o, _, _, e, ex, _⟩ := I.hok p _ hk
          exact ⟨o, e, ex⟩
      obtain ⟨o, e, ex⟩ := z
      refine ⟨⟨o, e, ex.1⟩, fun a e2 => ?_⟩
      cases e2
      exact ⟨o, e, ex.2.1⟩
    · obtain ⟨o, _, _, _, e, ex, _⟩ := I.hok p _ hk
      refine ⟨⟨o, e, ex.1⟩, fun a e2 => ?_⟩
      cases e2
      exact ⟨o, e, ex.2.1⟩
  | _ => exact False.elim ty
def tBM (K : PySem.W.Frag) (T : String) (r : V → List V → Hp → VK → Prop) (to : TE) (t : TA) : TE := fun σ H Q => to σ H fun x H1 => tyV K T x H1 ∧ t σ H1 fun xs H2 => r x xs H2 Q
variable {o e : Expr} {es : List Expr} {to : TE} {t : TA} {name : Str} {apos cpos : Pos} {T id : String} {r : V → List V → Hp → VK → Prop}
theorem pe_bm (pa : PlainAttrs T) (slot : Slot T name id) (hty : typeOf (.builtin id) = pure (.type "method_descriptor")) (hm : MtR X id r) (ho : PE X o to) (ha : PA X (e :: es) t)
    (hbase : attributeBase o name X.env (eval o X.env) = eval o X.env := by rfl)
    (hfew : ((backTo cpos (starEach (e :: es) X.env)).all (fun x => !x.1) && (backToKw cpos (keywordEach [] X.env)).all (fun x => x.1.isSome)
      && decide ((e :: es).length + ([] : List Keyword).length + (if ([] : List Keyword).isEmpty then 0 else 1) < 30)) = true := by rfl)
    (hline : (apos.endLine == cpos.line) = true := by rfl) (hs : starEach (e :: es) X.env = (false, eval e X.env) :: starEach es X.env := by rfl) (hplain : (backTo cpos (starEach es X.env)).any (·.1) = false := by rfl) :
    PE X (.Call (.Attribute o name apos) (e :: es) [] cpos) (tBM X.K T r to t) := by
  intro pins s σ H Q I h
  refine wpAny_Call_method_late hbase hfew hline rfl (thn (ho pins s σ H _ I h) fun v s1 ⟨x, H1, I1, r1, ty, q1⟩ => ?_)
  obtain ⟨h1, h2⟩ := tyV_is I1 r1 ty
  refine ⟨T, id, pa, slot, hty, h1, h2, ?_⟩
  have hA := ha cpos pins s1 σ H1 _ I1 q1
  rw [hs] at hA ⊢
  refine Calls.callWith_builtin (by show (false || (backTo cpos (starEach es X.env)).any (·.1)) = false; rw [hplain] <;> rfl) (Calls.evalArgs_plain ?_)
  exact thn hA fun us s2 ⟨vs, H2, I2, r2, q2⟩ => hm pins s2 σ H2 x vs v us Q I2 r1 r2 q2
/- xs.append(e), list.index on a module's tuple .. are MtR facts of 06m -/
end
end L2

namespace L2
open PySem PySem.Spec PyProof.Rows

def MtM (X : Cx) (id : String) (r : V → List V → Hp → VK → Prop) : Prop :=
  ∀ (pins : List (Addr × Obj)) (s : Shared) (σ : St) (H : Hp) (x : V) (xs : List V) (v : Value) (us : List Value) (Q : VK), Inv X pins σ H s → RelV x v → Vals xs us → r x xs H Q →
    wpAny (model X.prog X.w) X.A (call (.builtin id) (v :: us)) (EP X pins σ Q) X.xe s

/-! ### lists of values -/
theorem Vals.one : ∀ {x : V} {us : List Value}, Vals [x] us → ∃ u, us = [u] ∧ RelV x u
  | _, _, .cons r .nil => ⟨_, rfl, r⟩
theorem Vals.two : ∀ {x y : V} {us : List Value}, Vals [x, y] us → ∃ u v, us = [u, v] ∧ RelV x u ∧ RelV y v
  | _, _, _, .cons r (.cons q .nil) => ⟨_, _, rfl, r, q⟩
theorem Vals.zero : ∀ {us : List Value}, Vals [] us → us = []
  | _, .nil => rfl
theorem Vals.dropLast {xs : List V} {us : List Value} (h : Vals xs us) : Vals xs.dropLast us.dropLast := by
  induction h with
  | nil => exact .nil
  | cons r t ih =>
    cases t with
    | nil => exact .nil
    | cons q t' => exact .cons r ih
section
variable {X : Cx} {pins : List (Addr × Obj)} {σ : St} {H : Hp} {s : Shared} {l b : Addr} {xs ys zs : List V}

/-! ### the two steps: a tracked list is rewritten, a new list is laid -/
theorem Inv.lset {its its' : List Value} {n : Nat} {f : Array Value → Array Value} {t' : Nat} (I : Inv X pins σ H s) (hH : H l = some (.lst xs))
    (e : s.heap.get? l = some { cls := .type "list", data := .seq its.toArray n }) (hf : f its.toArray = its'.toArray) (hv : Vals ys its') (hz : ys.length ≤ sizeLine) :
    Inv X pins σ (upd H l (.lst ys)) { s with heap := s.heap.update l (Obj.mapSeq f), toks := t' } := by
  have q := PySem.IsL.update e f
  rw [hf] at q
  refine I.write (x := l) (e := l) (by rw [hH]; exact trivial) (.inl rfl) (fun b' u hb hu => (Heap.get?_update_other s.heap (Obj.mapSeq f) (Ne.symm hb)).trans hu) ⟨_, q⟩ ?_
  exact ⟨hz, its', _, hv, q⟩
theorem Inv.lnew {its : List Value} {t' : Nat} (I : Inv X pins σ H s) (hv : Vals ys its) (hz : ys.length ≤ sizeLine) :
    Inv X pins σ (upd H s.heap.objs.size (.lst ys)) { s with heap := s.heap.push { cls := .type "list", data := .seq its.toArray }, toks := t' } :=
  I.laid (fun _ _ q => Heap.get?_push_of_some _ q) (Nat.le_refl _) ⟨hz, its, 0, hv, Heap.get?_push_size _ rfl⟩
theorem Inv.fresh (I : Inv X pins σ H s) : H s.heap.objs.size = none := I.hok.fresh (Nat.le_refl _)
theorem Inv.lstM (I : Inv X pins σ H s) (hH : H l = some (.lst xs)) : xs.length ≤ sizeLine ∧ ∃ (its : List Value) (n : Nat), Vals xs its ∧ xs.length = its.length ∧ s.heap.get? l = some { cls := .type "list", data := .seq its.toArray n } := by
  obtain ⟨z, its, n, r, e⟩ := I.hok l _ hH
  exact ⟨z, its, n, r, r.length, e⟩

theorem notLongL {n : Nat} (h : n ≤ sizeLine) : Builtin.List.listTooLong n = false := by
  unfold Builtin.List.listTooLong
  exact decide_eq_false (by omega)
end

section
variable {X : Cx}

/-! ### methods -/
def rAppend : V → List V → Hp → VK → Prop := fun x vs H Q => ∃ l xs y, x = .ref l ∧ vs = [y] ∧ H l = some (.lst xs) ∧ xs.length < sizeLine ∧ Q .non (upd H l (.lst (xs ++ [y])))
theorem mt_append : MtM X "list.append" rAppend := by
  intro pins s σ H x vs v us Q I rx rv h
  obtain ⟨l, xs, y, rfl, rfl, hH, hz, q⟩ := h
  cases rx
  obtain ⟨u, rfl, ru⟩ := rv.one
  obtain ⟨z, its, n, r, hl, e⟩ := I.lstM hH
  refine call_meets F.slot_list_append ⟨_, e, rfl⟩ F.entry_list_append (F.args_list_append_2 _ _) (PySem.list_append l its.toArray n u (by rw [List.size_toArray]; omega)) ⟨e, ?_⟩
  refine ⟨.non, _, I.lset (its' := its ++ [u]) hH e (by simp) (r.append (.cons ru .nil)) ?_, rfl, q⟩
  rw [List.length_append, List.length_singleton]
  omega

def rExtend : V → List V → Hp → VK → Prop := fun x vs H Q => ∃ l b xs zs, x = .ref l ∧ vs = [.ref b] ∧ H l = some (.lst xs) ∧ H b = some (.lst zs) ∧ xs.length + zs.length ≤ sizeLine ∧ Q .non (upd H l (.lst (xs ++ zs)))
theorem mt_extend : MtM X "list.extend" rExtend := by
  intro pins s σ H x vs v us Q I rx rv h
  obtain ⟨l, b, xs, zs, rfl, rfl, hH, hB, hz, q⟩ := h
  cases rx
  obtain ⟨u, rfl, ru⟩ := rv.one
  cases ru
  obtain ⟨z, its, n, r, hl, e⟩ := I.lstM hH
  obtain ⟨z2, its2, n2, r2, hl2, e2⟩ := I.lstM hB
  have hsz : its.toArray.size + its2.toArray.size ≤ sizeLine := by rw [List.size_toArray, List.size_toArray]; omega
  have hlong : ¬ (!its.toArray.isEmpty && Builtin.List.listTooLong (its.toArray.size + its2.toArray.size)) = true := by
    rw [notLongL hsz, Bool.and_false]
    exact Bool.false_ne_true
  refine call_meets F.slot_list_extend ⟨_, e, rfl⟩ F.entry_list_extend (F.args_list_extend_2 _ _)
    (AutoSeq1.list_extend_list_list_0 l its.toArray n b its2.toArray n2 hlong (by rw [List.size_toArray]; omega) (by omega)) ⟨e, e2, ?_⟩
  refine ⟨.non, _, I.lset (its' := its ++ its2) hH e (by simp) (r.append r2) ?_, rfl, q⟩
  rw [List.length_append]
  omega

/-! ### list + list, list += list, list * int -/
def rCat : R2 := fun x y H Q => ∃ l b xs zs, x = .ref l ∧ y = .ref b ∧ H l = some (.lst xs) ∧ H b = some (.lst zs) ∧ xs.length + zs.length ≤ sizeLine ∧ ∀ p, H p = none → Q (.ref p) (upd H p (.lst (xs ++ zs)))
theorem op_cat : OpR X (binaryOp .Add) rCat := by
  intro pins s σ H x y v u Q I rx ry h
  obtain ⟨l, b, xs, zs, rfl, rfl, hH, hB, hz, q⟩ := h
  cases rx
  cases ry
  obtain ⟨z, its, n, r, hl, e⟩ := I.lstM hH
  obtain ⟨z2, its2, n2, r2, hl2, e2⟩ := I.lstM hB
  refine PySem.P.add_list e e2 ?_ (by rw [List.size_toArray, List.size_toArray]; omega)
  have ea : its.toArray ++ its2.toArray = (its ++ its2).toArray := by simp
  rw [ea]
  exact ⟨.ref _, _, I.lnew (t' := s.toks) (r.append r2) (by rw [List.length_append]; omega), rfl, q _ I.fresh⟩
/-! ### del xs[i] -/
end

/-! ### xs[a:b] = ys -/
section
variable {prog : Program} {w : World} {A : Around} {E : Value → Shared → Prop} {s : Shared}
end

section
variable {X : Cx}
end
end L2

namespace L2
open PySem PySem.Spec PyProof.Rows

theorem Vals.ints : ∀ {ns : List Int} {us : List Value}, Vals (ns.map V.int) us → IntsAre us ns
  | [], us, h => by
    rw [List.map_nil] at h
    cases h
    exact IntsAre.nil
  | n :: ns, us, h => by
    rw [List.map_cons] at h
    cases h with
    | cons r t =>
      obtain ⟨k, rfl⟩ := r
      exact IntsAre.cons n k (Vals.ints t)
theorem Vals.strs : ∀ {xs : List Str} {us : List Value}, Vals (xs.map V.str) us → StrsAre us xs
  | [], us, h => by
    rw [List.map_nil] at h
    cases h
    exact StrsAre.nil
  | x :: xs, us, h => by
    rw [List.map_cons] at h
    cases h with
    | cons r t =>
      obtain ⟨k, rfl⟩ := r
      exact StrsAre.cons x k (Vals.strs t)
theorem Vals.bls : ∀ {bs : List Bool} {us : List Value}, Vals (bs.map V.bl) us → us = bs.map Value.bool
  | [], us, h => by
    rw [List.map_nil] at h
    cases h
    rfl
  | b :: bs, us, h => by
    rw [List.map_cons] at h
    cases h with
    | cons r t =>
      cases r
      rw [Vals.bls t, List.map_cons]
theorem Vals.ref1 {a : Addr} {us : List Value} (r : Vals [V.ref a] us) : us = [Value.ref a] := by
  cases r with
  | cons r t =>
    cases t
    cases r
    rfl
/-! ### the library's walks over a list of ints, kept objects alone -/
section
variable {prog : Program} {w : World} {A : Around} {E : Value → Shared → Prop} {s : Shared} {l : Addr} {its : List Value} {ns : List Int} {Q : Value → Shared → Prop}
theorem sum_raw (hh : A.handled = none) (hl : s.heap.IsList l its.toArray) (hi : IntsAre its ns)
    (h : ∀ h' tk t', (∀ b o, s.heap.get? b = some o → h'.get? b = some o) → Q (.int ns.sum t') { s with heap := h', toks := tk }) : wpAny (model prog w) A (call (.builtin "sum") [.ref l]) Q E s := by
  obtain ⟨xs, e⟩ := hi.allInts.items
  have hn : numsOf (intItems xs).toList = ns := by rw [← e]; exact hi.numsOf
  rw [nums_intItems] at hn
  rw [e] at hl
  refine PySem.sum_intListG hh hl fun h' tk t' hk => ?_
  have := h h' tk t' hk
  rw [preSum_eq, List.take_of_length_le (by simp), hn]; exact this
theorem max_raw (hh : A.handled = none) (hl : s.heap.IsList l its.toArray) (hi : IntsAre its ns) (hne : 0 < ns.length)
    (h : ∀ h' tk M t', (∀ b o, s.heap.get? b = some o → h'.get? b = some o) → M ∈ ns → (∀ a, a ∈ ns → a ≤ M) → Q (.int M t') { s with heap := h', toks := tk }) : wpAny (model prog w) A (call (.builtin "max") [.ref l]) Q E s := by
  obtain ⟨xs, e⟩ := hi.allInts.items
  have hn : numsOf (intItems xs).toList = ns := by rw [← e]; exact hi.numsOf
  rw [nums_intItems] at hn
  subst hn
  rw [e] at hl
  have hsz : 0 < xs.size := by simpa using hne
  refine PySem.max_intList hh hl hsz fun v h' tk hv hk => ?_
  obtain ⟨t, rfl⟩ := intItems_at hv
  obtain ⟨h1, h2⟩ := argBest_gt (numAt xs) (xs.size - 1)
  refine h h' tk _ t hk ?_ fun a ha => ?_
  · rw [numAt_eq]; exact PySem.getD_mem (by rw [List.length_map, Array.length_toList]; omega)
  · obtain ⟨j, hj, rfl⟩ := mem_getD ha
    rw [List.length_map, Array.length_toList] at hj
    rw [← numAt_eq]; exact h2 j (by omega)
end

/-! ### the calls, by values (CallR of 03t; MtR of 06l) -/
section
variable {X : Cx}
/-- sum(xs) of a list of ints -/
def rSum (K : PySem.W.Frag) : List V → Hp → VK → Prop := fun vs H Q => ∃ (a : Addr) (ns : List Int), vs = [V.ref a] ∧ SqL K H a (ns.map V.int) ∧ Q (.int ns.sum) H
/-- max(xs), min(xs) of a list of ints -/
def rMax (K : PySem.W.Frag) : List V → Hp → VK → Prop := fun vs H Q => ∃ (a : Addr) (ns : List Int), vs = [V.ref a] ∧ SqL K H a (ns.map V.int) ∧ 0 < ns.length ∧ ∀ m, m ∈ ns → (∀ y, y ∈ ns → y ≤ m) → Q (.int m) H
theorem cr_sum (hc : X.calm = true) : CallR X (.builtin "sum") (rSum X.K) := by
  intro pins s σ H vs us Q I r h
  obtain ⟨a, ns, rfl, hs, q⟩ := h
  obtain ⟨its, rv, hl, _⟩ := I.list hs
  rw [Vals.ref1 r]
  exact sum_raw (I.ok.hd hc) hl.isList rv.ints fun h' tk t' hk => ⟨.int _, H, I.kept hk, ⟨_, rfl⟩, q⟩
theorem cr_max (hc : X.calm = true) : CallR X (.builtin "max") (rMax X.K) := by
  intro pins s σ H vs us Q I r h
  obtain ⟨a, ns, rfl, hs, hne, q⟩ := h
  obtain ⟨its, rv, hl, _⟩ := I.list hs
  rw [Vals.ref1 r]
  exact max_raw (I.ok.hd hc) hl.isList rv.ints hne fun h' tk m t' hk h1 h2 => ⟨.int _, H, I.kept hk, ⟨_, rfl⟩, q m h1 h2⟩
/-! sorted, sort (fewer than 64 items: the library's own bound) -/
end

/-! ### list.index, flat items -/
section
variable {X : Cx}
def rIndex (K : PySem.W.Frag) : V → List V → Hp → VK → Prop := fun x xs H Q => ∃ (a : Addr) (ys : List V) (y : V) (j : Nat) (z : V), x = V.ref a ∧ xs = [y] ∧ SqL K H a ys ∧ flatV y = true ∧ ys.all flatV = true ∧ ys[j]? = some z ∧ eqV z y = true ∧
  (∀ (m : Nat) (z' : V), m < j → ys[m]? = some z' → eqV z' y = false) ∧ Q (.int (j : Nat)) H
theorem flat_at {ys : List V} (f : ys.all flatV = true) {j : Nat} {z : V} (h : ys[j]? = some z) : flatV z = true := List.all_eq_true.mp f z (List.mem_of_getElem? h)
theorem mt_index : MtR X "list.index" (rIndex X.K) := by
  intro pins s σ H x xs v us Q I rx rxs h
  obtain ⟨a, ys, y, j, z, rfl, rfl, hs, fy, fys, hz, hzj, hno, q⟩ := h
  cases rx
  cases rxs with
  | cons ry rt =>
    rename_i uy ut
    cases rt
    obtain ⟨its, rv, ⟨⟨cls, dd, data, sl⟩, n, ho, hc, hdn, hd⟩, hlen⟩ := I.list hs
    simp only at hc hd
    subst hc hd
    obtain ⟨u, hu, ru⟩ := rv.get hz
    obtain ⟨hjl, hje⟩ := List.getElem?_eq_some_iff.mp hu
    have hvl := rv.length
    have hj : j < its.toArray.size := by simpa using hjl
    have hsl := sizeLine_eq
    refine call_meets PySem.F.slot_list_index ⟨_, ho, rfl⟩ PySem.F.entry_list_index (PySem.F.args_list_index_2 _ _)
      (SeqAt.list_indexAt a its.toArray n dd sl uy (eqU y) j hj (by omega) ?_ ?_) ⟨ho, fun u' hu' => mem_eqAt ry fy rv fys u' (by simpa using hu'), ?_⟩
    · have e1 : its.toArray[j] = u := by simpa using hje
      rw [e1, eqU_of ru (flat_at fys hz)]
      exact hzj
    · intro m hm hmj
      have hml : m < its.length := by simpa using hm
      have hmy : m < ys.length := by omega
      have hy' : ys[m]? = some ys[m] := List.getElem?_eq_getElem hmy
      obtain ⟨u2, hu2, ru2⟩ := rv.get hy'
      obtain ⟨_, hme⟩ := List.getElem?_eq_some_iff.mp hu2
      have e1 : its.toArray[m] = u2 := by simpa using hme
      rw [e1, eqU_of ru2 (flat_at fys hy')]
      exact hno m _ hmj hy'
    · exact ⟨.int (j : Nat), H, I.tok _, ⟨_, rfl⟩, q⟩
end

/-! ### type(x) of an own instance; is, is not of a module's class -/
section
variable {X : Cx}
end

/-! ### any(xs), all(xs) of a list of bools -/
theorem iter_any {prog : Program} {w : World} {A : Around} {E : Value → Shared → Prop} {s : Shared} {l : Addr} {items : Array Value} {Q : Value → Shared → Prop} (hl : s.heap.IsList l items)
    (h : ∀ s₂ : Shared, s₂ = { s with heap := s.heap.push { cls := .type "list_iterator", data := .fields #[.ref l, .int 0 0] } } →
      (s₂.heap.IsListIter s.heap.objs.size l 0 ∧ s₂.heap.IsList l items) → l ≠ s.heap.objs.size → Q (.ref s.heap.objs.size) s₂) : wpAny (model prog w) A (pyIter (.ref l)) Q E s := by
  have hlt : l < s.heap.objs.size := by obtain ⟨_, e, _⟩ := hl; exact Heap.lt_size e
  exact wpAny_pyIter_list hl (h _ rfl ⟨⟨_, Heap.get?_push_size _ rfl, rfl, rfl⟩, hl.push _⟩ (Nat.ne_of_lt hlt))
theorem truth_bools {prog : Program} {w : World} {A : Around} {bs : List Bool} {its : List Value} (e : its = bs.map Value.bool) :
    TruthOf prog w A (fun i v => its.toArray[i]? = some v) (fun i => bs.getD i false) := fun i v s Q E hv hq => by
  have hv' : its[i]? = some v := by simpa using hv
  rw [e, List.getElem?_map] at hv'
  obtain ⟨b, hb, rfl⟩ := Option.map_eq_some_iff.mp hv'
  have hg : bs.getD i false = b := by rw [List.getD_eq_getElem?_getD, hb] <;> rfl
  have hq' : Q (bs.getD i false) s := hq
  rw [hg] at hq'
  exact wpAny_truthy_bool hq'
theorem all_range : ∀ bs : List Bool, (List.range bs.length).all (fun i => bs.getD i false) = bs.all id
  | [] => rfl
  | b :: bs => by
    rw [List.length_cons, List.range_succ_eq_map, List.all_cons, List.all_map, List.all_cons, ← all_range bs]
    all_goals rfl
section
variable {X : Cx}
def rAll (K : PySem.W.Frag) : List V → Hp → VK → Prop := fun vs H Q => ∃ (a : Addr) (bs : List Bool), vs = [V.ref a] ∧ SqL K H a (bs.map V.bl) ∧ Q (.bl (bs.all id)) H
theorem cr_all (hc : X.calm = true) : CallR X (.builtin "all") (rAll X.K) := by
  intro pins s σ H vs us Q I r h
  obtain ⟨a, bs, rfl, hs, q⟩ := h
  obtain ⟨its, rv, hl, _⟩ := I.list hs
  rw [Vals.ref1 r]
  have hb := rv.bls
  refine call_all_walk (iter_any hl.isList fun s₂ e2 st hne => ?_)
  subst e2
  refine ⟨_, _, _, _, _, _, _, rfl, Walks.list (A := X.A.in1) (I.ok.hd hc) _ a hne its.toArray, st, truth_bools hb, fun h' tk hk => ?_⟩
  refine ⟨.bl _, H, I.kept fun b o eo => hk b o (fun hmem => ?_) (Heap.get?_push_of_some _ eo), ?_, q⟩
  · rcases List.mem_cons.mp hmem with e1 | hmem
    · exact absurd (e1 ▸ Heap.lt_size eo) (Nat.lt_irrefl _)
    · cases hmem
  · show Value.bool _ = Value.bool _
    rw [← all_range, hb, List.size_toArray, List.length_map]
end

/-! ### == and != of data at any depth: none, bools, ints, texts, lists, tuples -/
mutual
inductive Dp (K : PySem.W.Frag) (H : Hp) : V → PyData → Prop
  | non : Dp K H .non .none
  | bl (b : Bool) : Dp K H (.bl b) (.bool b)
  | int (i : Int) : Dp K H (.int i) (.int i)
  | str (x : Str) : Dp K H (.str x) (.str x)
  | lst {a : Addr} {xs : List V} {ds : List PyData} : SqL K H a xs → DpAll K H xs ds → Dp K H (.ref a) (.list ds)
  | tup {a : Addr} {xs : List V} {ds : List PyData} : SqT K H a xs → DpAll K H xs ds → Dp K H (.ref a) (.tuple ds)
inductive DpAll (K : PySem.W.Frag) (H : Hp) : List V → List PyData → Prop
  | nil : DpAll K H [] []
  | cons {v : V} {vs : List V} {d : PyData} {ds : List PyData} : Dp K H v d → DpAll K H vs ds → DpAll K H (v :: vs) (d :: ds)
end
section
variable {X : Cx} {pins : List (Addr × Obj)} {σ : St} {H : Hp} {s : Shared}
mutual
theorem Dp.reads (I : Inv X pins σ H s) : ∀ (d : PyData) (v : V) (u : Value), Dp X.K H v d → RelV v u → ∃ as, Reads s.heap u d as
  | .none, _, _, h, r => by
    cases h
    cases r
    exact ⟨_, Reads.none⟩
  | .bool b, _, _, h, r => by
    cases h
    cases r
    exact ⟨_, Reads.bool b⟩
  | .int i, _, _, h, r => by
    cases h
    obtain ⟨t, rfl⟩ := r
    exact ⟨_, Reads.int i t⟩
  | .str x, _, _, h, r => by
    cases h
    obtain ⟨t, rfl⟩ := r
    exact ⟨_, Reads.str x t⟩
  | .list ds, _, _, h, r => by
    cases h with
    | lst hs ha =>
      cases r
      obtain ⟨its, rv, ⟨o, n, ho, hc, _, hd⟩, _⟩ := I.list hs
      obtain ⟨as, hr⟩ := Dp.readsAll I ds _ its ha rv
      exact ⟨_, Reads.list ho hc hd hr⟩
  | .tuple ds, _, _, h, r => by
    cases h with
    | tup hs ha =>
      cases r
      obtain ⟨its, rv, ⟨o, ho, hc, n, hd⟩, _⟩ := I.tuple hs
      obtain ⟨as, hr⟩ := Dp.readsAll I ds _ its ha rv
      exact ⟨_, Reads.tuple ho hc hd hr⟩
  | .dict _, _, _, h, _ => by cases h
theorem Dp.readsAll (I : Inv X pins σ H s) : ∀ (ds : List PyData) (vs : List V) (us : List Value), DpAll X.K H vs ds → Vals vs us → ∃ as, ReadsAll s.heap us ds as
  | [], _, _, h, r => by
    cases h
    cases r
    exact ⟨_, ReadsAll.nil⟩
  | d :: ds, _, _, h, r => by
    cases h with
    | cons h1 h2 =>
      cases r with
      | cons r1 r2 =>
        obtain ⟨as, q1⟩ := Dp.reads I d _ _ h1 r1
        obtain ⟨bs, q2⟩ := Dp.readsAll I ds _ _ h2 r2
        exact ⟨_, ReadsAll.cons q1 q2⟩
end
end
section
variable {X : Cx}
def rEqD (K : PySem.W.Frag) : R2 := fun x y H Q => ∃ d e, Dp K H x d ∧ Dp K H y e ∧ SeqAt.shaped d = true ∧ SeqAt.shaped e = true ∧ Q (.bl (PyData.eqv d e)) H
def rNeD (K : PySem.W.Frag) : R2 := fun x y H Q => ∃ d e, Dp K H x d ∧ Dp K H y e ∧ SeqAt.shaped d = true ∧ SeqAt.shaped e = true ∧ Q (.bl (!PyData.eqv d e)) H
theorem op_eqD (hu : X.A.units + 64 < cLine) : OpR X (compareOp .Eq) (rEqD X.K) := by
  intro pins s σ H x y v u Q I rx ry h
  obtain ⟨d, e, hd, he, sd, se, q⟩ := h
  obtain ⟨as, r1⟩ := Dp.reads I d x v hd rx
  obtain ⟨bs, r2⟩ := Dp.reads I e y u he ry
  exact SeqAt.compareEq_shaped r1 r2 sd se hu ⟨.bl _, H, I, rfl, q⟩
end
end L2

namespace L2
open PySem PySem.Spec PyProof.Rows
abbrev CellAt (h : Heap) (c : Addr) (v : Option Value) : Prop := h.IsCell c v
def relS (scope sc : Scope) : Scope :=
  { scope with names := scope.names.map fun (n, k) => if (k == .free && sc.kind == .function && sc.names.lookup n == some .cell) then (n, .cell) else (n, k) }

def cloFrom (cells : List (Str × Addr)) : List (Str × NameKind) → List (Str × Addr) → List (Str × Addr)
  | [], acc => acc
  | (n, k) :: r, acc => if k == .free then cloFrom cells r ((n, (cells.lookup n).getD 0) :: acc) else cloFrom cells r acc

theorem closure_loop (env : Env) (f : Str × NameKind → List (Str × Addr) → Sem (ForInStep (List (Str × Addr))))
    (hf : ∀ n k c, f (n, k) c = if k == .free then (do let a ← cellOf env n; pure (.yield ((n, a) :: c))) else pure (.yield c)) :
    ∀ (names : List (Str × NameKind)) (acc : List (Str × Addr)), (∀ y ∈ names, y.2 = .free → ∃ c, env.cells.lookup y.1 = some c) → forIn names acc f = pure (cloFrom env.cells names acc)
  | [], acc, _ => by rw [List.forIn_nil]; rfl
  | (n, k) :: r, acc, h => by
    rw [List.forIn_cons, hf]
    have ih := fun acc => closure_loop env f hf r acc fun y hy => h y (List.mem_cons_of_mem _ hy)
    unfold cloFrom
    by_cases hk : (k == NameKind.free) = true
    · rw [if_pos hk, if_pos hk]
      obtain ⟨c, hc⟩ := h (n, k) List.mem_cons_self (by simpa using hk)
      have e : cellOf env n = pure c := by unfold cellOf; rw [hc]
      rw [e]
      have e2 : (env.cells.lookup n).getD 0 = c := by rw [hc]; rfl
      rw [e2]
      exact ih _
    · rw [if_neg hk, if_neg hk]
      exact ih _
theorem closure_ok {scope : Scope} {env : Env} (h : ∀ y ∈ scope.names, y.2 = .free → ∃ c, env.cells.lookup y.1 = some c) : closureFor scope env = pure (cloFrom env.cells scope.names []) := by
  simp only [closureFor]
  rw [closure_loop env _ (fun n k c => rfl) scope.names [] h]
  rfl

theorem mem_lookup {α : Type} : ∀ {l : List (Str × α)} {n : Str} {c : α}, (n, c) ∈ l → ∃ c', l.lookup n = some c'
  | (k, v) :: r, n, c, h => by
    rw [List.lookup_cons]
    cases hb : n == k with
    | true => exact ⟨_, rfl⟩
    | false =>
      rcases List.mem_cons.mp h with e | h
      · cases e; simp at hb
      · exact mem_lookup h

theorem cloFrom_mem {cells : List (Str × Addr)} : ∀ {names : List (Str × NameKind)} {acc : List (Str × Addr)} {n : Str} {c : Addr}, (n, c) ∈ cloFrom cells names acc → (n, c) ∈ acc ∨ ((n, .free) ∈ names ∧ c = (cells.lookup n).getD 0)
  | [], _, _, _, h => .inl h
  | (m, k) :: r, acc, n, c, h => by
    unfold cloFrom at h
    split at h
    · rename_i hk
      have hk : k = .free := by simpa using hk
      rcases cloFrom_mem h with h | ⟨h1, h2⟩
      · rcases List.mem_cons.mp h with e | h
        · cases e; exact .inr ⟨hk ▸ List.mem_cons_self, rfl⟩
        · exact .inl h
      · exact .inr ⟨List.mem_cons_of_mem _ h1, h2⟩
    · rcases cloFrom_mem h with h | ⟨h1, h2⟩
      · exact .inl h
      · exact .inr ⟨List.mem_cons_of_mem _ h1, h2⟩
theorem cloFrom_acc {cells : List (Str × Addr)} : ∀ {names : List (Str × NameKind)} {acc : List (Str × Addr)} {p : Str × Addr}, p ∈ acc → p ∈ cloFrom cells names acc
  | [], _, _, h => h
  | (m, k) :: r, acc, p, h => by
    unfold cloFrom
    split
    · exact cloFrom_acc (List.mem_cons_of_mem _ h)
    · exact cloFrom_acc h
theorem cloFrom_has {cells : List (Str × Addr)} : ∀ {names : List (Str × NameKind)} {acc : List (Str × Addr)} {n : Str}, (n, .free) ∈ names → (n, (cells.lookup n).getD 0) ∈ cloFrom cells names acc
  | (m, k) :: r, acc, n, h => by
    unfold cloFrom
    rcases List.mem_cons.mp h with e | h
    · cases e
      exact cloFrom_acc List.mem_cons_self
    · split
      · exact cloFrom_has h
      · exact cloFrom_has h

theorem cells_mem : ∀ {names : List (Str × NameKind)} {h : Heap} {acc : List (Str × Addr)} {x : Str} {c : Addr}, (x, c) ∈ cellsFrom h.objs.size names acc →
    (x, c) ∈ acc ∨ ((x, .cell) ∈ names ∧ h.objs.size ≤ c ∧ CellAt (pushCells h names) c none)
  | [], _, _, _, _, h => .inl h
  | (n, k) :: r, h, acc, x, c, hm => by
    unfold cellsFrom at hm
    unfold pushCells
    split at hm
    · rename_i hk
      rw [if_pos hk]
      have hk : k = .cell := by simpa using hk
      rw [← Heap.size_push h { cls := .type "cell", data := .cell none }] at hm
      rcases cells_mem hm with hm | ⟨h1, h2, h3⟩
      · rcases List.mem_cons.mp hm with e | hm
        · cases e
          exact .inr ⟨hk ▸ List.mem_cons_self, Nat.le_refl _, _, pushCells_keeps r _ _ _ (Heap.get?_push_size _ rfl), rfl⟩
        · exact .inl hm
      · rw [Heap.size_push] at h2
        exact .inr ⟨List.mem_cons_of_mem _ h1, Nat.le_of_succ_le h2, h3⟩
    · rename_i hk
      rw [if_neg hk]
      rcases cells_mem hm with hm | ⟨h1, h2, h3⟩
      · exact .inl hm
      · exact .inr ⟨List.mem_cons_of_mem _ h1, h2, h3⟩
theorem cells_acc : ∀ {names : List (Str × NameKind)} {n : Nat} {acc : List (Str × Addr)} {p : Str × Addr}, p ∈ acc → p ∈ cellsFrom n names acc
  | [], _, _, _, h => h
  | (m, k) :: r, n, acc, p, h => by
    unfold cellsFrom
    split
    · exact cells_acc (List.mem_cons_of_mem _ h)
    · exact cells_acc h
theorem cells_has : ∀ {names : List (Str × NameKind)} {n : Nat} {acc : List (Str × Addr)} {x : Str}, (x, .cell) ∈ names → ∃ c, (x, c) ∈ cellsFrom n names acc
  | (m, k) :: r, n, acc, x, h => by
    unfold cellsFrom
    rcases List.mem_cons.mp h with e | h
    · cases e
      exact ⟨n, cells_acc List.mem_cons_self⟩
    · split
      · exact cells_has h
      · exact cells_has h
theorem cells_inj : ∀ {names : List (Str × NameKind)} {h : Heap} {acc : List (Str × Addr)} {x y : Str} {c : Addr}, (∀ p ∈ acc, p.2 < h.objs.size) → (∀ x y c, (x, c) ∈ acc → (y, c) ∈ acc → x = y) →
    (x, c) ∈ cellsFrom h.objs.size names acc → (y, c) ∈ cellsFrom h.objs.size names acc → x = y
  | [], _, _, _, _, _, _, hi, h1, h2 => hi _ _ _ h1 h2
  | (n, k) :: r, h, acc, x, y, c, hl, hi, h1, h2 => by
    unfold cellsFrom at h1 h2
    split at h1
    · rename_i hk
      rw [if_pos hk] at h2
      rw [← Heap.size_push h { cls := .type "cell", data := .cell none }] at h1 h2
      refine cells_inj (h := h.push _) (fun p hp => ?_) (fun x y c a b => ?_) h1 h2
      · rw [Heap.size_push]
        rcases List.mem_cons.mp hp with rfl | hp
        · exact Nat.lt_succ_self _
        · exact Nat.lt_succ_of_lt (hl p hp)
      · rcases List.mem_cons.mp a with e | a <;> rcases List.mem_cons.mp b with e' | b
        · cases e; cases e'; rfl
        · cases e; exact absurd (hl _ b) (Nat.lt_irrefl _)
        · cases e'; exact absurd (hl _ a) (Nat.lt_irrefl _)
        · exact hi _ _ _ a b
    · rename_i hk
      rw [if_neg hk] at h2
      exact cells_inj hl hi h1 h2

theorem newEnv_comp {M : Model} {A : Around} {E : Value → Shared → Prop} {s : Shared} {scope : Scope} {globals : Addr} {closure : List (Str × Addr)} {qual : Str} {func : Option Addr} {code : Value} {around : Env} {builtins : Addr} {Q : Env → Shared → Prop}
    (h : Q (newEnv scope s.heap.objs.size globals (cellsFrom (s.heap.objs.size + 1) scope.names closure) qual func code (some around) builtins)
      { s with heap := pushCells (s.heap.push { cls := .type "dict", data := .dict #[] }) scope.names }) :
    wpAny M A (newFunctionEnv scope globals closure [] qual func code (some around) builtins) Q E s := by
  simp only [newFunctionEnv, Option.isSome_some, if_true]
  refine wpAny_bind (wpAny_alloc ?_)
  refine wpAny_bind (wpAny_layCells _ (fun n k c => rfl) scope.names closure _ _ ?_)
  rw [show ({ s with heap := s.heap.push { cls := .type "dict", data := .dict #[] } } : Shared).heap.objs.size = s.heap.objs.size + 1 from Heap.size_push ..]
  rw [List.forIn_nil]
  exact wpAny_bind (wpAny_pure (wpAny_pure h))

/-- every name of the written scope, in the scope that runs -/
theorem lookup_relS {sc : Scope} : ∀ {names : List (Str × NameKind)} {x : Str} {k : NameKind},
    (names.map fun (n, k) => if (k == NameKind.free && sc.kind == .function && sc.names.lookup n == some .cell) then (n, NameKind.cell) else (n, k)).lookup x = some k →
    ∃ k', names.lookup x = some k' ∧ (k = k' ∨ (k' = .free ∧ k = .cell))
  | [], _, _, h => by simp at h
  | (n, k₀) :: r, x, k, h => by
    have ih := @lookup_relS sc r x k
    have h' : List.lookup x ((if (k₀ == NameKind.free && sc.kind == .function && sc.names.lookup n == some .cell) = true then (n, NameKind.cell) else (n, k₀)) :: (r.map _)) = some k := h
    cases hx : x == n with
    | true =>
      simp only [List.lookup_cons, hx]
      by_cases hc : (k₀ == NameKind.free && sc.kind == .function && sc.names.lookup n == some .cell) = true
      · rw [if_pos hc] at h'
        simp only [List.lookup_cons, hx] at h'
        cases h'
        simp only [Bool.and_eq_true, beq_iff_eq] at hc
        exact ⟨k₀, rfl, .inr ⟨hc.1.1, rfl⟩⟩
      · rw [if_neg hc] at h'
        simp only [List.lookup_cons, hx] at h'
        cases h'
        exact ⟨_, rfl, .inl rfl⟩
    | false =>
      simp only [List.lookup_cons, hx]
      by_cases hc : (k₀ == NameKind.free && sc.kind == .function && sc.names.lookup n == some .cell) = true
      · rw [if_pos hc] at h'
        simp only [List.lookup_cons, hx] at h'
        exact ih h'
      · rw [if_neg hc] at h'
        simp only [List.lookup_cons, hx] at h'
        exact ih h'
/-- the names of a comprehension's block: its own (with their places in N), or captured -/
structure BlkOk (N : List Str) (sc scope : Scope) (own : List (Str × Nat)) : Prop where
  kind : scope.kind = .function
  uniq : ∀ y ∈ scope.names, scope.names.lookup y.1 = some y.2
  ix : ∀ p ∈ own, N[p.2]? = some p.1
  free : ∀ y ∈ scope.names, y.2 = .free → sc.names.lookup y.1 = some .cell ∨ sc.names.lookup y.1 = some .free
  own : ∀ y ∈ scope.names, y.2 = .local ∨ y.2 = .cell → y.1 ∈ own.map (·.1) ∨ y.1 ∉ N
/-- the slots of the block's own names forgotten -/
def wipe (σ : St) : List Nat → St
  | [] => σ
  | v :: vs => (wipe σ vs).set v none
theorem wipe_length (σ : St) : ∀ vs : List Nat, (wipe σ vs).length = σ.length
  | [] => rfl
  | v :: vs => by unfold wipe; rw [List.length_set, wipe_length σ vs]
theorem wipe_some {σ : St} {i : Nat} {x : V} : ∀ {vs : List Nat}, (wipe σ vs)[i]? = some (some x) → σ[i]? = some (some x) ∧ i ∉ vs
  | [], h => ⟨h, by simp⟩
  | v :: vs, h => by
    unfold wipe at h
    by_cases hi : v = i
    · subst hi
      by_cases hv : v < (wipe σ vs).length
      · rw [List.getElem?_set_self hv] at h; cases h
      · rw [List.getElem?_eq_none (by simpa using hv)] at h; cases h
    · rw [List.getElem?_set_ne hi] at h
      obtain ⟨h1, h2⟩ := wipe_some h
      exact ⟨h1, by simp only [List.mem_cons, not_or]; exact ⟨fun e => hi e.symm, h2⟩⟩

/-- the context of a block that starts at s, its iterator's objects at fp -/
abbrev Cx.blk (X : Cx) (s : Shared) (H : Hp) (scope : Scope) (cenv : Env) (fp : List Addr) : Cx := { X with s_0 := s, H_0 := H, env := cenv, outer := X.stack, ex := fp, fn := fun x => scope.names.lookup x == some .cell, pn := [], xe := fun _ _ => False }
section
variable {X : Cx} {pins : List (Addr × Obj)} {σ : St} {H : Hp} {s : Shared}
theorem block_start {scope : Scope} {own : List (Str × Nat)} {fp : List Addr} (I : Inv X pins σ H s) (ok : BlkOk X.N X.env.scope scope own) (hN : X.N.Nodup) (hfp : ∀ b ∈ fp, FpOk X pins H b ∧ b < s.heap.objs.size) :
    Inv (X.blk s H scope (compEnvC scope (cellsFrom (s.heap.objs.size + 1) scope.names (cloFrom X.env.cells scope.names [])) s.heap.objs.size X.env) fp) [] (wipe σ (own.map (·.2))) H { s with heap := pushCells (s.heap.push { cls := .type "dict", data := .dict #[] }) scope.names } := by
  have hfree : ∀ y ∈ scope.names, y.2 = .free → ∃ c, X.env.cells.lookup y.1 = some c := fun y hy e => by
    rcases ok.free y hy e with k | k
    · exact I.ok.has _ (.inl k)
    · exact I.ok.has _ (.inr k)
  generalize hcenv : compEnvC scope (cellsFrom (s.heap.objs.size + 1) scope.names (cloFrom X.env.cells scope.names [])) s.heap.objs.size X.env = cenv
  have kp : ∀ b o, s.heap.get? b = some o → (pushCells (s.heap.push { cls := .type "dict", data := .dict #[] }) scope.names).get? b = some o := fun b o e => pushCells_keeps _ _ _ _ (Heap.get?_push_of_some _ e)
  have hL : cenv.locals = s.heap.objs.size := by rw [← hcenv]; rfl
  have hcl : cenv.cells = cellsFrom (s.heap.objs.size + 1) scope.names (cloFrom X.env.cells scope.names []) := by rw [← hcenv]; rfl
  have hsc : cenv.scope = relS scope X.env.scope := by rw [← hcenv]; rfl
  rw [← Heap.size_push s.heap { cls := .type "dict", data := .dict #[] }] at hcl
  have cm : ∀ {y c}, (y, c) ∈ cloFrom X.env.cells scope.names [] → X.env.cells.lookup y = some c ∧ c < s.heap.objs.size := fun {y c} hm => by
    rcases cloFrom_mem hm with hm | ⟨h1, rfl⟩
    · cases hm
    · obtain ⟨c, hc⟩ := hfree _ h1 rfl
      rw [hc]
      obtain ⟨w, z⟩ := I.cell _ _ hc
      exact ⟨rfl, z.lt⟩
  have mem : ∀ {y c}, cenv.cells.lookup y = some c → (X.env.cells.lookup y = some c ∧ c < s.heap.objs.size) ∨ (s.heap.objs.size + 1 ≤ c ∧ CellAt (pushCells (s.heap.push { cls := .type "dict", data := .dict #[] }) scope.names) c none) := fun {y c} e => by
    rw [hcl] at e
    rcases cells_mem (PySem.mem_of_lookup e) with hm | ⟨_, h2, h3⟩
    · exact .inl (cm hm)
    · rw [Heap.size_push] at h2; exact .inr ⟨h2, h3⟩
  have look : ∀ {y}, scope.names.lookup y = some .free → ∃ c, cenv.cells.lookup y = some c ∧ X.env.cells.lookup y = some c := fun {y} hl => by
    have hy : (y, NameKind.free) ∈ scope.names := PySem.mem_of_lookup hl
    obtain ⟨c', e'⟩ := mem_lookup (cells_acc (names := scope.names) (n := (s.heap.push { cls := .type "dict", data := .dict #[] }).objs.size) (cloFrom_has (cells := X.env.cells) (acc := []) hy))
    rw [← hcl] at e'
    refine ⟨c', e', ?_⟩
    rw [hcl] at e'
    rcases cells_mem (PySem.mem_of_lookup e') with hm | ⟨h1, _, _⟩
    · exact (cm hm).1
    · have := ok.uniq _ h1
      rw [hl] at this; cases this
  have okB : (X.blk s H scope cenv fp).Ok := by
    refine ⟨I.ok.mod, by show cenv.scope.kind = _; rw [hsc]; exact ok.kind, by show cenv.globals = _; rw [← hcenv]; exact I.ok.glob, by show cenv.builtins = _; rw [← hcenv]; exact I.ok.blt, by show s.heap.objs.size ≤ cenv.locals; rw [hL]; exact Nat.le_refl _,
      fun y z c e1 e2 => ?_, fun y hy => ?_, fun y c z e => ?_, I.ok.hd, I.ok.frames, .inl rfl, fun b hb => ⟨?_, fun y c e z => ?_⟩, I.bs, Nat.le_trans I.ok.bsz I.sz, fun b o e hb => ?_, fun b hb z => ?_, I.stack, I.stkFree⟩
    · have e1 : cenv.cells.lookup y = some c := e1
      have e2 : cenv.cells.lookup z = some c := e2
      rw [hcl] at e1 e2
      refine cells_inj (fun p hp => ?_) (fun y z c a b => I.ok.inj y z c (cm a).1 (cm b).1) (PySem.mem_of_lookup e1) (PySem.mem_of_lookup e2)
      rw [Heap.size_push]
      exact Nat.lt_succ_of_lt (cm (y := p.1) (c := p.2) hp).2
    · show ∃ c, cenv.cells.lookup y = some c
      have key : ∀ k, cenv.kindOf y = some k → (k = .cell ∨ k = .free) → ∃ c, cenv.cells.lookup y = some c := fun k hk hk' => by
        unfold Env.kindOf at hk
        rw [hsc] at hk
        obtain ⟨k', e, r⟩ := lookup_relS hk
        have : k' = .cell ∨ k' = .free := by
          rcases r with rfl | ⟨rfl, _⟩
          · exact hk'
          · exact .inr rfl
        rcases this with rfl | rfl
        · obtain ⟨c, hm⟩ := cells_has (n := (s.heap.push { cls := .type "dict", data := .dict #[] }).objs.size) (acc := cloFrom X.env.cells scope.names []) (PySem.mem_of_lookup e)
          obtain ⟨c', e'⟩ := mem_lookup hm
          exact ⟨c', by rw [hcl]; exact e'⟩
        · obtain ⟨c, h1, _⟩ := look e
          exact ⟨c, h1⟩
      rcases hy with hy | hy
      · exact key _ hy (.inl rfl)
      · exact key _ hy (.inr rfl)
    · have z : (scope.names.lookup y == some NameKind.cell) = true := z
      have z : scope.names.lookup y = some .cell := by simpa using z
      have e : cenv.cells.lookup y = some c := e
      rw [hcl] at e
      rcases cells_mem (PySem.mem_of_lookup e) with hm | ⟨_, h2, _⟩
      · rcases cloFrom_mem hm with hm | ⟨h1, _⟩
        · cases hm
        · have q := ok.uniq _ h1
          rw [z] at q; cases q
      · rw [Heap.size_push] at h2
        exact Nat.le_of_succ_le h2
    · show b ≠ cenv.locals
      rw [hL]; exact Nat.ne_of_lt (hfp b hb).2
    · have e : cenv.cells.lookup y = some c := e
      rcases mem e with ⟨h1, _⟩ | ⟨h1, _⟩
      · exact (hfp b hb).1.2.2.2.2.1 y c h1 z
      · have h2 : s.heap.objs.size + 1 ≤ b := by rw [← z]; exact h1
        exact absurd (Nat.lt_of_lt_of_le (hfp b hb).2 (Nat.le_of_succ_le h2)) (Nat.lt_irrefl _)
    · rcases (hfp b hb).1.2.2.2.1 with z | z
      · exact I.ok.noex b o e z
      · exact absurd (Nat.lt_of_lt_of_le (Heap.lt_size e) (Nat.le_trans I.ok.bsz z)) (Nat.lt_irrefl _)
    · rcases List.mem_cons.mp (I.stkSub b z) with z | z
      · exact (hfp b hb).1.2.1 z
      · exact (hfp b hb).1.2.2.1 z
  refine ⟨okB, rfl, I.bare, Un.kept kp, ⟨fun _ => none, ?_, fun i y av e1 e2 e3 => ?_⟩, fun y c e => ?_, ?_, fun y c e => ?_, fun p hp => ?_, I.hok.kept kp, by rw [wipe_length]; exact I.len⟩
  · show Heap.Ns _ cenv.locals _
    rw [hL]
    exact Heap.Ns.keeps (Heap.Ns.new ..) fun b o e => pushCells_keeps _ _ _ _ e
  · obtain ⟨e2, hne⟩ := wipe_some e2
    have hfr : scope.names.lookup y = some .free ∧ (cenv.kindOf y = some .cell ∨ cenv.kindOf y = some .free) := by
      have key : ∀ k, cenv.scope.names.lookup y = some k → k = .local ∨ k = .cell ∨ k = .free → scope.names.lookup y = some .free ∧ (cenv.kindOf y = some .cell ∨ cenv.kindOf y = some .free) := fun k hk hk' => by
        have hk0 := hk
        rw [hsc] at hk
        obtain ⟨k', e, r⟩ := lookup_relS hk
        have no : ¬ (k' = .local ∨ k' = .cell) := fun hh => by
          rcases ok.own _ (PySem.mem_of_lookup e) hh with e' | e'
          · obtain ⟨p, hp, hpy⟩ := List.mem_map.mp e'
            have e3 := ok.ix p hp
            have : p.1 = y := hpy
            rw [this] at e3
            exact hne (List.mem_map.mpr ⟨p, hp, nodup_ix hN e3 e1⟩)
          · exact e' (List.mem_of_getElem? e1)
        rcases r with rfl | ⟨rfl, rfl⟩
        · rcases hk' with rfl | rfl | rfl
          · exact absurd (.inl rfl) no
          · exact absurd (.inr rfl) no
          · exact ⟨e, .inr hk0⟩
        · exact ⟨e, .inl hk0⟩
      have e3 : Vis cenv.scope y := e3
      rcases e3 with e3 | e3 | e3
      · exact key _ e3 (.inl rfl)
      · exact key _ e3 (.inr (.inl rfl))
      · exact key _ e3 (.inr (.inr rfl))
    obtain ⟨m, hn, hl⟩ := I.loc
    have hvis : Vis X.env.scope y := (ok.free _ (PySem.mem_of_lookup hfr.1) rfl).elim (fun k => .inr (.inl k)) (fun k => .inr (.inr k))
    obtain ⟨w, r, q⟩ := hl i y av e1 e2 hvis
    refine ⟨w, r, .inr ⟨hfr.2, ?_⟩⟩
    obtain ⟨c, h1, h2⟩ := look hfr.1
    rcases q with ⟨k, _⟩ | ⟨_, c', e', z⟩
    · have k : X.env.scope.names.lookup y = some .local := k
      rcases ok.free _ (PySem.mem_of_lookup hfr.1) rfl with k' | k' <;> rw [show X.env.scope.names.lookup y = _ from k'] at k <;> cases k
    · rw [h2] at e'; cases e'
      exact ⟨c, h1, z.keeps kp⟩
  · have e : cenv.cells.lookup y = some c := e
    rcases mem e with ⟨h1, _⟩ | ⟨_, z⟩
    · obtain ⟨w, z⟩ := I.cell y c h1
      exact ⟨w, z.keeps kp⟩
    · exact ⟨_, z⟩
  · show H cenv.locals = none
    rw [hL]; exact I.hok.fresh (Nat.le_refl _)
  · have e : cenv.cells.lookup y = some c := e
    rcases mem e with ⟨h1, _⟩ | ⟨h1, _⟩
    · exact I.freeC y c h1
    · exact I.hok.fresh (Nat.le_of_succ_le h1)
  · exact absurd (show p ∈ ([] : List (Addr × Obj)) ++ [] from hp) (by simp)

/-- an item appended to a tracked list -/
theorem app_ok {E : Value → Shared → Prop} {D : Addr} {xs : List V} {y : V} {v : Value} {Q : Value → Shared → Prop} (I : Inv X pins σ H s) (hD : H D = some (.lst xs)) (hz : xs.length < sizeLine) (r : RelV y v)
    (h : ∀ s', Inv X pins σ (upd H D (.lst (xs ++ [y]))) s' → Q .none s') : wpAny (model X.prog X.w) X.A (call (.builtin "list.append") [.ref D, v]) Q E s := by
  obtain ⟨hz', its, n, ri, e⟩ := I.hok D _ hD
  have hl := ri.length
  refine append_at (hsz := by rw [List.size_toArray]; omega) e fun h' sb ho' => ?_
  refine h { s with heap := h' } (I.write (t' := s.toks) (by rw [hD]; trivial) (.inl rfl) (fun b u hb q => (sb.2 b hb).trans q) ⟨_, ho'⟩ ⟨by rw [List.length_append]; exact hz, its ++ [v], n + 1, ri.append (.cons r .nil), ?_⟩)
  rw [ho']
  simp

/-- a clause's tests -/
def PTs (X : Cx) (ifs : List Expr) (t : TT) : Prop :=
  ∀ (pins : List (Addr × Obj)) (s : Shared) (σ : St) (H : Hp) (Q : Bool → Hp → Prop), Inv X pins σ H s → t σ H Q →
    wpAny (model X.prog X.w) X.A (forIn ifs true fun c r => if r = true then do let ok ← isTrue c X.env (eval c X.env); pure (ForInStep.yield ok) else pure (ForInStep.yield r)) (TP X pins σ Q) X.xe s
def tYes : TT := fun _ H Q => Q true H
theorem pts_nil : PTs X [] tYes := fun _ _ _ H _ I h => wpAny_tests_nil ⟨H, I, h⟩
theorem pts_one {c : Expr} {t : TT} (h : PT X c t) : PTs X [c] t := fun pins s σ H Q I hw => wpAny_tests_one (h pins s σ H Q I hw)
end

theorem thnF {α : Type} {t : Sem α} {Q Q' : α → Shared → Prop} {M : Model} {A : Around} {E : Value → Shared → Prop} {s : Shared} (h : wpAny M A t Q (fun _ _ => False) s) (hQ : ∀ a s, Q a s → Q' a s) : wpAny M A t Q' E s := wpAny_mono h hQ fun _ _ z => False.elim z

/-- the loop of a list comprehension's block, the target of any form (codeAny_compLoop_tests asks a target that no tuple goes to; statement and proof follow it, PyProof/CompMap.lean:41-61, with the step letOwnedTupleGo kept) -/
theorem compLoop_any {prog : Program} {w : World} {A : Around} {R : Result → Shared → Prop} {s : Shared} {elt target iter : Expr} {ifs : List Expr} {scope : Scope} {pos : Pos} {it acc : Value} {env : Env} (I : Nat → Shared → Prop)
    (turn : ∀ n s, I n s → wpAny (model prog w) A (pyNext it) (fun r s₁ => match r with
      | none => R (.ok .next) s₁
      | some v => wpAny (model prog w) A (letOwnedTupleGo target it v) (fun _ s₁' => wpAny (model prog w) A (assign target env v) (fun _ s₂ =>
          wpAny (model prog w) A (forIn ifs true fun c r => if r = true then do let ok ← isTrue c env (eval c env); pure (ForInStep.yield ok) else pure (ForInStep.yield r)) (fun ok s₃ =>
            if ok = true then wpAny (model prog w) A (eval elt env) (fun x s₄ =>
              wpAny (model prog w) A (call (.builtin "list.append") [acc, x]) (fun _ s₅ => ∃ m, m < n ∧ I m s₅) (notedBy (model prog w) A env fun e s' => R (.error e) s') s₄) (notedBy (model prog w) A env fun e s' => R (.error e) s') s₃
            else ∃ m, m < n ∧ I m s₃) (notedBy (model prog w) A env fun e s' => R (.error e) s') s₂) (notedBy (model prog w) A env fun e s' => R (.error e) s') s₁') (notedBy (model prog w) A env fun e s' => R (.error e) s') s₁) (notedBy (model prog w) A env fun e s' => R (.error e) s') s)
    (n : Nat) (h : I n s) :
    codeAny (model prog w) A (.compLoop (.ListComp elt [⟨target, iter, ifs, 0⟩] scope pos) 0 it acc env) R s := by
  refine codeAny_loop rfl I (fun n s hI => ?_) n h
  show wpAny _ A ((compTurn (.ListComp elt [⟨target, iter, ifs, 0⟩] scope pos) 0 it acc env).onRaise (fun x => do noteFrame x env; theTreesLotGoes x)) _ _ s
  refine wpAny_noted ?_
  rw [compTurn_list]
  refine wpAny_bind (wpAny_standAt (wpAny_bind (wpAny_mono (turn n s hI) (fun r s₁ h₁ => ?_) fun _ _ h' => h')))
  cases r with
  | none => exact wpAny_pure h₁
  | some v =>
    refine wpAny_bind (wpAny_mono h₁ (fun _ s₁' h₁' => ?_) fun _ _ h' => h')
    refine wpAny_bind (wpAny_mono h₁' (fun _ s₂ h₂ => wpAny_bind (wpAny_mono h₂ (fun ok s₃ h₃ => ?_) fun _ _ h' => h')) fun _ _ h' => h')
    cases ok with
    | false => exact wpAny_pure ⟨rfl, h₃⟩
    | true =>
      exact wpAny_bind (wpAny_bind (wpAny_mono h₃ (fun x s₄ h₄ => wpAny_bind (wpAny_mono h₄ (fun _ s₅ h₅ => wpAny_pure (wpAny_pure ⟨rfl, h₅⟩)) fun _ _ h' => h')) fun _ _ h' => h'))

section
variable {X : Cx}
/-- [elt for target in iter if ..]: D the new list; W by the turn and a measure, Nx what a turn is to reach -/
def tLc (wi : TI) (g : TG) (tt : TT) (te : TE) (vs : List Nat) : TE := fun σ H Q => wi σ H fun J H1 => ∀ D, H1 D = none → ∃ W : Nat → Nat → Hp → Prop, (∃ m, W 0 m (upd H1 D (.lst []))) ∧ ∀ i m H, W i m H →
  (J.stop i H ∧ Q (.ref D) H) ∨ (J.go i H ∧ ∃ Nx : Hp → Prop, (∀ H', Nx H' → ∃ m', m' < m ∧ W (i + 1) m' H') ∧ ∀ x H', J.yld i H x H' → g x (wipe σ vs) H' fun σ2 H2 => wipe σ2 vs = wipe σ vs ∧ tt σ2 H2 fun b H3 =>
    if b = true then te σ2 H3 fun y H4 => ∃ acc, H4 D = some (.lst acc) ∧ acc.length < sizeLine ∧ Nx (upd H4 D (.lst (acc ++ [y]))) else Nx H3)
theorem lc_core {pins : List (Addr × Obj)} {s : Shared} {σ : St} {H : Hp} {Q : VK} {elt tg iter : Expr} {ifs : List Expr} {scope : Scope} {own : List (Str × Nat)} {pos pos' : Pos} {wi : TI} {g : TG} {tt : TT} {te : TE} {use : Option (Value → Sem Unit)} {Qf : Value → Shared → Prop}
    (hc : X.calm = true) (hN : X.N.Nodup) (I : Inv X pins σ H s) (hi : PI X tg iter wi) (ok : BlkOk X.N X.env.scope scope own)
    (hg : ∀ (s : Shared) (H : Hp) (C : Addr) (cl : List (Str × Addr)) (fp : List Addr), PG (X.blk s H scope (compEnvC scope cl C X.env) fp) tg g) (ht : ∀ (s : Shared) (H : Hp) (C : Addr) (cl : List (Str × Addr)) (fp : List Addr), PTs (X.blk s H scope (compEnvC scope cl C X.env) fp) ifs tt)
    (he : ∀ (s : Shared) (H : Hp) (C : Addr) (cl : List (Str × Addr)) (fp : List Addr), PE (X.blk s H scope (compEnvC scope cl C X.env) fp) elt te) (hs : ∀ x, foldedSetIterable iter X.env x = pure x)
    (h : tLc wi g tt te (own.map (·.2)) σ H Q)
    (hRR : ∀ D C s' m H', Inv X pins σ H' s' → Q (.ref D) H' → s'.heap.Ns C m → FpOk X pins H' C → compPost (model X.prog X.w) X.A X.xe use Qf (.ref D) C (.ok .next) s') :
    wpAny (model X.prog X.w) X.A (comprehension (.ListComp elt [⟨tg, iter, ifs, 0⟩] scope pos) scope X.env pos' (newList []) false (eval iter X.env) use) Qf X.xe s := by
  have hfree : ∀ y ∈ scope.names, y.2 = .free → ∃ c, X.env.cells.lookup y.1 = some c := fun y hy e => by
    rcases ok.free y hy e with k | k
    · exact I.ok.has _ (.inl k)
    · exact I.ok.has _ (.inr k)
  refine wpAny_comprehension_free (use := use) rfl hs (closure_ok hfree) ok.kind (fun y hy e => by rw [ok.uniq y hy, e])
    (thn (hi pins s σ H _ I h) fun xv s1 hx => thn hx fun itv s2 h2 => ?_)
  obtain ⟨it, fp, tn, J, H2, e, I2, T, st2, f2, q⟩ := h2
  subst e
  refine wpAny_newObj_type (newEnv_comp ?_) (by show 0 ≤ sizeLine; decide)
  generalize hD : s2.heap.objs.size = D
  have hDn : H2 D = none := I2.hok.fresh (Nat.le_of_eq hD)
  obtain ⟨W, ⟨m0, w0⟩, turn⟩ := q D hDn
  -- the new list
  generalize hs3 : ({ s2 with heap := s2.heap.push { cls := .type "list", data := .seq ([] : List Value).toArray } } : Shared) = s3
  have I3 : Inv X pins σ (upd H2 D (.lst [])) s3 := by
    rw [← hs3]
    refine I2.laid (t' := s2.toks) (fun b o e => Heap.get?_push_of_some _ e) (Nat.le_of_eq hD) ⟨Nat.zero_le _, [], 0, .nil, ?_⟩
    rw [← hD]
    exact Heap.get?_push_size _ rfl
  have h3 : s3.heap = s2.heap.push { cls := .type "list", data := .seq ([] : List Value).toArray } := by rw [← hs3]
  have sz : ∀ b ∈ fp, b < s2.heap.objs.size := fun b hb => by
    obtain ⟨o, e, _⟩ := T.obj _ _ st2 b hb
    exact Heap.lt_size e
  have f3 : ∀ b ∈ fp, FpOk X pins (upd H2 D (.lst [])) b ∧ b < s3.heap.objs.size := fun b hb => by
    have hlt := sz b hb
    refine ⟨⟨?_, (f2 b hb).2⟩, by rw [h3, Heap.size_push]; exact Nat.lt_succ_of_lt hlt⟩
    rw [upd_ne (by rw [← hD]; exact Nat.ne_of_lt hlt)]
    exact (f2 b hb).1
  have st3 : tn 0 s3.heap := T.keep _ _ _ st2 fun b _ o e => by rw [h3]; exact Heap.get?_push_of_some _ e
  have I4 := block_start I3 ok hN f3
  have pg := hg s3 (upd H2 D (.lst [])) s3.heap.objs.size (cellsFrom (s3.heap.objs.size + 1) scope.names (cloFrom X.env.cells scope.names [])) fp
  have pt := ht s3 (upd H2 D (.lst [])) s3.heap.objs.size (cellsFrom (s3.heap.objs.size + 1) scope.names (cloFrom X.env.cells scope.names [])) fp
  have pe := he s3 (upd H2 D (.lst [])) s3.heap.objs.size (cellsFrom (s3.heap.objs.size + 1) scope.names (cloFrom X.env.cells scope.names [])) fp
  show codeAny _ _ (.compStart (.ListComp elt [⟨tg, iter, ifs, 0⟩] scope pos) 0 (.ref it) (.ref D) (compEnvC scope (cellsFrom (s3.heap.objs.size + 1) scope.names (cloFrom X.env.cells scope.names [])) s3.heap.objs.size X.env)) (compPost (model X.prog X.w) X.A X.xe use Qf (.ref D) s3.heap.objs.size) { s3 with heap := pushCells (s3.heap.push { cls := .type "dict", data := .dict #[] }) scope.names }
  have nfp : ∀ b ∈ fp, (upd H2 D (.lst [])) b = none := fun b hb => (f3 b hb).1.1
  generalize hce : compEnvC scope (cellsFrom (s3.heap.objs.size + 1) scope.names (cloFrom X.env.cells scope.names [])) s3.heap.objs.size X.env = ce at I4 pg pt pe ⊢
  have cL : ce.locals = s3.heap.objs.size := by subst hce; rfl
  generalize hH3 : upd H2 D (.lst []) = H3 at I3 I4 pg pt pe w0 nfp f3
  generalize hs4 : ({ s3 with heap := pushCells (s3.heap.push { cls := .type "dict", data := .dict #[] }) scope.names } : Shared) = s4 at I4 ⊢
  have st4 : tn 0 s4.heap := T.keep _ _ _ st3 fun b _ o e => by rw [← hs4]; exact pushCells_keeps _ _ _ _ (Heap.get?_push_of_some _ e)
  have stat : ∀ {σ' : St} {H' : Hp} {s' : Shared}, Inv (X.blk s3 H3 scope ce fp) [] σ' H' s' → (∀ b ∈ fp, H' b = none) → ∀ b ∈ fp, FpOk (X.blk s3 H3 scope ce fp) [] H' b := fun {σ' H' s'} I' hn b hb =>
    ⟨hn b hb, (I'.ok.exf b hb).1, I'.ok.exfs b hb, .inl hb, fun x c e => (I'.ok.exf b hb).2 x c e, fun p hp => absurd (show p ∈ ([] : List (Addr × Obj)) ++ [] from hp) (by simp)⟩
  have loop : codeAny (model X.prog X.w) X.A (.compLoop (.ListComp elt [⟨tg, iter, ifs, 0⟩] scope pos) 0 (.ref it) (.ref D) ce) (compPost (model X.prog X.w) X.A X.xe use Qf (.ref D) s3.heap.objs.size) s4 := by
    refine compLoop_any (fun n s' => ∃ i H', Inv (X.blk s3 H3 scope ce fp) [] (wipe σ (own.map (·.2))) H' s' ∧ tn i s'.heap ∧ (∀ b ∈ fp, H' b = none) ∧ W i n H') ?_ m0 ⟨0, H3, I4, st4, nfp, w0⟩
    rintro n s5 ⟨i, H5, I5, st5, n5, w5⟩
    rcases turn i n H5 w5 with ⟨stop, qq⟩ | ⟨go, Nx, hNx, step⟩
    · have td := T.done (X.blk s3 H3 scope ce fp) rfl rfl rfl hc i [] s5 _ H5 (fun _ _ => False) I5 (stat I5 n5) st5 stop
      refine thnF td fun r s6 ⟨hr, I6⟩ => ?_
      subst hr
      -- back in the def's context
      have I7 : Inv X pins σ H5 s6 := I3.call' (ch := fp) I6.os I6.base I6.hok I6.bare fun b hb => ⟨(f3 b hb).1.2.2.2.1, (f3 b hb).1.2.1, (f3 b hb).1.2.2.2.2.1, (f3 b hb).1.2.2.2.2.2⟩
      have nC : H5 s3.heap.objs.size = none := by
        have z : H5 ce.locals = none := I6.free
        rw [cL] at z
        exact z
      obtain ⟨m, hn, _⟩ := I6.loc
      have hn : s6.heap.Ns ce.locals m := hn
      rw [cL] at hn
      exact hRR D s3.heap.objs.size s6 m H5 I7 qq hn (I3.fpOk (Nat.le_refl _) nC)
    · have ti := T.item (X.blk s3 H3 scope ce fp) rfl rfl rfl hc i [] s5 _ H5 (fun _ _ => False) I5 (stat I5 n5) st5 go
      refine thnF ti fun r s6 ⟨u, hr, h6⟩ => ?_
      subst hr
      refine thnF h6 fun _ s7 ⟨x, H7, I7, r7, y7, st7, n7⟩ => ?_
      have I7' := I7.pinned (stat I7 n7) (T.obj _ _ st7)
      refine thnF (pg _ s7 _ H7 x u _ I7' r7 (step x H7 y7)) fun _ s8 ⟨σ8, H8, I8, hw8, q8⟩ => ?_
      refine thnF (pt _ s8 σ8 H8 _ I8 q8) fun b s9 ⟨H9, I9, q9⟩ => ?_
      -- the turn's end
      have fin : ∀ {s' : Shared} {H' : Hp}, Inv (X.blk s3 H3 scope ce fp) ([] ++ pinsAt fp s7.heap) σ8 H' s' → Nx H' → ∃ m, m < n ∧ ∃ i H', Inv (X.blk s3 H3 scope ce fp) [] (wipe σ (own.map (·.2))) H' s' ∧ tn i s'.heap ∧ (∀ b ∈ fp, H' b = none) ∧ W i m H' := fun {s' H'} I' nx => by
        obtain ⟨m', hm, w'⟩ := hNx H' nx
        have pin' : ∀ b ∈ fp, ∀ o, s7.heap.get? b = some o → s'.heap.get? b = some o ∧ H' b = none := fun b hb o e =>
          let z := I'.pin (b, o) (List.mem_append_right _ (List.mem_append_right _ (mem_pinsAt hb e)))
          ⟨z.1, z.2.1⟩
        have hl : (wipe σ (own.map (·.2))).length = σ8.length := by rw [← hw8, wipe_length]
        refine ⟨m', hm, i + 1, H', (I'.unpinned (pins := [])).weak hl (fun j v e => ?_), T.keep _ _ _ st7 fun b hb o e => (pin' b hb o e).1, fun b hb => ?_, w'⟩
        · rw [← hw8] at e
          exact (wipe_some e).1
        · obtain ⟨o, e, _⟩ := T.obj _ _ st7 b hb
          exact (pin' b hb o e).2
      cases b with
      | false =>
        simp only [Bool.false_eq_true, if_false] at q9 ⊢
        exact fin I9 q9
      | true =>
        simp only [if_true] at q9 ⊢
        refine thnF (pe _ s9 σ8 H9 _ I9 q9) fun z s10 ⟨yv, H10, I10, r10, acc, hD10, hz10, nx⟩ => ?_
        exact app_ok (X := X.blk s3 H3 scope ce fp) I10 hD10 hz10 r10 fun s11 I11 => fin I11 nx
  exact codeAny_compStart_list loop (T.self X.A 0 _ _ _ st4 loop)
/-- as a value -/
theorem pe_lc {elt tg iter : Expr} {ifs : List Expr} {scope : Scope} {own : List (Str × Nat)} {pos : Pos} {wi : TI} {g : TG} {tt : TT} {te : TE} (hc : X.calm = true) (hN : X.N.Nodup) (hi : PI X tg iter wi) (ok : BlkOk X.N X.env.scope scope own)
    (hg : ∀ (s : Shared) (H : Hp) (C : Addr) (cl : List (Str × Addr)) (fp : List Addr), PG (X.blk s H scope (compEnvC scope cl C X.env) fp) tg g) (ht : ∀ (s : Shared) (H : Hp) (C : Addr) (cl : List (Str × Addr)) (fp : List Addr), PTs (X.blk s H scope (compEnvC scope cl C X.env) fp) ifs tt)
    (he : ∀ (s : Shared) (H : Hp) (C : Addr) (cl : List (Str × Addr)) (fp : List Addr), PE (X.blk s H scope (compEnvC scope cl C X.env) fp) elt te) (hs : ∀ x, foldedSetIterable iter X.env x = pure x := by intro _; rfl) :
    PE X (.ListComp elt [⟨tg, iter, ifs, 0⟩] scope pos) (tLc wi g tt te (own.map (·.2))) := by
  intro pins s σ H Q I h
  rw [eval_ListComp]
  refine lc_core hc hN I hi ok hg ht he hs h fun D C s' m H' I' q hn f => ⟨m, hn, fun h'' sb => ?_⟩
  obtain ⟨f0, f1, f2, f3, f4, f5⟩ := f
  exact ⟨.ref D, H', I'.turned (t' := s'.toks) (fun b o hb e => (sb.2 b hb).trans e) f0 f1 f3 f4 f5, rfl, q⟩
/-- name = [..] on one line, the name a local -/
theorem ps_setLc {i : Nat} {y : Str} {py : Pos} {elt tg iter : Expr} {ifs : List Expr} {scope : Scope} {own : List (Str × Nat)} {pos spos : Pos} {wi : TI} {g : TG} {tt : TT} {te : TE} (hc : X.calm = true) (hN : X.N.Nodup) (hy : X.N[i]? = some y) (hyl : X.env.scope.names.lookup y = some .local)
    (hsw : swapsWith (.ListComp elt [⟨tg, iter, ifs, 0⟩] scope pos) (some (.Name y py)) spos.line X.env = pure true) (hi : PI X tg iter wi) (ok : BlkOk X.N X.env.scope scope own)
    (hg : ∀ (s : Shared) (H : Hp) (C : Addr) (cl : List (Str × Addr)) (fp : List Addr), PG (X.blk s H scope (compEnvC scope cl C X.env) fp) tg g) (ht : ∀ (s : Shared) (H : Hp) (C : Addr) (cl : List (Str × Addr)) (fp : List Addr), PTs (X.blk s H scope (compEnvC scope cl C X.env) fp) ifs tt)
    (he : ∀ (s : Shared) (H : Hp) (C : Addr) (cl : List (Str × Addr)) (fp : List Addr), PE (X.blk s H scope (compEnvC scope cl C X.env) fp) elt te) (hs : ∀ x, foldedSetIterable iter X.env x = pure x := by intro _; rfl) :
    PS X (.Assign [.Name y py] (.ListComp elt [⟨tg, iter, ifs, 0⟩] scope pos) spos) (tAsg (tLc wi g tt te (own.map (·.2))) (gName i)) := by
  intro pins s σ H D I h
  rw [exec_Assign_Name_used _ _ _ _ hsw]
  refine wpAny_bind (wpAny_standAt (wpAny_bind ?_))
  show wpAny _ X.A (do let _ ← comprehension (.ListComp elt [⟨tg, iter, ifs, 0⟩] scope pos) scope X.env (firstIterPos [⟨tg, iter, ifs, 0⟩] pos) (newList []) false (eval iter X.env) (some (assign (.Name y py) X.env))) _ _ s
  have h : tLc wi g tt te (own.map (·.2)) σ H (fun x H1 => gName i x σ H1 D.nx) := h
  refine wpAny_bind (thn (lc_core (Qf := fun _ s' => SP X pins D .next s') hc hN I hi ok hg ht he hs h fun L C s' m H' I' q hn f => ?_) fun _ s' hq => wpAny_pure (wpAny_pure hq))
  show wpAny _ _ (assign (.Name y py) X.env (.ref L)) _ _ _
  refine wpAny_assign_Name (store_ok2 (v := V.ref L) I' hN hy (.inl hyl) rfl (fun s2 I2 ⟨a, sb, ha⟩ => ?_) (.inr hyl))
  obtain ⟨f0, f1, f2, f3, f4, f5⟩ := f
  have haC : C ≠ a := by
    rcases ha with z | z
    · rw [z]; exact f1
    · exact fun e => f4 y a z e.symm
  refine ⟨m, hn.sameBut sb haC, fun h3 sb3 => ?_⟩
  exact ⟨_, H', I2.turned (t' := s2.toks) (fun b o hb e => (sb3.2 b hb).trans e) f0 f1 f3 f4 f5, q⟩
theorem sw_true {elt : Expr} {gs : List Comprehension} {scope : Scope} {pos py : Pos} {y : Str} {l : Nat} {env : Env} (hk : env.scope.kind = .function) (hy : env.scope.names.lookup y = some .local) (hl : (py.line == pos.line) = true)
    (ha : (scope.names.any fun (n, k) => n == y && (k == .local || k == .cell)) = false) : swapsWith (.ListComp elt gs scope pos) (some (.Name y py)) l env = pure true := by
  have ky : env.kindOf y = some .local := hy
  have hb : env.blockKind = .function := by unfold Env.blockKind; rw [hk]; rfl
  unfold swapsWith
  simp only [hb, ky, ha, Expr.pos, hl]
  rfl
end

/-! ### the forms one uses -/
/-- over a range: Pv by the turn and the heap (the new list at D within) -/
theorem lc_range {lo : Int} {n : Nat} {g : TG} {tt : TT} {te : TE} {vs : List Nat} {σ : St} {H1 : Hp} {D : Addr} {Qd : Hp → Prop} (Pv : Nat → Hp → Prop) (h0 : Pv 0 (upd H1 D (.lst [])))
    (hs : ∀ i H, i < n → Pv i H → g (.int (lo + i)) (wipe σ vs) H fun σ2 H2 => wipe σ2 vs = wipe σ vs ∧ tt σ2 H2 fun b H3 =>
      if b = true then te σ2 H3 fun y H4 => ∃ acc, H4 D = some (.lst acc) ∧ acc.length < sizeLine ∧ Pv (i + 1) (upd H4 D (.lst (acc ++ [y]))) else Pv (i + 1) H3) (hd : ∀ H, Pv n H → Qd H) :
    ∃ W : Nat → Nat → Hp → Prop, (∃ m, W 0 m (upd H1 D (.lst []))) ∧ ∀ i m H, W i m H →
      ((Itr lo n).stop i H ∧ Qd H) ∨ ((Itr lo n).go i H ∧ ∃ Nx : Hp → Prop, (∀ H', Nx H' → ∃ m', m' < m ∧ W (i + 1) m' H') ∧ ∀ x H', (Itr lo n).yld i H x H' → g x (wipe σ vs) H' fun σ2 H2 => wipe σ2 vs = wipe σ vs ∧ tt σ2 H2 fun b H3 =>
        if b = true then te σ2 H3 fun y H4 => ∃ acc, H4 D = some (.lst acc) ∧ acc.length < sizeLine ∧ Nx (upd H4 D (.lst (acc ++ [y]))) else Nx H3) := by
  refine ⟨fun i m H => m = n - i ∧ i ≤ n ∧ Pv i H, ⟨n, by simp, Nat.zero_le _, h0⟩, ?_⟩
  rintro i m H ⟨rfl, hi, p⟩
  by_cases hlt : i < n
  · refine .inr ⟨hlt, Pv (i + 1), fun H' p' => ⟨n - (i + 1), by omega, rfl, hlt, p'⟩, fun x H' y => ?_⟩
    obtain ⟨e, y⟩ := y
    subst e y
    exact hs i _ hlt p
  · have e : i = n := by omega
    subst e
    exact .inl ⟨Nat.le_refl _, hd H p⟩
/-- over a list that the block leaves as it is -/
theorem lc_list {K : PySem.W.Frag} {a : Addr} {xs : List V} {g : TG} {tt : TT} {te : TE} {vs : List Nat} {σ : St} {H1 : Hp} {D : Addr} {Qd : Hp → Prop} (Pv : Nat → Hp → Prop) (h0 : Pv 0 (upd H1 D (.lst []))) (hl : ∀ i H, i ≤ xs.length → Pv i H → SqL K H a xs)
    (hs : ∀ i x H, xs[i]? = some x → Pv i H → g x (wipe σ vs) H fun σ2 H2 => wipe σ2 vs = wipe σ vs ∧ tt σ2 H2 fun b H3 =>
      if b = true then te σ2 H3 fun y H4 => ∃ acc, H4 D = some (.lst acc) ∧ acc.length < sizeLine ∧ Pv (i + 1) (upd H4 D (.lst (acc ++ [y]))) else Pv (i + 1) H3) (hd : ∀ H, Pv xs.length H → Qd H) :
    ∃ W : Nat → Nat → Hp → Prop, (∃ m, W 0 m (upd H1 D (.lst []))) ∧ ∀ i m H, W i m H →
      ((Itl K a).stop i H ∧ Qd H) ∨ ((Itl K a).go i H ∧ ∃ Nx : Hp → Prop, (∀ H', Nx H' → ∃ m', m' < m ∧ W (i + 1) m' H') ∧ ∀ x H', (Itl K a).yld i H x H' → g x (wipe σ vs) H' fun σ2 H2 => wipe σ2 vs = wipe σ vs ∧ tt σ2 H2 fun b H3 =>
        if b = true then te σ2 H3 fun y H4 => ∃ acc, H4 D = some (.lst acc) ∧ acc.length < sizeLine ∧ Nx (upd H4 D (.lst (acc ++ [y]))) else Nx H3) := by
  refine ⟨fun i m H => m = xs.length - i ∧ i ≤ xs.length ∧ Pv i H, ⟨xs.length, by simp, Nat.zero_le _, h0⟩, ?_⟩
  rintro i m H ⟨rfl, hi, p⟩
  have q := hl i H hi p
  by_cases hlt : i < xs.length
  · refine .inr ⟨⟨xs, xs[i], q, by simp [hlt]⟩, Pv (i + 1), fun H' p' => ⟨xs.length - (i + 1), by omega, rfl, hlt, p'⟩, fun x H' y => ?_⟩
    obtain ⟨e, y⟩ := y
    subst e
    exact hs i x _ (y xs q) p
  · have e : i = xs.length := by omega
    subst e
    exact .inl ⟨⟨xs, q, Nat.le_refl _⟩, hd H p⟩
def blkC (N : List Str) (sc scope : Scope) (own : List (Str × Nat)) : Bool :=
  (match scope.kind with | .function => true | _ => false) && (scope.names.all fun y => decide (scope.names.lookup y.1 = some y.2)) && (own.all fun p => decide (N[p.2]? = some p.1)) &&
    (scope.names.all fun y => match y.2 with
      | .free => (match sc.names.lookup y.1 with | some .cell => true | some .free => true | _ => false)
      | .local => decide (y.1 ∈ own.map (·.1)) || decide (y.1 ∉ N)
      | .cell => decide (y.1 ∈ own.map (·.1)) || decide (y.1 ∉ N)
      | _ => true)
theorem blkOk_by {N : List Str} {sc scope : Scope} {own : List (Str × Nat)} (h : blkC N sc scope own = true) : BlkOk N sc scope own := by
  unfold blkC at h
  simp only [Bool.and_eq_true, List.all_eq_true, decide_eq_true_eq] at h
  obtain ⟨⟨⟨h1, h2⟩, h3⟩, h4⟩ := h
  refine ⟨?_, h2, h3, fun y hy e => ?_, fun y hy e => ?_⟩
  · split at h1
    · assumption
    · cases h1
  · have q := h4 y hy
    simp only [e] at q
    split at q <;> first | exact .inl (by assumption) | exact .inr (by assumption) | cases q
  · have q := h4 y hy
    rcases e with e | e <;> (simp only [e, Bool.or_eq_true, decide_eq_true_eq] at q; exact q)
end L2

namespace L2
open PySem PySem.Spec PyProof.Rows

section
variable {prog : Program} {w : World} {A : Around} {R : Result → Shared → Prop} {s : Shared} {elt t0 i0 t1 i1 : Expr} {ifs0 ifs1 : List Expr} {scope : Scope} {pos : Pos} {it acc : Value} {env : Env}
end

section
variable {X : Cx}
end
end L2

namespace L2
open PySem PySem.Spec PyProof.Rows

/-! ### lists of pairs as tables -/
section
variable {κ : Type} [DecidableEq κ]
def valV (kvs : List (κ × V)) (k : κ) : Option V := (kvs.find? fun kv => decide (kv.1 = k)).map (·.2)
/-- in its place, or at the end -/
def putK (kvs : List (κ × V)) (k : κ) (v : V) : List (κ × V) :=
  if (kvs.any fun kv => decide (kv.1 = k)) = true then kvs.map (fun kv => if kv.1 = k then (kv.1, v) else kv) else kvs ++ [(k, v)]
def dropK (kvs : List (κ × V)) (k : κ) : List (κ × V) := kvs.filter fun kv => decide (kv.1 ≠ k)

theorem valV_pos {p : κ × V} {r : List (κ × V)} {k : κ} (e : p.1 = k) : valV (p :: r) k = some p.2 := by simp [valV, List.find?_cons, e]
theorem valV_neg {p : κ × V} {r : List (κ × V)} {k : κ} (e : ¬ p.1 = k) : valV (p :: r) k = valV r k := by simp [valV, List.find?_cons, e]
theorem valV_any (k : κ) : ∀ kvs : List (κ × V), (kvs.any fun kv => decide (kv.1 = k)) = (valV kvs k).isSome
  | [] => rfl
  | p :: r => by
    rw [List.any_cons]
    by_cases e : p.1 = k
    · simp only [valV_pos e, decide_eq_true e, Bool.true_or, Option.isSome_some]
    · rw [valV_neg e, decide_eq_false e, Bool.false_or]; exact valV_any k r
theorem RelO.isSome_eq {o : Option V} {u : Option Value} (r : RelO o u) : o.isSome = u.isSome := by
  cases o with
  | none => cases u with
    | none => rfl
    | some _ => exact (show False from r).elim
  | some _ => cases u with
    | none => exact (show False from r).elim
    | some _ => rfl
theorem RelO.getD {o : Option V} {u : Option Value} {d : V} {d' : Value} (r : RelO o u) (rd : RelV d d') : RelV (o.getD d) (u.getD d') := by
  cases o with
  | none => cases u with
    | none => exact rd
    | some _ => exact (show False from r).elim
  | some _ => cases u with
    | none => exact (show False from r).elim
    | some _ => exact r

/-- raw tables of the same keys -/
theorem KV.val {kvs : List (κ × V)} {vs : List (κ × Value)} (r : KV kvs vs) (k : κ) : RelO (valV kvs k) (valueAt vs k) := by
  unfold KV at r
  induction r with
  | nil => exact True.intro
  | @cons p q ps qs h t ih =>
    obtain ⟨h1, h2⟩ := h
    by_cases e : p.1 = k
    · have e' : q.1 = k := h1.symm.trans e
      have b : valueAt (q :: qs) k = some q.2 := by simp [valueAt, List.find?_cons, e']
      rw [valV_pos e, b]; exact h2
    · have e' : ¬ q.1 = k := fun z => e (h1.trans z)
      have b : valueAt (q :: qs) k = valueAt qs k := by simp [valueAt, List.find?_cons, e']
      rw [valV_neg e, b]; exact ih
theorem KV.any {kvs : List (κ × V)} {vs : List (κ × Value)} (r : KV kvs vs) (k : κ) : (kvs.any fun kv => decide (kv.1 = k)) = vs.any fun kv => decide (kv.1 = k) := by
  unfold KV at r
  induction r with
  | nil => rfl
  | cons h t ih => rw [List.any_cons, List.any_cons, ih, h.1]
theorem KV.repl {kvs : List (κ × V)} {vs : List (κ × Value)} (r : KV kvs vs) (k : κ) {y : V} {u : Value} (ry : RelV y u) :
    KV (kvs.map fun kv => if kv.1 = k then (kv.1, y) else kv) (vs.map fun kv => if kv.1 = k then (kv.1, u) else kv) := by
  unfold KV at r ⊢
  induction r with
  | nil => exact .nil
  | @cons p q ps qs h t ih =>
    rw [List.map_cons, List.map_cons]
    refine .cons ?_ ih
    obtain ⟨h1, h2⟩ := h
    by_cases e : p.1 = k
    · rw [if_pos e, if_pos (h1.symm.trans e)]; exact ⟨h1, ry⟩
    · rw [if_neg e, if_neg (fun z => e (h1.trans z))]; exact ⟨h1, h2⟩
theorem KV.put {kvs : List (κ × V)} {vs : List (κ × Value)} (r : KV kvs vs) (k : κ) {y : V} {u : Value} (ry : RelV y u) : KV (putK kvs k y) (stored vs k u) := by
  unfold putK stored
  rw [r.any k]
  by_cases e : (vs.any fun kv => decide (kv.1 = k)) = true
  · rw [if_pos e, if_pos e]; exact r.repl k ry
  · rw [if_neg e, if_neg e]; exact Paired.snoc r ⟨rfl, ry⟩
theorem KV.drop {kvs : List (κ × V)} {vs : List (κ × Value)} (r : KV kvs vs) (k : κ) : KV (dropK kvs k) (without vs k) := by
  unfold KV at r ⊢
  unfold dropK without
  induction r with
  | nil => exact .nil
  | @cons p q ps qs h t ih =>
    obtain ⟨h1, h2⟩ := h
    rw [List.filter_cons, List.filter_cons]
    by_cases e : p.1 = k
    · have a : ¬ decide (p.1 ≠ k) = true := by simp [e]
      have b : ¬ decide (q.1 ≠ k) = true := by simp [h1.symm.trans e]
      rw [if_neg a, if_neg b]; exact ih
    · have e' : ¬ q.1 = k := fun z => e (h1.trans z)
      have a : decide (p.1 ≠ k) = true := by simp [e]
      have b : decide (q.1 ≠ k) = true := by simp [e']
      rw [if_pos a, if_pos b]; exact .cons ⟨h1, h2⟩ ih
theorem KV.keys {kvs : List (κ × V)} {vs : List (κ × Value)} (r : KV kvs vs) : kvs.map (·.1) = vs.map (·.1) := by
  unfold KV at r
  induction r with
  | nil => rfl
  | cons h t ih => rw [List.map_cons, List.map_cons, ih, h.1]
theorem KV.length {kvs : List (κ × V)} {vs : List (κ × Value)} (r : KV kvs vs) : kvs.length = vs.length := Paired.length r
end


/-! ### a tracked dict, its keys ints and texts or tuples of these -/
/-- raw entries of a dict with tuple keys -/
abbrev KT (H : Hp) : List (List Key × V) → List (List Key × Addr × Value) → Prop := Paired fun p q => p.1 = q.1 ∧ H q.2.1 = some (.tup (p.1.map kV)) ∧ RelV p.2 q.2.2
theorem KT.val {H : Hp} {kvs : List (List Key × V)} {xs : List (List Key × Addr × Value)} (r : KT H kvs xs) (k : List Key) : RelO (valV kvs k) ((atKey xs k).map (·.2)) := by
  induction r with
  | nil => exact True.intro
  | @cons p q ps qs h t ih =>
    obtain ⟨h1, _, h2⟩ := h
    by_cases e : p.1 = k
    · have e' : q.1 = k := h1.symm.trans e
      have b : atKey (q :: qs) k = some q.2 := by simp [atKey, List.find?_cons, e']
      rw [valV_pos e, b]; exact h2
    · have e' : ¬ q.1 = k := fun z => e (h1.trans z)
      have b : atKey (q :: qs) k = atKey qs k := by simp [atKey, List.find?_cons, e']
      rw [valV_neg e, b]; exact ih
theorem KT.repl {H : Hp} {kvs : List (List Key × V)} {xs : List (List Key × Addr × Value)} (r : KT H kvs xs) (k : List Key) {y : V} {u : Value} (ry : RelV y u) :
    KT H (kvs.map fun kv => if kv.1 = k then (kv.1, y) else kv) (xs.map (putAt k u)) := by
  induction r with
  | nil => exact .nil
  | @cons p q ps qs h t ih =>
    rw [List.map_cons, List.map_cons]
    refine .cons ?_ ih
    obtain ⟨h1, h2, h3⟩ := h
    unfold putAt
    by_cases e : p.1 = k
    · rw [if_pos e, if_pos (h1.symm.trans e)]; exact ⟨h1, h2, ry⟩
    · rw [if_neg e, if_neg (fun z => e (h1.trans z))]; exact ⟨h1, h2, h3⟩
theorem KT.put {H : Hp} {kvs : List (List Key × V)} {xs : List (List Key × Addr × Value)} (r : KT H kvs xs) (k : List Key) {b : Addr} {y : V} {u : Value} (hb : H b = some (.tup (k.map kV))) (ry : RelV y u) :
    KT H (putK kvs k y) (storedH xs k b u) := by
  have e : (kvs.any fun kv => decide (kv.1 = k)) = (atKey xs k).isSome := by
    rw [valV_any, (r.val k).isSome_eq, Option.isSome_map]
  unfold putK storedH
  rw [e]
  by_cases q : (atKey xs k).isSome = true
  · rw [if_pos q, if_pos q]; exact r.repl k ry
  · rw [if_neg q, if_neg q]; exact Paired.snoc r ⟨rfl, hb, ry⟩
theorem KT.keeps {H H' : Hp} {kvs : List (List Key × V)} {xs : List (List Key × Addr × Value)} (r : KT H kvs xs) (ht : ∀ b ys, H b = some (.tup ys) → H' b = some (.tup ys)) : KT H' kvs xs :=
  Paired.mapP r fun _ _ z => ⟨z.1, ht _ _ z.2.1, z.2.2⟩

section
variable {P : Program} {w : World} {H : Hp} {h : Heap} {a : Addr}
end

/-- what the dict at a holds at the key y -/
def DGet (H : Hp) (a : Addr) (y : V) (r : Option V) : Prop :=
  (∃ kvs k, Rd H a (.dK kvs) ∧ y = kV k ∧ r = valV kvs k) ∨ ∃ kvs k b, Rd H a (.dT kvs) ∧ y = .ref b ∧ H b = some (.tup (k.map kV)) ∧ r = valV kvs k
/-- the heap behind a[y] = v -/
def DPut (H : Hp) (a : Addr) (y v : V) (H' : Hp) : Prop :=
  (∃ kvs k, H a = some (.dK kvs) ∧ y = kV k ∧ kvs.length < sizeLine ∧ H' = upd H a (.dK (putK kvs k v))) ∨
  ∃ kvs k b, H a = some (.dT kvs) ∧ y = .ref b ∧ H b = some (.tup (k.map kV)) ∧ kvs.length < sizeLine ∧ H' = upd H a (.dT (putK kvs k v))
theorem DGet.k {H : Hp} {a : Addr} {kvs : List (Key × V)} {k : Key} (e : H a = some (.dK kvs)) : DGet H a (kV k) (valV kvs k) := .inl ⟨kvs, k, .inl e, rfl, rfl⟩
theorem DGet.t {H : Hp} {a b : Addr} {kvs : List (List Key × V)} {k : List Key} (e : H a = some (.dT kvs)) (eb : H b = some (.tup (k.map kV))) : DGet H a (.ref b) (valV kvs k) := .inr ⟨kvs, k, b, .inl e, rfl, eb, rfl⟩
theorem DPut.k {H : Hp} {a : Addr} {kvs : List (Key × V)} {k : Key} {v : V} (e : H a = some (.dK kvs)) (hl : kvs.length < sizeLine) : DPut H a (kV k) v (upd H a (.dK (putK kvs k v))) := .inl ⟨kvs, k, e, rfl, hl, rfl⟩
theorem DPut.t {H : Hp} {a b : Addr} {kvs : List (List Key × V)} {k : List Key} {v : V} (e : H a = some (.dT kvs)) (eb : H b = some (.tup (k.map kV))) (hl : kvs.length < sizeLine) :
    DPut H a (.ref b) v (upd H a (.dT (putK kvs k v))) := .inr ⟨kvs, k, b, e, rfl, eb, hl, rfl⟩


section
variable {X : Cx} {pins : List (Addr × Obj)} {σ : St} {H : Hp} {s : Shared} {a : Addr} {y v : V} {u r : Value} {o : Option V} {A : Around} {E : Value → Shared → Prop}

end

section
variable {X : Cx} {pins : List (Addr × Obj)} {σ : St} {H : Hp} {s : Shared} {a : Addr} {kvs : List (Key × V)} {k : Key} {u : Value} {A : Around} {E : Value → Shared → Prop}
end


/-! ### readings and rules -/
section
variable {X : Cx} {o i e value : Expr} {pos pos' tpos : Pos} {td ty tv : TE}
end


/-! ### displays -/
section
variable {X : Cx} {pos : Pos}
end

/-! ### methods -/
/-- a method call o.m(e) of a built-in, with one argument: what must be seen of the text -/
structure M1 (X : Cx) (o : Expr) (m : Str) (apos : Pos) (e : Expr) (cpos : Pos) : Prop where
  base : attributeBase o m X.env (eval o X.env) = eval o X.env
  few : ((backTo cpos (starEach [e] X.env)).all (fun x => !x.1) && (backToKw cpos (keywordEach [] X.env)).all (fun x => x.1.isSome)
    && decide (([e] : List Expr).length + ([] : List Keyword).length + (if ([] : List Keyword).isEmpty then 0 else 1) < 30)) = true
  line : (apos.endLine == cpos.line) = true
  trees : backTo cpos (starEach [e] X.env) = [(false, eval e X.env)]
structure M2 (X : Cx) (o : Expr) (m : Str) (apos : Pos) (e f : Expr) (cpos : Pos) : Prop where
  base : attributeBase o m X.env (eval o X.env) = eval o X.env
  few : ((backTo cpos (starEach [e, f] X.env)).all (fun x => !x.1) && (backToKw cpos (keywordEach [] X.env)).all (fun x => x.1.isSome)
    && decide (([e, f] : List Expr).length + ([] : List Keyword).length + (if ([] : List Keyword).isEmpty then 0 else 1) < 30)) = true
  line : (apos.endLine == cpos.line) = true
  trees : backTo cpos (starEach [e, f] X.env) = [(false, eval e X.env), (false, eval f X.env)]

section
variable {X : Cx} {pins : List (Addr × Obj)} {σ : St} {H : Hp} {s : Shared} {a : Addr} {y d : V} {u r : Value} {o : Option V} {A : Around} {E : Value → Shared → Prop}
end

section
variable {X : Cx} {o e f : Expr} {apos cpos : Pos} {td ty tx : TE}
end

/-! ### dict(d): a copy -/
section
variable {X : Cx} {pins : List (Addr × Obj)} {σ : St} {H : Hp} {s : Shared} {a : Addr} {kvs : List (Key × V)} {A : Around} {E : Value → Shared → Prop}
end


section
variable {X : Cx} {pins : List (Addr × Obj)} {σ : St} {H : Hp} {s : Shared} {a : Addr} {y : V} {u : Value} {A : Around} {E : Value → Shared → Prop}
end
end L2

namespace L2
open PySem PySem.Spec PyProof.Rows

section
variable {prog : Program} {w : World} {A : Around} {E : Value → Shared → Prop}
end

section
variable {X : Cx}
end
end L2

namespace L2
open PySem PySem.Spec PyProof.Rows

section
variable {X : Cx} {pins : List (Addr × Obj)} {σ : St} {H : Hp} {s : Shared} {h' : Heap}
/-! ### locking a thing while a statement runs -/
end
section
variable {X : Cx}
/-! ### one iterator just laid -/
end

/-! ### range with a step -/
/-- range(i, j, c): small bounds, n items -/
def RgC (i j c : Int) (n : Nat) : Prop := c ≠ 0 ∧ c.natAbs < 1073741824 ∧ Builtin.Range.small i j c = true ∧ Builtin.Range.rangeSize i j c = n
theorem RgC.neg {i j : Int} (ha : -(2 ^ 62) ≤ i) (ha' : i < 2 ^ 62) (hb : -(2 ^ 62) ≤ j) (hb' : j < 2 ^ 62) : RgC i j (-1) (i - j).toNat :=
  ⟨by decide, by decide, PySem.W.small_down ha ha' hb hb', PySem.W.rangeSize_downNat i j⟩
section
variable {X : Cx} {tg : Expr}
end
/-! ### reversed(list) -/
section
variable {X : Cx} {tg : Expr}
end

/-! ### a str -/
/-! ### a dict's keys: any dict's entries -/
section
variable {prog : Program} {w : World} {A : Around} {E : Value → Shared → Prop} {s : Shared}
end

/-! ### a locked dict -/
section
variable {X : Cx} {pins : List (Addr × Obj)} {σ : St} {H : Hp} {s : Shared} {d : Addr} {o : Obj}
end

section
variable {P : Program} {w : World} {K : PySem.W.Frag} {tg : Expr} {d : Addr} {o : Obj} {es : Array DictEntry} {ep : Nat}
end

/-! ### for k in d, d.keys(), d.values(), d.items() -/
section
variable {X : Cx} {tg e : Expr} {td : TE} {apos cpos : Pos}
end

/-! ### enumerate(list) -/
/-! ### zip(list, list) -/
end L2

section 
namespace Bits
open PySem PyProof.Rows

end Bits
end 

section 
namespace TL
open PySem PySem.Builtin PySem.Builtin.Str PySem.StrLaws

abbrev tl (x : Str) : List Nat := x.cps.toList
/-! ### the list functions -/
/-- S stands at the head of l -/
def pre (S l : List Nat) : Bool := l.take S.length == S
/-- l cut at each S from the left; k signs are still to be passed over -/
def spl (S : List Nat) : Nat → List Nat → List Nat → List (List Nat)
  | _, acc, [] => [acc]
  | 0, acc, c :: r => if pre S (c :: r) = true then acc :: spl S (S.length - 1) [] r else spl S 0 (acc ++ [c]) r
  | k + 1, acc, _ :: r => spl S k acc r
/-- what stands before the first S, and behind it -/
def par (S : List Nat) : List Nat → List Nat → Option (List Nat × List Nat)
  | _, [] => none
  | acc, c :: r => if pre S (c :: r) = true then some (acc, (c :: r).drop S.length) else par S (acc ++ [c]) r

/-! ### the model's split and partition are these -/
/-! ### computing spl and par -/
/-! ### digits -/
/-! ### words: x.split() -/
end TL
end 

namespace L2
open PySem PySem.Spec PyProof.Rows

section
variable {X : Cx} {pins : List (Addr × Obj)} {σ : St} {H : Hp} {s : Shared} {Q : VK}
end

section
variable {X : Cx}

/-! ### of a text alone -/
/-! ### of a text and a text -/
end

section
variable {X : Cx} {o e : Expr} {to te : TE}
end
end L2

namespace L2
open PySem PySem.Spec PyProof.Rows

section
variable {X : Cx}
end

/-! ### slices of a text -/
theorem IsPart.raw {v : Value} {o : Option Int} (p : IsPart v o) : ∃ l : Option (Int × Tok), v = partValue l ∧ l.map (·.1) = o := by
  cases p with
  | none => exact ⟨none, rfl, rfl⟩
  | int i t => exact ⟨some (i, t), rfl, rfl⟩

end L2

namespace Att
open PySem PySem.W PySem.Calls PyProof.Rows

/-! ### the script -/
/-! ### the attachment: holds_open's last premise (the goal 'hc' behind k_head) from a wpAny of the law's body -/
/-! ### rules over ANY heap (no ledger) from facts about the written part K: the library's own take a ledger (News) for what they write -/
section
variable {prog : Program} {w : World} {A : Around} {E : Value → Shared → Prop} {s : Shared} {K : Frag}

/-! the whole heap as the ledger: makes every rule that writes through a ledger a rule over any heap -/
def ledger (h : Heap) (L d : Addr) : List (Addr × Obj) := (List.range h.objs.size).filterMap fun a => if a = L ∨ a = d then none else (h.get? a).map fun o => (a, o)
end
end Att

namespace L2
open PySem PySem.Spec PyProof.Rows

end L2

namespace L2
open PySem PySem.Spec PyProof.Rows

end L2

/- THE LAST THEOREM (shape; LID, My.* are yours):
   My.Adr: a structure of the addresses that your layer names (classes, functions); My.Txt K t: a structure (Prop) of the equations over K;
   My.txt_mk : {K} {implicit addresses ..} (e1 : nsIn K mainGlobals "law" = some (some (.ref f))) (e2 : K.lookup f = some ⟨oc, od, .func (fnOf "law" "law" params body scope dV kV doc pm an cdv ct), sl⟩) (e3 : codeIn K cdv "law" = true) .. : ∃ t, My.Txt K t

(the tactic k_is has no namespace: write k_is) -/

/-! SHORT WORDS over the layer: a def of the text, its body, what a loop and a test want. -/
namespace L2
open PySem PySem.Spec PyProof.Rows

/-! ### the text by places -/
/-- the j-th statement of a class's body -/
def inClass (s : Stmt) (j : Nat) : Stmt := match s with
  | .ClassDef _ _ _ body _ _ _ _ _ _ _ => body.getD j (.Pass ⟨0, 0, 0, 0⟩)
  | _ => .Pass ⟨0, 0, 0, 0⟩
def defArgs (s : Stmt) : Arguments := match s with
  | .FunctionDef _ a _ _ _ _ _ _ _ _ => a
  | _ => { posonlyargs := [], args := [], vararg := none, kwonlyargs := [], kw_defaults := [], kwarg := none, defaults := [] }
def defBody (s : Stmt) : List Stmt := match s with
  | .FunctionDef _ _ b _ _ _ _ _ _ _ => b
  | _ => []
def defScope (s : Stmt) : Scope := match s with
  | .FunctionDef _ _ _ _ _ _ sc _ _ _ => sc
  | _ => { kind := .function, names := [], isGenerator := false, isCoroutine := false }

/-! ### no exception leaves a def -/
abbrev CX0 : CXT := fun _ _ _ _ _ _ => False
abbrev E0 : XK := fun _ _ _ => False
theorem pass0 {X : Cx} : Passes CX0 X E0 := fun _ _ _ _ _ _ _ h => h.elim

/-! ### a def (or method) of the text as it stands behind the top -/
structure Fun (K : PySem.W.Frag) (x qual : Str) (st : Stmt) (f : Addr) (fd : FuncData) : Prop where
  ex : ∃ (oc : Value) (od : Option Addr) (kV doc pm : Value) (an : Option Addr) (cdv ct : Value) (osl : Array (Option Value)),
    fd = PySem.W.fnOf x qual (defArgs st) (defBody st) (defScope st) .none kV doc pm an cdv ct ∧ K.lookup f = some ⟨oc, od, .func fd, osl⟩ ∧ PySem.W.codeIn K cdv qual = true
  kp : PySem.W.keepIn K (.ref f) = true
section
variable {P : Program} {w : World} {K : PySem.W.Frag} {mg : Str → Option Value} {base : Heap}
/-- THE RULE for a def: its body as a term of rules, and the reading of that term -/
theorem Fun.ok {x qual : Str} {st : Stmt} {f : Addr} {fd : FuncData} {N ps : List Str} {k : Nat} {sp : Sp} (F : Fun K x qual st f fd) (S : FnScope N ps (defScope st)) (len : ∀ vs H Q E, sp vs H Q E → vs.length = ps.length)
    (hbody : ∀ (cdv : Value) (A : Around) (outer : List Env) (s : Shared) (H : Hp) (vs : List V) (Q : VK) (E : XK), Room k (A.deeper (envOfC qual (defScope st) s.heap.objs.size f cdv)) → sp vs H Q E →
      ∃ t, PSs (cxOf CX0 P w K mg base N qual (defScope st) f cdv A outer s H E).nox (defBody st) t ∧ t { nx := fun _ H' => Q .non H', rt := Q } (start N vs) H) : FnOk P w K mg base CX0 (k + 1) f fd ps sp := by
  obtain ⟨oc, od, kV, doc, pm, an, cdv, ct, osl, rfl, lk, hcd⟩ := F.ex
  refine fn_of lk hcd S len fun A outer s H vs Q E hr hsp => ?_
  obtain ⟨t, h, q⟩ := hbody cdv A outer s H vs Q E hr hsp
  exact ⟨t, h.nox, q⟩
/-- how its arguments bind (no defaults): h is «fun _ _ _ _ _ _ us hl => match us, hl with | [_, _], _ => rfl», one _ a parameter -/
theorem Fun.binds {x qual : Str} {st : Stmt} {f : Addr} {fd : FuncData} {ps : List Str} (F : Fun K x qual st f fd)
    (h : ∀ (kV doc pm : Value) (an : Option Addr) (cdv ct : Value) (us : List Value), us.length = ps.length → bindArgs (PySem.W.fnOf x qual (defArgs st) (defBody st) (defScope st) .none kV doc pm an cdv ct) ⟨us, []⟩ = pure (ps.zip us)) : Binds K fd ps [] := by
  obtain ⟨oc, od, kV, doc, pm, an, cdv, ct, osl, rfl, lk, hcd⟩ := F.ex
  exact .all (h kV doc pm an cdv ct)
theorem fun_mk {x qual : Str} {st : Stmt} {f : Addr} {oc : Value} {od an : Option Addr} {osl : Array (Option Value)} {kV doc pm cdv ct : Value} (l : K.lookup f = some ⟨oc, od, .func (PySem.W.fnOf x qual (defArgs st) (defBody st) (defScope st) .none kV doc pm an cdv ct), osl⟩)
    (c : PySem.W.codeIn K cdv qual = true) (k : PySem.W.keepIn K (.ref f) = true) : Fun K x qual st f (PySem.W.fnOf x qual (defArgs st) (defBody st) (defScope st) .none kV doc pm an cdv ct) := ⟨⟨oc, od, kV, doc, pm, an, cdv, ct, osl, rfl, l, c⟩, k⟩
end
theorem small1000 {n : Nat} (h : n ≤ 1000) : n < sizeLine := Nat.lt_of_le_of_lt h (by decide)

/-! ### expressions in short: the name that stands in the i-th slot -/
section
variable {X : Cx}
theorem pv (i : Nat) {x : Str} {pos : Pos} (hN : X.N[i]? = some x := by rfl) (hv : Vis X.env.scope x := by first | exact Or.inl rfl | exact Or.inr (Or.inl rfl) | exact Or.inr (Or.inr rfl)) (hd : (x == ("__debug__" : Str)) = false := by decide)
    (hcd : (x == ("__classdict__" : Str)) = false := by decide) : PE X (.Name x pos) (tVar i) := pe_var hN hv hd hcd
end

/-! ### tests -/
theorem iteF {A B : Prop} (h : B) : if false = true then A else B := by
  rw [if_neg Bool.false_ne_true]
  exact h
theorem iteT {A B : Prop} (h : A) : if true = true then A else B := by
  rw [if_pos rfl]
  exact h
/-! ### heaps -/
/-- all that was tracked is as it was -/
def Same (H H' : Hp) : Prop := ∀ b o, H b = some o → H' b = some o
theorem Same.refl (H : Hp) : Same H H := fun _ _ h => h
theorem Same.trans {H H1 H2 : Hp} (a : Same H H1) (b : Same H1 H2) : Same H H2 := fun c o h => b c o (a c o h)
theorem Same.free {H H' : Hp} (e : Same H H') {l : Addr} (h : H' l = Option.none) : H l = Option.none := by
  cases q : H l with
  | none => rfl
  | some o =>
    rw [e l o q] at h
    cases h
theorem Same.seq {K : PySem.W.Frag} {H H' : Hp} {a : Addr} {xs : List V} (e : Same H H') (h : SqL K H a xs) : SqL K H' a xs := by
  rcases h with (h | ⟨o, h⟩) | h
  · exact .inl (.inl (e _ _ h))
  · exact .inl (.inr ⟨o, e _ _ h⟩)
  · exact .inr h

/-! ### a dict's pairs: keys that differ -/
section
variable {κ : Type} [DecidableEq κ]
end
/-! ### lists -/
/-- a new instance and its __init__ leave all that was tracked as it was -/
theorem Same.made {H H1 : Hp} {x dx C : Addr} (nx : H x = Option.none) (nd : H dx = Option.none) (k : ∀ b o, (upd (upd H dx (.own x)) x (.ins C dx [])) b = some o → b ≠ x → H1 b = some o) : Same H H1 := fun b o e =>
  k b o (by rw [upd_ne (ne_of_none e nx), upd_ne (ne_of_none e nd)]; exact e) (ne_of_none e nx)
end L2

section
set_option Elab.async false
set_option linter.all false
set_option maxRecDepth 100000
set_option maxHeartbeats 2000000
namespace L2
open PySem PySem.Spec PyProof.Rows
open PySem.W (WData Codec OpenSpec Well WellAll ReadsW ReadsAllW)
/-! ### an answer as data -/
mutual
/-- x stands for the datum d, lists and tuples all the way -/
inductive Dw (K : PySem.W.Frag) (H : Hp) : V → WData → Prop
  | non : Dw K H .non .none
  | bl (b : Bool) : Dw K H (.bl b) (.bool b)
  | int (i : Int) : Dw K H (.int i) (.int i)
  | str (x : Str) : Dw K H (.str x) (.str x)
  | byt (b : Array UInt8) : Dw K H (.byt b) (.bytes b.toList)
  | lst {a : Addr} {xs : List V} {ds : List WData} : SqL K H a xs → DwAll K H xs ds → Dw K H (.ref a) (.list ds)
  | tup {a : Addr} {xs : List V} {ds : List WData} : SqT K H a xs → DwAll K H xs ds → Dw K H (.ref a) (.tuple ds)
inductive DwAll (K : PySem.W.Frag) (H : Hp) : List V → List WData → Prop
  | nil : DwAll K H [] []
  | cons {v : V} {vs : List V} {d : WData} {ds : List WData} : Dw K H v d → DwAll K H vs ds → DwAll K H (v :: vs) (d :: ds)
end
theorem dw_ints {K : PySem.W.Frag} {H : Hp} : ∀ ns : List Int, DwAll K H (ns.map V.int) (ns.map WData.int)
  | [] => .nil
  | n :: r => .cons (.int n) (dw_ints r)
theorem ints_dw {K : PySem.W.Frag} {H : Hp} : ∀ (ns : List Int) (xs : List V), DwAll K H xs (ns.map WData.int) → xs = ns.map V.int
  | [], xs, h => by
    cases h
    rfl
  | n :: r, xs, h => by
    cases h with
    | cons h1 h2 =>
      cases h1
      rw [ints_dw r _ h2] <;> rfl
section
variable {P : Program} {w : World} {K : PySem.W.Frag} {H : Hp} {h : Heap} {R : PySem.W.WRecords} {cl : Str → Option Addr}
theorem sqL_at {a : Addr} {xs : List V} (hok : HOk P w H h) (KX : K.In h) (q : SqL K H a xs) : ∃ (its : List Value) (o : Obj) (n : Nat), Vals xs its ∧ h.get? a = some o ∧ o.cls = .type "list" ∧ o.data = .seq its.toArray n := by
  rcases q with q | ⟨o, its, n, e, hc, _, hd, _, hv⟩
  · obtain ⟨_, its, n, hv, e⟩ := (show ObjOk P w H h a (.lst xs) from q.ok hok)
    exact ⟨its, _, n, hv, e, rfl, rfl⟩
  · exact ⟨its.toList, o, n, hv, KX _ _ e, hc, by simp [hd]⟩
theorem sqT_at {a : Addr} {xs : List V} (hok : HOk P w H h) (KX : K.In h) (q : SqT K H a xs) : ∃ (its : List Value) (o : Obj) (n : Nat), Vals xs its ∧ h.get? a = some o ∧ o.cls = .type "tuple" ∧ o.data = .seq its.toArray n := by
  rcases q with q | ⟨o, its, n, e, hc, hd, _, hv⟩
  · obtain ⟨_, its, hv, o, e, hc, n, hd⟩ := (show ObjOk P w H h a (.tup xs) from q.ok hok)
    exact ⟨its, o, n, hv, e, hc, hd⟩
  · exact ⟨its.toList, o, n, hv, KX _ _ e, hc, by simp [hd]⟩
mutual
theorem Dw.reads (hok : HOk P w H h) (KX : K.In h) : ∀ (d : WData) (v : V) (u : Value), Dw K H v d → RelV v u → ∃ as, ReadsW R cl h u d as
  | .none, _, _, x, r => by
    cases x
    cases r
    exact ⟨_, ReadsW.none⟩
  | .bool b, _, _, x, r => by
    cases x
    cases r
    exact ⟨_, ReadsW.bool b⟩
  | .int i, _, _, x, r => by
    cases x
    obtain ⟨t, rfl⟩ := r
    exact ⟨_, ReadsW.int i t⟩
  | .str s, _, _, x, r => by
    cases x
    obtain ⟨t, rfl⟩ := r
    exact ⟨_, ReadsW.str s t⟩
  | .bytes b, _, _, x, r => by
    cases x
    obtain ⟨t, rfl⟩ := r
    exact ⟨_, ReadsW.bytes _ t⟩
  | .list ds, _, _, x, r => by
    cases x with
    | lst hs ha =>
      cases r
      obtain ⟨its, o, n, rv, ho, hc, hd⟩ := sqL_at hok KX hs
      obtain ⟨as, hr⟩ := Dw.readsAll hok KX ds _ its ha rv
      exact ⟨_, ReadsW.list ho hc hd hr⟩
  | .tuple ds, _, _, x, r => by
    cases x with
    | tup hs ha =>
      cases r
      obtain ⟨its, o, n, rv, ho, hc, hd⟩ := sqT_at hok KX hs
      obtain ⟨as, hr⟩ := Dw.readsAll hok KX ds _ its ha rv
      exact ⟨_, ReadsW.tuple ho hc hd hr⟩
  | .float _, _, _, x, _ => by cases x
  | .dict _, _, _, x, _ => by cases x
  | .bytearray _, _, _, x, _ => by cases x
  | .set _, _, _, x, _ => by cases x
  | .frozenset _, _, _, x, _ => by cases x
  | .obj _ _, _, _, x, _ => by cases x
theorem Dw.readsAll (hok : HOk P w H h) (KX : K.In h) : ∀ (ds : List WData) (vs : List V) (us : List Value), DwAll K H vs ds → Vals vs us → ∃ as, ReadsAllW R cl h us ds as
  | [], _, _, x, r => by
    cases x
    cases r
    exact ⟨_, ReadsAllW.nil⟩
  | d :: ds, _, _, x, r => by
    cases x with
    | cons h1 h2 =>
      cases r with
      | cons r1 r2 =>
        obtain ⟨as, q1⟩ := Dw.reads hok KX d _ _ h1 r1
        obtain ⟨bs, q2⟩ := Dw.readsAll hok KX ds _ _ h2 r2
        exact ⟨_, ReadsAllW.cons q1 q2⟩
end
end
/-! ### the arguments -/
mutual
/-- data that a codec tells -/
def plW : WData → Bool
  | .none => true
  | .bool _ => true
  | .int _ => true
  | .str _ => true
  | .bytes _ => true
  | .list xs => plWs xs
  | .tuple xs => plWs xs
  | _ => false
def plWs : List WData → Bool
  | [] => true
  | x :: r => plW x && plWs r
end
theorem plWs_map {α : Type} {f : α → WData} (h : ∀ a, plW (f a) = true) : ∀ l : List α, plWs (l.map f) = true
  | [] => rfl
  | x :: r => by
    show (plW (f x) && plWs (r.map f)) = true
    rw [h x, plWs_map h r] <;> rfl
theorem pl_enc : ∀ (c : Codec) (a : c.denote), plW (c.enc a) = true
  | .unit, _ => rfl
  | .bool, _ => rfl
  | .int _ _, _ => rfl
  | .nat _ _, _ => rfl
  | .u8, _ => rfl
  | .bytes _ _, _ => rfl
  | .text _ _ _ _, _ => rfl
  | .list _ _ c, a => plWs_map (fun x => pl_enc c x) a
  | .pair c d, a => by
    show (plW (c.enc a.1) && (plW (d.enc a.2) && true)) = true
    rw [pl_enc c a.1, pl_enc d a.2] <;> rfl
  | .triple c d e, a => by
    show (plW (c.enc a.1) && (plW (d.enc a.2.1) && (plW (e.enc a.2.2) && true))) = true
    rw [pl_enc c a.1, pl_enc d a.2.1, pl_enc e a.2.2] <;> rfl
  | .option c, none => rfl
  | .option c, some x => pl_enc c x
theorem pl_encAll : ∀ (cs : List Codec) (a : Codec.denoteAll cs), plWs (Codec.encAll cs a) = true
  | [], _ => rfl
  | c :: cs, a => by
    show (plW (c.enc a.1) && plWs (Codec.encAll cs a.2)) = true
    rw [pl_enc c a.1, pl_encAll cs a.2] <;> rfl
theorem weight_mem : ∀ {xs : List WData} {d : WData}, d ∈ xs → d.weight ≤ WData.weightAll xs
  | [], d, h => absurd h (by simp)
  | x :: r, d, h => by
    show d.weight ≤ x.weight + 1 + WData.weightAll r
    rcases List.mem_cons.mp h with e | m
    · rw [e]
      omega
    · have z := weight_mem m
      omega
def toV : Value → V
  | .none => .non
  | .bool b => .bl b
  | .int i _ => .int i
  | .str x _ => .str x
  | .bytes b _ => .byt b
  | .ref a => .ref a
  | _ => .non
/-- a value of the arguments, its objects among A -/
def OkU (A : List Addr) : Value → Prop
  | .none => True
  | .bool _ => True
  | .int _ _ => True
  | .str _ _ => True
  | .bytes _ _ => True
  | .ref a => a ∈ A
  | _ => False
theorem OkU.mono {A B : List Addr} (h : ∀ a ∈ A, a ∈ B) : ∀ {u : Value}, OkU A u → OkU B u := fun {u} x => by
  cases u with
  | ref a => exact h a x
  | none => trivial
  | bool b => trivial
  | int i t => trivial
  | str s t => trivial
  | bytes b t => trivial
  | _ => exact False.elim x
theorem relV_toV {A : List Addr} {u : Value} (x : OkU A u) : RelV (toV u) u := by
  cases u with
  | ref a => rfl
  | none => rfl
  | bool b => rfl
  | int i t => exact ⟨t, rfl⟩
  | str s t => exact ⟨t, rfl⟩
  | bytes b t => exact ⟨t, rfl⟩
  | _ => exact False.elim x
theorem vals_toV {A : List Addr} : ∀ {vs : List Value}, (∀ u ∈ vs, OkU A u) → Vals (vs.map toV) vs
  | [], _ => .nil
  | u :: r, h => .cons (relV_toV (h u (List.mem_cons_self ..))) (vals_toV fun x hx => h x (List.mem_cons_of_mem _ hx))
/-- an object of the arguments -/
def ArgOb (h : Heap) (A : List Addr) (a : Addr) : Prop := ∃ vs : List Value, vs.length ≤ sizeLine ∧ (∀ u ∈ vs, OkU A u) ∧
  (h.get? a = some { cls := .type "list", data := .seq vs.toArray } ∨ h.get? a = some { cls := .type "tuple", data := .seq vs.toArray })
theorem ArgOb.mono {h : Heap} {A B : List Addr} {a : Addr} (k : ∀ a ∈ A, a ∈ B) (x : ArgOb h A a) : ArgOb h B a := by
  obtain ⟨vs, h1, h2, h3⟩ := x
  exact ⟨vs, h1, fun u hu => (h2 u hu).mono k, h3⟩
theorem wellAll_len {P : Params} {h : Heap} : ∀ {vs : List Value} {ds : List WData}, WellAll P h vs ds → vs.length = ds.length
  | _, _, .nil => rfl
  | _, _, .cons _ b => by
    show _ + 1 = _ + 1
    rw [wellAll_len b]
theorem well_list {P : Params} {h : Heap} {v : Value} {ds : List WData} (x : Well P h v (.list ds)) : ∃ (a : Addr) (vs : List Value), v = .ref a ∧ h.get? a = some { cls := .type "list", data := .seq vs.toArray } ∧ WellAll P h vs ds := by
  cases x with
  | list ho hall => exact ⟨_, _, rfl, ho, hall⟩
theorem well_tuple {P : Params} {h : Heap} {v : Value} {ds : List WData} (x : Well P h v (.tuple ds)) : ∃ (a : Addr) (vs : List Value), v = .ref a ∧ h.get? a = some { cls := .type "tuple", data := .seq vs.toArray } ∧ WellAll P h vs ds := by
  cases x with
  | tuple ho hall => exact ⟨_, _, rfl, ho, hall⟩
theorem well_cons {P : Params} {h : Heap} {us : List Value} {d : WData} {ds : List WData} (x : WellAll P h us (d :: ds)) : ∃ (v : Value) (vs : List Value), us = v :: vs ∧ Well P h v d ∧ WellAll P h vs ds := by
  cases x with
  | cons a b => exact ⟨_, _, rfl, a, b⟩
theorem line_of {n : Nat} (h : n ≤ 1048576) : n ≤ sizeLine := Nat.le_trans h (by decide)
section
variable {P : Params} {h : Heap}
mutual
theorem area_one : ∀ (d : WData) (v : Value), Well P h v d → plW d = true → d.weight ≤ 1048576 → ∃ A : List Addr, OkU A v ∧ ∀ a ∈ A, ArgOb h A a
  | .none, _, x, _, _ => by
    cases x
    exact ⟨[], trivial, fun a m => absurd m (by simp)⟩
  | .bool b, _, x, _, _ => by
    cases x
    exact ⟨[], trivial, fun a m => absurd m (by simp)⟩
  | .int i, _, x, _, _ => by
    cases x
    exact ⟨[], trivial, fun a m => absurd m (by simp)⟩
  | .str s, _, x, _, _ => by
    cases x
    exact ⟨[], trivial, fun a m => absurd m (by simp)⟩
  | .bytes b, _, x, _, _ => by
    cases x
    exact ⟨[], trivial, fun a m => absurd m (by simp)⟩
  | .list ds, _, x, p, z => by
    obtain ⟨a, vs, rfl, ho, hall⟩ := well_list x
    have z2 : WData.weightAll ds ≤ 1048576 := z
    obtain ⟨A, h1, h2⟩ := area_all ds _ hall p fun d hd => Nat.le_trans (weight_mem hd) z2
    have k : ∀ b ∈ A, b ∈ a :: A := fun b hb => List.mem_cons_of_mem _ hb
    refine ⟨a :: A, List.mem_cons_self .., fun b hb => ?_⟩
    rcases List.mem_cons.mp hb with e | m
    · rw [e]
      exact ⟨vs, line_of (by rw [wellAll_len hall]; exact Nat.le_trans (PySem.W.length_le_weightAllW ds) z2), fun u hu => (h1 u hu).mono k, .inl ho⟩
    · exact (h2 b m).mono k
  | .tuple ds, _, x, p, z => by
    obtain ⟨a, vs, rfl, ho, hall⟩ := well_tuple x
    have z2 : WData.weightAll ds ≤ 1048576 := z
    obtain ⟨A, h1, h2⟩ := area_all ds _ hall p fun d hd => Nat.le_trans (weight_mem hd) z2
    have k : ∀ b ∈ A, b ∈ a :: A := fun b hb => List.mem_cons_of_mem _ hb
    refine ⟨a :: A, List.mem_cons_self .., fun b hb => ?_⟩
    rcases List.mem_cons.mp hb with e | m
    · rw [e]
      exact ⟨vs, line_of (by rw [wellAll_len hall]; exact Nat.le_trans (PySem.W.length_le_weightAllW ds) z2), fun u hu => (h1 u hu).mono k, .inr ho⟩
    · exact (h2 b m).mono k
  | .float _, _, _, p, _ => Bool.noConfusion (show false = true from p)
  | .dict _, _, _, p, _ => Bool.noConfusion (show false = true from p)
  | .bytearray _, _, _, p, _ => Bool.noConfusion (show false = true from p)
  | .set _, _, _, p, _ => Bool.noConfusion (show false = true from p)
  | .frozenset _, _, _, p, _ => Bool.noConfusion (show false = true from p)
  | .obj _ _, _, _, p, _ => Bool.noConfusion (show false = true from p)
theorem area_all : ∀ (ds : List WData) (vs : List Value), WellAll P h vs ds → plWs ds = true → (∀ d ∈ ds, d.weight ≤ 1048576) → ∃ A : List Addr, (∀ u ∈ vs, OkU A u) ∧ ∀ a ∈ A, ArgOb h A a
  | [], _, x, _, _ => by
    cases x
    exact ⟨[], fun u m => absurd m (by simp), fun a m => absurd m (by simp)⟩
  | d :: ds, _, x, p, z => by
    obtain ⟨v, vs, rfl, x1, x2⟩ := well_cons x
    have q : plW d = true ∧ plWs ds = true := Bool.and_eq_true_iff.mp p
    obtain ⟨A, a1, a2⟩ := area_one d v x1 q.1 (z d (List.mem_cons_self ..))
    obtain ⟨B, b1, b2⟩ := area_all ds vs x2 q.2 fun e he => z e (List.mem_cons_of_mem _ he)
    have kA : ∀ b ∈ A, b ∈ A ++ B := fun b hb => List.mem_append.mpr (.inl hb)
    have kB : ∀ b ∈ B, b ∈ A ++ B := fun b hb => List.mem_append.mpr (.inr hb)
    refine ⟨A ++ B, fun u hu => ?_, fun b hb => ?_⟩
    · rcases List.mem_cons.mp hu with e | m
      · rw [e]
        exact a1.mono kA
      · exact (b1 u m).mono kB
    · rcases List.mem_append.mp hb with m | m
      · exact (a2 b m).mono kA
      · exact (b2 b m).mono kB
end
end
/-- what is tracked of an argument's object -/
def hoOf (o : Obj) : Option HO := match o.data with
  | .seq vs _ => if (o.cls == Value.type "list") = true then some (.frz o (.lst (vs.toList.map toV))) else some (.frz o (.tup (vs.toList.map toV)))
  | _ => none
def argH (K : PySem.W.Frag) (h : Heap) (A : List Addr) : Hp := fun b => if b ∈ A then (if (K.lookup b).isNone = true then (h.get? b).bind hoOf else none) else none
/-- nothing is tracked but what is known to the object -/
def OnlyF (H : Hp) : Prop := ∀ b, H b = none ∨ ∃ o u, H b = some (.frz o u)
theorem hoOf_lst (vs : List Value) : hoOf { cls := .type "list", data := .seq vs.toArray } = some (.frz { cls := .type "list", data := .seq vs.toArray } (.lst (vs.map toV))) := by
  show (if (Value.type "list" == Value.type "list") = true then some (HO.frz { cls := .type "list", data := .seq vs.toArray } (.lst (vs.toArray.toList.map toV))) else some (HO.frz { cls := .type "list", data := .seq vs.toArray } (.tup (vs.toArray.toList.map toV)))) = _
  rw [if_pos (beq_self_eq_true _)]
theorem hoOf_tup (vs : List Value) : hoOf { cls := .type "tuple", data := .seq vs.toArray } = some (.frz { cls := .type "tuple", data := .seq vs.toArray } (.tup (vs.map toV))) := by
  show (if (Value.type "tuple" == Value.type "list") = true then some (HO.frz { cls := .type "tuple", data := .seq vs.toArray } (.lst (vs.toArray.toList.map toV))) else some (HO.frz { cls := .type "tuple", data := .seq vs.toArray } (.tup (vs.toArray.toList.map toV)))) = _
  rw [if_neg (by decide)]
section
variable {P : Program} {w : World} {K : PySem.W.Frag} {h : Heap} {A : List Addr}
theorem argH_at {b : Addr} {o : Obj} (hb : b ∈ A) (hk : K.lookup b = none) (e : h.get? b = some o) : argH K h A b = hoOf o := by
  unfold argH
  rw [if_pos hb, hk, if_pos (show (none : Option Obj).isNone = true from rfl), e] <;> rfl
theorem of_argH {b : Addr} {u : HO} (q : argH K h A b = some u) : b ∈ A ∧ K.lookup b = none := by
  unfold argH at q
  by_cases hb : b ∈ A
  · rw [if_pos hb] at q
    cases hk : K.lookup b with
    | none => exact ⟨hb, rfl⟩
    | some o =>
      rw [hk, if_neg (by simp)] at q
      cases q
  · rw [if_neg hb] at q
    cases q
/-- what stands tracked -/
theorem argH_is (ar : ∀ a ∈ A, ArgOb h A a) {b : Addr} {u : HO} (q : argH K h A b = some u) : K.lookup b = none ∧ ∃ vs : List Value, vs.length ≤ sizeLine ∧ (∀ u ∈ vs, OkU A u) ∧
    ((h.get? b = some { cls := .type "list", data := .seq vs.toArray } ∧ u = .frz { cls := .type "list", data := .seq vs.toArray } (.lst (vs.map toV))) ∨
     (h.get? b = some { cls := .type "tuple", data := .seq vs.toArray } ∧ u = .frz { cls := .type "tuple", data := .seq vs.toArray } (.tup (vs.map toV)))) := by
  obtain ⟨hb, hk⟩ := of_argH q
  obtain ⟨vs, h1, h2, h3⟩ := ar b hb
  refine ⟨hk, vs, h1, h2, ?_⟩
  rcases h3 with e | e
  · rw [argH_at hb hk e, hoOf_lst] at q
    exact .inl ⟨e, (Option.some.inj q).symm⟩
  · rw [argH_at hb hk e, hoOf_tup] at q
    exact .inr ⟨e, (Option.some.inj q).symm⟩
theorem argH_only (ar : ∀ a ∈ A, ArgOb h A a) : OnlyF (argH K h A) := fun b => by
  cases q : argH K h A b with
  | none => exact .inl rfl
  | some u =>
    obtain ⟨_, vs, _, _, ⟨_, e⟩ | ⟨_, e⟩⟩ := argH_is ar q
    · exact .inr ⟨_, _, by rw [e]⟩
    · exact .inr ⟨_, _, by rw [e]⟩
theorem argH_ok (ar : ∀ a ∈ A, ArgOb h A a) : HOk P w (argH K h A) h := fun b u q => by
  obtain ⟨_, vs, h1, h2, ⟨e, rfl⟩ | ⟨e, rfl⟩⟩ := argH_is ar q
  · exact ⟨e, by rw [List.length_map]; exact h1, vs, _, vals_toV h2, e⟩
  · exact ⟨e, by rw [List.length_map]; exact h1, vs, vals_toV h2, _, e, rfl, _, rfl⟩
theorem seq_inj {c c' : Value} {vs us : List Value} (e : (some { cls := c, data := .seq vs.toArray } : Option Obj) = some { cls := c', data := .seq us.toArray }) : c = c' ∧ vs = us := by
  have e1 := Option.some.inj e
  have e2 : c = c' := congrArg Obj.cls e1
  have e3 : Data.seq vs.toArray = Data.seq us.toArray := congrArg Obj.data e1
  injection e3 with e4
  refine ⟨e2, ?_⟩
  have e5 := congrArg Array.toList e4
  simpa using e5
/-- a list argument -/
theorem argL (KX : K.In h) (ar : ∀ a ∈ A, ArgOb h A a) {a : Addr} {vs : List Value} (ha : a ∈ A) (e : h.get? a = some { cls := .type "list", data := .seq vs.toArray }) : (∀ u ∈ vs, OkU A u) ∧ SqL K (argH K h A) a (vs.map toV) := by
  obtain ⟨us, h1, h2, h3⟩ := ar a ha
  have hu : us = vs := by
    rcases h3 with q | q
    · rw [e] at q
      exact (seq_inj q).2.symm
    · rw [e] at q
      exact absurd (Value.type.inj (seq_inj q).1) (by decide)
  subst hu
  refine ⟨h2, ?_⟩
  cases hk : K.lookup a with
  | none => exact .inl (.inr ⟨_, by rw [argH_at ha hk e, hoOf_lst]⟩)
  | some o =>
    have e2 := KX a o hk
    rw [e] at e2
    obtain rfl := Option.some.inj e2
    exact .inr ⟨_, us.toArray, _, hk, rfl, rfl, rfl, by rw [List.size_toArray]; exact h1, by simpa using vals_toV h2⟩
theorem argT (KX : K.In h) (ar : ∀ a ∈ A, ArgOb h A a) {a : Addr} {vs : List Value} (ha : a ∈ A) (e : h.get? a = some { cls := .type "tuple", data := .seq vs.toArray }) : (∀ u ∈ vs, OkU A u) ∧ SqT K (argH K h A) a (vs.map toV) := by
  obtain ⟨us, h1, h2, h3⟩ := ar a ha
  have hu : us = vs := by
    rcases h3 with q | q
    · rw [e] at q
      exact absurd (Value.type.inj (seq_inj q).1) (by decide)
    · rw [e] at q
      exact (seq_inj q).2.symm
  subst hu
  refine ⟨h2, ?_⟩
  cases hk : K.lookup a with
  | none => exact .inl (.inr ⟨_, by rw [argH_at ha hk e, hoOf_tup]⟩)
  | some o =>
    have e2 := KX a o hk
    rw [e] at e2
    obtain rfl := Option.some.inj e2
    exact .inr ⟨_, us.toArray, _, hk, rfl, rfl, by rw [List.size_toArray]; exact h1, by simpa using vals_toV h2⟩
mutual
theorem dw_one {Pm : Params} (KX : K.In h) (ar : ∀ a ∈ A, ArgOb h A a) : ∀ (d : WData) (v : Value), Well Pm h v d → plW d = true → OkU A v → Dw K (argH K h A) (toV v) d
  | .none, _, x, _, _ => by
    cases x
    exact .non
  | .bool b, _, x, _, _ => by
    cases x
    exact .bl b
  | .int i, _, x, _, _ => by
    cases x
    exact .int i
  | .str s, _, x, _, _ => by
    cases x
    exact .str s
  | .bytes b, _, x, _, _ => by
    cases x
    have z := Dw.byt (K := K) (H := argH K h A) b.toArray
    exact z
  | .list ds, _, x, p, hu => by
    obtain ⟨a, vs, rfl, ho, hall⟩ := well_list x
    obtain ⟨h2, hs⟩ := argL KX ar hu ho
    exact .lst hs (dw_all KX ar ds _ hall p h2)
  | .tuple ds, _, x, p, hu => by
    obtain ⟨a, vs, rfl, ho, hall⟩ := well_tuple x
    obtain ⟨h2, hs⟩ := argT KX ar hu ho
    exact .tup hs (dw_all KX ar ds _ hall p h2)
  | .float _, _, _, p, _ => Bool.noConfusion (show false = true from p)
  | .dict _, _, _, p, _ => Bool.noConfusion (show false = true from p)
  | .bytearray _, _, _, p, _ => Bool.noConfusion (show false = true from p)
  | .set _, _, _, p, _ => Bool.noConfusion (show false = true from p)
  | .frozenset _, _, _, p, _ => Bool.noConfusion (show false = true from p)
  | .obj _ _, _, _, p, _ => Bool.noConfusion (show false = true from p)
theorem dw_all {Pm : Params} (KX : K.In h) (ar : ∀ a ∈ A, ArgOb h A a) : ∀ (ds : List WData) (vs : List Value), WellAll Pm h vs ds → plWs ds = true → (∀ u ∈ vs, OkU A u) → DwAll K (argH K h A) (vs.map toV) ds
  | [], _, x, _, _ => by
    cases x
    exact .nil
  | d :: ds, _, x, p, hu => by
    obtain ⟨v, vs, rfl, x1, x2⟩ := well_cons x
    have q : plW d = true ∧ plWs ds = true := Bool.and_eq_true_iff.mp p
    exact .cons (dw_one KX ar d v x1 q.1 (hu _ (List.mem_cons_self ..))) (dw_all KX ar ds vs x2 q.2 fun u m => hu u (List.mem_cons_of_mem _ m))
end
end
/-! ### the call -/
theorem spec_call {P : Program} {w : World} {K : PySem.W.Frag} {mg mb : Str → Option Value} {CX : CXT} {k : Nat} {fa : Addr} {fd : FuncData} {ps : List Str} {sp : Sp} {s₁ : Shared} {vals : List Value} {ds : List WData} {R : PySem.W.WRecords} {cl : Str → Option Addr} {d0 : WData}
    (KX : K.In s₁.heap) (hns : s₁.heap.Ns mainGlobals mg) (hb : s₁.heap.Ns builtinsNs mb) (hbb : ∀ x : Str, x ≠ "__name__" → mb x = bootBuiltins x) (hlim : s₁.heap.NoLimit) (hg : s₁.gens = #[])
    (hwl : WellAll w.params s₁.heap vals ds) (hpl : plWs ds = true) (hwt : ∀ d ∈ ds, d.weight ≤ 1048576) (hr : Room k callerA)
    (F : ∀ base : Heap, K.In base → base.Ns mainGlobals mg → FnOk P w K mg base CX k fa fd ps sp) (hbind : ∀ (s : Shared) (us : List Value), us.length = ps.length → BindsTo s fd ⟨us, []⟩ (ps.zip us)) (hlen : ds.length = ps.length)
    (hsp : ∀ (H : Hp) (xs : List V), OnlyF H → DwAll K H xs ds → sp xs H (fun v H' => Dw K H' v d0) fun _ _ _ => False)
    (hCX : ∀ H e s', CX [] H s₁ (fun _ _ _ => False) e s' → False) :
    codeAny (model P w) callerA (.call (.ref fa) ⟨vals, []⟩) (fun r s' => ∃ u as, r = .ok (.ret u) ∧ ReadsW R cl s'.heap u d0 as ∧ OldK s₁.heap s'.heap ∧ s'.os = s₁.os ∧ AllBare s'.gens) s₁ := by
  obtain ⟨A, ho, ar⟩ := area_all ds vals hwl hpl hwt
  have hO : OnlyF (argH K s₁.heap A) := argH_only ar
  have hok : HOk P w (argH K s₁.heap A) s₁.heap := argH_ok ar
  have hS := dw_all KX ar ds vals hwl hpl ho
  have hV := vals_toV ho
  have hK : ∀ b u, argH K s₁.heap A b = some u → K.lookup b = none := fun b u q => (argH_is ar q).1
  have noA : ∀ {b : Addr} {o : Obj} {es : Array DictEntry} {ep : Nat}, s₁.heap.get? b = some o → o.data = .dict es ep → argH K s₁.heap A b = none := fun {b o es ep} e d => by
    cases q : argH K s₁.heap A b with
    | none => rfl
    | some u =>
      obtain ⟨_, vs, _, _, ⟨e2, _⟩ | ⟨e2, _⟩⟩ := argH_is ar q
      · rw [e2] at e
        cases e
        have d' : Data.seq vs.toArray _ = Data.dict es ep := d
        cases d'
      · rw [e2] at e
        cases e
        have d' : Data.seq vs.toArray _ = Data.dict es ep := d
        cases d'
  generalize argH K s₁.heap A = H at hO hok hS hK noA
  have base_of : ∀ {b : Addr} {o : Obj}, s₁.heap.get? b = some o → H b = none → (hidT s₁.heap H).get? b = some o := fun e n => hidT_get e n
  have nsK : ∀ {b : Addr} {m : Str → Option Value}, s₁.heap.Ns b m → (hidT s₁.heap H).Ns b m := fun {b m} ⟨o, es, ep, e, d, r⟩ => ⟨o, es, ep, base_of e (noA e d), d, r⟩
  have nK : ∀ b o, K.lookup b = some o → H b = none := fun b o e => by
    cases q : H b with
    | none => rfl
    | some u =>
      rw [hK b u q] at e
      cases e
  have hKb : K.In (hidT s₁.heap H) := fun b o e => base_of (KX b o e) (nK b o e)
  have hM : Mod K mg (hidT s₁.heap H) := ⟨hKb, nsK hns, ⟨mb, nsK hb, hbb⟩, let ⟨mc, h1, h2⟩ := hlim; ⟨mc, nsK h1, h2⟩⟩
  have e0 : Env0 P w K mg (hidT s₁.heap H) callerA [] s₁ H := ⟨rfl, hM, fun b o e => of_hidT e, Nat.le_of_eq (hidT_size _ _), trivial, fun b hb => absurd (show b ∈ ([] : List Addr) from hb) (by simp), hok, .of_eq hg⟩
  have hl : vals.length = ps.length := by rw [wellAll_len hwl]; exact hlen
  refine codeAny_mono ((F _ hKb (nsK hns)).run callerA [] s₁ H ⟨vals, []⟩ vals (vals.map toV) _ _ hr e0 (hbind s₁ vals hl) hV (hsp H _ hO hS)) fun r s' x => ?_
  cases r with
  | error e => exact (hCX H e s' x).elim
  | ok fl =>
    cases fl with
    | next => exact False.elim x
    | brk => exact False.elim x
    | cont => exact False.elim x
    | ret u =>
      obtain ⟨v, H', os, bare, un, hok', r', q⟩ := x
      have kept : ∀ b o, s₁.heap.get? b = some o → s'.heap.get? b = some o := fun b o e => by
        cases q2 : H b with
        | none => exact un.keep b o e q2 (by intro z; exact absurd (show b ∈ ([] : List Addr) from z) (by simp)) (by simp)
        | some u2 =>
          rcases hO b with z | ⟨ob, u3, z⟩
          · rw [q2] at z
            cases z
          · have z2 := un.frzs b ob _ z
            obtain ⟨e1, _⟩ := hok b _ z
            obtain ⟨e2, _⟩ := hok' b _ z2
            rw [e] at e1
            cases e1
            exact e2
      have KX' : K.In s'.heap := fun b o e => kept b o (KX b o e)
      obtain ⟨as, hrd⟩ := Dw.reads (R := R) (cl := cl) hok' KX' d0 v u q r'
      exact ⟨u, as, rfl, hrd, OldK.of_keep kept, os, bare⟩
/-! ### the row -/
theorem layable_weight {ds : List WData} (h : WData.layableAll ds = true) : ∀ d ∈ ds, d.weight ≤ 1048576 := fun d hd =>
  (PySem.W.layableW_iff.mp (List.all_eq_true.mp h d hd)).2.2
theorem encAll_len : ∀ (cs : List Codec) (a : Codec.denoteAll cs), (Codec.encAll cs a).length = cs.length
  | [], _ => rfl
  | c :: cs, a => by
    show (Codec.encAll cs a.2).length + 1 = cs.length + 1
    rw [encAll_len cs a.2]
/-- the goal that k_headS leaves (case hc), from the promise of the row's def: whatever the arguments that the codecs let and the row asks for, the def gives what stands for enc (f ..) -/
theorem walk_spec {r : OpenSpec} {k : Nat} {q : Program} {loose : List Str} {XP : (Str → Option Value) → Heap → Prop} {YP : World → Heap → Prop} {d : DefRec} {K : Params → PySem.W.Frag} {CX : World → CXT} {ps : List Str} {sp : World → Sp}
    (hwell : r.wellSaid = true) (hdf : d.params.defaults = []) (hlen : r.args.length = ps.length) (hr : Room k callerA)
    (hY : ∀ (w : World) (h : Heap), YP w h → (K w.params).In h)
    (F : ∀ (w : World) (mg : Str → Option Value) (fa : Addr) (h : Heap), YP w h → (K w.params).In h → h.Ns mainGlobals mg → mg d.name = some (.ref fa) →
      ∃ fd : FuncData, (∀ (s : Shared) (us : List Value), us.length = ps.length → BindsTo s fd ⟨us, []⟩ (ps.zip us)) ∧
        ∀ base : Heap, (K w.params).In base → base.Ns mainGlobals mg → FnOk r.prog w (K w.params) mg base (CX w) k fa fd ps (sp w))
    (hsp : ∀ (w : World) (H : Hp) (xs : List V) (a : Codec.denoteAll r.args), OnlyF H → Codec.withinAll r.args a = true → Codec.app r.args r.asked a = true → DwAll (K w.params) H xs (Codec.encAll r.args a) →
      sp w xs H (fun v H' => Dw (K w.params) H' v (r.ret.enc (Codec.app r.args r.f a))) fun _ _ _ => False)
    (hCX : ∀ (w : World) (H : Hp) (s : Shared) (e : Value) (s' : Shared), CX w [] H s (fun _ _ _ => False) e s' → False) :
    PySem.W.WalkOS q loose XP YP r d [] (fun f vs => PySem.call f vs) := by
  intro w s_0 s₁ mg mb G Y fa o pm cd doc dV kV ho hd hcd hD hmg hg args vals as hpre hlay hrd hwl hlo
  obtain ⟨a, e1, e2⟩ := PySem.W.os_pre_some hpre
  obtain ⟨e3, hwi⟩ := Codec.encAll_of_decAll r.args args a e1
  subst e3
  have KX := hY w _ Y
  obtain ⟨fd, hb, hF⟩ := F w mg fa _ Y KX G.T.g hmg
  refine PySem.W.enter_call (codeAny_mono (spec_call (R := []) (cl := classAt s_0.heap) (d0 := r.ret.enc (Codec.app r.args r.f a)) KX G.T.g G.T.b G.T.builtins G.T.nolimit hg hwl (pl_encAll _ _) (layable_weight hlay) hr hF hb (by rw [encAll_len]; exact hlen)
    (fun H xs hO hS => hsp w H xs a hO hwi e2 hS) fun H e s' => hCX w H s₁ e s') fun r' s' hq => ?_)
  obtain ⟨u, as', rfl, h1, h2, h3, h4⟩ := hq
  exact ⟨.inl ⟨u, _, as', rfl, fun _ => rfl, h1, (OpenSpec.post_iff hwell hwi _ _).mpr rfl, fun z => Bool.noConfusion (show false = true from z)⟩, h2, h3, h4⟩
/-- the same where the promise hangs on the written part alone -/
theorem walk_specK {r : OpenSpec} {k : Nat} {q : Program} {loose : List Str} {XP : (Str → Option Value) → Heap → Prop} {YP : World → Heap → Prop} {d : DefRec} {K : Params → PySem.W.Frag} {CX : CXT} {ps : List Str} {sp : PySem.W.Frag → Sp}
    (hwell : r.wellSaid = true) (hdf : d.params.defaults = []) (hlen : r.args.length = ps.length) (hr : Room k callerA)
    (hY : ∀ (w : World) (h : Heap), YP w h → (K w.params).In h)
    (F : ∀ (w : World) (mg : Str → Option Value) (fa : Addr) (h : Heap), YP w h → (K w.params).In h → h.Ns mainGlobals mg → mg d.name = some (.ref fa) →
      ∃ fd : FuncData, (∀ (s : Shared) (us : List Value), us.length = ps.length → BindsTo s fd ⟨us, []⟩ (ps.zip us)) ∧
        ∀ base : Heap, (K w.params).In base → base.Ns mainGlobals mg → FnOk r.prog w (K w.params) mg base CX k fa fd ps (sp (K w.params)))
    (hsp : ∀ (K : PySem.W.Frag) (H : Hp) (xs : List V) (a : Codec.denoteAll r.args), OnlyF H → Codec.withinAll r.args a = true → Codec.app r.args r.asked a = true → DwAll K H xs (Codec.encAll r.args a) →
      sp K xs H (fun v H' => Dw K H' v (r.ret.enc (Codec.app r.args r.f a))) fun _ _ _ => False)
    (hCX : ∀ (H : Hp) (s : Shared) (e : Value) (s' : Shared), CX [] H s (fun _ _ _ => False) e s' → False) :
    PySem.W.WalkOS q loose XP YP r d [] (fun f vs => PySem.call f vs) :=
  walk_spec (K := K) (CX := fun _ => CX) (sp := fun w => sp (K w.params)) hwell hdf hlen hr hY F (fun w H xs a h1 h2 h3 h4 => hsp (K w.params) H xs a h1 h2 h3 h4) fun _ H s e s' => hCX H s e s'
end L2
-- rests on (row put in by the clerk, for the bench that shows a file only what it spells): KE.SpHead KE.OsShapes
end



end
section
namespace Rec
open Uw83 (Row at_ faces leftOf turnsNow)

theorem at_get {r : Row} {i : Nat} (h : i < r.length) : r[i]? = some (at_ r i) := by
  unfold at_
  rw [List.getD_eq_getElem?_getD, List.getElem?_eq_getElem h]
  rfl

def plist (ring : Bool) (r : Row) : List Nat := (List.range r.length).filter (faces ring r)
theorem pairs_len (ring : Bool) (r : Row) : Uw83.pairs ring r = (plist ring r).length := rfl

theorem faces_iff {ring : Bool} {r : Row} {i : Nat} (h : i < r.length) :
    faces ring r i = true ↔ (i + 1 < r.length ∨ ring = true) ∧ at_ r i = 1 ∧ at_ r ((i + 1) % r.length) = 0 := by
  unfold faces
  by_cases h1 : i + 1 < r.length
  · rw [if_pos h1, Nat.mod_eq_of_lt h1]
    simp [h1]
  · have e : i + 1 = r.length := by omega
    rw [if_neg h1, e, Nat.mod_self]
    simp

theorem mem_plist {ring : Bool} {r : Row} {i : Nat} :
    i ∈ plist ring r ↔ i < r.length ∧ (i + 1 < r.length ∨ ring = true) ∧ at_ r i = 1 ∧ at_ r ((i + 1) % r.length) = 0 := by
  unfold plist
  rw [List.mem_filter, List.mem_range]
  constructor
  · rintro ⟨a, b⟩
    exact ⟨a, (faces_iff a).mp b⟩
  · rintro ⟨a, b⟩
    exact ⟨a, (faces_iff a).mpr b⟩

/-- the program's own list of pairs -/
def lefts (ring : Bool) (n : Nat) : Nat := if ring = true then n else n - 1
def look (r : Row) (i : Nat) : Bool := at_ r i == 1 && at_ r ((i + 1) % r.length) == 0
theorem plist_eq (ring : Bool) (r : Row) : (List.range (lefts ring r.length)).filter (look r) = plist ring r := by
  unfold plist lefts
  cases ring with
  | true =>
    rw [if_pos rfl]
    apply List.filter_congr
    intro i hi
    rw [List.mem_range] at hi
    rw [Bool.eq_iff_iff, faces_iff hi]
    simp [look]
  | false =>
    rw [if_neg (by simp)]
    cases hn : r.length with
    | zero => rfl
    | succ n =>
      rw [List.range_succ, List.filter_append]
      have e : List.filter (faces false r) [n] = [] := by
        rw [List.filter_cons, if_neg]
        · rfl
        · intro h
          have := (faces_iff (ring := false) (r := r) (i := n) (by omega)).mp h
          simp at this
          omega
      rw [e, List.append_nil]
      apply List.filter_congr
      intro i hi
      simp at hi
      rw [Bool.eq_iff_iff, faces_iff (by omega)]
      simp [look]
      omega

def put (n : Nat) (b : List Nat) (l : Nat) : List Nat := (b.set l 0).set ((l + 1) % n) 1
theorem put_length (n : Nat) (b : List Nat) (l : Nat) : (put n b l).length = b.length := by simp [put]
theorem fold_length (n : Nat) : ∀ (ls b : List Nat), (ls.foldl (put n) b).length = b.length
  | [], b => rfl
  | l :: ls, b => by rw [List.foldl_cons, fold_length n ls, put_length]
theorem fold_at (n : Nat) : ∀ (ls b : List Nat) (j : Nat), b.length = n → j < n → (∀ l ∈ ls, ∀ l' ∈ ls, (l + 1) % n ≠ l') →
    at_ (ls.foldl (put n) b) j = if ∃ l ∈ ls, (l + 1) % n = j then 1 else if j ∈ ls then 0 else at_ b j
  | [], b, j, hb, hj, hd => by simp
  | l :: ls, b, j, hb, hj, hd => by
    rw [List.foldl_cons, fold_at n ls (put n b l) j (by rw [put_length, hb]) hj (fun a ha a' ha' => hd a (List.mem_cons_of_mem _ ha) a' (List.mem_cons_of_mem _ ha'))]
    have hp : at_ (put n b l) j = if (l + 1) % n = j then 1 else if j = l then 0 else at_ b j := by
      unfold at_ put
      rw [List.getD_eq_getElem?_getD, List.getD_eq_getElem?_getD, List.getElem?_set, List.getElem?_set]
      by_cases h1 : (l + 1) % n = j
      · rw [if_pos h1, if_pos h1, if_pos (by simp; omega)]
        rfl
      · rw [if_neg h1, if_neg h1]
        by_cases h2 : l = j
        · rw [if_pos h2, if_pos h2.symm, if_pos (by omega)]
          rfl
        · rw [if_neg h2, if_neg (fun q => h2 q.symm)]
    rw [hp]
    have h0 := hd l (List.mem_cons_self)
    by_cases h1 : ∃ a ∈ ls, (a + 1) % n = j
    · rw [if_pos h1, if_pos]
      obtain ⟨a, ha, e⟩ := h1
      exact ⟨a, List.mem_cons_of_mem _ ha, e⟩
    · rw [if_neg h1]
      by_cases h2 : (l + 1) % n = j
      · rw [if_pos h2, if_neg (fun q => h0 j (List.mem_cons_of_mem _ q) h2), if_pos ⟨l, List.mem_cons_self, h2⟩]
      · rw [if_neg h2, if_neg (c := ∃ a ∈ l :: ls, (a + 1) % n = j)]
        · by_cases h3 : j ∈ ls
          · rw [if_pos h3, if_pos (List.mem_cons_of_mem _ h3)]
          · rw [if_neg h3]
            by_cases h4 : j = l
            · rw [if_pos h4, if_pos (by rw [h4]; exact List.mem_cons_self)]
            · rw [if_neg h4, if_neg (by simp [h3, h4])]
        · rintro ⟨a, ha, e⟩
          rcases List.mem_cons.mp ha with rfl | ha
          · exact h2 e
          · exact h1 ⟨a, ha, e⟩

theorem second_length (ring : Bool) (r : Row) : (Uw83.second ring r).length = r.length := by simp [Uw83.second]
theorem second_at (ring : Bool) (r : Row) {j : Nat} (h : j < r.length) : at_ (Uw83.second ring r) j = if turnsNow ring r j = true then 1 - at_ r j else at_ r j := by
  have : at_ (Uw83.second ring r) j = (Uw83.second ring r)[j]'(by rw [second_length]; exact h) := by
    unfold at_
    rw [List.getD_eq_getElem?_getD, List.getElem?_eq_getElem (by rw [second_length]; exact h)]
    rfl
  rw [this]
  simp [Uw83.second]
theorem ext_at {a b : Row} (h : a.length = b.length) (e : ∀ j, j < a.length → at_ a j = at_ b j) : a = b := by
  apply List.ext_getElem?
  intro j
  by_cases hj : j < a.length
  · rw [at_get hj, at_get (by omega), e j hj]
  · rw [List.getElem?_eq_none (by omega), List.getElem?_eq_none (by omega)]

theorem disj {ring : Bool} {r : Row} : ∀ l ∈ plist ring r, ∀ l' ∈ plist ring r, (l + 1) % r.length ≠ l' := by
  intro l hl l' hl' e
  have h1 := (mem_plist.mp hl).2.2.2
  have h2 := (mem_plist.mp hl').2.2.1
  rw [e, h2] at h1
  exact absurd h1 (by decide)
theorem right_iff {ring : Bool} {r : Row} {j : Nat} (h : j < r.length) : (∃ l ∈ plist ring r, (l + 1) % r.length = j) ↔ (leftOf ring r.length j).any (faces ring r) = true := by
  unfold leftOf
  constructor
  · rintro ⟨l, hl, e⟩
    obtain ⟨h1, h2, h3, h4⟩ := mem_plist.mp hl
    have hf := (faces_iff (ring := ring) h1).mpr ⟨h2, h3, h4⟩
    by_cases h5 : l + 1 < r.length
    · rw [Nat.mod_eq_of_lt h5] at e
      rw [if_neg (by omega)]
      subst e
      simpa using hf
    · have e2 : l + 1 = r.length := by omega
      rw [e2, Nat.mod_self] at e
      have hr : ring = true := by
        rcases h2 with h2 | h2
        · omega
        · exact h2
      rw [if_pos e.symm, if_pos hr]
      have : r.length - 1 = l := by omega
      rw [this]
      simpa using hf
  · intro q
    by_cases hj : j = 0
    · rw [if_pos hj] at q
      by_cases hr : ring = true
      · rw [if_pos hr] at q
        have q' : faces ring r (r.length - 1) = true := by simpa using q
        refine ⟨r.length - 1, List.mem_filter.mpr ⟨List.mem_range.mpr (by omega), q'⟩, ?_⟩
        rw [show r.length - 1 + 1 = r.length by omega, Nat.mod_self, hj]
      · rw [if_neg hr] at q
        simp at q
    · rw [if_neg hj] at q
      have q' : faces ring r (j - 1) = true := by simpa using q
      refine ⟨j - 1, List.mem_filter.mpr ⟨List.mem_range.mpr (by omega), q'⟩, ?_⟩
      rw [show j - 1 + 1 = j by omega, Nat.mod_eq_of_lt h]
/-- **the program's second is the document's** -/
theorem second_fold (ring : Bool) (r : Row) : (plist ring r).foldl (put r.length) r = Uw83.second ring r := by
  apply ext_at
  · rw [fold_length, second_length]
  · intro j hj
    rw [fold_length] at hj
    rw [fold_at r.length _ _ j rfl hj disj, second_at ring r hj]
    unfold turnsNow
    by_cases h1 : ∃ l ∈ plist ring r, (l + 1) % r.length = j
    · rw [if_pos h1, (right_iff hj).mp h1, Bool.or_true, if_pos rfl]
      obtain ⟨l, hl, e⟩ := h1
      have := (mem_plist.mp hl).2.2.2
      rw [e] at this
      rw [this]
    · rw [if_neg h1]
      have h1' : (leftOf ring r.length j).any (faces ring r) = false := by
        rw [Bool.eq_false_iff]
        exact fun q => h1 ((right_iff hj).mpr q)
      rw [h1', Bool.or_false]
      by_cases h2 : j ∈ plist ring r
      · have h3 := (mem_plist.mp h2)
        rw [if_pos h2, if_pos ((faces_iff hj).mpr h3.2), h3.2.2.1]
      · rw [if_neg h2, if_neg]
        intro q
        exact h2 (List.mem_filter.mpr ⟨List.mem_range.mpr hj, q⟩)

theorem later_succ (ring : Bool) : ∀ (s : Nat) (r : Row), Uw83.later ring (s + 1) r = Uw83.second ring (Uw83.later ring s r)
  | 0, r => rfl
  | s + 1, r => by
    show Uw83.later ring (s + 1) (Uw83.second ring r) = _
    rw [later_succ ring s]
    rfl
theorem later_length (ring : Bool) (s : Nat) (r : Row) : (Uw83.later ring s r).length = r.length := by
  induction s with
  | zero => rfl
  | succ s ih => rw [later_succ, second_length, ih]

/-- the recruits as the document has them -/
structure Wf (ring : Bool) (r : Row) : Prop where
  lo : 1 ≤ r.length
  hi : r.length ≤ 12
  ring3 : ring = true → 3 ≤ r.length
  bit : ∀ x ∈ r, x ≤ 1
theorem Wf.at_le {ring : Bool} {r : Row} (h : Wf ring r) (i : Nat) : at_ r i ≤ 1 := by
  by_cases hi : i < r.length
  · exact h.bit _ (List.mem_of_getElem? (at_get hi))
  · unfold at_
    rw [List.getD_eq_getElem?_getD, List.getElem?_eq_none (by omega)]
    exact Nat.zero_le _
theorem Wf.second {ring : Bool} {r : Row} (h : Wf ring r) : Wf ring (Uw83.second ring r) := by
  refine ⟨by rw [second_length]; exact h.lo, by rw [second_length]; exact h.hi, fun q => by rw [second_length]; exact h.ring3 q, fun x hx => ?_⟩
  unfold Uw83.second at hx
  obtain ⟨i, _, rfl⟩ := List.mem_map.mp hx
  have := h.at_le i
  split <;> omega
theorem Wf.later {ring : Bool} {r : Row} (h : Wf ring r) (s : Nat) : Wf ring (Uw83.later ring s r) := by
  induction s with
  | zero => exact h
  | succ s ih => rw [later_succ]; exact ih.second
theorem Wf.turn {ring : Bool} {r : Row} (h : Wf ring r) (i : Nat) : Wf ring (r.set i (1 - at_ r i)) := by
  refine ⟨by rw [List.length_set]; exact h.lo, by rw [List.length_set]; exact h.hi, fun q => by rw [List.length_set]; exact h.ring3 q, fun x hx => ?_⟩
  rcases List.mem_or_eq_of_mem_set hx with hx | rfl
  · exact h.bit x hx
  · omega
theorem wf_init : Wf Uw83.init.ring Uw83.init.row := ⟨by decide, by decide, by decide, by decide⟩
theorem plist_le (ring : Bool) (r : Row) : (plist ring r).length ≤ r.length := by
  have := List.length_filter_le (faces ring r) (List.range r.length)
  rw [List.length_range] at this
  exact this
end Rec

end
section
namespace Rec
open Uw83 (Row at_ faces leftOf turnsNow)

/-! ### rests, in general -/
theorem restsIn_some (ring : Bool) : ∀ (f : Nat) (r : Row) (t : Nat), Uw83.restsIn ring f r = some t ↔ t < f ∧ Uw83.pairs ring (Uw83.later ring t r) = 0 ∧ ∀ s, s < t → Uw83.pairs ring (Uw83.later ring s r) ≠ 0
  | 0, r, t => by simp [Uw83.restsIn]
  | f + 1, r, t => by
    unfold Uw83.restsIn
    by_cases h : Uw83.pairs ring r = 0
    · rw [if_pos h]
      constructor
      · intro e
        cases e
        exact ⟨by omega, h, fun s hs => by omega⟩
      · rintro ⟨_, _, h3⟩
        cases t with
        | zero => rfl
        | succ t => exact absurd h (h3 0 (by omega))
    · rw [if_neg h, Option.map_eq_some_iff]
      constructor
      · rintro ⟨u, hu, rfl⟩
        obtain ⟨h1, h2, h3⟩ := (restsIn_some ring f _ u).mp hu
        refine ⟨by omega, h2, fun s hs => ?_⟩
        cases s with
        | zero => exact h
        | succ s => exact h3 s (by omega)
      · rintro ⟨h1, h2, h3⟩
        cases t with
        | zero => exact absurd h2 h
        | succ t => exact ⟨t, (restsIn_some ring f _ t).mpr ⟨by omega, h2, fun s hs => h3 (s + 1) (by omega)⟩, rfl⟩
theorem rests_of {ring : Bool} {r : Row} {t : Nat} (h1 : t ≤ r.length) (h2 : Uw83.pairs ring (Uw83.later ring t r) = 0) (h3 : ∀ s, s < t → Uw83.pairs ring (Uw83.later ring s r) ≠ 0) : Uw83.rests ring r = some t :=
  (restsIn_some ring _ r t).mpr ⟨by omega, h2, h3⟩

/-! ### a row's second, from the left -/
def sec : List Nat → List Nat
  | [] => []
  | [x] => [x]
  | x :: y :: r => if x = 1 ∧ y = 0 then 0 :: 1 :: sec r else x :: sec (y :: r)
def prs : List Nat → Nat
  | [] => 0
  | [_] => 0
  | x :: y :: r => if x = 1 ∧ y = 0 then 1 + prs r else prs (y :: r)
theorem sec_length : ∀ r : List Nat, (sec r).length = r.length
  | [] => rfl
  | [x] => rfl
  | x :: y :: r => by
    unfold sec
    split
    · simp [sec_length r]
    · simp [sec_length (y :: r)]
/-- what stands at a place of the row, 2 outside -/
def gt (r : List Nat) (i : Nat) : Nat := r.getD i 2
theorem sec_at : ∀ (r : List Nat) (i : Nat), i < r.length → gt (sec r) i = if gt r i = 1 ∧ gt r (i + 1) = 0 then 0 else if gt r i = 0 ∧ 0 < i ∧ gt r (i - 1) = 1 then 1 else gt r i
  | [], i, h => by simp at h
  | [x], i, h => by
    have : i = 0 := by simpa using h
    subst this
    simp [sec, gt]
  | x :: y :: r, i, h => by
    unfold sec
    by_cases hxy : x = 1 ∧ y = 0
    · rw [if_pos hxy]
      obtain ⟨rfl, rfl⟩ := hxy
      match i with
      | 0 => simp [gt]
      | 1 => simp [gt]
      | i + 2 =>
        have ih := sec_at r i (by simpa using h)
        show gt (sec r) i = _
        rw [ih]
        have e1 : gt (1 :: 0 :: r) (i + 2) = gt r i := rfl
        have e2 : gt (1 :: 0 :: r) (i + 2 + 1) = gt r (i + 1) := rfl
        rw [e1, e2]
        by_cases hi : i = 0
        · subst hi
          have e3 : gt (1 :: 0 :: r) (0 + 2 - 1) = 0 := rfl
          rw [e3]
          simp
        · have e3 : gt (1 :: 0 :: r) (i + 2 - 1) = gt r (i - 1) := by
            obtain ⟨k, rfl⟩ : ∃ k, i = k + 1 := ⟨i - 1, by omega⟩
            rfl
          rw [e3]
          have : (0 < i) ↔ (0 < i + 2) := by omega
          simp only [this]
    · rw [if_neg hxy]
      match i with
      | 0 =>
        show x = _
        have e1 : gt (x :: y :: r) 0 = x := rfl
        have e2 : gt (x :: y :: r) (0 + 1) = y := rfl
        rw [e1, e2, if_neg hxy, if_neg (by omega)]
      | i + 1 =>
        have ih := sec_at (y :: r) i (by simpa using h)
        show gt (sec (y :: r)) i = _
        rw [ih]
        have e1 : gt (x :: y :: r) (i + 1) = gt (y :: r) i := rfl
        have e2 : gt (x :: y :: r) (i + 1 + 1) = gt (y :: r) (i + 1) := rfl
        rw [e1, e2]
        by_cases hi : i = 0
        · subst hi
          have e3 : gt (x :: y :: r) (0 + 1 - 1) = x := rfl
          have e4 : gt (y :: r) 0 = y := rfl
          rw [e3, e4]
          have : ¬ (y = 0 ∧ 0 < 0 + 1 ∧ x = 1) := fun q => hxy ⟨q.2.2, q.1⟩
          rw [if_neg this, if_neg (c := y = 0 ∧ 0 < 0 ∧ _) (by omega)]
        · have e3 : gt (x :: y :: r) (i + 1 - 1) = gt (y :: r) (i - 1) := by
            obtain ⟨k, rfl⟩ : ∃ k, i = k + 1 := ⟨i - 1, by omega⟩
            rfl
          rw [e3]
          have : (0 < i) ↔ (0 < i + 1) := by omega
          simp only [this]
theorem gt_at {r : Row} {i : Nat} (h : i < r.length) : gt r i = at_ r i := by
  unfold gt at_
  rw [List.getD_eq_getElem?_getD, List.getD_eq_getElem?_getD, List.getElem?_eq_getElem h]
  rfl
theorem gt_out {r : Row} {i : Nat} (h : r.length ≤ i) : gt r i = 2 := by
  unfold gt
  rw [List.getD_eq_getElem?_getD, List.getElem?_eq_none h]
  rfl
theorem faces_row {r : Row} {i : Nat} (h : i < r.length) : faces false r i = true ↔ gt r i = 1 ∧ gt r (i + 1) = 0 := by
  rw [faces_iff h, gt_at h]
  by_cases h1 : i + 1 < r.length
  · rw [gt_at h1, Nat.mod_eq_of_lt h1]
    simp [h1]
  · rw [gt_out (by omega)]
    simp [h1]
theorem second_row (r : Row) : Uw83.second false r = sec r := by
  apply ext_at
  · rw [second_length, sec_length]
  · intro j hj
    rw [second_length] at hj
    rw [second_at false r hj, ← gt_at (r := sec r) (by rw [sec_length]; exact hj), sec_at r j hj]
    have ht : turnsNow false r j = true ↔ (gt r j = 1 ∧ gt r (j + 1) = 0) ∨ (gt r j = 0 ∧ 0 < j ∧ gt r (j - 1) = 1) := by
      unfold turnsNow leftOf
      rw [Bool.or_eq_true, faces_row hj]
      by_cases h0 : j = 0
      · rw [if_pos h0, if_neg (by simp)]
        simp [h0]
      · rw [if_neg h0]
        have : (some (j - 1)).any (faces false r) = faces false r (j - 1) := rfl
        rw [this, faces_row (by omega), show j - 1 + 1 = j by omega]
        constructor
        · rintro (h | h)
          · exact .inl h
          · exact .inr ⟨h.2, by omega, h.1⟩
        · rintro (h | h)
          · exact .inl h
          · exact .inr ⟨h.2.2, h.1⟩
    by_cases h1 : gt r j = 1 ∧ gt r (j + 1) = 0
    · rw [if_pos (ht.mpr (.inl h1)), if_pos h1, ← gt_at hj, h1.1]
    · rw [if_neg h1]
      by_cases h2 : gt r j = 0 ∧ 0 < j ∧ gt r (j - 1) = 1
      · rw [if_pos (ht.mpr (.inr h2)), if_pos h2, ← gt_at hj, h2.1]
      · rw [if_neg h2, if_neg, gt_at hj]
        intro q
        rcases ht.mp q with q | q
        · exact h1 q
        · exact h2 q

/-! ### how long a row needs: o ones so far, a seconds so far -/
def need : List Nat → Nat → Nat → Nat
  | [], _, a => a
  | x :: r, o, a => if x = 0 then need r o (if o = 0 then a else max (a + 1) o) else need r (o + 1) a
theorem need_mono : ∀ (r : List Nat) (o a a' : Nat), a ≤ a' → need r o a ≤ need r o a'
  | [], _, _, _, h => h
  | x :: r, o, a, a', h => by
    unfold need
    split
    · apply need_mono
      split <;> omega
    · exact need_mono r _ _ _ h
/-- z: the one just behind (on the left) faces left, or there is none -/
theorem need_sec : ∀ (r : List Nat) (o a a' : Nat), (∀ x ∈ r, x ≤ 1) → (r.head? = some 0 → 0 < o → o ≤ a) → (a = 0 → a' = 0) → (0 < a → a' + 1 ≤ a) → (0 < a → 0 < o) →
    (need r o a = 0 → need (sec r) o a' = 0) ∧ (0 < need r o a → need (sec r) o a' + 1 ≤ need r o a)
  | [], o, a, a', hb, hz, h0, h1, h2 => by
    simp only [sec, need]
    exact ⟨h0, h1⟩
  | [x], o, a, a', hb, hz, h0, h1, h2 => by
    have hx := hb x (by simp)
    by_cases hx0 : x = 0
    · subst hx0
      have hz' := hz rfl
      simp only [sec, need, if_pos]
      by_cases ho : o = 0
      · rw [if_pos ho, if_pos ho]
        exact ⟨h0, h1⟩
      · rw [if_neg ho, if_neg ho]
        have := hz' (by omega)
        have := h1 (by omega)
        omega
    · simp only [sec, need, if_neg hx0]
      exact ⟨h0, h1⟩
  | x :: y :: r, o, a, a', hb, hz, h0, h1, h2 => by
    have hx := hb x (by simp)
    have hy := hb y (by simp)
    unfold sec
    by_cases hxy : x = 1 ∧ y = 0
    · rw [if_pos hxy]
      obtain ⟨rfl, rfl⟩ := hxy
      have e1 : need (1 :: 0 :: r) o a = need r (o + 1) (max (a + 1) (o + 1)) := by
        simp [need]
      have e2 : need (0 :: 1 :: sec r) o a' = need (sec r) (o + 1) (if o = 0 then a' else max (a' + 1) o) := by
        simp [need]
      rw [e1, e2]
      refine need_sec r (o + 1) _ _ (fun z hz => hb z (by simp [hz])) (fun _ _ => by omega) (by omega) (fun _ => ?_) (by omega)
      by_cases ho : o = 0
      · rw [if_pos ho]
        have : a = 0 := by
          rcases Nat.eq_zero_or_pos a with q | q
          · exact q
          · have := h2 q
            omega
        rw [h0 this]
        omega
      · rw [if_neg ho]
        rcases Nat.eq_zero_or_pos a with q | q
        · rw [h0 q]
          omega
        · have := h1 q
          omega
    · rw [if_neg hxy]
      by_cases hx0 : x = 0
      · subst hx0
        have hz' := hz rfl
        have e1 : need (0 :: y :: r) o a = need (y :: r) o (if o = 0 then a else max (a + 1) o) := by
          rw [need, if_pos rfl]
        have e2 : need (0 :: sec (y :: r)) o a' = need (sec (y :: r)) o (if o = 0 then a' else max (a' + 1) o) := by
          rw [need, if_pos rfl]
        rw [e1, e2]
        by_cases ho : o = 0
        · rw [if_pos ho, if_pos ho]
          exact need_sec (y :: r) o a a' (fun z hz => hb z (by simp at hz; simp [hz])) (fun _ _ => by omega) h0 h1 h2
        · rw [if_neg ho, if_neg ho]
          have k1 := hz' (by omega)
          have k2 := h1 (by omega)
          exact need_sec (y :: r) o _ _ (fun z hz => hb z (by simp at hz; simp [hz])) (fun _ _ => by omega) (by omega) (fun _ => by omega) (fun _ => by omega)
      · have hx1 : x = 1 := by omega
        subst hx1
        have hy1 : y = 1 := by
          rcases Nat.eq_zero_or_pos y with q | q
          · exact absurd ⟨rfl, q⟩ hxy
          · omega
        have e1 : need (1 :: y :: r) o a = need (y :: r) (o + 1) a := by
          rw [need, if_neg (by decide)]
        have e2 : need (1 :: sec (y :: r)) o a' = need (sec (y :: r)) (o + 1) a' := by
          rw [need, if_neg (by decide)]
        rw [e1, e2]
        exact need_sec (y :: r) (o + 1) a a' (fun z hz => hb z (by simp at hz; simp [hz])) (fun q _ => by rw [hy1] at q; simp at q) h0 h1 (by omega)
theorem need_grow : ∀ (r : List Nat) (o a : Nat), a ≤ need r o a
  | [], _, _ => Nat.le_refl _
  | x :: r, o, a => by
    unfold need
    split
    · refine Nat.le_trans ?_ (need_grow r _ _)
      split <;> omega
    · exact need_grow r _ _
/-- no second is needed: none face one another -/
theorem need_rest : ∀ (r : List Nat) (o : Nat) (i : Nat), need r o 0 = 0 → gt r i = 1 → gt r (i + 1) = 0 → False
  | [], o, i, h, e1, e2 => by simp [gt] at e1
  | [x], o, i, h, e1, e2 => by
    cases i <;> simp [gt] at e2
  | x :: y :: r, o, 0, h, e1, e2 => by
    have e1' : x = 1 := e1
    have e2' : y = 0 := e2
    subst e1' e2'
    have : need (1 :: 0 :: r) o 0 = need r (o + 1) (max (0 + 1) (o + 1)) := by simp [need]
    rw [this] at h
    have := need_grow r (o + 1) (max (0 + 1) (o + 1))
    omega
  | x :: y :: r, o, i + 1, h, e1, e2 => by
    rw [need] at h
    by_cases hx : x = 0
    · rw [if_pos hx] at h
      by_cases ho : o = 0
      · rw [if_pos ho] at h
        exact need_rest (y :: r) o i h e1 e2
      · rw [if_neg ho] at h
        have := need_grow (y :: r) o (max (0 + 1) o)
        omega
    · rw [if_neg hx] at h
      exact need_rest (y :: r) (o + 1) i h e1 e2
theorem need_le1 : ∀ (r : List Nat) (o a : Nat), 1 ≤ o → need r o a ≤ max a (o - 1) + r.length
  | [], o, a, h => by simp [need]; omega
  | x :: r, o, a, h => by
    rw [need, List.length_cons]
    by_cases hx : x = 0
    · rw [if_pos hx, if_neg (by omega)]
      have := need_le1 r o (max (a + 1) o) h
      omega
    · rw [if_neg hx]
      have := need_le1 r (o + 1) a (by omega)
      omega
theorem need_le : ∀ (r : List Nat), need r 0 0 ≤ r.length - 1
  | [] => Nat.le_refl _
  | x :: r => by
    rw [need, List.length_cons]
    by_cases hx : x = 0
    · rw [if_pos hx, if_pos rfl]
      have := need_le r
      omega
    · rw [if_neg hx]
      have := need_le1 r (0 + 1) 0 (by omega)
      omega
theorem pairs_zero {ring : Bool} {r : Row} : Uw83.pairs ring r = 0 ↔ ∀ i, i < r.length → ¬ faces ring r i = true := by
  unfold Uw83.pairs
  rw [List.length_eq_zero_iff, List.filter_eq_nil_iff]
  simp
theorem need_zero {r : Row} (h : need r 0 0 = 0) : Uw83.pairs false r = 0 :=
  pairs_zero.mpr fun i hi q => by
    have := (faces_row hi).mp q
    exact need_rest r 0 i h this.1 this.2
theorem later_need {r : Row} (hb : ∀ x ∈ r, x ≤ 1) : ∀ s : Nat, need (Uw83.later false s r) 0 0 ≤ need r 0 0 - s ∧ ∀ x ∈ Uw83.later false s r, x ≤ 1
  | 0 => ⟨by show need r 0 0 ≤ _; omega, hb⟩
  | s + 1 => by
    obtain ⟨ih, hb'⟩ := later_need hb s
    rw [later_succ, second_row]
    have k := need_sec (Uw83.later false s r) 0 0 0 hb' (fun _ h => by omega) (fun _ => rfl) (fun h => by omega) (fun h => by omega)
    refine ⟨?_, fun x hx => ?_⟩
    · rcases Nat.eq_zero_or_pos (need (Uw83.later false s r) 0 0) with q | q
      · rw [k.1 q]
        omega
      · have := k.2 q
        omega
    · rw [← second_row] at hx
      unfold Uw83.second at hx
      obtain ⟨i, _, rfl⟩ := List.mem_map.mp hx
      have : at_ (Uw83.later false s r) i ≤ 1 := by
        by_cases hi : i < (Uw83.later false s r).length
        · exact hb' _ (List.mem_of_getElem? (at_get hi))
        · unfold at_
          rw [List.getD_eq_getElem?_getD, List.getElem?_eq_none (by omega)]
          exact Nat.zero_le _
      split <;> omega
/-- **a row of n rests within n - 1 seconds** -/
theorem row_rests {r : Row} (hb : ∀ x ∈ r, x ≤ 1) (hl : 1 ≤ r.length) : Uw83.pairs false (Uw83.later false (r.length - 1) r) = 0 := by
  apply need_zero
  have h1 := (later_need hb (r.length - 1)).1
  have h2 := need_le r
  omega
/-- the first number at which p holds, up to n -/
theorem least {p : Nat → Prop} [DecidablePred p] : ∀ n, p n → ∃ t, t ≤ n ∧ p t ∧ ∀ s, s < t → ¬ p s
  | 0, h => ⟨0, Nat.le_refl _, h, fun s hs => absurd hs (Nat.not_lt_zero _)⟩
  | n + 1, h => by
    by_cases q : ∃ k, k ≤ n ∧ p k
    · obtain ⟨k, hk, hp⟩ := q
      obtain ⟨t, h1, h2, h3⟩ := least (p := p) k hp
      exact ⟨t, by omega, h2, h3⟩
    · exact ⟨n + 1, Nat.le_refl _, h, fun s hs hp => q ⟨s, by omega, hp⟩⟩
theorem rests_row {r : Row} (hb : ∀ x ∈ r, x ≤ 1) (hl : 1 ≤ r.length) : ∃ t, t ≤ r.length - 1 ∧ Uw83.rests false r = some t ∧ Uw83.pairs false (Uw83.later false t r) = 0 ∧ ∀ s, s < t → Uw83.pairs false (Uw83.later false s r) ≠ 0 := by
  obtain ⟨t, h1, h2, h3⟩ := least (p := fun s => Uw83.pairs false (Uw83.later false s r) = 0) (r.length - 1) (row_rests hb hl)
  exact ⟨t, h1, rests_of (by omega) h2 h3, h2, h3⟩

/-! ### rings -/
/-- a ring with both kinds in it is not at rest -/
theorem ring_both {r : Row} (hb : ∀ x ∈ r, x ≤ 1) {j k : Nat} (hj : j < r.length) (hk : k < r.length) (ej : at_ r j = 1) (ek : at_ r k = 0) : Uw83.pairs true r ≠ 0 := by
  intro h
  have hno := pairs_zero.mp h
  have go : ∀ m : Nat, at_ r ((j + m) % r.length) = 1 := by
    intro m
    induction m with
    | zero => rw [Nat.add_zero, Nat.mod_eq_of_lt hj]; exact ej
    | succ m ih =>
      have hlt : (j + m) % r.length < r.length := Nat.mod_lt _ (by omega)
      have hn := hno _ hlt
      rw [faces_iff hlt] at hn
      have e : ((j + m) % r.length + 1) % r.length = (j + (m + 1)) % r.length := by
        rw [Nat.mod_add_mod]
        rfl
      rw [e] at hn
      have hlt' : (j + (m + 1)) % r.length < r.length := Nat.mod_lt _ (by omega)
      have hle := hb _ (List.mem_of_getElem? (at_get hlt'))
      rcases Nat.eq_zero_or_pos (at_ r ((j + (m + 1)) % r.length)) with q | q
      · exact absurd ⟨.inr rfl, ih, q⟩ hn
      · omega
  have := go (k + r.length - j)
  rw [show j + (k + r.length - j) = k + r.length by omega, Nat.add_mod_right, Nat.mod_eq_of_lt hk, ek] at this
  exact absurd this (by decide)
theorem second_bits {ring : Bool} {r : Row} (hb : ∀ x ∈ r, x ≤ 1) : ∀ x ∈ Uw83.second ring r, x ≤ 1 := by
  intro x hx
  unfold Uw83.second at hx
  obtain ⟨i, _, rfl⟩ := List.mem_map.mp hx
  have : at_ r i ≤ 1 := by
    by_cases hi : i < r.length
    · exact hb _ (List.mem_of_getElem? (at_get hi))
    · unfold at_
      rw [List.getD_eq_getElem?_getD, List.getElem?_eq_none (by omega)]
      exact Nat.zero_le _
  split <;> omega
theorem ring_on {r : Row} (hb : ∀ x ∈ r, x ≤ 1) (h : Uw83.pairs true r ≠ 0) : Uw83.pairs true (Uw83.second true r) ≠ 0 := by
  obtain ⟨i, hi, hf⟩ : ∃ i, i < r.length ∧ faces true r i = true := by
    apply Classical.byContradiction
    intro q
    exact h (pairs_zero.mpr fun i hi hf => q ⟨i, hi, hf⟩)
  obtain ⟨_, h1, h2⟩ := (faces_iff hi).mp hf
  have hlt : (i + 1) % r.length < r.length := Nat.mod_lt _ (by omega)
  refine ring_both (second_bits hb) (j := (i + 1) % r.length) (k := i) (by rw [second_length]; exact hlt) (by rw [second_length]; exact hi) ?_ ?_
  · rw [second_at true r hlt, if_pos, h2]
    unfold turnsNow
    rw [(right_iff hlt).mp ⟨i, List.mem_filter.mpr ⟨List.mem_range.mpr hi, hf⟩, rfl⟩, Bool.or_true]
  · rw [second_at true r hi, if_pos, h1]
    unfold turnsNow
    rw [hf, Bool.true_or]
theorem ring_never {r : Row} (hb : ∀ x ∈ r, x ≤ 1) (h : Uw83.pairs true r ≠ 0) : ∀ f : Nat, Uw83.restsIn true f r = none := by
  intro f
  induction f generalizing r with
  | zero => rfl
  | succ f ih =>
    unfold Uw83.restsIn
    rw [if_neg h, ih (second_bits hb) (ring_on hb h)]
    rfl
theorem rests_ring {r : Row} (hb : ∀ x ∈ r, x ≤ 1) : Uw83.rests true r = if Uw83.pairs true r = 0 then some 0 else none := by
  unfold Uw83.rests
  by_cases h : Uw83.pairs true r = 0
  · rw [if_pos h]
    unfold Uw83.restsIn
    rw [if_pos h]
  · rw [if_neg h]
    exact ring_never hb h _
/-- at rest nothing changes any more -/
theorem second_rest {ring : Bool} {r : Row} (h : Uw83.pairs ring r = 0) : Uw83.second ring r = r := by
  rw [← second_fold]
  have : plist ring r = [] := List.length_eq_zero_iff.mp h
  rw [this]
  rfl
end Rec

end
section
namespace Rec
open Uw83 (Row at_ St Call)

def zs (l : List Nat) : List Int := l.map fun (n : Nat) => (n : Int)
theorem zs_toNat (l : List Int) (h : ∀ x ∈ l, 0 ≤ x) : zs (l.map Int.toNat) = l := by
  unfold zs
  rw [List.map_map]
  conv => rhs; rw [← List.map_id l]
  apply List.map_congr_left
  intro x hx
  have := h x hx
  simp
  omega

/-- the call that stands at the beginning of the numbers, and how many of them it has -/
inductive CallAt : List Int → Call → Nat → Prop where
  | stand (o : Nat) (fs : List Nat) (tl : List Int) : fs.length ≤ 16 → CallAt (0 :: (o : Int) :: (fs.length : Int) :: (zs fs ++ tl)) (.stand o fs) (3 + fs.length)
  | second (tl : List Int) : CallAt (1 :: tl) .second 1
  | turn (i : Nat) (tl : List Int) : CallAt (2 :: (i : Int) :: tl) (.turn i) 2
  | shows (tl : List Int) : CallAt (3 :: tl) .shows 1
  | later (i : Nat) (tl : List Int) : CallAt (4 :: (i : Int) :: tl) (.later i) 2
  | rests (tl : List Int) : CallAt (5 :: tl) .rests 1
  | turns (tl : List Int) : CallAt (6 :: tl) .turns 1
  | round (tl : List Int) : CallAt (7 :: tl) .round 1
  | before (tl : List Int) : CallAt (8 :: tl) .before 1
  | longest (i : Nat) (tl : List Int) : CallAt (9 :: (i : Int) :: tl) (.longest i) 2

/-- one call's numbers as the document has them, played -/
def stepC (s : St) (c : List (List Int)) : St × List Int := Uw83Neutral.step s (c.headD [])

theorem nat_nn {z : Int} (h : Uw83Neutral.nat z = true) : 0 ≤ z := by
  unfold Uw83Neutral.nat at h
  rw [Bool.and_eq_true] at h
  exact of_decide_eq_true h.1
theorem all_nn {l : List Int} (h : l.all Uw83Neutral.nat = true) : ∀ x ∈ l, 0 ≤ x := fun x hx => nat_nn (List.all_eq_true.mp h x hx)
theorem callOf_all {l : List Int} (h : (Uw83Neutral.callOf l).isSome = true) : l.all Uw83Neutral.nat = true := by
  unfold Uw83Neutral.callOf at h
  by_cases q : l.all Uw83Neutral.nat = false
  · rw [if_pos q] at h
    simp at h
  · simpa using q
theorem step_of {s : St} {l : List Int} {c : Call} (h : l.all Uw83Neutral.nat = true) (e : Uw83Neutral.callIn (l.map Int.toNat) = some c) : Uw83Neutral.step s l = Uw83.step s c := by
  unfold Uw83Neutral.step Uw83Neutral.callOf
  rw [if_neg (by rw [h]; decide), e]
  rfl

theorem rows_one {r : List Int} {xs : List (List Int)} {t : List Int} (h : PyFlat.rows 1 r = some (xs, t)) : ∃ n r', r = n :: r' ∧ 0 ≤ n ∧ n.toNat ≤ r'.length ∧ xs = [r'.take n.toNat] ∧ t = r'.drop n.toNat := by
  cases r with
  | nil => simp [PyFlat.rows, PyFlat.row] at h
  | cons n r' =>
    by_cases q : 0 ≤ n ∧ n.toNat ≤ r'.length
    · simp [PyFlat.rows, PyFlat.row, q] at h
      exact ⟨n, r', rfl, q.1, q.2, h.1.symm, h.2.symm⟩
    · have e : PyFlat.row (n :: r') = none := if_neg q
      simp [PyFlat.rows, e] at h

/-- **one call read** -/
theorem call_read {p : Int} {r t : List Int} {c : List (List Int)} (h : PyFlat.call PyUw83.shape (p :: r) = some (c, t)) (hb : PyInside.call PyUw83.bound c = true) (ha : Uw83Neutral.asked1 ((PyUw83.whole c).headD []) = true) :
    ∃ (k : Call) (n : Nat), CallAt (p :: r) k n ∧ t = (p :: r).drop n ∧ n ≤ (p :: r).length ∧ ∀ s : St, stepC s (PyUw83.whole c) = Uw83.step s k := by
  have hall := callOf_all ha
  unfold PyFlat.call at h
  have two : ∀ {q : Int} {k : Nat → Call}, p = q → PyUw83.shape q = some (1, 0) → (∀ x : Int, PyUw83.whole [[q, x]] = [[q] ++ [x]]) → (∀ (x : Int) (tl : List Int), 0 ≤ x → CallAt (q :: x :: tl) (k x.toNat) 2) → (∀ x : Nat, Uw83Neutral.callIn (q.toNat :: [x]) = some (k x)) →
      ∃ (k : Call) (n : Nat), CallAt (p :: r) k n ∧ t = (p :: r).drop n ∧ n ≤ (p :: r).length ∧ ∀ s : St, stepC s (PyUw83.whole c) = Uw83.step s k := by
    intro q k hp hs hw hc hi
    subst hp
    simp only [hs] at h
    cases r with
    | nil => simp at h
    | cons x r =>
      rw [if_neg (by simp)] at h
      simp [PyFlat.rows] at h
      obtain ⟨rfl, rfl⟩ := h
      rw [hw x] at hall ⊢
      have hall' : ([p] ++ [x]).all Uw83Neutral.nat = true := hall
      have hx : 0 ≤ x := all_nn hall' x (by simp)
      exact ⟨k x.toNat, 2, hc x _ hx, rfl, by simp, fun s => step_of hall' (hi x.toNat)⟩
  have one : ∀ {q : Int} {k : Call}, p = q → PyUw83.shape q = some (0, 0) → PyUw83.whole [[q]] = [[q]] → (∀ (tl : List Int), CallAt (q :: tl) k 1) → Uw83Neutral.callIn [q.toNat] = some k →
      ∃ (k : Call) (n : Nat), CallAt (p :: r) k n ∧ t = (p :: r).drop n ∧ n ≤ (p :: r).length ∧ ∀ s : St, stepC s (PyUw83.whole c) = Uw83.step s k := by
    intro q k hp hs hw hc hi
    subst hp
    simp only [hs] at h
    rw [if_neg (by omega)] at h
    simp [PyFlat.rows] at h
    obtain ⟨rfl, rfl⟩ := h
    rw [hw] at hall ⊢
    exact ⟨k, 1, hc _, rfl, by simp, fun s => step_of hall hi⟩
  have twoC : ∀ {q : Int} {k : Nat → Call}, (∀ (i : Nat) (tl : List Int), CallAt (q :: (i : Int) :: tl) (k i) 2) → ∀ (x : Int) (tl : List Int), 0 ≤ x → CallAt (q :: x :: tl) (k x.toNat) 2 := by
    intro q k hc x tl hx
    have := hc x.toNat tl
    rw [Int.toNat_of_nonneg hx] at this
    exact this
  by_cases h0 : p = 0
  · subst h0
    have hs : PyUw83.shape 0 = some (1, 1) := rfl
    simp only [hs] at h
    cases r with
    | nil => simp at h
    | cons x r =>
      rw [if_neg (by simp)] at h
      simp only [List.drop_succ_cons, List.drop_zero, List.take_succ_cons, List.take_zero] at h
      cases e : PyFlat.rows 1 r with
      | none => rw [e] at h; simp at h
      | some y =>
        obtain ⟨xs, t'⟩ := y
        rw [e] at h
        simp at h
        obtain ⟨rfl, rfl⟩ := h
        obtain ⟨n, r', rfl, hn, hl, rfl, rfl⟩ := rows_one e
        have hw : PyUw83.whole [[0, x], r'.take n.toNat] = [[0] ++ [x] ++ r'.take n.toNat] := rfl
        rw [hw] at hall ⊢
        have hall' : ([0] ++ [x] ++ r'.take n.toNat).all Uw83Neutral.nat = true := hall
        have hnn := all_nn hall'
        have hx : 0 ≤ x := hnn x (by simp)
        have hfs : ∀ y ∈ r'.take n.toNat, 0 ≤ y := fun y hy => hnn y (by simp [hy])
        have hlen : (r'.take n.toNat).length = n.toNat := by rw [List.length_take]; omega
        have h16 : n.toNat ≤ 16 := by
          unfold PyInside.call at hb
          rw [Bool.and_eq_true] at hb
          have h2 := hb.2
          have hb0 : (PyUw83.bound 0).2 = [(0, 4294967295, 0, 16)] := rfl
          rw [hb0] at h2
          unfold PyInside.lists at h2
          rw [Bool.and_eq_true, Bool.and_eq_true, Bool.and_eq_true] at h2
          have := of_decide_eq_true h2.1.1.2
          omega
        refine ⟨.stand x.toNat ((r'.take n.toNat).map Int.toNat), 3 + n.toNat, ?_, ?_, ?_, fun s => step_of hall' ?_⟩
        · have k := CallAt.stand x.toNat ((r'.take n.toNat).map Int.toNat) (r'.drop n.toNat) (by rw [List.length_map, hlen]; exact h16)
          rw [zs_toNat _ hfs, List.take_append_drop, List.length_map, hlen, Int.toNat_of_nonneg hx, Int.toNat_of_nonneg hn] at k
          exact k
        · rw [show 3 + n.toNat = n.toNat + 1 + 1 + 1 by omega]
          rfl
        · simp
          omega
        · simp [Uw83Neutral.callIn]
  · by_cases h1 : p = 1
    · exact one h1 rfl rfl CallAt.second rfl
    · by_cases h2 : p = 2
      · exact two h2 rfl (fun _ => rfl) (twoC CallAt.turn) (fun _ => rfl)
      · by_cases h3 : p = 3
        · exact one h3 rfl rfl CallAt.shows rfl
        · by_cases h4 : p = 4
          · exact two h4 rfl (fun _ => rfl) (twoC CallAt.later) (fun _ => rfl)
          · by_cases h5 : p = 5
            · exact one h5 rfl rfl CallAt.rests rfl
            · by_cases h6 : p = 6
              · exact one h6 rfl rfl CallAt.turns rfl
              · by_cases h7 : p = 7
                · exact one h7 rfl rfl CallAt.round rfl
                · by_cases h8 : p = 8
                  · exact one h8 rfl rfl CallAt.before rfl
                  · by_cases h9 : p = 9
                    · exact two h9 rfl (fun _ => rfl) (twoC CallAt.longest) (fun _ => rfl)
                    · have hs : PyUw83.shape p = none := by simp [PyUw83.shape, *]
                      simp [hs] at h

/-! ### the answers' lengths; the recruits stay as they ought to be -/
theorem mem_rows : ∀ {n : Nat} {x : Row}, x ∈ Uw83.rows n → x.length = n
  | 0, x, h => by
    simp [Uw83.rows] at h
    subst h
    rfl
  | n + 1, x, h => by
    simp [Uw83.rows] at h
    rcases h with ⟨y, hy, rfl⟩ | ⟨y, hy, rfl⟩ <;> simp [mem_rows hy]
theorem headD_len {l : List Row} {n : Nat} (h : ∀ x ∈ l, x.length = n) : (l.headD []).length ≤ n := by
  cases l with
  | nil => exact Nat.zero_le _
  | cons a l => exact Nat.le_of_eq (h a (by simp))
theorem turns_length (ring : Bool) : ∀ (s : Nat) (r : Row), (Uw83.turns ring s r).length = r.length
  | 0, r => by simp [Uw83.turns]
  | s + 1, r => by simp [Uw83.turns, turns_length ring s, second_length]
theorem ints_len (l : List Nat) : (Uw83.ints l).length = l.length := by simp [Uw83.ints]
theorem step_wf {s : St} (h : Wf s.ring s.row) (c : Call) : Wf (Uw83.step s c).1.ring (Uw83.step s c).1.row := by
  cases c with
  | stand o l =>
    unfold Uw83.step
    dsimp only
    split
    · exact h
    · rename_i q
      simp only [not_or] at q
      obtain ⟨q1, q2, q3, q4, q5⟩ := q
      refine ⟨by show 1 ≤ l.length; omega, by show l.length ≤ 12; omega, fun e => ?_, fun x hx => ?_⟩
      · have e' : o = 1 := by simpa using e
        show 3 ≤ l.length
        have := q4
        simp [e'] at this
        exact this
      · have : ¬ (l.any (fun c => decide (1 < c)) = true) := q5
        rw [List.any_eq_true] at this
        have hx' : x ∈ l := hx
        by_cases hh : 1 < x
        · exact absurd ⟨x, hx', decide_eq_true hh⟩ this
        · omega
  | second => exact h.second
  | turn i =>
    unfold Uw83.step
    dsimp only
    split
    · exact h
    · exact h.turn i
  | shows => exact h
  | later t => exact h
  | rests => exact h
  | turns => exact h
  | round => exact h
  | before => exact h
  | longest n => exact h
theorem step_len {s : St} (h : Wf s.ring s.row) (c : Call) : (Uw83.step s c).2.length ≤ 14 := by
  have hi := h.hi
  cases c with
  | stand o l =>
    unfold Uw83.step
    dsimp only
    split <;> simp
  | second =>
    show (_ :: Uw83.ints (Uw83.second s.ring s.row)).length ≤ 14
    rw [List.length_cons, ints_len, second_length]
    omega
  | turn i =>
    unfold Uw83.step
    dsimp only
    split <;> simp
  | shows =>
    show (Uw83.ints _).length ≤ 14
    rw [ints_len, List.length_cons, List.length_cons]
    omega
  | later t =>
    unfold Uw83.step
    dsimp only
    split
    · simp
    · rw [List.length_cons, ints_len, later_length]
      omega
  | rests =>
    unfold Uw83.step
    dsimp only
    split
    · simp
    · rw [List.length_cons, ints_len, later_length]
      omega
  | turns =>
    unfold Uw83.step
    dsimp only
    split
    · simp
    · rw [List.length_cons, ints_len, turns_length]
      omega
  | round => simp [Uw83.step, ints_len]
  | before =>
    unfold Uw83.step
    dsimp only
    rw [List.length_cons, ints_len]
    have : ((Uw83.before s.ring s.row).headD []).length ≤ s.row.length := headD_len fun x hx => mem_rows (List.mem_filter.mp hx).1
    omega
  | longest n =>
    unfold Uw83.step
    dsimp only
    split
    · simp
    · rename_i q
      rw [ints_len, List.length_cons, List.length_cons]
      have : (Uw83.longest n).2.2.length ≤ n := headD_len fun x hx => mem_rows (List.mem_filter.mp hx).1
      omega

/-! ### the loop over the calls -/
structure Told (l : List Int) (start : Nat) (given : List Int) (st : St) (left : Nat) : Prop where
  le : start ≤ l.length
  wf : Wf st.ring st.row
  small : given.length + 15 * left ≤ 600
  raw : ∃ (f : Nat) (raw : List (List (List Int))), PyFlat.calls PyUw83.shape f (l.drop start) = some raw ∧ raw.length = left ∧ raw.all (PyInside.call PyUw83.bound) = true ∧ (∀ c ∈ raw, Uw83Neutral.asked1 ((PyUw83.whole c).headD []) = true) ∧
    PyUw83.answers l = given ++ PyFlat.told (PyFlat.played stepC st (raw.map PyUw83.whole))
theorem told_start {l : List Int} (h : PyUw83.answers_asked l = true) : ∃ left, Told l 0 [] Uw83.init left := by
  unfold PyUw83.answers_asked at h
  cases e : PyFlat.calls PyUw83.shape l.length l with
  | none => rw [e] at h; simp at h
  | some raw =>
    rw [e] at h
    simp only [Bool.and_eq_true] at h
    obtain ⟨⟨⟨⟨h1, h2⟩, h3⟩, h4⟩, h5⟩ := h
    have h40 : raw.length ≤ 40 := of_decide_eq_true h2
    refine ⟨raw.length, Nat.zero_le _, wf_init, by simp; omega, l.length, raw, e, rfl, h3, fun c hc => ?_, ?_⟩
    · unfold Uw83Neutral.asked at h4
      rw [Bool.and_eq_true] at h4
      exact List.all_eq_true.mp h4.1 _ (List.mem_map.mpr ⟨_, List.mem_map.mpr ⟨c, hc, rfl⟩, rfl⟩)
    · unfold PyUw83.answers PyUw83.calls
      rw [e]
      rfl
theorem Told.next {l : List Int} {start : Nat} {given : List Int} {st : St} {left : Nat} (T : Told l start given st left) (h : start < l.length) :
    ∃ (k : Call) (n left' : Nat), CallAt (l.drop start) k n ∧ left = left' + 1 ∧ 0 < n ∧ Told l (start + n) (given ++ (((Uw83.step st k).2.length : Int) :: (Uw83.step st k).2)) (Uw83.step st k).1 left' := by
  obtain ⟨f, raw, h1, h2, h3, h4, h5⟩ := T.raw
  cases e : l.drop start with
  | nil =>
    have := congrArg List.length e
    rw [List.length_drop, List.length_nil] at this
    omega
  | cons p r =>
    rw [e] at h1
    cases f with
    | zero => simp [PyFlat.calls] at h1
    | succ f =>
      unfold PyFlat.calls at h1
      cases e1 : PyFlat.call PyUw83.shape (p :: r) with
      | none => rw [e1] at h1; simp at h1
      | some y =>
        obtain ⟨c, t⟩ := y
        rw [e1] at h1
        dsimp only at h1
        cases e2 : PyFlat.calls PyUw83.shape f t with
        | none => rw [e2] at h1; simp at h1
        | some cs =>
          rw [e2] at h1
          dsimp only at h1
          have e3 : c :: cs = raw := Option.some.inj h1
          subst e3
          rw [List.all_cons, Bool.and_eq_true] at h3
          obtain ⟨k, n, hk, rfl, hn, hs⟩ := call_read e1 h3.1 (h4 c (by simp))
          have hlen := step_len T.wf k
          have hpos : 0 < n := by cases hk <;> omega
          have hle : start + n ≤ l.length := by
            have := congrArg List.length e
            rw [List.length_drop] at this
            omega
          refine ⟨k, n, cs.length, hk, by rw [← h2]; simp, hpos, hle, step_wf T.wf k, ?_, f, cs, ?_, rfl, h3.2, fun c' hc' => h4 c' (List.mem_cons_of_mem _ hc'), ?_⟩
          · have := T.small
            rw [← h2] at this
            simp at this ⊢
            omega
          · rw [← e2, ← e, List.drop_drop]
          · rw [h5, List.map_cons]
            show given ++ PyFlat.told ((stepC st (PyUw83.whole c)).2 :: PyFlat.played stepC (stepC st (PyUw83.whole c)).1 (cs.map PyUw83.whole)) = _
            rw [hs st]
            unfold PyFlat.told
            rw [List.flatMap_cons, List.append_assoc]
theorem Told.done {l : List Int} {given : List Int} {st : St} {left start : Nat} (T : Told l start given st left) (h : ¬ start < l.length) : given = PyUw83.answers l := by
  obtain ⟨f, raw, h1, h2, h3, h4, h5⟩ := T.raw
  have e : start = l.length := Nat.le_antisymm T.le (Nat.le_of_not_lt h)
  subst e
  rw [List.drop_length] at h1
  have : raw = [] := by
    cases f <;> exact (Option.some.inj h1).symm
  subst this
  rw [h5]
  simp [PyFlat.played, PyFlat.told]
end Rec

end
section
namespace Rec
open Uw83 (Row at_ St Call faces leftOf turnsNow)

/-! ### all rows -/
theorem nodup_le {α : Type} [DecidableEq α] : ∀ (l m : List α), l.Nodup → (∀ x ∈ l, x ∈ m) → l.length ≤ m.length
  | [], m, _, _ => Nat.zero_le _
  | x :: l, m, hn, hs => by
    have hx := hs x (by simp)
    rw [List.nodup_cons] at hn
    have ih := nodup_le l (m.erase x) hn.2 (fun y hy => by
      rw [List.mem_erase_of_ne (show y ≠ x from fun e => hn.1 (by rw [← e]; exact hy))]
      exact hs y (List.mem_cons_of_mem _ hy))
    rw [List.length_erase_of_mem hx] at ih
    have := List.length_pos_of_mem hx
    rw [List.length_cons]
    omega
theorem rows_succ (n : Nat) : Uw83.rows (n + 1) = (Uw83.rows n).map (fun l => 0 :: l) ++ (Uw83.rows n).map (fun l => 1 :: l) := by
  simp [Uw83.rows]
theorem rows_length : ∀ n : Nat, (Uw83.rows n).length = 2 ^ n
  | 0 => rfl
  | n + 1 => by
    rw [rows_succ, List.length_append, List.length_map, List.length_map, rows_length n, Nat.pow_succ]
    omega
theorem in_rows : ∀ {n : Nat} {x : Row}, x.length = n → (∀ y ∈ x, y ≤ 1) → x ∈ Uw83.rows n
  | 0, x, h, _ => by
    rw [List.length_eq_zero_iff] at h
    subst h
    simp [Uw83.rows]
  | n + 1, [], h, _ => by simp at h
  | n + 1, a :: x, h, hb => by
    rw [rows_succ, List.mem_append, List.mem_map, List.mem_map]
    have ih := in_rows (n := n) (x := x) (by simpa using h) (fun y hy => hb y (List.mem_cons_of_mem _ hy))
    have ha := hb a (by simp)
    rcases Nat.eq_zero_or_pos a with q | q
    · exact .inl ⟨x, ih, by rw [q]⟩
    · exact .inr ⟨x, ih, by rw [show a = 1 by omega]⟩
theorem rows_bits : ∀ {n : Nat} {x : Row}, x ∈ Uw83.rows n → ∀ y ∈ x, y ≤ 1
  | 0, x, h, y, hy => by
    simp [Uw83.rows] at h
    subst h
    simp at hy
  | n + 1, x, h, y, hy => by
    rw [rows_succ, List.mem_append, List.mem_map, List.mem_map] at h
    rcases h with ⟨z, hz, rfl⟩ | ⟨z, hz, rfl⟩
    · rcases List.mem_cons.mp hy with rfl | hy
      · omega
      · exact rows_bits hz y hy
    · rcases List.mem_cons.mp hy with rfl | hy
      · omega
      · exact rows_bits hz y hy
/-- a number's bits, the greatest first -/
def bitsOf : Nat → Nat → Row
  | 0, _ => []
  | n + 1, k => k / 2 ^ n % 2 :: bitsOf n k
theorem bitsOf_add : ∀ (n m k : Nat), bitsOf n (2 ^ n * m + k) = bitsOf n k
  | 0, _, _ => rfl
  | n + 1, m, k => by
    unfold bitsOf
    have e : 2 ^ (n + 1) * m + k = 2 ^ n * (2 * m) + k := by rw [Nat.pow_succ, Nat.mul_assoc]
    rw [e, bitsOf_add n (2 * m) k, Nat.mul_add_div (Nat.two_pow_pos n)]
    congr 1
    omega
theorem rows_range : ∀ n : Nat, Uw83.rows n = (List.range (2 ^ n)).map (bitsOf n)
  | 0 => rfl
  | n + 1 => by
    rw [rows_succ, rows_range n, Nat.pow_succ, show 2 ^ n * 2 = 2 ^ n + 2 ^ n by omega, List.range_add, List.map_append, List.map_map, List.map_map, List.map_map]
    congr 1
    · apply List.map_congr_left
      intro k hk
      rw [List.mem_range] at hk
      simp [bitsOf, Nat.div_eq_of_lt hk]
    · apply List.map_congr_left
      intro k hk
      rw [List.mem_range] at hk
      have e1 : (2 ^ n + k) / 2 ^ n % 2 = 1 := by
        have : 2 ^ n + k = 2 ^ n * 1 + k := by omega
        rw [this, Nat.mul_add_div (Nat.two_pow_pos n), Nat.div_eq_of_lt hk]
      have e2 : bitsOf n (2 ^ n + k) = bitsOf n k := by
        have := bitsOf_add n 1 k
        rwa [Nat.mul_one] at this
      simp [bitsOf, e1, e2]
theorem bitsOf_map : ∀ (n k : Nat), bitsOf n k = (List.range n).map (fun i => k / 2 ^ (n - 1 - i) % 2)
  | 0, _ => rfl
  | n + 1, k => by
    rw [List.range_succ_eq_map, List.map_cons, List.map_map]
    unfold bitsOf
    rw [bitsOf_map n k]
    congr 1
    apply List.map_congr_left
    intro i hi
    simp only [Function.comp]
    rw [show n + 1 - 1 - (i + 1) = n - 1 - i by omega]

/-! ### the seconds one behind another -/
def seq (ring : Bool) (r : Row) (k : Nat) : List Row := (List.range k).map fun i => Uw83.later ring i r
theorem seq_succ (ring : Bool) (r : Row) (k : Nat) : seq ring r (k + 1) = seq ring r k ++ [Uw83.later ring k r] := by
  unfold seq
  rw [List.range_succ, List.map_append]
  rfl
theorem mem_seq {ring : Bool} {r : Row} {k : Nat} {x : Row} : x ∈ seq ring r k ↔ ∃ i, i < k ∧ Uw83.later ring i r = x := by
  unfold seq
  rw [List.mem_map]
  simp
theorem seq_len (ring : Bool) (r : Row) (k : Nat) : (seq ring r k).length = k := by simp [seq]
theorem seq_nodup {ring : Bool} {r : Row} : ∀ {k : Nat}, (∀ i, i < k → ¬ Uw83.later ring i r ∈ seq ring r i) → (seq ring r k).Nodup
  | 0, _ => by simp [seq]
  | k + 1, h => by
    rw [seq_succ, List.nodup_append]
    refine ⟨seq_nodup fun i hi => h i (by omega), by simp, fun x hx y hy e => ?_⟩
    simp at hy
    subst hy
    subst e
    exact h k (by omega) hx
/-- they can't all differ for ever -/
theorem seq_small {ring : Bool} {r : Row} (W : Wf ring r) {k : Nat} (h : ∀ i, i < k → ¬ Uw83.later ring i r ∈ seq ring r i) : k ≤ 4096 := by
  have h1 := nodup_le (seq ring r k) (Uw83.rows r.length) (seq_nodup h) (fun x hx => by
    obtain ⟨i, _, rfl⟩ := mem_seq.mp hx
    exact in_rows (later_length ring i r) (W.later i).bit)
  rw [seq_len, rows_length] at h1
  have h2 : 2 ^ r.length ≤ 2 ^ 12 := Nat.pow_le_pow_right (by decide) W.hi
  omega
theorem trail_go (ring : Bool) (r : Row) (m : Nat) (hm : Uw83.later ring m r ∈ seq ring r m) (hn : ∀ i, i < m → ¬ Uw83.later ring i r ∈ seq ring r i) :
    ∀ (f k : Nat), k ≤ m → m - k ≤ f → Uw83.trail ring f (seq ring r k).reverse (Uw83.later ring k r) = (seq ring r m, Uw83.later ring m r)
  | 0, k, h1, h2 => by
    have : k = m := by omega
    subst this
    simp [Uw83.trail]
  | f + 1, k, h1, h2 => by
    unfold Uw83.trail
    by_cases hk : k = m
    · subst hk
      rw [if_pos (by simpa using hm), List.reverse_reverse]
    · rw [if_neg (by simpa using hn k (by omega))]
      have e : Uw83.later ring k r :: (seq ring r k).reverse = (seq ring r (k + 1)).reverse := by
        rw [seq_succ, List.reverse_append]
        rfl
      rw [e, ← later_succ]
      exact trail_go ring r m hm hn f (k + 1) (by omega) (by omega)
theorem findIdx_seq {ring : Bool} {r x : Row} {b : Nat} : ∀ {m : Nat}, b < m → Uw83.later ring b r = x → (∀ i, i < b → Uw83.later ring i r ≠ x) → (seq ring r m).findIdx? (fun y => y == x) = some b := by
  intro m hb e hne
  rw [List.findIdx?_eq_some_iff_getElem]
  refine ⟨by rw [seq_len]; exact hb, by simp [seq, e], fun j hj => ?_⟩
  simp [seq]
  exact hne j hj
/-- **the beginning and the round** -/
theorem round_of {ring : Bool} {r : Row} (W : Wf ring r) {m b : Nat} (hb : b < m) (e : Uw83.later ring b r = Uw83.later ring m r) (hn : ∀ i, i < m → ¬ Uw83.later ring i r ∈ seq ring r i) : Uw83.round ring r = (b, m - b) := by
  have hm : m ≤ 4096 := seq_small W hn
  have ht := trail_go ring r m (mem_seq.mpr ⟨b, hb, e⟩) hn 5000 0 (Nat.zero_le _) (by omega)
  have ht' : Uw83.trail ring 5000 [] r = (seq ring r m, Uw83.later ring m r) := ht
  unfold Uw83.round
  rw [ht']
  have hf := findIdx_seq (m := m) hb e (fun i hi q => hn b hb (mem_seq.mpr ⟨i, hi, q.trans e.symm⟩))
  dsimp only
  rw [hf, seq_len]
  rfl
theorem comes_round {ring : Bool} {r : Row} (W : Wf ring r) : ∃ m, m ≤ 4096 ∧ Uw83.later ring m r ∈ seq ring r m ∧ ∀ i, i < m → ¬ Uw83.later ring i r ∈ seq ring r i := by
  apply Classical.byContradiction
  intro h
  have hall : ∀ k, k ≤ 4097 → ∀ i, i < k → ¬ Uw83.later ring i r ∈ seq ring r i := by
    intro k
    induction k with
    | zero => intro _ i hi; omega
    | succ k ih =>
      intro hk i hi q
      have ih' := ih (by omega)
      by_cases e : i = k
      · subst e
        exact h ⟨i, by omega, q, ih'⟩
      · exact ih' i (by omega) q
  have := seq_small W (hall 4097 (Nat.le_refl _))
  omega

/-! ### sums over seconds -/
theorem turned_succ (ring : Bool) : ∀ (s : Nat) (r : Row), Uw83.turned ring (s + 1) r = Uw83.turned ring s r + Uw83.pairs ring (Uw83.later ring s r)
  | 0, r => by simp [Uw83.turned, Uw83.later]
  | s + 1, r => by
    show Uw83.pairs ring r + Uw83.turned ring (s + 1) (Uw83.second ring r) = _
    rw [turned_succ ring s]
    show _ = Uw83.pairs ring r + Uw83.turned ring s (Uw83.second ring r) + Uw83.pairs ring (Uw83.later ring s (Uw83.second ring r))
    omega
theorem turns_at (ring : Bool) (s : Nat) (r : Row) {j : Nat} (h : j < r.length) : at_ (Uw83.turns ring (s + 1) r) j = at_ (Uw83.turns ring s (Uw83.second ring r)) j + if turnsNow ring r j = true then 1 else 0 := by
  have hl : j < (Uw83.turns ring s (Uw83.second ring r)).length := by rw [turns_length, second_length]; exact h
  have e : (Uw83.turns ring (s + 1) r)[j]? = some (at_ (Uw83.turns ring s (Uw83.second ring r)) j + if turnsNow ring r j = true then 1 else 0) := by
    show ((Uw83.turns ring s (Uw83.second ring r)).zipIdx.map fun x => x.1 + if turnsNow ring r x.2 = true then 1 else 0)[j]? = _
    rw [List.getElem?_map, List.getElem?_zipIdx, at_get hl]
    simp
  conv => lhs; unfold at_
  rw [List.getD_eq_getElem?_getD, e]
  rfl
theorem turns_zero (ring : Bool) (r : Row) (j : Nat) : at_ (Uw83.turns ring 0 r) j = 0 := by
  unfold at_ Uw83.turns
  rw [List.getD_eq_getElem?_getD, List.getElem?_map]
  cases r[j]? <;> rfl
theorem turns_snoc (ring : Bool) : ∀ (s : Nat) (r : Row) {j : Nat}, j < r.length → at_ (Uw83.turns ring (s + 1) r) j = at_ (Uw83.turns ring s r) j + if turnsNow ring (Uw83.later ring s r) j = true then 1 else 0
  | 0, r, j, h => by
    rw [turns_at ring 0 r h, turns_zero, turns_zero]
    rfl
  | s + 1, r, j, h => by
    rw [turns_at ring (s + 1) r h, turns_snoc ring s (Uw83.second ring r) (by rw [second_length]; exact h), turns_at ring s r h]
    show _ = _ + _ + if turnsNow ring (Uw83.later ring s (Uw83.second ring r)) j = true then 1 else 0
    omega
theorem foldl_add (l : List Nat) : ∀ a : Nat, l.foldl (fun a b => a + b) a = a + l.sum := by
  induction l with
  | nil => intro a; simp
  | cons x l ih => intro a; rw [List.foldl_cons, ih, List.sum_cons]; omega
theorem total_sum (l : List Nat) : Uw83.total l = l.sum := by
  unfold Uw83.total
  rw [foldl_add]
  omega
end Rec

end
section
namespace Rec
open Uw83 (Row at_ St Call faces leftOf turnsNow)
theorem turnsNow_iff {ring : Bool} {r : Row} {j : Nat} (h : j < r.length) : turnsNow ring r j = true ↔ j ∈ plist ring r ∨ ∃ l ∈ plist ring r, (l + 1) % r.length = j := by
  rw [right_iff h]
  unfold turnsNow
  rw [Bool.or_eq_true]
  constructor
  · rintro (q | q)
    · exact .inl (List.mem_filter.mpr ⟨List.mem_range.mpr h, q⟩)
    · exact .inr q
  · rintro (q | q)
    · exact .inl (List.mem_filter.mp q).2
    · exact .inr q
/-- who turns is who faces otherwise behind the second -/
theorem turnsNow_ne {ring : Bool} {r : Row} (W : Wf ring r) {j : Nat} (h : j < r.length) : turnsNow ring r j = true ↔ at_ (Uw83.second ring r) j ≠ at_ r j := by
  rw [second_at ring r h]
  have := W.at_le j
  by_cases q : turnsNow ring r j = true
  · rw [if_pos q]
    simp only [q, true_iff]
    omega
  · rw [if_neg q]
    simp [q]
theorem at_set {b : List Nat} {i j x : Nat} (h : j < b.length) : at_ (b.set i x) j = if i = j then x else at_ b j := by
  unfold at_
  rw [List.getD_eq_getElem?_getD, List.getD_eq_getElem?_getD, List.getElem?_set]
  by_cases q : i = j
  · rw [if_pos q, if_pos q, if_pos (by omega)]
    rfl
  · rw [if_neg q, if_neg q]
/-- one more at a place -/
def inc (b : List Nat) (i : Nat) : List Nat := b.set i (at_ b i + 1)
theorem inc_length (b : List Nat) (i : Nat) : (inc b i).length = b.length := List.length_set
theorem at_inc {b : List Nat} {i j : Nat} (h : j < b.length) : at_ (inc b i) j = at_ b j + if i = j then 1 else 0 := by
  unfold inc
  rw [at_set h]
  by_cases q : i = j
  · rw [if_pos q, if_pos q, q]
  · rw [if_neg q, if_neg q]
    omega
def bump (n : Nat) (b : List Nat) (l : Nat) : List Nat := inc (inc b l) ((l + 1) % n)
theorem bump_length (n : Nat) (b : List Nat) (l : Nat) : (bump n b l).length = b.length := by
  unfold bump
  rw [inc_length, inc_length]
theorem bumps_length (n : Nat) : ∀ (ls b : List Nat), (ls.foldl (bump n) b).length = b.length
  | [], b => rfl
  | l :: ls, b => by rw [List.foldl_cons, bumps_length n ls, bump_length]
theorem bumps_at (n : Nat) : ∀ (ls b : List Nat) (j : Nat), j < b.length → at_ (ls.foldl (bump n) b) j = at_ b j + ls.countP (fun l => l == j) + ls.countP (fun l => (l + 1) % n == j)
  | [], b, j, h => by simp
  | l :: ls, b, j, h => by
    rw [List.foldl_cons, bumps_at n ls _ j (by rw [bump_length]; exact h), List.countP_cons, List.countP_cons]
    unfold bump
    rw [at_inc (by rw [inc_length]; exact h), at_inc h]
    simp only [beq_iff_eq]
    omega
theorem plist_nodup (ring : Bool) (r : Row) : (plist ring r).Nodup := List.Pairwise.filter _ List.nodup_range
theorem countP_le_one {α : Type} {p : α → Bool} : ∀ {l : List α}, l.Nodup → (∀ x ∈ l, ∀ y ∈ l, p x = true → p y = true → x = y) → l.countP p = if ∃ x ∈ l, p x = true then 1 else 0
  | [], _, _ => by simp
  | a :: l, hn, hu => by
    rw [List.nodup_cons] at hn
    rw [List.countP_cons, countP_le_one hn.2 (fun x hx y hy => hu x (List.mem_cons_of_mem _ hx) y (List.mem_cons_of_mem _ hy))]
    by_cases ha : p a = true
    · rw [if_pos ha, if_neg, if_pos ⟨a, List.mem_cons_self, ha⟩]
      rintro ⟨x, hx, hp⟩
      have := hu a List.mem_cons_self x (List.mem_cons_of_mem _ hx) ha hp
      exact hn.1 (this ▸ hx)
    · rw [if_neg ha]
      by_cases q : ∃ x ∈ l, p x = true
      · rw [if_pos q, if_pos]
        obtain ⟨x, hx, hp⟩ := q
        exact ⟨x, List.mem_cons_of_mem _ hx, hp⟩
      · rw [if_neg q, if_neg]
        rintro ⟨x, hx, hp⟩
        rcases List.mem_cons.mp hx with rfl | hx
        · exact ha hp
        · exact q ⟨x, hx, hp⟩
/-- each of a second's turners is counted once -/
theorem bumps_turn {ring : Bool} {r : Row} {b : List Nat} {j : Nat} (hb : b.length = r.length) (h : j < r.length) : at_ ((plist ring r).foldl (bump r.length) b) j = at_ b j + if turnsNow ring r j = true then 1 else 0 := by
  rw [bumps_at _ _ _ _ (by omega), countP_le_one (plist_nodup ring r), countP_le_one (plist_nodup ring r)]
  · simp only [beq_iff_eq]
    have e1 : (∃ x, x ∈ plist ring r ∧ x = j) ↔ j ∈ plist ring r := ⟨fun ⟨x, hx, e⟩ => e ▸ hx, fun q => ⟨j, q, rfl⟩⟩
    by_cases q1 : j ∈ plist ring r
    · rw [if_pos (e1.mpr q1), if_neg, if_pos ((turnsNow_iff h).mpr (.inl q1))]
      rintro ⟨x, hx, e⟩
      exact disj x hx j q1 e
    · rw [if_neg (fun q => q1 (e1.mp q))]
      by_cases q2 : ∃ l ∈ plist ring r, (l + 1) % r.length = j
      · rw [if_pos q2, if_pos ((turnsNow_iff h).mpr (.inr q2))]
      · rw [if_neg q2, if_neg]
        intro q
        rcases (turnsNow_iff h).mp q with q | q
        · exact q1 q
        · exact q2 q
  · intro x hx y hy e1 e2
    have e1 := eq_of_beq e1
    have e2 := eq_of_beq e2
    have hx := (mem_plist.mp hx).1
    have hy := (mem_plist.mp hy).1
    by_cases a1 : x + 1 < r.length
    · rw [Nat.mod_eq_of_lt a1] at e1
      by_cases a2 : y + 1 < r.length
      · rw [Nat.mod_eq_of_lt a2] at e2
        omega
      · rw [show y + 1 = r.length by omega, Nat.mod_self] at e2
        omega
    · rw [show x + 1 = r.length by omega, Nat.mod_self] at e1
      by_cases a2 : y + 1 < r.length
      · rw [Nat.mod_eq_of_lt a2] at e2
        omega
      · omega
  · intro x hx y hy e1 e2
    rw [eq_of_beq e1, eq_of_beq e2]
/-- the counts, a second further -/
theorem turns_fold (ring : Bool) (s : Nat) (r : Row) : (plist ring (Uw83.later ring s r)).foldl (bump r.length) (Uw83.turns ring s r) = Uw83.turns ring (s + 1) r := by
  apply ext_at
  · rw [bumps_length, turns_length, turns_length]
  · intro j hj
    rw [bumps_length, turns_length] at hj
    have hl := later_length ring s r
    have := bumps_turn (ring := ring) (r := Uw83.later ring s r) (b := Uw83.turns ring s r) (j := j) (by rw [turns_length, hl]) (by omega)
    rw [hl] at this
    rw [this, turns_snoc ring s r hj]
theorem sum_inc : ∀ {b : List Nat} {i : Nat}, i < b.length → (inc b i).sum = b.sum + 1
  | [], i, h => by simp at h
  | a :: b, 0, h => by
    show ((a + 1) :: b).sum = _
    simp
    omega
  | a :: b, i + 1, h => by
    show (a :: inc b i).sum = _
    rw [List.sum_cons, List.sum_cons, sum_inc (by simpa using h)]
    omega
theorem sum_bumps (n : Nat) : ∀ (ls b : List Nat), b.length = n → (∀ l ∈ ls, l < n) → (ls.foldl (bump n) b).sum = b.sum + 2 * ls.length
  | [], b, _, _ => by simp
  | l :: ls, b, hb, h => by
    have hl := h l (by simp)
    rw [List.foldl_cons, sum_bumps n ls _ (by rw [bump_length, hb]) (fun x hx => h x (List.mem_cons_of_mem _ hx)), List.length_cons]
    unfold bump
    rw [sum_inc (by rw [inc_length, hb]; exact Nat.mod_lt _ (by omega)), sum_inc (by omega)]
    omega
theorem turns_sum (ring : Bool) (s : Nat) (r : Row) : (Uw83.turns ring (s + 1) r).sum = (Uw83.turns ring s r).sum + 2 * Uw83.pairs ring (Uw83.later ring s r) := by
  rw [← turns_fold, sum_bumps _ _ _ (turns_length ring s r) (fun l hl => by
    have := (mem_plist.mp hl).1
    rw [later_length] at this
    exact this)]
  rfl
end Rec

end
section
namespace Rec
open Uw83 (Row at_ St Call)
/-- a call's numbers -/
def nums : Call → List Int
  | .stand o fs => 0 :: (o : Int) :: (fs.length : Int) :: zs fs
  | .second => [1]
  | .turn i => [2, (i : Int)]
  | .shows => [3]
  | .later i => [4, (i : Int)]
  | .rests => [5]
  | .turns => [6]
  | .round => [7]
  | .before => [8]
  | .longest i => [9, (i : Int)]
/-- its place among the calls -/
def num : Call → Nat
  | .stand _ _ => 0
  | .second => 1
  | .turn _ => 2
  | .shows => 3
  | .later _ => 4
  | .rests => 5
  | .turns => 6
  | .round => 7
  | .before => 8
  | .longest _ => 9
def Small : Call → Prop
  | .stand _ fs => fs.length ≤ 16
  | _ => True
theorem zs_len (l : List Nat) : (zs l).length = l.length := List.length_map _
theorem CallAt.nums {rest : List Int} {k : Call} {n : Nat} (h : CallAt rest k n) : rest.take n = Rec.nums k ∧ n = (Rec.nums k).length ∧ Small k := by
  cases h with
  | stand o fs tl h16 =>
    refine ⟨?_, ?_, h16⟩
    · rw [show 3 + fs.length = fs.length + 1 + 1 + 1 by omega]
      show (0 : Int) :: (o : Int) :: (fs.length : Int) :: (zs fs ++ tl).take fs.length = _
      have e : (zs fs ++ tl).take fs.length = zs fs := by
        have := List.take_left (l₁ := zs fs) (l₂ := tl)
        rw [zs_len] at this
        exact this
      rw [e]
      rfl
    · show 3 + fs.length = (zs fs).length + 1 + 1 + 1
      rw [zs_len]
      omega
  | second tl => exact ⟨rfl, rfl, trivial⟩
  | turn i tl => exact ⟨rfl, rfl, trivial⟩
  | shows tl => exact ⟨rfl, rfl, trivial⟩
  | later i tl => exact ⟨rfl, rfl, trivial⟩
  | rests tl => exact ⟨rfl, rfl, trivial⟩
  | turns tl => exact ⟨rfl, rfl, trivial⟩
  | round tl => exact ⟨rfl, rfl, trivial⟩
  | before tl => exact ⟨rfl, rfl, trivial⟩
  | longest i tl => exact ⟨rfl, rfl, trivial⟩
theorem nums_head (k : Call) : ∃ tl, nums k = (num k : Int) :: tl := by
  cases k <;> exact ⟨_, rfl⟩
/-- what stands at a place of the call, read in the whole list -/
theorem CallAt.get {l : List Int} {start : Nat} {k : Call} {n : Nat} (h : CallAt (l.drop start) k n) {i : Nat} {z : Int} (e : (Rec.nums k)[i]? = some z) : l[start + i]? = some z := by
  obtain ⟨h1, h2, _⟩ := h.nums
  have hi : i < n := by
    rw [h2]
    exact (List.getElem?_eq_some_iff.mp e).1
  rw [← h1, List.getElem?_take, if_pos hi, List.getElem?_drop] at e
  exact e
theorem CallAt.head {l : List Int} {start : Nat} {k : Call} {n : Nat} (h : CallAt (l.drop start) k n) : l[start]? = some (num k : Int) := by
  obtain ⟨tl, e⟩ := nums_head k
  exact h.get (i := 0) (by rw [e]; rfl)
end Rec

end
section
namespace Rec
open Uw83 (Row at_ St Call)
/-- all rows, grown at the right -/
theorem rows_snoc : ∀ n : Nat, Uw83.rows (n + 1) = (Uw83.rows n).flatMap fun l => [l ++ [0], l ++ [1]]
  | 0 => rfl
  | n + 1 => by
    have ih := rows_snoc n
    rw [rows_succ (n + 1)]
    conv => rhs; rw [rows_succ n]
    rw [List.flatMap_append, ih, List.map_flatMap, List.map_flatMap, List.flatMap_map, List.flatMap_map]
    rfl
/-- the greatest of a list of numbers, 0 at least -/
theorem foldl_max (l : List Nat) : ∀ a : Nat, l.foldl max a = max a (l.foldl max 0) := by
  induction l with
  | nil => intro a; simp
  | cons x l ih =>
    intro a
    rw [List.foldl_cons, List.foldl_cons, ih (max a x), ih (max 0 x)]
    omega
theorem foldl_max_snoc (l : List Nat) (x : Nat) : (l ++ [x]).foldl max 0 = max (l.foldl max 0) x := by
  rw [List.foldl_append]
  rfl
theorem le_foldl_max : ∀ {l : List Nat} {x : Nat}, x ∈ l → x ≤ l.foldl max 0
  | [], x, h => by simp at h
  | y :: l, x, h => by
    rw [List.foldl_cons, foldl_max]
    rcases List.mem_cons.mp h with rfl | h
    · omega
    · have := le_foldl_max h
      omega

def best (f : Row → Nat) (pre : List Row) : Nat := (pre.map f).foldl max 0
def ties (f : Row → Nat) (pre : List Row) : List Row := pre.filter fun r => f r == best f pre
theorem best_snoc (f : Row → Nat) (pre : List Row) (x : Row) : best f (pre ++ [x]) = max (best f pre) (f x) := by
  unfold best
  rw [List.map_append]
  exact foldl_max_snoc _ _
theorem le_best {f : Row → Nat} {pre : List Row} {r : Row} (h : r ∈ pre) : f r ≤ best f pre := le_foldl_max (List.mem_map.mpr ⟨r, h, rfl⟩)
theorem ties_more {f : Row → Nat} {pre : List Row} {x : Row} (h : best f pre < f x) : best f (pre ++ [x]) = f x ∧ ties f (pre ++ [x]) = [x] := by
  have e : best f (pre ++ [x]) = f x := by rw [best_snoc]; omega
  refine ⟨e, ?_⟩
  unfold ties
  rw [e, List.filter_append]
  have e1 : pre.filter (fun r => f r == f x) = [] := by
    rw [List.filter_eq_nil_iff]
    intro r hr q
    have := le_best (f := f) hr
    have := eq_of_beq q
    omega
  rw [e1]
  simp
theorem ties_same {f : Row → Nat} {pre : List Row} {x : Row} (h : f x = best f pre) : best f (pre ++ [x]) = best f pre ∧ ties f (pre ++ [x]) = ties f pre ++ [x] := by
  have e : best f (pre ++ [x]) = best f pre := by rw [best_snoc]; omega
  refine ⟨e, ?_⟩
  unfold ties
  rw [e, List.filter_append]
  simp [h]
theorem ties_less {f : Row → Nat} {pre : List Row} {x : Row} (h : f x < best f pre) : best f (pre ++ [x]) = best f pre ∧ ties f (pre ++ [x]) = ties f pre := by
  have e : best f (pre ++ [x]) = best f pre := by rw [best_snoc]; omega
  refine ⟨e, ?_⟩
  unfold ties
  rw [e, List.filter_append]
  have : ([x].filter fun r => f r == best f pre) = [] := by
    rw [List.filter_eq_nil_iff]
    intro r hr q
    simp at hr
    subst hr
    have := eq_of_beq q
    omega
  rw [this, List.append_nil]
/-- how long a row needs -/
def secs (r : Row) : Nat := (Uw83.rests false r).getD 0
theorem rests_secs {r : Row} (hb : ∀ x ∈ r, x ≤ 1) (hl : 1 ≤ r.length) : Uw83.rests false r = some (secs r) := by
  obtain ⟨t, _, e, _⟩ := rests_row hb hl
  unfold secs
  rw [e]
  rfl
theorem longest_ties {n : Nat} (h : 1 ≤ n) : Uw83.longest n = (best secs (Uw83.rows n), (ties secs (Uw83.rows n)).length, (ties secs (Uw83.rows n)).headD []) := by
  have e : (Uw83.rows n).filter (fun r => Uw83.rests false r == some (best secs (Uw83.rows n))) = ties secs (Uw83.rows n) := by
    unfold ties
    apply List.filter_congr
    intro r hr
    rw [rests_secs (rows_bits hr) (by rw [mem_rows hr]; exact h)]
    rfl
  show (best secs (Uw83.rows n), ((Uw83.rows n).filter (fun r => Uw83.rests false r == some (best secs (Uw83.rows n)))).length, ((Uw83.rows n).filter (fun r => Uw83.rests false r == some (best secs (Uw83.rows n)))).headD []) = _
  rw [e]
end Rec

end
section
namespace Rec
open Uw83 (Row at_ St Call faces leftOf turnsNow)
/-! ### what rests -/
theorem rest_at {ring : Bool} {r : Row} (W : Wf ring r) (h : ¬ (ring = true ∧ Uw83.pairs ring r ≠ 0)) : ∃ t, t ≤ 11 ∧ Uw83.rests ring r = some t ∧ Uw83.pairs ring (Uw83.later ring t r) = 0 ∧ ∀ s, s < t → Uw83.pairs ring (Uw83.later ring s r) ≠ 0 := by
  cases ring with
  | true =>
    have hp : Uw83.pairs true r = 0 := Decidable.byContradiction fun q => h ⟨rfl, q⟩
    exact ⟨0, by omega, by rw [rests_ring W.bit, if_pos hp], hp, fun s hs => by omega⟩
  | false =>
    obtain ⟨t, h1, h2, h3, h4⟩ := rests_row W.bit W.lo
    have := W.hi
    exact ⟨t, by omega, h2, h3, h4⟩
theorem rest_never {ring : Bool} {r : Row} (W : Wf ring r) (h : ring = true ∧ Uw83.pairs ring r ≠ 0) : Uw83.rests ring r = none := by
  obtain ⟨rfl, h⟩ := h
  rw [rests_ring W.bit, if_neg h]
theorem seq_get {ring : Bool} {r : Row} {k i : Nat} (h : i < k) : (seq ring r k)[i]? = some (Uw83.later ring i r) := by
  unfold seq
  rw [List.getElem?_map, List.getElem?_range h]
  rfl
/-- how often one turns, out of the course -/
def dif (ring : Bool) (r : Row) (j s : Nat) : Int := if (at_ (Uw83.later ring (s + 1) r) j : Int) - (at_ (Uw83.later ring s r) j : Int) < 0 then -((at_ (Uw83.later ring (s + 1) r) j : Int) - (at_ (Uw83.later ring s r) j : Int)) else (at_ (Uw83.later ring (s + 1) r) j : Int) - (at_ (Uw83.later ring s r) j : Int)
theorem dif_eq {ring : Bool} {r : Row} (W : Wf ring r) {j s : Nat} (h : j < r.length) : dif ring r j s = ((if turnsNow ring (Uw83.later ring s r) j = true then 1 else 0 : Nat) : Int) := by
  have WL := W.later s
  have hl : j < (Uw83.later ring s r).length := by rw [later_length]; exact h
  have h1 := WL.at_le j
  have h2 := WL.second.at_le j
  have hn := turnsNow_ne WL hl
  unfold dif
  rw [later_succ]
  by_cases q : turnsNow ring (Uw83.later ring s r) j = true
  · have := hn.mp q
    rw [if_pos q]
    split <;> omega
  · have : at_ (Uw83.second ring (Uw83.later ring s r)) j = at_ (Uw83.later ring s r) j := Decidable.byContradiction fun z => q (hn.mpr z)
    rw [if_neg q, this]
    split <;> omega
theorem dif_sum {ring : Bool} {r : Row} (W : Wf ring r) {j : Nat} (h : j < r.length) : ∀ t : Nat, ((List.range t).map (dif ring r j)).sum = (at_ (Uw83.turns ring t r) j : Int)
  | 0 => by
    rw [turns_zero]
    rfl
  | t + 1 => by
    rw [List.range_succ, List.map_append, List.sum_append, dif_sum W h t, turns_snoc ring t r h]
    simp only [List.map_cons, List.map_nil, List.sum_cons, List.sum_nil]
    rw [dif_eq W h]
    omega
theorem turns_map {ring : Bool} {r : Row} {t : Nat} : (List.range r.length).map (fun j => at_ (Uw83.turns ring t r) j) = Uw83.turns ring t r := by
  apply ext_at
  · rw [List.length_map, List.length_range, turns_length]
  · intro j hj
    rw [List.length_map, List.length_range] at hj
    conv => lhs; unfold at_
    rw [List.getD_eq_getElem?_getD, List.getElem?_map, List.getElem?_range hj]
    rfl
theorem zs_sum (l : List Nat) : (zs l).sum = ((l.sum : Nat) : Int) := by
  induction l with
  | nil => rfl
  | cons x l ih =>
    show (x : Int) + (zs l).sum = ((x + l.sum : Nat) : Int)
    rw [ih]
    omega
theorem later_add (ring : Bool) (r : Row) (b : Nat) : ∀ i : Nat, Uw83.later ring i (Uw83.later ring b r) = Uw83.later ring (b + i) r
  | 0 => rfl
  | i + 1 => by rw [later_succ, later_add ring r b i, ← later_succ]; rfl
theorem turned_sum (ring : Bool) (r : Row) : ∀ n : Nat, ((List.range n).map fun i => Uw83.pairs ring (Uw83.later ring i r)).sum = Uw83.turned ring n r
  | 0 => rfl
  | n + 1 => by
    rw [List.range_succ, List.map_append, List.sum_append, turned_sum ring r n, turned_succ]
    simp
theorem seq_drop (ring : Bool) (r : Row) (b n : Nat) : (seq ring r (b + n)).drop b = (List.range n).map fun i => Uw83.later ring (b + i) r := by
  apply List.ext_getElem?
  intro i
  rw [List.getElem?_drop]
  by_cases h : i < n
  · rw [seq_get (by omega), List.getElem?_map, List.getElem?_range h]
    rfl
  · rw [List.getElem?_eq_none (by rw [seq_len]; omega), List.getElem?_eq_none (by rw [List.length_map, List.length_range]; omega)]
/-! ### the longest -/
theorem foldl_max_mem : ∀ {l : List Nat}, l ≠ [] → l.foldl max 0 ∈ l
  | [], h => absurd rfl h
  | [x], _ => by simp
  | x :: y :: l, _ => by
    have ih := foldl_max_mem (l := y :: l) (by simp)
    rw [List.foldl_cons, foldl_max]
    by_cases q : max 0 x ≤ (y :: l).foldl max 0
    · rw [Nat.max_eq_right q]
      exact List.mem_cons_of_mem _ ih
    · rw [Nat.max_eq_left (by omega)]
      simp
theorem best_is {f : Row → Nat} {l : List Row} {m : Int} (h1 : m ∈ zs (l.map f)) (h2 : ∀ y ∈ zs (l.map f), y ≤ m) : m = (best f l : Int) := by
  unfold zs at h1 h2
  obtain ⟨x, hx, rfl⟩ := List.mem_map.mp h1
  have a := le_foldl_max hx
  have ne : l.map f ≠ [] := List.ne_nil_of_mem hx
  have b := h2 _ (List.mem_map.mpr ⟨_, foldl_max_mem ne, rfl⟩)
  unfold best
  omega
theorem count_is (f : Row → Nat) (b : Nat) : ∀ l : List Row, (zs (l.map f)).count (b : Int) = (l.filter fun r => f r == b).length
  | [] => rfl
  | x :: l => by
    show ((f x : Int) :: zs (l.map f)).count (b : Int) = _
    rw [List.count_cons, count_is f b l, List.filter_cons]
    by_cases q : f x = b
    · rw [if_pos (by rw [q]; exact beq_self_eq_true _), if_pos (by rw [q]; exact beq_self_eq_true _), List.length_cons]
    · rw [if_neg, if_neg]
      · rfl
      · intro z; exact q (eq_of_beq z)
      · intro z; have := eq_of_beq z; omega
theorem first_is (f : Row → Nat) (b : Nat) : ∀ l : List Row, (∃ x ∈ l, f x = b) → ∃ (j : Nat) (r : Row), l[j]? = some r ∧ f r = b ∧ (∀ m x, m < j → l[m]? = some x → f x ≠ b) ∧ (l.filter fun r => f r == b).headD [] = r
  | [], h => by obtain ⟨x, hx, _⟩ := h; simp at hx
  | x :: l, h => by
    by_cases q : f x = b
    · exact ⟨0, x, rfl, q, fun m _ hm => by omega, by rw [List.filter_cons, if_pos (by rw [q]; exact beq_self_eq_true _)]; rfl⟩
    · obtain ⟨y, hy, e⟩ := h
      have hy' : y ∈ l := by
        rcases List.mem_cons.mp hy with rfl | z
        · exact absurd e q
        · exact z
      obtain ⟨j, r, h1, h2, h3, h4⟩ := first_is f b l ⟨y, hy', e⟩
      refine ⟨j + 1, r, h1, h2, fun m x' hm hx' => ?_, by rw [List.filter_cons, if_neg (fun z => q (eq_of_beq z))]; exact h4⟩
      cases m with
      | zero =>
        have : x = x' := Option.some.inj hx'
        rw [← this]
        exact q
      | succ m => exact h3 m x' (by omega) hx'
theorem rows_ne (n : Nat) : Uw83.rows n ≠ [] := by
  intro h
  have := rows_length n
  rw [h] at this
  have : 0 < 2 ^ n := Nat.two_pow_pos n
  simp_all
theorem best_mem {f : Row → Nat} {l : List Row} (h : l ≠ []) : ∃ x ∈ l, f x = best f l := by
  have := foldl_max_mem (l := l.map f) (by intro q; exact h (List.map_eq_nil_iff.mp q))
  obtain ⟨x, hx, e⟩ := List.mem_map.mp this
  exact ⟨x, hx, e⟩
end Rec

end
section
set_option Elab.async false
set_option linter.all false
set_option maxRecDepth 100000
set_option maxHeartbeats 2000000
namespace Rec
open PySem PySem.Spec PyProof.Rows L2
open Uw83 (at_)
/-! ### the text by places -/
def top (i : Nat) : Stmt := PySem.Challenge.pw_turnabout_s01_answers.main.body.getD i (.Pass ⟨0, 0, 0, 0⟩)
abbrev sRight : Stmt := top 22
abbrev sPairs : Stmt := top 23
abbrev sSec : Stmt := top 24
abbrev sSecs : Stmt := top 25
abbrev sMay : Stmt := top 33
/-! ### rows as the program has them -/
def rv (r : List Nat) : List V := r.map fun (n : Nat) => V.int (n : Int)
theorem rv_len (r : List Nat) : (rv r).length = r.length := List.length_map _
theorem rv_get (r : List Nat) (i : Nat) : (rv r)[i]? = (r[i]?).map fun (n : Nat) => V.int (n : Int) := List.getElem?_map
theorem rv_at {r : Uw83.Row} {i : Nat} (h : i < r.length) : (rv r)[i]? = some (.int (at_ r i)) := by
  rw [rv_get, at_get h]
  rfl
theorem rv_app (a b : List Nat) : rv (a ++ b) = rv a ++ rv b := List.map_append
theorem rv_set (r : List Nat) (i x : Nat) : (rv r).set i (.int (x : Int)) = rv (r.set i x) := by
  unfold rv
  rw [List.map_set]
theorem rv_zs (r : List Nat) : rv r = (zs r).map V.int := by
  unfold rv zs
  rw [List.map_map]
  rfl
def bi (b : Bool) : Int := if b = true then 1 else 0
theorem Same.upd {H : Hp} {p : Addr} {o : HO} (h : H p = Option.none) : Same H (upd H p o) := fun b o' e => by
  rw [upd_ne (ne_of_none e h)]
  exact e
theorem small12 {n : Nat} (h : n ≤ 1000) : n ≤ sizeLine := Nat.le_of_lt (small1000 h)
theorem bt_list : bootBuiltins "list" = some (.type "list") := by decide +kernel
theorem bt_all : bootBuiltins "all" = some (.builtin "all") := by decide +kernel
/-! ### promises -/
def spRight (K : PySem.W.Frag) : Sp := fun vs H Q _ => ∃ (a : Addr) (xs : List V) (i : Nat), vs = [.ref a, .int (i : Int)] ∧ SqL K H a xs ∧ 0 < xs.length ∧ Q (.int (((i + 1) % xs.length : Nat) : Int)) H
/-- a new list comes out -/
def New (H : Hp) (Q : VK) (xs : List V) : Prop := ∀ (H' : Hp) (p : Addr), Same H H' → H p = Option.none → H' p = some (.lst xs) → Q (.ref p) H'
def spPairs (K : PySem.W.Frag) : Sp := fun vs H Q _ => ∃ (ring : Bool) (a : Addr) (r : Uw83.Row), vs = [.int (bi ring), .ref a] ∧ SqL K H a (rv r) ∧ 1 ≤ r.length ∧ r.length ≤ 12 ∧ New H Q (rv (plist ring r))
def spSec (K : PySem.W.Frag) : Sp := fun vs H Q _ => ∃ (ring : Bool) (a : Addr) (r : Uw83.Row), vs = [.int (bi ring), .ref a] ∧ SqL K H a (rv r) ∧ 1 ≤ r.length ∧ r.length ≤ 12 ∧ New H Q (rv (Uw83.second ring r))
def spSecs (K : PySem.W.Frag) : Sp := fun vs H Q _ => ∃ (ring : Bool) (a : Addr) (r : Uw83.Row) (s : Nat), vs = [.int (bi ring), .ref a, .int (s : Int)] ∧ SqL K H a (rv r) ∧ 1 ≤ r.length ∧ r.length ≤ 12 ∧ s ≤ 1000 ∧ New H Q (rv (Uw83.later ring s r))
/-- what the text's names mean -/
structure Txt (mg : Str → Option Value) : Prop where
  len : mg "len" = none
  range : mg "range" = none
  list : mg "list" = none
  all : mg "all" = none
/-- a def of the text that may be called by its name -/
def Use (P : Program) (w : World) (K : PySem.W.Frag) (mg : Str → Option Value) (base : Heap) (k : Nat) (x : Str) (ps : List Str) (sp : Sp) : Prop :=
  ∃ (f : Addr) (fd : FuncData), FnOk P w K mg base CX0 k f fd ps sp ∧ Binds K fd ps [] ∧ mg x = some (.ref f) ∧ PySem.W.keepIn K (.ref f) = true
theorem pe_use {X : Cx} {k : Nat} {x : Str} {ps : List Str} {sp : Sp} {e : Expr} {es : List Expr} {t : TA} {p pos : Pos} (U : Use X.prog X.w X.K X.mg X.base k x ps sp) (hr : Room k X.A) (hg : Gl X x) (ha : PA X (e :: es) t) (hdb : (x == ("__debug__" : Str)) = false := by decide)
    (he : starEach (e :: es) X.env = (false, eval e X.env) :: starEach es X.env := by rfl) (hpl : (backTo pos (starEach es X.env)).any (·.1) = false := by rfl) : PE X (.Call (.Name x p) (e :: es) [] pos) (tCall sp [] E0 t) := by
  obtain ⟨f, fd, F, b, m, kp⟩ := U
  exact pe_call F hr hg m kp b .nil pass0 ha hdb he hpl
/-- a method of the class at C -/
def UseM (P : Program) (w : World) (K : PySem.W.Frag) (mg : Str → Option Value) (base : Heap) (k : Nat) (C : Addr) (m : Str) (ps : List Str) (sp : Sp) : Prop :=
  ∃ (f : Addr) (fd : FuncData), FnOk P w K mg base CX0 k f fd ps sp ∧ Binds K fd ps [] ∧ Meth K C m f
section
variable {P : Program} {w : World} {K : PySem.W.Frag} {mg : Str → Option Value} {base : Heap}
theorem scRight : FnScope ["faces", "place"] ["faces", "place"] (defScope sRight) := ⟨rfl, rfl, rfl, by decide +kernel, rfl, by decide +kernel, by decide +kernel⟩
theorem ok_right {f : Addr} {fd : FuncData} (F : Fun K "right_neighbour" "right_neighbour" sRight f fd) (T : Txt mg) : FnOk P w K mg base CX0 1 f fd ["faces", "place"] (spRight K) := by
  refine F.ok scRight (fun vs H Q E h => ?_) (fun cdv A outer s H vs Q E hr h => ?_)
  · obtain ⟨a, xs, i, rfl, _⟩ := h
    rfl
  · obtain ⟨a, xs, i, rfl, hS, hn, k⟩ := h
    refine ⟨_, pss_one (ps_ret (pe_op op_mod (pe_op op_add (pv 1) pe_int) (pe_callB call_len_seq (by rfl) T.len PySem.boot_len (pa_cons (pv 0) pa_nil)))), ?_⟩
    refine ⟨_, rfl, _, _, rfl, rfl, _, rfl, a, xs, rfl, .inl hS, _, _, rfl, rfl, (by show (0 : Int) < (xs.length : Int); omega), ?_⟩
    have e : ((i : Int) + 1) % (xs.length : Int) = (((i + 1) % xs.length : Nat) : Int) := by
      rw [Int.natCast_emod]
      rfl
    show Q (.int (((i : Int) + 1) % (xs.length : Int))) H
    rw [e]
    exact k
/-- pairs: the reading of its comprehension -/
theorem rd_pairs {ring : Bool} {a : Addr} {r : Uw83.Row} {H : Hp} {Q : VK} {z : Int} {x0 : V} (hz : z = (lefts ring r.length : Nat)) (hS : SqL K H a (rv r)) (h1 : 1 ≤ r.length) (h12 : r.length ≤ 12) (k : New H Q (rv (plist ring r))) :
    tLc (iRng1 (tCons (tVar 2) tNil)) (gName 3) (tAnd (tTest (tOp rEq (tOp (rIxL K) (tVar 1) (tVar 3)) (tC (.int 1)))) (tTest (tOp rEq (tOp (rIxL K) (tVar 1) (tCall (spRight K) [] E0 (tCons (tVar 1) (tCons (tVar 3) tNil)))) (tC (.int 0))))) (tVar 3) [3]
      [some x0, some (.ref a), some (.int z), none] H Q := by
  subst hz
  have hle : lefts ring r.length ≤ r.length := by unfold lefts; split <;> omega
  refine ⟨_, rfl, _, rfl, by omega, by omega, fun D hD => ?_⟩
  rw [Int.toNat_natCast]
  refine lc_range (lo := 0) (Pv := fun i H' => H' D = some (.lst (rv ((List.range i).filter (look r)))) ∧ Same H H') ⟨upd_same, Same.upd hD⟩ ?_ ?_
  · rintro i H' hi ⟨hd, sm⟩
    have hir : i < r.length := by omega
    have hz : (0 : Int) + (i : Int) = (i : Int) := Int.zero_add _
    rw [hz]
    have hmod : (i + 1) % r.length < r.length := Nat.mod_lt _ (by omega)
    have hS' := sm.seq hS
    have hlen : ((List.range i).filter (look r)).length < sizeLine := small1000 (by
      have := List.length_filter_le (look r) (List.range i)
      rw [List.length_range] at this
      omega)
    have hst : (List.range (i + 1)).filter (look r) = (List.range i).filter (look r) ++ if look r i = true then [i] else [] := by
      rw [List.range_succ, List.filter_append, List.filter_cons, List.filter_nil]
    refine ⟨rfl, ?_⟩
    refine ⟨_, rfl, _, rfl, a, _, _, _, rfl, rfl, hS', atI_nat (rv_at hir), rfl, _, rfl, ?_⟩
    by_cases c1 : at_ r i = 1
    · rw [c1]
      refine iteT ?_
      refine ⟨_, rfl, _, rfl, _, rfl, a, rv r, i, rfl, hS', (by rw [rv_len]; omega), ?_⟩
      rw [rv_len]
      refine ⟨a, _, _, _, rfl, rfl, hS', atI_nat (rv_at hmod), rfl, _, rfl, ?_⟩
      by_cases c2 : at_ r ((i + 1) % r.length) = 0
      · rw [c2]
        refine iteT ?_
        refine ⟨_, rfl, _, hd, (by rw [rv_len]; exact hlen), ?_, ?_⟩
        · rw [upd_same, hst, if_pos (by simp [look, c1, c2]), rv_app]
          rfl
        · exact fun b o e => by rw [upd_ne (ne_of_none e hD)]; exact sm b o e
      · have e : decide (V.int (at_ r ((i + 1) % r.length) : Int) = V.int 0) = false := decide_eq_false fun q => c2 (by injection q with q; omega)
        rw [e]
        refine iteF ⟨?_, sm⟩
        rw [hd, hst, if_neg (by simp [look, c2]), List.append_nil]
    · have e : decide (V.int (at_ r i : Int) = V.int 1) = false := decide_eq_false fun q => c1 (by injection q with q; omega)
      rw [e]
      refine iteF ?_
      refine iteF ⟨?_, sm⟩
      rw [hd, hst, if_neg (by simp [look, c1]), List.append_nil]
  · rintro H' ⟨hd, sm⟩
    rw [plist_eq] at hd
    exact k H' D sm hD hd
theorem scPairs : FnScope ["ring", "faces", "lefts", "left"] ["ring", "faces"] (defScope sPairs) := ⟨rfl, rfl, rfl, by decide +kernel, rfl, by decide +kernel, by decide +kernel⟩
theorem ok_pairs {f : Addr} {fd : FuncData} (F : Fun K "pairs" "pairs" sPairs f fd) (T : Txt mg) (UR : Use P w K mg base 1 "right_neighbour" ["faces", "place"] (spRight K)) :
    FnOk P w K mg base CX0 2 f fd ["ring", "faces"] (spPairs K) := by
  refine F.ok scPairs (fun vs H Q E h => ?_) (fun cdv A outer s H vs Q E hr h => ?_)
  · obtain ⟨ring, a, r, rfl, _⟩ := h
    rfl
  · obtain ⟨ring, a, r, rfl, hS, h1, h12, k⟩ := h
    refine ⟨_, pss_cons (ps_set (i := 2) scPairs.nd rfl (Or.inl rfl) (pe_ifExp (pt_cmpR op_eq (pv 0) pe_int (nomark _)) (pe_callB call_len_seq (by rfl) T.len PySem.boot_len (pa_cons (pv 1) pa_nil)) (pe_op op_sub (pe_callB call_len_seq (by rfl) T.len PySem.boot_len (pa_cons (pv 1) pa_nil)) pe_int)))
      (pss_one (ps_ret (pe_lc (own := [("left", 3)]) rfl scPairs.nd (pi_range1 rfl T.range (pa_cons (pv 2) pa_nil)) (blkOk_by (by show blkC ["ring", "faces", "lefts", "left"] (defScope sPairs) _ [("left", 3)] = true; decide +kernel))
        (fun s H C cl fp => pg_name (i := 3) scPairs.nd rfl (Or.inl rfl))
        (fun s H C cl fp => pts_one (PW.pt (pw_and (pt_cmpR op_eq (pe_ix (r := rIxL K) ix_list (pv 1) (pv 3) (fun _ _ => rfl)) pe_int (nomark _)) (pw_and1 (pt_cmpR op_eq (pe_ix (r := rIxL K) ix_list (pv 1) (pe_use UR hr rfl (pa_cons (pv 1) (pa_cons (pv 3) pa_nil))) (fun _ _ => rfl)) pe_int (nomark _))))))
        (fun s H C cl fp => pv 3)))), ?_⟩
    refine ⟨_, rfl, rfl, _, rfl, ?_⟩
    cases ring with
    | true =>
      refine iteT ?_
      refine ⟨_, rfl, a, _, rfl, .inl hS, ?_⟩
      exact rd_pairs (ring := true) (by rw [rv_len]; rfl) hS h1 h12 k
    | false =>
      refine iteF ?_
      refine ⟨_, rfl, a, _, rfl, .inl hS, _, _, rfl, rfl, ?_⟩
      exact rd_pairs (ring := false) (by rw [rv_len]; show (r.length : Int) - 1 = ((r.length - 1 : Nat) : Int); omega) hS h1 h12 k
theorem scSec : FnScope ["ring", "faces", "behind", "left"] ["ring", "faces"] (defScope sSec) := ⟨rfl, rfl, rfl, by decide +kernel, rfl, by decide +kernel, by decide +kernel⟩
theorem take_snoc {α : Type} : ∀ {l : List α} {i : Nat} {x : α}, l[i]? = some x → l.take (i + 1) = l.take i ++ [x]
  | [], i, x, h => by simp at h
  | a :: l, 0, x, h => by
    have e : a = x := Option.some.inj h
    subst e
    rfl
  | a :: l, i + 1, x, h => by
    have ih := take_snoc (l := l) (i := i) (x := x) h
    show a :: l.take (i + 1) = a :: l.take i ++ [x]
    rw [ih]
    rfl
theorem rv_get_of {r : List Nat} {i : Nat} {y : V} (h : (rv r)[i]? = some y) : ∃ n, r[i]? = some n ∧ y = V.int (n : Int) := by
  rw [rv_get] at h
  cases e : r[i]? with
  | none => rw [e] at h; cases h
  | some n => rw [e] at h; exact ⟨n, rfl, (Option.some.inj h).symm⟩
theorem ixN_nat {n i : Nat} (h : i < n) : ixN n (i : Int) = some i := by
  unfold ixN
  rw [if_pos (by omega), if_pos (by omega), Int.toNat_natCast]
theorem ok_sec {f : Addr} {fd : FuncData} (F : Fun K "behind_a_second" "behind_a_second" sSec f fd) (T : Txt mg) (UR : Use P w K mg base 1 "right_neighbour" ["faces", "place"] (spRight K)) (UP : Use P w K mg base 2 "pairs" ["ring", "faces"] (spPairs K)) :
    FnOk P w K mg base CX0 3 f fd ["ring", "faces"] (spSec K) := by
  refine F.ok scSec (fun vs H Q E h => ?_) (fun cdv A outer s H vs Q E hr h => ?_)
  · obtain ⟨ring, a, r, rfl, _⟩ := h
    rfl
  · obtain ⟨ring, a, r, rfl, hS, h1, h12, k⟩ := h
    have hr1 : Room 1 _ := hr.mono (by decide)
    refine ⟨_, pss_cons (ps_set (i := 2) scSec.nd rfl (Or.inl rfl) (pe_callTy call_list_of (by rfl) T.list bt_list (pa_cons (pv 1) pa_nil)))
      (pss_cons (ps_for PassesOwn.never rfl (pi_list (pe_use UP hr rfl (pa_cons (pv 0) (pa_cons (pv 1) pa_nil)))) (pg_name (i := 3) scSec.nd rfl (Or.inl rfl))
        (pss_cons (ps_asg pe_int (pg_sub (pv 2) (pv 3) set_list)) (pss_one (ps_asg pe_int (pg_sub (pv 2) (pe_use UR hr1 rfl (pa_cons (pv 1) (pa_cons (pv 3) pa_nil))) set_list)))))
      (pss_one (ps_ret (pv 2)))), ?_⟩
    refine ⟨_, rfl, a, _, rfl, .inl hS, fun b hb => ?_⟩
    have s1 : Same H (upd H b (.lst (rv r))) := Same.upd hb
    refine ⟨_, rfl, _, rfl, ring, a, r, rfl, s1.seq hS, h1, h12, fun H2 p s2 hp2 hp => ?_⟩
    have hbp : b ≠ p := ne_of_none upd_same hp2
    have s12 := s1.trans s2
    refine ⟨p, rfl, ⟨_, SqL.of hp⟩, for_list (K := K) (a := p) (xs := rv (plist ring r)) (fun i σ H' => ∃ v : Option V, σ = [some (.int (bi ring)), some (.ref a), some (.ref b), v] ∧ H' p = some (.lst (rv (plist ring r))) ∧ Same H H' ∧ H' b = some (.lst (rv (((plist ring r).take i).foldl (put r.length) r))))
      ⟨none, rfl, hp, s12, s2 _ _ upd_same⟩ (fun i σ H' _ ⟨_, _, hp', _⟩ => SqL.of hp') ?_ ?_⟩
    · rintro i y σ H' hi ⟨v, rfl, hp', s', hb'⟩
      obtain ⟨l, hl, rfl⟩ := rv_get_of hi
      have hm := mem_plist.mp (List.mem_of_getElem? hl)
      have hmod : (l + 1) % r.length < r.length := Nat.mod_lt _ (by omega)
      refine ⟨_, rfl, _, rfl, b, _, _, l, rfl, rfl, hb', ixN_nat (by rw [rv_len, fold_length]; exact hm.1), ?_⟩
      have nab : ∀ x o, H x = some o → x ≠ b := fun x o e => ne_of_none e hb
      refine ⟨_, rfl, _, rfl, _, rfl, a, rv r, l, rfl, Same.seq (H := H) (fun x o e => by rw [upd_ne (nab x o e)]; exact s' x o e) hS, (by rw [rv_len]; omega), ?_⟩
      rw [rv_len]
      refine ⟨b, _, _, (l + 1) % r.length, rfl, rfl, upd_same, ixN_nat (by rw [List.length_set, rv_len, fold_length]; exact hmod), ?_⟩
      refine ⟨_, rfl, ?_, ?_, ?_⟩
      · rw [upd_upd, upd_ne (Ne.symm hbp)]
        exact hp'
      · intro x o e
        rw [upd_upd, upd_ne (nab x o e)]
        exact s' x o e
      · rw [upd_same, take_snoc hl, List.foldl_append]
        show some (HO.lst (((rv _).set l (V.int ((0 : Nat) : Int))).set _ (V.int ((1 : Nat) : Int)))) = _
        rw [rv_set, rv_set]
        rfl
    · rintro σ H' ⟨v, rfl, hp', s', hb'⟩
      rw [rv_len, List.take_length, second_fold] at hb'
      refine ⟨_, rfl, ?_⟩
      exact k H' b s' hb hb'
theorem scSecs : FnScope ["ring", "faces", "seconds", "behind", "passed"] ["ring", "faces", "seconds"] (defScope sSecs) := ⟨rfl, rfl, rfl, by decide +kernel, rfl, by decide +kernel, by decide +kernel⟩
theorem ok_secs {f : Addr} {fd : FuncData} (F : Fun K "behind_seconds" "behind_seconds" sSecs f fd) (T : Txt mg) (US : Use P w K mg base 3 "behind_a_second" ["ring", "faces"] (spSec K)) :
    FnOk P w K mg base CX0 4 f fd ["ring", "faces", "seconds"] (spSecs K) := by
  refine F.ok scSecs (fun vs H Q E h => ?_) (fun cdv A outer s H vs Q E hr h => ?_)
  · obtain ⟨ring, a, r, s, rfl, _⟩ := h
    rfl
  · obtain ⟨ring, a, r, n, rfl, hS, h1, h12, hn, k⟩ := h
    refine ⟨_, pss_cons (ps_set (i := 3) scSecs.nd rfl (Or.inl rfl) (pe_callTy call_list_of (by rfl) T.list bt_list (pa_cons (pv 1) pa_nil)))
      (pss_cons (ps_for PassesOwn.never rfl (pi_range1 rfl T.range (pa_cons (pv 2) pa_nil)) (pg_name (i := 4) scSecs.nd rfl (Or.inl rfl))
        (pss_one (ps_set (i := 3) scSecs.nd rfl (Or.inl rfl) (pe_use US hr rfl (pa_cons (pv 0) (pa_cons (pv 3) pa_nil))))))
      (pss_one (ps_ret (pv 3)))), ?_⟩
    refine ⟨_, rfl, a, _, rfl, .inl hS, fun b hb => ?_⟩
    refine ⟨_, rfl, _, rfl, by omega, by omega, ?_⟩
    rw [Int.toNat_natCast]
    refine for_range (lo := 0) (n := n) (fun i σ H' => ∃ (v : Option V) (p : Addr), σ = [some (.int (bi ring)), some (.ref a), some (.int (n : Int)), some (.ref p), v] ∧ H p = Option.none ∧ Same H H' ∧ H' p = some (.lst (rv (Uw83.later ring i r))))
      ⟨none, b, rfl, hb, Same.upd hb, upd_same⟩ ?_ ?_
    · rintro i σ H' hi ⟨v, p, rfl, hp0, s', hp⟩
      refine ⟨_, rfl, _, rfl, ring, p, Uw83.later ring i r, rfl, SqL.of hp, by rw [later_length]; exact h1, by rw [later_length]; exact h12, fun H2 q s2 hq2 hq => ?_⟩
      rw [← later_succ] at hq
      exact ⟨_, q, rfl, s'.free hq2, s'.trans s2, hq⟩
    · rintro σ H' ⟨v, p, rfl, hp0, s', hp⟩
      refine ⟨_, rfl, ?_⟩
      exact k H' p s' hp0 hp
end
end Rec

end
section
set_option Elab.async false
set_option linter.all false
set_option maxRecDepth 100000
set_option maxHeartbeats 2000000
namespace Rec
open PySem PySem.Spec PyProof.Rows L2
open Uw83 (at_)
abbrev sInit : Stmt := inClass (top 34) 0
abbrev sStand : Stmt := inClass (top 34) 1
abbrev sSecond : Stmt := inClass (top 34) 2
abbrev sTurn : Stmt := inClass (top 34) 3
abbrev sShows : Stmt := inClass (top 34) 4
abbrev sLater : Stmt := inClass (top 34) 5
/-- a written number of the module -/
def GI (mg : Str → Option Value) (x : Str) (i : Int) : Prop := ∃ t, mg x = some (.int i t)
theorem pe_gi {X : Cx} {x : Str} {i : Int} {pos : Pos} (hg : Gl X x) (h : GI X.mg x i) (hd : (x == ("__debug__" : Str)) = false := by decide) : PE X (.Name x pos) (tC (.int i)) := by
  obtain ⟨t, h⟩ := h
  exact pe_glob hg h ⟨t, rfl⟩ hd
/-! ### may_stand -/
def Bad (o : Nat) (l : List Nat) : Prop := 1 < o ∨ l.length < 1 ∨ 12 < l.length ∨ (o = 1 ∧ l.length < 3) ∨ l.any (fun c => decide (1 < c)) = true
instance (o : Nat) (l : List Nat) : Decidable (Bad o l) := by unfold Bad; infer_instance
theorem in01 (o : Nat) : inV (.int (o : Int)) [.int 0, .int 1] = decide (o ≤ 1) := by
  show ((0 : Int) == (o : Int) || ((1 : Int) == (o : Int) || false)) = decide (o ≤ 1)
  rw [Bool.eq_iff_iff]
  simp
  omega
def spMay (K : PySem.W.Frag) : Sp := fun vs H Q _ => ∃ (o : Nat) (a : Addr) (fs : List Nat), vs = [.int (o : Int), .ref a] ∧ SqL K H a (rv fs) ∧ fs.length ≤ 16 ∧ ∀ H' : Hp, Same H H' → Q (.bl (decide (¬ Bad o fs))) H'
structure TxtM (mg : Str → Option Value) : Prop extends Txt mg where
  fRing : GI mg "FEWEST_IN_RING" 3
  fRow : GI mg "FEWEST_IN_ROW" 1
  most : GI mg "MOST_RECRUITS" 12
section
variable {P : Program} {w : World} {K : PySem.W.Frag} {mg : Str → Option Value} {base : Heap}
theorem scMay : FnScope ["ring", "faces", "fewest", "face"] ["ring", "faces"] (defScope sMay) := ⟨rfl, rfl, rfl, by decide +kernel, rfl, by decide +kernel, by decide +kernel⟩
theorem ok_may {f : Addr} {fd : FuncData} (F : Fun K "may_stand" "may_stand" sMay f fd) (T : TxtM mg) : FnOk P w K mg base CX0 1 f fd ["ring", "faces"] (spMay K) := by
  refine F.ok scMay (fun vs H Q E h => ?_) (fun cdv A outer s H vs Q E hr h => ?_)
  · obtain ⟨o, a, fs, rfl, _⟩ := h
    rfl
  · obtain ⟨o, a, fs, rfl, hS, h16, k⟩ := h
    refine ⟨_, pss_cons (ps_if (pt_cmpR op_notIn_seq (pv 0) (pe_tup (pa_cons pe_int (pa_cons pe_int pa_nil))) (by with_unfolding_all rfl)) (pss_one (ps_ret pe_bl)) pss_nil)
      (pss_cons (ps_set (i := 2) scMay.nd rfl (Or.inl rfl) (pe_ifExp (pt_cmpR op_eq (pv 0) pe_int (nomark _)) (pe_gi rfl T.fRing) (pe_gi rfl T.fRow)))
      (pss_cons (ps_if (PW.pt (pw_or (pt_cmpR op_lt (pe_callB call_len_seq (by rfl) T.len PySem.boot_len (pa_cons (pv 1) pa_nil)) (pv 2) (nomark _)) (pw_or1 (pt_cmpR op_gt (pe_callB call_len_seq (by rfl) T.len PySem.boot_len (pa_cons (pv 1) pa_nil)) (pe_gi rfl T.most) (nomark _))))) (pss_one (ps_ret pe_bl)) pss_nil)
      (pss_one (ps_ret (pe_callB (cr_all rfl) (by rfl) T.all bt_all (pa_cons (pe_lc (own := [("face", 3)]) rfl scMay.nd (pi_list (pv 1)) (blkOk_by (by show blkC ["ring", "faces", "fewest", "face"] (defScope sMay) _ [("face", 3)] = true; decide +kernel))
        (fun s H C cl fp => pg_name (i := 3) scMay.nd rfl (Or.inl rfl))
        (fun s H C cl fp => pts_nil)
        (fun s H C cl fp => pe_cmpR (r := rIn K false) op_in_seq (pv 3) (pe_tup (pa_cons pe_int (pa_cons pe_int pa_nil))) (by with_unfolding_all rfl))) pa_nil)))))), ?_⟩
    -- ring not in (0, 1)
    refine ⟨_, rfl, (by show 2 ≤ sizeLine; decide), fun t ht => ?_⟩
    have s1 : Same H (upd H t (.tup [.int 0, .int 1])) := Same.upd ht
    refine ⟨t, _, rfl, .inr (SqT.of upd_same), rfl, rfl, _, rfl, ?_⟩
    rw [if_pos rfl, in01]
    by_cases ho : o ≤ 1
    · rw [decide_eq_true ho]
      refine iteF ?_
      -- fewest
      have rest : ∀ m : Nat, m = (if o = 1 then 3 else 1) → tSeq (tIfS (tOr (tTest (tOp (rI0 fun i j => .bl (decide (i < j))) (tCB (fun xs H Q => ∃ p ys, xs = [.ref p] ∧ (SqL K H p ys ∨ SqT K H p ys) ∧ Q (.int ys.length) H) (tCons (tVar 1) tNil)) (tVar 2))) (tTest (tOp (rI0 fun i j => .bl (decide (j < i))) (tCB (fun xs H Q => ∃ p ys, xs = [.ref p] ∧ (SqL K H p ys ∨ SqT K H p ys) ∧ Q (.int ys.length) H) (tCons (tVar 1) tNil)) (tC (.int 12))))) (tRet (tC (.bl false))) tNext)
          (tRet (tCB (rAll K) (tCons (tLc (iList K (tVar 1)) (gName 3) tYes (tOp (rIn K false) (tVar 3) (tTup (tCons (tC (.int 0)) (tCons (tC (.int 1)) tNil)))) [3]) tNil))) { nx := fun _ H' => Q .non H', rt := Q } [some (.int (o : Int)), some (.ref a), some (.int (m : Int)), none] (upd H t (.tup [.int 0, .int 1])) := by
        intro m hm
        have hm3 : m ≤ 3 := by rw [hm]; split <;> omega
        refine ⟨_, rfl, a, _, rfl, .inl (s1.seq hS), _, rfl, _, _, rfl, rfl, _, rfl, ?_⟩
        rw [rv_len]
        by_cases c1 : fs.length < m
        · rw [decide_eq_true (show (fs.length : Int) < (m : Int) by omega)]
          refine iteT ?_
          have hb : Bad o fs := by
            unfold Bad
            by_cases h1 : o = 1
            · rw [if_pos h1] at hm
              exact .inr (.inr (.inr (.inl ⟨h1, by omega⟩)))
            · rw [if_neg h1] at hm
              exact .inr (.inl (by omega))
          have := k _ s1
          rw [decide_eq_false (fun q => q hb)] at this
          exact this
        · rw [decide_eq_false (show ¬ (fs.length : Int) < (m : Int) by omega)]
          refine iteF ?_
          refine ⟨_, rfl, a, _, rfl, .inl (s1.seq hS), _, _, rfl, rfl, _, rfl, ?_⟩
          rw [rv_len]
          by_cases c2 : 12 < fs.length
          · rw [decide_eq_true (show (12 : Int) < (fs.length : Int) by omega)]
            refine iteT ?_
            have hb : Bad o fs := .inr (.inr (.inl c2))
            have := k _ s1
            rw [decide_eq_false (fun q => q hb)] at this
            exact this
          · rw [decide_eq_false (show ¬ (12 : Int) < (fs.length : Int) by omega)]
            refine iteF ?_
            refine ⟨_, rfl, a, rfl, ⟨_, s1.seq hS⟩, fun D hD => ?_⟩
            refine lc_list (K := K) (a := a) (xs := rv fs) (Pv := fun i H' => H' D = some (.lst (((fs.take i).map fun c => decide (c ≤ 1)).map V.bl)) ∧ Same H H') ⟨upd_same, s1.trans (Same.upd hD)⟩ (fun i H' _ p => p.2.seq hS) ?_ ?_
            · rintro i y H' hi ⟨hd, sm⟩
              obtain ⟨c, hc, rfl⟩ := rv_get_of hi
              refine ⟨rfl, ?_⟩
              unfold tYes
              dsimp only
              rw [if_pos rfl]
              refine ⟨_, rfl, (by show 2 ≤ sizeLine; decide), fun u hu => ?_⟩
              refine ⟨u, _, rfl, .inr (SqT.of upd_same), rfl, rfl, ?_⟩
              rw [if_neg Bool.false_ne_true, in01]
              have hDu : D ≠ u := ne_of_none hd hu
              refine ⟨_, (by rw [upd_ne hDu]; exact hd), (by rw [List.length_map, List.length_map, List.length_take]; exact small1000 (by omega)), ?_, ?_⟩
              · rw [upd_same, take_snoc hc, List.map_append, List.map_append]
                rfl
              · intro b o' e
                rw [upd_ne (ne_of_none (s1 _ _ e) hD), upd_ne (ne_of_none (sm _ _ e) hu)]
                exact sm _ _ e
            · rintro H' ⟨hd, sm⟩
              rw [rv_len, List.take_length] at hd
              refine ⟨D, _, rfl, SqL.of hd, ?_⟩
              have := k H' sm
              have e : decide (¬ Bad o fs) = (fs.map fun c => decide (c ≤ 1)).all id := by
                rw [Bool.eq_iff_iff, decide_eq_true_iff, List.all_map, List.all_eq_true]
                unfold Bad
                constructor
                · intro h c hc
                  simp only [not_or] at h
                  have h5 := h.2.2.2.2
                  rw [List.any_eq_true] at h5
                  show decide (c ≤ 1) = true
                  apply decide_eq_true
                  apply Nat.le_of_not_lt
                  exact fun q => h5 ⟨c, hc, decide_eq_true q⟩
                · intro h q
                  rcases q with q | q | q | q | q
                  · omega
                  · rw [hm] at c1
                    split at c1 <;> omega
                  · exact c2 q
                  · rw [hm, if_pos q.1] at c1
                    omega
                  · obtain ⟨c, hc, hq⟩ := List.any_eq_true.mp q
                    have := of_decide_eq_true (show decide (c ≤ 1) = true from h c hc)
                    have := of_decide_eq_true hq
                    omega
              rw [e] at this
              exact this
      refine ⟨_, rfl, rfl, _, rfl, ?_⟩
      by_cases h1 : o = 1
      · rw [h1]
        refine iteT ?_
        have := rest 3 (by rw [if_pos h1])
        rw [h1] at this
        exact this
      · rw [decide_eq_false (show ¬ V.int (o : Int) = V.int 1 from fun q => h1 (by injection q with q; omega))]
        refine iteF ?_
        exact rest 1 (by rw [if_neg h1])
    · rw [decide_eq_false ho]
      refine iteT ?_
      have hb : Bad o fs := .inl (by omega)
      have := k _ s1
      rw [decide_eq_false (fun q => q hb)] at this
      exact this
/-! ### the recruits -/
def ff (ring : Bool) (a : Addr) : List (Str × V) := putF "faces" (.ref a) (putF "ring" (.int (bi ring)) [])
theorem ff_faces (ring : Bool) (a : Addr) : (ff ring a).lookup ("faces" : Str) = some (.ref a) := by
  unfold ff
  rw [lookup_putF, if_pos rfl]
theorem ff_ring (ring : Bool) (a : Addr) : (ff ring a).lookup ("ring" : Str) = some (.int (bi ring)) := by
  unfold ff
  rw [lookup_putF, if_neg (by decide +kernel), lookup_putF, if_pos rfl]
theorem ff_no (ring : Bool) (a : Addr) {m : Str} (h : ¬ m = "faces") (h' : ¬ m = "ring") : (ff ring a).lookup m = none := by
  unfold ff
  rw [lookup_putF, if_neg h, lookup_putF, if_neg h']
  all_goals rfl
theorem ne_rf : ¬ ("ring" : Str) = "faces" := by decide +kernel
theorem ff_eq (ring : Bool) (a : Addr) : ff ring a = [(("ring" : Str), .int (bi ring)), (("faces" : Str), .ref a)] := by
  unfold ff
  simp only [putF]
  rw [if_neg ne_rf]
theorem ff_putR (ring ring' : Bool) (a : Addr) : putF "ring" (.int (bi ring')) (ff ring a) = ff ring' a := by
  rw [ff_eq, ff_eq]
  simp only [putF]
  rw [if_pos trivial]
theorem ff_putF (ring : Bool) (a a' : Addr) : putF "faces" (.ref a') (ff ring a) = ff ring a' := by
  rw [ff_eq, ff_eq]
  simp only [putF]
  rw [if_neg ne_rf, if_pos trivial]
theorem ff_len (ring : Bool) (a : Addr) : (ff ring a).length < 1000 := by
  rw [ff_eq]
  show 2 < 1000
  decide
/-- recruits stand at x as st has them, their list at a -/
structure RecAt (C : Addr) (H : Hp) (x a : Addr) (st : Uw83.St) : Prop where
  ob : ∃ dx, H x = some (.ins C dx (ff st.ring a))
  ls : H a = some (.lst (rv st.row))
/-- a method's end -/
def Out (C x a : Addr) (H : Hp) (Q : VK) (y : Uw83.St × List Int) : Prop := ∀ (H' : Hp) (p a' : Addr), RecAt C H' x a' y.1 → (a' = a ∨ H a' = Option.none) → H p = Option.none → H' p = some (.lst (y.2.map V.int)) → (∀ b o, H b = some o → b ≠ x → b ≠ a → H' b = some o) → Q (.ref p) H'
structure Cl (K : PySem.W.Frag) (C : Addr) : Prop where
  cl : Cls K C
  nR : NoAttr K C "ring"
  nF : NoAttr K C "faces"
theorem SqL.ins {H : Hp} {x b C dx : Addr} {fs : List (Str × V)} {o : HO} {xs : List V} (hx : H x = some (.ins C dx fs)) (h : SqL K H b xs) : SqL K (upd H x o) b xs := by
  rcases h with (h | ⟨o', h⟩) | h
  · exact .inl (.inl (by rw [upd_ne (ne_of h hx (by intro z; cases z))]; exact h))
  · exact .inl (.inr ⟨o', by rw [upd_ne (ne_of h hx (by intro z; cases z))]; exact h⟩)
  · exact .inr h
def spInit (C : Addr) : Sp := fun vs H Q _ => ∃ (p dx : Addr), vs = [.ref p] ∧ H p = some (.ins C dx []) ∧ ∀ (H' : Hp) (a : Addr), RecAt C H' p a Uw83.init → H a = Option.none → (∀ b o, H b = some o → b ≠ p → H' b = some o) → Q .non H'
theorem scInit : FnScope ["self"] ["self"] (defScope sInit) := ⟨rfl, rfl, rfl, by decide +kernel, rfl, by decide +kernel, by decide +kernel⟩
theorem ok_init {f C : Addr} {fd : FuncData} (F : Fun K "__init__" "Recruits.__init__" sInit f fd) (T : Cl K C) : FnOk P w K mg base CX0 1 f fd ["self"] (spInit C) := by
  refine F.ok scInit (fun vs H Q E h => ?_) (fun cdv A outer s H vs Q E hr h => ?_)
  · obtain ⟨p, dx, rfl, _⟩ := h
    rfl
  · obtain ⟨p, dx, rfl, hp, k⟩ := h
    refine ⟨_, pss_cons (ps_fld (pv 0) pe_int rfl) (pss_one (ps_fld (pv 0) (pe_lst (pa_cons pe_int pa_nil)) rfl)), ?_⟩
    refine ⟨_, rfl, p, C, dx, [], rfl, hp, T.cl, T.nR, (by show 0 < 1000; decide), ?_⟩
    refine ⟨(by show 1 ≤ sizeLine; decide), fun l hl => ?_⟩
    have hpl : p ≠ l := ne_of_none upd_same hl
    have hl0 : H l = Option.none := by
      rw [upd_ne (Ne.symm hpl)] at hl
      exact hl
    refine ⟨_, rfl, p, C, dx, _, rfl, (by rw [upd_ne hpl]; exact upd_same), T.cl, T.nF, (by show 1 < 1000; decide), ?_⟩
    refine k _ l ⟨⟨dx, upd_same⟩, ?_⟩ hl0 fun b o e hb => ?_
    · rw [upd_ne (Ne.symm hpl), upd_same]
      rfl
    · rw [upd_ne hb, upd_ne (ne_of_none e hl0), upd_ne hb]
      exact e
end
end Rec

end
section
set_option Elab.async false
set_option linter.all false
set_option maxRecDepth 100000
set_option maxHeartbeats 2000000
namespace Rec
open PySem PySem.Spec PyProof.Rows L2
open Uw83 (at_)
def spStand (C : Addr) (K : PySem.W.Frag) : Sp := fun vs H Q _ => ∃ (x a b : Addr) (st : Uw83.St) (o : Nat) (fs : List Nat), vs = [.ref x, .int (o : Int), .ref b] ∧ RecAt C H x a st ∧ SqL K H b (rv fs) ∧ fs.length ≤ 16 ∧ Out C x a H Q (Uw83.step st (.stand o fs))
def spOne (C : Addr) (c : Uw83.Call) : Sp := fun vs H Q _ => ∃ (x a : Addr) (st : Uw83.St), vs = [.ref x] ∧ RecAt C H x a st ∧ Wf st.ring st.row ∧ Out C x a H Q (Uw83.step st c)
def spTwo (C : Addr) (c : Nat → Uw83.Call) : Sp := fun vs H Q _ => ∃ (x a : Addr) (st : Uw83.St) (i : Nat), vs = [.ref x, .int (i : Int)] ∧ RecAt C H x a st ∧ Wf st.ring st.row ∧ Out C x a H Q (Uw83.step st (c i))
structure TxtR (mg : Str → Option Value) : Prop extends TxtM mg where
  cannot : GI mg "CANNOT_STAND" (-1)
  nosuch : GI mg "NO_SUCH_PLACE" (-2)
  toomuch : GI mg "TOO_MUCH_LATER" (-1)
  mostS : GI mg "MOST_SECONDS" 1000
section
variable {P : Program} {w : World} {K : PySem.W.Frag} {mg : Str → Option Value} {base : Heap}
theorem step_bad {st : Uw83.St} {o : Nat} {fs : List Nat} (h : Bad o fs) : Uw83.step st (.stand o fs) = (st, [-1]) := if_pos h
theorem step_good {st : Uw83.St} {o : Nat} {fs : List Nat} (h : ¬ Bad o fs) : Uw83.step st (.stand o fs) = (⟨o == 1, fs⟩, [(Uw83.pairs (o == 1) fs : Int)]) := if_neg h
theorem bi_beq {o : Nat} (h : o ≤ 1) : bi (o == 1) = (o : Int) := by
  rcases Nat.eq_zero_or_pos o with q | q
  · subst q
    rfl
  · have : o = 1 := by omega
    subst this
    rfl
theorem RecAt.same {C x a : Addr} {H H' : Hp} {st : Uw83.St} (R : RecAt C H x a st) (s : Same H H') : RecAt C H' x a st := by
  obtain ⟨⟨dx, h⟩, l⟩ := R
  exact ⟨⟨dx, s _ _ h⟩, s _ _ l⟩
/-- the answer is one number, the recruits stay -/
theorem Out.one {C x a : Addr} {H H' : Hp} {Q : VK} {y : Uw83.St × List Int} {st : Uw83.St} {z : Int} (k : Out C x a H Q y) (e : y = (st, [z])) (R : RecAt C H x a st) (s : Same H H') : ∀ p, H' p = Option.none → Q (.ref p) (upd H' p (.lst [.int z])) := by
  intro p hp
  subst e
  exact k _ p a ((R.same s).same (Same.upd hp)) (.inl rfl) (s.free hp) upd_same fun b o e _ _ => (s.trans (Same.upd hp)) b o e
theorem scStand : FnScope ["self", "ring", "faces"] ["self", "ring", "faces"] (defScope sStand) := ⟨rfl, rfl, rfl, by decide +kernel, rfl, by decide +kernel, by decide +kernel⟩
theorem ok_stand {f C : Addr} {fd : FuncData} (F : Fun K "stand" "Recruits.stand" sStand f fd) (T : TxtR mg) (TC : Cl K C) (UM : Use P w K mg base 1 "may_stand" ["ring", "faces"] (spMay K)) (UP : Use P w K mg base 2 "pairs" ["ring", "faces"] (spPairs K)) :
    FnOk P w K mg base CX0 3 f fd ["self", "ring", "faces"] (spStand C K) := by
  refine F.ok scStand (fun vs H Q E h => ?_) (fun cdv A outer s H vs Q E hr h => ?_)
  · obtain ⟨x, a, b, st, o, fs, rfl, _⟩ := h
    rfl
  · obtain ⟨x, a, b, st, o, fs, rfl, R, hS, h16, k⟩ := h
    have hr1 : Room 1 _ := hr.mono (by decide)
    refine ⟨_, pss_cons (ps_if (pt_not (pt_val (pe_use UM hr1 rfl (pa_cons (pv 1) (pa_cons (pv 2) pa_nil))))) (pss_one (ps_ret (pe_lst (pa_cons (pe_gi rfl T.cannot) pa_nil)))) pss_nil)
      (pss_cons (ps_fld (pv 0) (pv 1) rfl)
      (pss_cons (ps_fld (pv 0) (pe_callTy call_list_of (by rfl) T.list bt_list (pa_cons (pv 2) pa_nil)) rfl)
      (pss_one (ps_ret (pe_lst (pa_cons (pe_callB call_len_seq (by rfl) T.len PySem.boot_len (pa_cons (pe_use UP hr rfl (pa_cons (pe_fld (pv 0) rfl) (pa_cons (pe_fld (pv 0) rfl) pa_nil))) pa_nil)) pa_nil)))))), ?_⟩
    refine ⟨_, rfl, _, rfl, o, b, fs, rfl, hS, h16, fun H1 s1 => ⟨_, rfl, ?_⟩⟩
    by_cases hb : Bad o fs
    · rw [decide_eq_false (fun q => q hb)]
      refine iteT ?_
      refine ⟨(by show 1 ≤ sizeLine; decide), ?_⟩
      exact k.one (step_bad hb) R s1
    · rw [decide_eq_true hb]
      refine iteF ?_
      rw [step_good hb] at k
      have ho : o ≤ 1 := Nat.le_of_not_lt fun q => hb (.inl q)
      have hl1 : 1 ≤ fs.length := Nat.le_of_not_lt fun q => hb (.inr (.inl q))
      have hl12 : fs.length ≤ 12 := Nat.le_of_not_lt fun q => hb (.inr (.inr (.inl q)))
      obtain ⟨⟨dx, hx⟩, hl⟩ := R.same s1
      have nax : a ≠ x := ne_of hl hx (by intro z; cases z)
      -- self.ring = ring
      refine ⟨_, rfl, _, rfl, x, C, dx, _, rfl, hx, TC.cl, TC.nR, ff_len _ _, ?_⟩
      rw [← bi_beq ho, ff_putR]
      have hS2 : SqL K (upd H1 x (.ins C dx (ff (o == 1) a))) b (rv fs) := SqL.ins hx (s1.seq hS)
      -- self.faces = list(faces)
      refine ⟨_, rfl, b, _, rfl, .inl hS2, fun l hl0 => ?_⟩
      have nxl : x ≠ l := ne_of_none upd_same hl0
      have hl1' : H1 l = Option.none := by
        rw [upd_ne (Ne.symm nxl)] at hl0
        exact hl0
      refine ⟨_, rfl, x, C, dx, _, rfl, (by rw [upd_ne nxl]; exact upd_same), TC.cl, TC.nF, ff_len _ _, ?_⟩
      rw [ff_putF]
      -- return [len(pairs(self.ring, self.faces))]
      refine ⟨_, rfl, x, C, dx, _, _, rfl, upd_same, TC.cl, TC.nR, ff_ring _ _, _, rfl, x, C, dx, _, _, rfl, upd_same, TC.cl, TC.nF, ff_faces _ _, (o == 1), l, fs, rfl, SqL.of (by rw [upd_ne (Ne.symm nxl)]; exact upd_same), hl1, hl12, fun H2 p s2 hp2 hp => ?_⟩
      refine ⟨p, _, rfl, .inl (SqL.of hp), (by show 1 ≤ sizeLine; decide), fun q hq => ?_⟩
      rw [rv_len, ← pairs_len]
      have s3 : Same H2 (upd H2 q (.lst [.int (Uw83.pairs (o == 1) fs : Int)])) := Same.upd hq
      have keep : ∀ b' o', H b' = some o' → b' ≠ x → H2 b' = some o' := fun b' o' e hbx => s2 _ _ (by rw [upd_ne hbx, upd_ne (ne_of_none (s1 _ _ e) hl1'), upd_ne hbx]; exact s1 _ _ e)
      have hqx : H q = Option.none := by
        cases e : H q with
        | none => rfl
        | some o' =>
          by_cases hqx : q = x
          · subst hqx
            rw [s2 _ _ upd_same] at hq
            cases hq
          · rw [keep q o' e hqx] at hq
            cases hq
      refine k _ q l ⟨⟨dx, s3 _ _ (s2 _ _ upd_same)⟩, s3 _ _ (s2 _ _ (by rw [upd_ne (Ne.symm nxl)]; exact upd_same))⟩ (.inr (s1.free hl1')) hqx upd_same fun b' o' e hbx _ => s3 _ _ (keep b' o' e hbx)
theorem scSecond : FnScope ["self", "turned"] ["self"] (defScope sSecond) := ⟨rfl, rfl, rfl, by decide +kernel, rfl, by decide +kernel, by decide +kernel⟩
theorem ok_second {f C : Addr} {fd : FuncData} (F : Fun K "second" "Recruits.second" sSecond f fd) (T : TxtR mg) (TC : Cl K C) (US : Use P w K mg base 3 "behind_a_second" ["ring", "faces"] (spSec K)) (UP : Use P w K mg base 2 "pairs" ["ring", "faces"] (spPairs K)) :
    FnOk P w K mg base CX0 4 f fd ["self"] (spOne C .second) := by
  refine F.ok scSecond (fun vs H Q E h => ?_) (fun cdv A outer s H vs Q E hr h => ?_)
  · obtain ⟨x, a, st, rfl, _⟩ := h
    rfl
  · obtain ⟨x, a, st, rfl, R, W, k⟩ := h
    have hr2 : Room 2 _ := hr.mono (by decide)
    refine ⟨_, pss_cons (ps_set (i := 1) scSecond.nd rfl (Or.inl rfl) (pe_callB call_len_seq (by rfl) T.len PySem.boot_len (pa_cons (pe_use UP hr2 rfl (pa_cons (pe_fld (pv 0) rfl) (pa_cons (pe_fld (pv 0) rfl) pa_nil))) pa_nil)))
      (pss_cons (ps_fld (pv 0) (pe_use US hr rfl (pa_cons (pe_fld (pv 0) rfl) (pa_cons (pe_fld (pv 0) rfl) pa_nil))) rfl)
      (pss_one (ps_ret (pe_op op_cat (pe_lst (pa_cons (pv 1) pa_nil)) (pe_fld (pv 0) rfl))))), ?_⟩
    obtain ⟨⟨dx, hx⟩, hl⟩ := id R
    have nax : a ≠ x := ne_of hl hx (by intro z; cases z)
    refine ⟨_, rfl, x, C, dx, _, _, rfl, hx, TC.cl, TC.nR, ff_ring _ _, _, rfl, x, C, dx, _, _, rfl, hx, TC.cl, TC.nF, ff_faces _ _, st.ring, a, st.row, rfl, SqL.of hl, W.lo, W.hi, fun H1 p s1 hp0 hp => ?_⟩
    refine ⟨p, _, rfl, .inl (SqL.of hp), ?_⟩
    rw [rv_len, ← pairs_len]
    have hx1 := s1 _ _ hx
    have hl1 := s1 _ _ hl
    refine ⟨_, rfl, x, C, dx, _, _, rfl, hx1, TC.cl, TC.nR, ff_ring _ _, _, rfl, x, C, dx, _, _, rfl, hx1, TC.cl, TC.nF, ff_faces _ _, st.ring, a, st.row, rfl, SqL.of hl1, W.lo, W.hi, fun H2 q s2 hq0 hq => ?_⟩
    have hx2 := s2 _ _ hx1
    have nqx : q ≠ x := ne_of hq hx2 (by intro z; cases z)
    refine ⟨_, rfl, x, C, dx, _, rfl, hx2, TC.cl, TC.nF, ff_len _ _, ?_⟩
    rw [ff_putF]
    refine ⟨_, rfl, (by show 1 ≤ sizeLine; decide), fun l hl0 => ?_⟩
    have nxl : x ≠ l := ne_of_none upd_same hl0
    have nql : q ≠ l := ne_of_none (show (upd H2 x _) q = _ by rw [upd_ne nqx]; exact hq) hl0
    refine ⟨_, rfl, x, C, dx, _, _, rfl, (by rw [upd_ne nxl]; exact upd_same), TC.cl, TC.nF, ff_faces _ _, l, q, _, _, rfl, rfl, upd_same, (by rw [upd_ne nql, upd_ne nqx]; exact hq), ?_, fun v hv => ?_⟩
    · rw [rv_len, second_length]
      exact small12 (by have := W.hi; show 1 + _ ≤ 1000; omega)
    · have nvx : x ≠ v := ne_of_none (show (upd (upd H2 x _) l _) x = _ by rw [upd_ne nxl]; exact upd_same) hv
      have nvq : q ≠ v := ne_of_none (show (upd (upd H2 x _) l _) q = _ by rw [upd_ne nql, upd_ne nqx]; exact hq) hv
      have hl2 : H2 l = Option.none := by
        rw [upd_ne (Ne.symm nxl)] at hl0
        exact hl0
      have nvl : l ≠ v := ne_of_none upd_same hv
      have hv2 : H2 v = Option.none := by
        rw [upd_ne (Ne.symm nvl), upd_ne (Ne.symm nvx)] at hv
        exact hv
      have s12 := s1.trans s2
      refine k _ v q ⟨⟨dx, ?_⟩, ?_⟩ (.inr (s1.free hq0)) (s12.free hv2) ?_ fun b o e hbx _ => ?_
      · rw [upd_ne nvx, upd_ne nxl, upd_same]
        rfl
      · rw [upd_ne nvq, upd_ne nql, upd_ne nqx]
        exact hq
      · rw [upd_same, rv_zs]
        rfl
      · rw [upd_ne (ne_of_none (s12 _ _ e) hv2), upd_ne (ne_of_none (s12 _ _ e) hl2), upd_ne hbx]
        exact s12 _ _ e
theorem step_turnBad {st : Uw83.St} {i : Nat} (h : st.row.length ≤ i) : Uw83.step st (.turn i) = (st, [-2]) := if_pos h
theorem step_turn {st : Uw83.St} {i : Nat} (h : ¬ st.row.length ≤ i) : Uw83.step st (.turn i) = ({ st with row := st.row.set i (1 - at_ st.row i) }, [(Uw83.pairs st.ring (st.row.set i (1 - at_ st.row i)) : Int)]) := if_neg h
theorem scTurn : FnScope ["self", "place"] ["self", "place"] (defScope sTurn) := ⟨rfl, rfl, rfl, by decide +kernel, rfl, by decide +kernel, by decide +kernel⟩
theorem ok_turn {f C : Addr} {fd : FuncData} (F : Fun K "turn" "Recruits.turn" sTurn f fd) (T : TxtR mg) (TC : Cl K C) (UP : Use P w K mg base 2 "pairs" ["ring", "faces"] (spPairs K)) :
    FnOk P w K mg base CX0 3 f fd ["self", "place"] (spTwo C .turn) := by
  refine F.ok scTurn (fun vs H Q E h => ?_) (fun cdv A outer s H vs Q E hr h => ?_)
  · obtain ⟨x, a, st, i, rfl, _⟩ := h
    rfl
  · obtain ⟨x, a, st, i, rfl, R, W, k⟩ := h
    refine ⟨_, pss_cons (ps_if (pt_cmpR op_ge (pv 1) (pe_callB call_len_seq (by rfl) T.len PySem.boot_len (pa_cons (pe_fld (pv 0) rfl) pa_nil)) (nomark _)) (pss_one (ps_ret (pe_lst (pa_cons (pe_gi rfl T.nosuch) pa_nil)))) pss_nil)
      (pss_cons (ps_asg (pe_op op_sub pe_int (pe_ix ix_list (pe_fld (pv 0) rfl) (pv 1) (fun _ _ => rfl))) (pg_sub (pe_fld (pv 0) rfl) (pv 1) set_list))
      (pss_one (ps_ret (pe_lst (pa_cons (pe_callB call_len_seq (by rfl) T.len PySem.boot_len (pa_cons (pe_use UP hr rfl (pa_cons (pe_fld (pv 0) rfl) (pa_cons (pe_fld (pv 0) rfl) pa_nil))) pa_nil)) pa_nil))))), ?_⟩
    obtain ⟨⟨dx, hx⟩, hl⟩ := id R
    have nax : a ≠ x := ne_of hl hx (by intro z; cases z)
    refine ⟨_, rfl, _, rfl, x, C, dx, _, _, rfl, hx, TC.cl, TC.nF, ff_faces _ _, a, _, rfl, .inl (SqL.of hl), _, _, rfl, rfl, _, rfl, ?_⟩
    rw [rv_len]
    by_cases c : st.row.length ≤ i
    · rw [decide_eq_true (show (st.row.length : Int) ≤ (i : Int) by omega)]
      refine iteT ?_
      refine ⟨(by show 1 ≤ sizeLine; decide), ?_⟩
      exact k.one (step_turnBad c) R (Same.refl H)
    · rw [decide_eq_false (show ¬ (st.row.length : Int) ≤ (i : Int) by omega)]
      refine iteF ?_
      rw [step_turn c] at k
      have hi : i < st.row.length := by omega
      have hat := W.at_le i
      refine ⟨_, rfl, x, C, dx, _, _, rfl, hx, TC.cl, TC.nF, ff_faces _ _, _, rfl, a, _, _, _, rfl, rfl, SqL.of hl, atI_nat (rv_at hi), _, _, rfl, rfl, _, rfl, x, C, dx, _, _, rfl, hx, TC.cl, TC.nF, ff_faces _ _, _, rfl, a, _, _, i, rfl, rfl, hl, ixN_nat (by rw [rv_len]; exact hi), ?_⟩
      have e1 : (1 : Int) - (at_ st.row i : Int) = ((1 - at_ st.row i : Nat) : Int) := by omega
      dsimp only
      rw [e1, rv_set]
      have hx1 : (upd H a (.lst (rv (st.row.set i (1 - at_ st.row i))))) x = some (.ins C dx (ff st.ring a)) := by
        rw [upd_ne (Ne.symm nax)]
        exact hx
      have W' := W.turn i
      refine ⟨_, rfl, x, C, dx, _, _, rfl, hx1, TC.cl, TC.nR, ff_ring _ _, _, rfl, x, C, dx, _, _, rfl, hx1, TC.cl, TC.nF, ff_faces _ _, st.ring, a, _, rfl, SqL.of upd_same, W'.lo, W'.hi, fun H1 p s1 hp0 hp => ?_⟩
      refine ⟨p, _, rfl, .inl (SqL.of hp), (by show 1 ≤ sizeLine; decide), fun q hq => ?_⟩
      rw [rv_len, ← pairs_len]
      have s3 : Same H1 (upd H1 q (.lst [.int (Uw83.pairs st.ring (st.row.set i (1 - at_ st.row i)) : Int)])) := Same.upd hq
      have hq0 := s1.free hq
      have nqa : a ≠ q := ne_of_none upd_same hq0
      rw [upd_ne (Ne.symm nqa)] at hq0
      refine k _ q a ⟨⟨dx, s3 _ _ (s1 _ _ hx1)⟩, s3 _ _ (s1 _ _ upd_same)⟩ (.inl rfl) hq0 upd_same fun b o e _ hba => s3 _ _ (s1 _ _ (by rw [upd_ne hba]; exact e))
theorem scShows : FnScope ["self"] ["self"] (defScope sShows) := ⟨rfl, rfl, rfl, by decide +kernel, rfl, by decide +kernel, by decide +kernel⟩
theorem ok_shows {f C : Addr} {fd : FuncData} (F : Fun K "shows" "Recruits.shows" sShows f fd) (T : TxtR mg) (TC : Cl K C) : FnOk P w K mg base CX0 1 f fd ["self"] (spOne C .shows) := by
  refine F.ok scShows (fun vs H Q E h => ?_) (fun cdv A outer s H vs Q E hr h => ?_)
  · obtain ⟨x, a, st, rfl, _⟩ := h
    rfl
  · obtain ⟨x, a, st, rfl, R, W, k⟩ := h
    refine ⟨_, pss_one (ps_ret (pe_op op_cat (pe_lst (pa_cons (pe_fld (pv 0) rfl) (pa_cons (pe_callB call_len_seq (by rfl) T.len PySem.boot_len (pa_cons (pe_fld (pv 0) rfl) pa_nil)) pa_nil))) (pe_fld (pv 0) rfl))), ?_⟩
    obtain ⟨⟨dx, hx⟩, hl⟩ := id R
    refine ⟨_, rfl, x, C, dx, _, _, rfl, hx, TC.cl, TC.nR, ff_ring _ _, _, rfl, x, C, dx, _, _, rfl, hx, TC.cl, TC.nF, ff_faces _ _, a, _, rfl, .inl (SqL.of hl), (by show 2 ≤ sizeLine; decide), fun l hl0 => ?_⟩
    have s1 : Same H (upd H l (.lst [.int (bi st.ring), .int ((rv st.row).length : Nat)])) := Same.upd hl0
    refine ⟨_, rfl, x, C, dx, _, _, rfl, s1 _ _ hx, TC.cl, TC.nF, ff_faces _ _, l, a, _, _, rfl, rfl, upd_same, s1 _ _ hl, ?_, fun v hv => ?_⟩
    · rw [rv_len]
      exact small12 (by have := W.hi; show 2 + _ ≤ 1000; omega)
    · have s2 := s1.trans (Same.upd (o := .lst ([.int (bi st.ring), .int ((rv st.row).length : Nat)] ++ rv st.row)) hv)
      refine k _ v a (R.same s2) (.inl rfl) (s1.free hv) ?_ fun b o e _ _ => s2 _ _ e
      rw [upd_same, rv_len, rv_zs]
      show some (HO.lst (V.int (bi st.ring) :: V.int (st.row.length : Int) :: _)) = some (HO.lst ((Uw83.ints ((if st.ring = true then 1 else 0) :: st.row.length :: st.row)).map V.int))
      have e : bi st.ring = (((if st.ring = true then 1 else 0 : Nat)) : Int) := by
        unfold bi
        split <;> rfl
      rw [e]
      rfl
theorem step_laterBad {st : Uw83.St} {i : Nat} (h : 1000 < i) : Uw83.step st (.later i) = (st, [-1]) := by
  show (st, if 1000 < i then _ else _) = _
  rw [if_pos h]
theorem step_later {st : Uw83.St} {i : Nat} (h : ¬ 1000 < i) : Uw83.step st (.later i) = (st, (Uw83.pairs st.ring (Uw83.later st.ring i st.row) : Int) :: zs (Uw83.later st.ring i st.row)) := by
  show (st, if 1000 < i then _ else _) = _
  rw [if_neg h]
  rfl
theorem scLater : FnScope ["self", "seconds", "faces"] ["self", "seconds"] (defScope sLater) := ⟨rfl, rfl, rfl, by decide +kernel, rfl, by decide +kernel, by decide +kernel⟩
theorem ok_later {f C : Addr} {fd : FuncData} (F : Fun K "later" "Recruits.later" sLater f fd) (T : TxtR mg) (TC : Cl K C) (USS : Use P w K mg base 4 "behind_seconds" ["ring", "faces", "seconds"] (spSecs K)) (UP : Use P w K mg base 2 "pairs" ["ring", "faces"] (spPairs K)) :
    FnOk P w K mg base CX0 5 f fd ["self", "seconds"] (spTwo C .later) := by
  refine F.ok scLater (fun vs H Q E h => ?_) (fun cdv A outer s H vs Q E hr h => ?_)
  · obtain ⟨x, a, st, i, rfl, _⟩ := h
    rfl
  · obtain ⟨x, a, st, i, rfl, R, W, k⟩ := h
    have hr2 : Room 2 _ := hr.mono (by decide)
    refine ⟨_, pss_cons (ps_if (pt_cmpR op_gt (pv 1) (pe_gi rfl T.mostS) (nomark _)) (pss_one (ps_ret (pe_lst (pa_cons (pe_gi rfl T.toomuch) pa_nil)))) pss_nil)
      (pss_cons (ps_set (i := 2) scLater.nd rfl (Or.inl rfl) (pe_use USS hr rfl (pa_cons (pe_fld (pv 0) rfl) (pa_cons (pe_fld (pv 0) rfl) (pa_cons (pv 1) pa_nil)))))
      (pss_one (ps_ret (pe_op op_cat (pe_lst (pa_cons (pe_callB call_len_seq (by rfl) T.len PySem.boot_len (pa_cons (pe_use UP hr2 rfl (pa_cons (pe_fld (pv 0) rfl) (pa_cons (pv 2) pa_nil))) pa_nil)) pa_nil)) (pv 2))))), ?_⟩
    obtain ⟨⟨dx, hx⟩, hl⟩ := id R
    refine ⟨_, rfl, _, _, rfl, rfl, _, rfl, ?_⟩
    by_cases c : 1000 < i
    · rw [decide_eq_true (show (1000 : Int) < (i : Int) by omega)]
      refine iteT ?_
      refine ⟨(by show 1 ≤ sizeLine; decide), ?_⟩
      exact k.one (step_laterBad c) R (Same.refl H)
    · rw [decide_eq_false (show ¬ (1000 : Int) < (i : Int) by omega)]
      refine iteF ?_
      rw [step_later c] at k
      have WL := W.later i
      refine ⟨_, rfl, x, C, dx, _, _, rfl, hx, TC.cl, TC.nR, ff_ring _ _, _, rfl, x, C, dx, _, _, rfl, hx, TC.cl, TC.nF, ff_faces _ _, _, rfl, st.ring, a, st.row, i, rfl, SqL.of hl, W.lo, W.hi, by omega, fun H1 p s1 hp0 hp => ?_⟩
      refine ⟨_, rfl, x, C, dx, _, _, rfl, s1 _ _ hx, TC.cl, TC.nR, ff_ring _ _, _, rfl, st.ring, p, _, rfl, SqL.of hp, WL.lo, WL.hi, fun H2 q s2 hq0 hq => ?_⟩
      refine ⟨q, _, rfl, .inl (SqL.of hq), (by show 1 ≤ sizeLine; decide), fun l hl0 => ?_⟩
      rw [rv_len, ← pairs_len]
      have s3 : Same H2 (upd H2 l (.lst [.int (Uw83.pairs st.ring (Uw83.later st.ring i st.row) : Int)])) := Same.upd hl0
      refine ⟨_, rfl, l, p, _, _, rfl, rfl, upd_same, s3 _ _ (s2 _ _ hp), ?_, fun v hv => ?_⟩
      · rw [rv_len]
        exact small12 (by have := WL.hi; show 1 + _ ≤ 1000; omega)
      · have s5 := ((s1.trans s2).trans s3).trans (Same.upd (o := .lst ([.int (Uw83.pairs st.ring (Uw83.later st.ring i st.row) : Int)] ++ rv (Uw83.later st.ring i st.row))) hv)
        refine k _ v a (R.same s5) (.inl rfl) (((s1.trans s2).trans s3).free hv) ?_ fun b o e _ _ => s5 _ _ e
        rw [upd_same, rv_zs]
        rfl
end
end Rec

end
section
set_option Elab.async false
set_option linter.all false
set_option maxRecDepth 100000
set_option maxHeartbeats 2000000
namespace Rec
open PySem PySem.Spec PyProof.Rows L2
open Uw83 (at_)
abbrev sAns : Stmt := top 37
def spCL (K : PySem.W.Frag) : Sp := fun vs H Q _ => ∃ (L : Addr) (l : List Int) (start n : Nat) (k : Uw83.Call), vs = [.ref L, .int (start : Int)] ∧ SqL K H L (l.map V.int) ∧ CallAt (l.drop start) k n ∧ ∀ H' : Hp, Same H H' → Q (.int (n : Int)) H'
def spAn (K : PySem.W.Frag) (C : Addr) : Sp := fun vs H Q _ => ∃ (x a c : Addr) (st : Uw83.St) (k : Uw83.Call), vs = [.ref x, .ref c] ∧ RecAt C H x a st ∧ Wf st.ring st.row ∧ SqL K H c ((nums k).map V.int) ∧ Small k ∧ Out C x a H Q (Uw83.step st k)
def spAns (K : PySem.W.Frag) : Sp := fun vs H Q _ => ∃ (L : Addr) (l : List Int), vs = [.ref L] ∧ SqL K H L (l.map V.int) ∧ PyUw83.answers_asked l = true ∧ ∀ (H' : Hp) (p : Addr), H' p = some (.lst ((PyUw83.answers l).map V.int)) → Q (.ref p) H'
theorem cut_nat {xs : List V} {s e : Nat} (h : e ≤ xs.length) : cutV xs (some (s : Int)) (some (e : Int)) = (xs.drop s).take (e - s) := by
  unfold cutV
  rw [HT.sIx_nat, HT.sIx_nat, Nat.min_eq_left h]
  by_cases hs : s ≤ xs.length
  · rw [Nat.min_eq_left hs]
  · rw [Nat.min_eq_right (by omega), show e - xs.length = 0 by omega, show e - s = 0 by omega, List.take_zero, List.take_zero]
/-- how many numbers are left -/
def left (l : List Int) (σ : List (Option V)) (_ : Hp) : Nat := match (σ[3]? : Option (Option V)) with
  | some (some (V.int z)) => l.length - z.toNat
  | _ => 0
section
variable {P : Program} {w : World} {K : PySem.W.Frag} {mg : Str → Option Value} {base : Heap}
theorem scAns : FnScope ["calls", "recruits", "given", "start", "end", "told"] ["calls"] (defScope sAns) := ⟨rfl, rfl, rfl, by decide +kernel, rfl, by decide +kernel, by decide +kernel⟩
theorem ok_answers {f C fI : Addr} {fd fdI : FuncData} (F : Fun K "answers" "answers" sAns f fd) (T : Txt mg) (mC : mg "Recruits" = some (.ref C)) (M : Mk K C fI) (GI' : FnOk P w K mg base CX0 1 fI fdI ["self"] (spInit C)) (bI : Binds K fdI ["self"] [])
    (UCL : Use P w K mg base 20 "call_length" ["calls", "start"] (spCL K)) (UAN : Use P w K mg base 20 "answer" ["recruits", "call"] (spAn K C)) : FnOk P w K mg base CX0 21 f fd ["calls"] (spAns K) := by
  refine F.ok scAns (fun vs H Q E h => ?_) (fun cdv A outer s H vs Q E hr h => ?_)
  · obtain ⟨L, l, rfl, _⟩ := h
    rfl
  · obtain ⟨L, l, rfl, hS, hask, k⟩ := h
    have hr2 : Room 2 _ := hr.mono (by decide)
    refine ⟨_, pss_cons (ps_set (i := 1) scAns.nd rfl (Or.inl rfl) (pe_make0 M GI' hr2 rfl mC bI .nil pass0))
      (pss_cons (ps_set (i := 2) scAns.nd rfl (Or.inl rfl) (pe_lst pa_nil))
      (pss_cons (ps_set (i := 3) scAns.nd rfl (Or.inl rfl) pe_int)
      (pss_cons (ps_while PassesOwn.never (pt_cmpR op_lt (pv 3) (pe_callB call_len_seq (by rfl) T.len PySem.boot_len (pa_cons (pv 0) pa_nil)) (nomark _))
        (pss_cons (ps_set (i := 4) scAns.nd rfl (Or.inl rfl) (pe_op op_add (pv 3) (pe_use UCL hr rfl (pa_cons (pv 0) (pa_cons (pv 3) pa_nil)))))
        (pss_cons (ps_set (i := 5) scAns.nd rfl (Or.inl rfl) (pe_use UAN hr rfl (pa_cons (pv 1) (pa_cons (pe_slice sl_list (pv 0) (po_some (pv 3)) (po_some (pv 4))) pa_nil))))
        (pss_cons (ps_expr (pe_bm PySem.F.plainAttrs_list PySem.F.slot_list_append PySem.F.type_list_append mt_append (pv 2) (pa_cons (pe_callB call_len_seq (by rfl) T.len PySem.boot_len (pa_cons (pv 5) pa_nil)) pa_nil)))
        (pss_cons (ps_expr (pe_bm PySem.F.plainAttrs_list PySem.F.slot_list_extend PySem.F.type_list_extend mt_extend (pv 2) (pa_cons (pv 5) pa_nil)))
        (pss_one (ps_set (i := 3) scAns.nd rfl (Or.inl rfl) (pv 4))))))))
      (pss_one (ps_ret (pv 2)))))), ?_⟩
    -- recruits = Recruits()
    intro x dx nx ndx nex
    refine ⟨x, dx, rfl, upd_same, fun H1 a R1 ha kp => ⟨rfl, ?_⟩⟩
    have s1 : Same H H1 := Same.made nx ndx kp
    have ha0 : H a = Option.none := by
      cases e : H a with
      | none => rfl
      | some o =>
        have := (show (upd (upd H dx (.own x)) x (.ins C dx [])) a = some o by rw [upd_ne (ne_of_none e nx), upd_ne (ne_of_none e ndx)]; exact e)
        rw [ha] at this
        cases this
    refine ⟨Nat.zero_le _, fun g hg => ?_⟩
    obtain ⟨left0, T0⟩ := told_start hask
    have s2 : Same H1 (upd H1 g (.lst [])) := Same.upd hg
    have hga : g ≠ a := fun e => by rw [e, R1.ls] at hg; cases hg
    refine while_by (fun σ H' => ∃ (start left : Nat) (given : List Int) (st : Uw83.St) (a : Addr) (v4 v5 : Option V), σ = [some (.ref L), some (.ref x), some (.ref g), some (.int (start : Int)), v4, v5] ∧ Told l start given st left ∧ RecAt C H' x a st ∧ H' g = some (.lst (given.map V.int)) ∧ g ≠ a ∧ H a = Option.none ∧ Same H H')
      (left l) ⟨0, left0, [], Uw83.init, a, none, none, rfl, T0, R1.same s2, upd_same, hga, ha0, s1.trans s2⟩ ?_ ?_
    · rintro σ H2 ⟨start, lf, given, st, a, v4, v5, rfl, T2, R2, hg2, hga2, ha2, s3⟩
      refine ⟨_, rfl, _, rfl, L, _, rfl, .inl (s3.seq hS), _, _, rfl, rfl, _, rfl, ?_⟩
      rw [List.length_map]
      by_cases c : start < l.length
      · rw [decide_eq_true (show (start : Int) < (l.length : Int) by omega)]
        refine iteT ?_
        obtain ⟨kc, n, left', hk, el, hn, T3⟩ := T2.next c
        -- end = start + call_length(calls, start)
        refine ⟨_, rfl, _, rfl, _, rfl, L, l, start, n, kc, rfl, s3.seq hS, hk, fun H3 s4 => ⟨_, _, rfl, rfl, ?_⟩⟩
        -- told = answer(recruits, calls[start:end])
        have s34 := s3.trans s4
        refine ⟨_, rfl, _, rfl, _, rfl, _, rfl, _, rfl, _, rfl, L, _, rfl, s34.seq hS, fun cl hcl => ?_⟩
        have ecut : cutV (l.map V.int) (some (start : Int)) (some ((start : Int) + (n : Int))) = ((l.drop start).take n).map V.int := by
          have : ((start : Int) + (n : Int)) = ((start + n : Nat) : Int) := rfl
          rw [this, cut_nat (by rw [List.length_map]; exact T3.le), show start + n - start = n by omega, List.map_take, List.map_drop]
        rw [ecut]
        have s5 : Same H3 (upd H3 cl (.lst (((l.drop start).take n).map V.int))) := Same.upd hcl
        have R5 := (R2.same s4).same s5
        refine ⟨x, a, cl, st, kc, rfl, R5, T2.wf, (by rw [← hk.nums.1]; exact SqL.of upd_same), hk.nums.2.2, fun H6 p a' R6 ha' hp0 hp kp6 => ?_⟩
        have hg5 := s5 _ _ (s4 _ _ hg2)
        have hgx : g ≠ x := by
          obtain ⟨dx', hx'⟩ := R5.ob
          exact ne_of hg5 hx' (by intro z; cases z)
        have hg6 := kp6 g _ hg5 hgx hga2
        have hga6 : g ≠ a' := by
          rcases ha' with e | e
          · rw [e]; exact hga2
          · exact ne_of_none hg5 e
        have hgp : g ≠ p := ne_of_none hg5 hp0
        have s35 := s34.trans s5
        have s6 : Same H H6 := fun b o e => kp6 b o (s35 b o e) (ne_of_none e nx) (ne_of_none e ha2)
        have ha6 : H a' = Option.none := by
          rcases ha' with e | e
          · rw [e]; exact ha2
          · exact s35.free e
        have hsm := T3.small
        rw [List.length_append, List.length_cons] at hsm
        -- given.append(len(told)); given.extend(told)
        refine ⟨_, rfl, .inl ⟨rfl, _, SqL.of hg6⟩, _, rfl, p, _, rfl, .inl (SqL.of hp), g, _, _, rfl, rfl, hg6, (by rw [List.length_map]; exact small1000 (by omega)), ?_⟩
        refine ⟨_, rfl, .inl ⟨rfl, _, SqL.of upd_same⟩, _, rfl, g, p, _, _, rfl, rfl, upd_same, (by rw [upd_ne (Ne.symm hgp)]; exact hp), ?_, ?_⟩
        · rw [List.length_append, List.length_map, List.length_map]
          exact small12 (by show given.length + 1 + _ ≤ 1000; omega)
        · refine ⟨_, rfl, ?_⟩
          have hgn : ∀ b o, H b = some o → b ≠ g := fun b o e q => by
            rw [q] at e
            have := s1 _ _ e
            rw [hg] at this
            cases this
          refine ⟨⟨start + n, left', _, _, a', _, _, rfl, T3, ?_, ?_, hga6, ha6, ?_⟩, ?_⟩
          · obtain ⟨⟨dx', hx'⟩, hl'⟩ := R6
            exact ⟨⟨dx', by rw [upd_upd, upd_ne (Ne.symm hgx)]; exact hx'⟩, by rw [upd_upd, upd_ne (Ne.symm hga6)]; exact hl'⟩
          · rw [upd_same, List.length_map]
            rw [List.map_append, List.map_cons, List.append_assoc]
            rfl
          · intro b o e
            rw [upd_upd, upd_ne (hgn b o e)]
            exact s6 b o e
          · show l.length - ((start : Int) + (n : Int)).toNat < l.length - (start : Int).toNat
            omega
      · rw [decide_eq_false (show ¬ (start : Int) < (l.length : Int) by omega)]
        refine iteF ?_
        refine ⟨_, rfl, ?_⟩
        rw [T2.done c] at hg2
        exact k H2 g hg2
    · rintro σ H' Q1 Q2 h ⟨v, e, v', e', p, ys, e1, e2, i, j, e3, e4, b, e5, q⟩
      exact ⟨v, e, v', e', p, ys, e1, e2, i, j, e3, e4, b, e5, h _ _ q⟩
end
end Rec

end
section
set_option Elab.async false
set_option linter.all false
set_option maxRecDepth 100000
set_option maxHeartbeats 2000000
namespace Rec
open PySem PySem.Spec PyProof.Rows L2
open Uw83 (at_)
abbrev sCL : Stmt := top 35
abbrev sAn : Stmt := top 36
theorem pe_useM {X : Cx} {k : Nat} {C : Addr} {m : Str} {ps : List Str} {sp : Sp} {o e : Expr} {es : List Expr} {ta : TE} {t : TA} {apos pos : Pos} {pl : Sem Bool} (U : UseM X.prog X.w X.K X.mg X.base k C m ps sp) (cl : Cls X.K C) (he : PE X o ta) (hr : Room k X.A) (ha : PA X (e :: es) t)
    (hst : starEach (e :: es) X.env = (false, eval e X.env) :: starEach es X.env := by rfl) (hpl : (backTo pos (starEach es X.env)).any (·.1) = false := by rfl)
    (ht : eval (.Call (.Attribute o m apos) (e :: es) [] pos) X.env = (do
      let ov ← eval o X.env
      standAt apos.atName
      let (f, first) ← holding [ov] (getMethod ov m pl)
      callWith pos f first (backTo pos (starEach (e :: es) X.env)) (backToKw pos (keywordEach [] X.env))) := by rfl) :
    PE X (.Call (.Attribute o m apos) (e :: es) [] pos) (tMeth C m sp [] E0 ta t) := by
  obtain ⟨f, fd, F, b, hm⟩ := U
  exact pe_meth he cl hm F hr b .nil pass0 ha hst hpl ht
theorem pe_useM0 {X : Cx} {k : Nat} {C : Addr} {m : Str} {ps : List Str} {sp : Sp} {o : Expr} {ta : TE} {apos pos : Pos} {pl : Sem Bool} (U : UseM X.prog X.w X.K X.mg X.base k C m ps sp) (cl : Cls X.K C) (he : PE X o ta) (hr : Room k X.A)
    (ht : eval (.Call (.Attribute o m apos) [] [] pos) X.env = (do
      let ov ← eval o X.env
      standAt apos.atName
      let (f, first) ← holding [ov] (getMethod ov m pl)
      callWith pos f first (backTo pos (starEach [] X.env)) (backToKw pos (keywordEach [] X.env))) := by rfl) :
    PE X (.Call (.Attribute o m apos) [] [] pos) (tMeth C m sp [] E0 ta tNil) := by
  obtain ⟨f, fd, F, b, hm⟩ := U
  exact pe_meth0 he cl hm F hr b .nil pass0 ht
theorem Out.same {C x a : Addr} {H H1 : Hp} {Q : VK} {y : Uw83.St × List Int} (k : Out C x a H Q y) (s : Same H H1) : Out C x a H1 Q y := fun H' p a' R ha hp hp' kp => k H' p a' R (by
    rcases ha with e | e
    · exact .inl e
    · exact .inr (s.free e)) (s.free hp) hp' fun b o e h1 h2 => kp b o (s b o e) h1 h2
structure TxtA (mg : Str → Option Value) : Prop where
  c0 : GI mg "STAND" 0
  c1 : GI mg "SECOND" 1
  c2 : GI mg "TURN" 2
  c3 : GI mg "SHOWS" 3
  c4 : GI mg "LATER" 4
theorem decI {i j : Int} (h : ¬ i = j) : decide (V.int i = V.int j) = false := decide_eq_false fun q => h (by injection q)
theorem decIT {i j : Int} (h : i = j) : decide (V.int i = V.int j) = true := decide_eq_true (by rw [h])
theorem zs_get (l : List Int) (i : Nat) : (l.map V.int)[i]? = (l[i]?).map V.int := List.getElem?_map
theorem get_of {l : List Int} {i : Nat} {z : Int} (h : l[i]? = some z) : (l.map V.int)[i]? = some (.int z) := by rw [zs_get, h]; rfl
section
variable {P : Program} {w : World} {K : PySem.W.Frag} {mg : Str → Option Value} {base : Heap}
def spAn1 (K : PySem.W.Frag) (C : Addr) : Sp := fun vs H Q _ => ∃ (x a c : Addr) (st : Uw83.St) (k : Uw83.Call), vs = [.ref x, .ref c] ∧ RecAt C H x a st ∧ Wf st.ring st.row ∧ SqL K H c ((nums k).map V.int) ∧ Small k ∧ num k < 5 ∧ Out C x a H Q (Uw83.step st k)
theorem scAn : FnScope ["recruits", "call"] ["recruits", "call"] (defScope sAn) := ⟨rfl, rfl, rfl, by decide +kernel, rfl, by decide +kernel, by decide +kernel⟩
theorem cut3 {x y z : V} {r : List V} : cutV (x :: y :: z :: r) (some 3) none = r := by
  unfold cutV
  have e : HT.sIx (x :: y :: z :: r).length 0 (some 3) = 3 := by
    have := HT.sIx_nat (x :: y :: z :: r).length 0 3
    rw [show ((3 : Nat) : Int) = 3 from rfl] at this
    rw [this]
    simp
  rw [e, HT.sIx_none]
  show List.take (r.length + 1 + 1 + 1 - 3) r = r
  rw [show r.length + 1 + 1 + 1 - 3 = r.length by omega, List.take_length]
theorem ok_answer1 {f C : Addr} {fd : FuncData} (F : Fun K "answer" "answer" sAn f fd) (T : TxtA mg) (cl : Cls K C)
    (U0 : UseM P w K mg base 3 C "stand" ["self", "ring", "faces"] (spStand C K)) (U1 : UseM P w K mg base 4 C "second" ["self"] (spOne C .second)) (U2 : UseM P w K mg base 3 C "turn" ["self", "place"] (spTwo C .turn))
    (U3 : UseM P w K mg base 1 C "shows" ["self"] (spOne C .shows)) (U4 : UseM P w K mg base 5 C "later" ["self", "seconds"] (spTwo C .later)) : FnOk P w K mg base CX0 6 f fd ["recruits", "call"] (spAn1 K C) := by
  refine F.ok scAn (fun vs H Q E h => ?_) (fun cdv A outer s H vs Q E hr h => ?_)
  · obtain ⟨x, a, c, st, k, rfl, _⟩ := h
    rfl
  · obtain ⟨x, a, c, st, k, rfl, R, W, hS, hk, h5, ko⟩ := h
    refine ⟨_, pss_cons (ps_if (pt_cmpR op_eq (pe_ix ix_list (pv 1) pe_int (fun _ _ => rfl)) (pe_gi rfl T.c0) (nomark _)) (pss_one (ps_ret (pe_useM U0 cl (pv 0) (hr.mono (by decide)) (pa_cons (pe_ix ix_list (pv 1) pe_int (fun _ _ => rfl)) (pa_cons (pe_slice sl_list (pv 1) (po_some pe_int) po_none) pa_nil))))) pss_nil)
      (pss_cons (ps_if (pt_cmpR op_eq (pe_ix ix_list (pv 1) pe_int (fun _ _ => rfl)) (pe_gi rfl T.c1) (nomark _)) (pss_one (ps_ret (pe_useM0 U1 cl (pv 0) (hr.mono (by decide))))) pss_nil)
      (pss_cons (ps_if (pt_cmpR op_eq (pe_ix ix_list (pv 1) pe_int (fun _ _ => rfl)) (pe_gi rfl T.c2) (nomark _)) (pss_one (ps_ret (pe_useM U2 cl (pv 0) (hr.mono (by decide)) (pa_cons (pe_ix ix_list (pv 1) pe_int (fun _ _ => rfl)) pa_nil)))) pss_nil)
      (pss_cons (ps_if (pt_cmpR op_eq (pe_ix ix_list (pv 1) pe_int (fun _ _ => rfl)) (pe_gi rfl T.c3) (nomark _)) (pss_one (ps_ret (pe_useM0 U3 cl (pv 0) (hr.mono (by decide))))) pss_nil)
      (pss_cons (ps_if (pt_cmpR op_eq (pe_ix ix_list (pv 1) pe_int (fun _ _ => rfl)) (pe_gi rfl T.c4) (nomark _)) (pss_one (ps_ret (pe_useM U4 cl (pv 0) (hr.mono (by decide)) (pa_cons (pe_ix ix_list (pv 1) pe_int (fun _ _ => rfl)) pa_nil)))) pss_nil)
      pss_never)))), ?_⟩
    obtain ⟨⟨dx, hx⟩, hl⟩ := id R
    obtain ⟨tl, enum⟩ := nums_head k
    have h0 : atI ((nums k).map V.int) ((0 : Nat) : Int) = some (.int (num k : Int)) := atI_nat (get_of (by rw [enum]; rfl))
    refine ⟨_, rfl, c, _, _, _, rfl, rfl, hS, h0, rfl, _, rfl, ?_⟩
    cases k with
    | stand o fs =>
      refine iteT ?_
      refine ⟨_, rfl, x, dx, _, rfl, hx, ff_no _ _ (by decide +kernel) (by decide +kernel), _, rfl, c, _, _, _, rfl, rfl, hS, atI_nat (j := 1) rfl, _, rfl, _, rfl, c, _, rfl, hS, fun p hp => ?_⟩
      have e : cutV ((nums (.stand o fs)).map V.int) (some 3) none = rv fs := by
        rw [rv_zs]
        exact cut3
      rw [e]
      have s1 : Same H (upd H p (.lst (rv fs))) := Same.upd hp
      exact ⟨x, a, p, st, o, fs, rfl, R.same s1, SqL.of upd_same, hk, ko.same s1⟩
    | second =>
      refine iteF ?_
      refine ⟨_, rfl, c, _, _, _, rfl, rfl, hS, h0, rfl, _, rfl, ?_⟩
      refine iteT ?_
      exact ⟨_, rfl, x, dx, _, rfl, hx, ff_no _ _ (by decide +kernel) (by decide +kernel), x, a, st, rfl, R, W, ko⟩
    | turn i =>
      refine iteF ?_
      refine ⟨_, rfl, c, _, _, _, rfl, rfl, hS, h0, rfl, _, rfl, ?_⟩
      refine iteF ?_
      refine ⟨_, rfl, c, _, _, _, rfl, rfl, hS, h0, rfl, _, rfl, ?_⟩
      refine iteT ?_
      exact ⟨_, rfl, x, dx, _, rfl, hx, ff_no _ _ (by decide +kernel) (by decide +kernel), _, rfl, c, _, _, _, rfl, rfl, hS, atI_nat (j := 1) rfl, x, a, st, i, rfl, R, W, ko⟩
    | shows =>
      refine iteF ?_
      refine ⟨_, rfl, c, _, _, _, rfl, rfl, hS, h0, rfl, _, rfl, ?_⟩
      refine iteF ?_
      refine ⟨_, rfl, c, _, _, _, rfl, rfl, hS, h0, rfl, _, rfl, ?_⟩
      refine iteF ?_
      refine ⟨_, rfl, c, _, _, _, rfl, rfl, hS, h0, rfl, _, rfl, ?_⟩
      refine iteT ?_
      exact ⟨_, rfl, x, dx, _, rfl, hx, ff_no _ _ (by decide +kernel) (by decide +kernel), x, a, st, rfl, R, W, ko⟩
    | later i =>
      refine iteF ?_
      refine ⟨_, rfl, c, _, _, _, rfl, rfl, hS, h0, rfl, _, rfl, ?_⟩
      refine iteF ?_
      refine ⟨_, rfl, c, _, _, _, rfl, rfl, hS, h0, rfl, _, rfl, ?_⟩
      refine iteF ?_
      refine ⟨_, rfl, c, _, _, _, rfl, rfl, hS, h0, rfl, _, rfl, ?_⟩
      refine iteF ?_
      refine ⟨_, rfl, c, _, _, _, rfl, rfl, hS, h0, rfl, _, rfl, ?_⟩
      refine iteT ?_
      exact ⟨_, rfl, x, dx, _, rfl, hx, ff_no _ _ (by decide +kernel) (by decide +kernel), _, rfl, c, _, _, _, rfl, rfl, hS, atI_nat (j := 1) rfl, x, a, st, i, rfl, R, W, ko⟩
    | rests => exact absurd h5 (by decide)
    | turns => exact absurd h5 (by decide)
    | round => exact absurd h5 (by decide)
    | before => exact absurd h5 (by decide)
    | longest i => exact absurd h5 (by show ¬ 9 < 5; decide)
end
end Rec

end
section
set_option Elab.async false
set_option linter.all false
set_option maxRecDepth 100000
set_option maxHeartbeats 2000000
namespace Rec
open PySem PySem.Spec PyProof.Rows L2
open Uw83 (at_)
/-! ### rows compared, and lists of rows -/
def rdat (r : Uw83.Row) : PyData := .list (r.map fun (n : Nat) => PyData.int (n : Int))
theorem eqvAll_row : ∀ r r' : List Nat, PyData.eqvAll (r.map fun (n : Nat) => PyData.int (n : Int)) (r'.map fun (n : Nat) => PyData.int (n : Int)) = decide (r = r')
  | [], [] => by simp [PyData.eqvAll]
  | [], _ :: _ => by simp [PyData.eqvAll]
  | _ :: _, [] => by simp [PyData.eqvAll]
  | x :: r, y :: r' => by
    show (PyData.eqv (.int x) (.int y) && PyData.eqvAll _ _) = _
    rw [eqvAll_row r r']
    show (((x : Int) == (y : Int)) && decide (r = r')) = decide (x :: r = y :: r')
    rw [Bool.eq_iff_iff]
    simp
    omega
theorem eqv_row (r r' : Uw83.Row) : PyData.eqv (rdat r) (rdat r') = decide (r = r') := eqvAll_row r r'
theorem lay_row : ∀ r : List Nat, PyData.canLayAll0 (r.map fun (n : Nat) => PyData.int (n : Int)) = true
  | [] => rfl
  | x :: r => by
    show (true && PyData.canLayAll0 _) = true
    rw [lay_row r]
    rfl
theorem depth_row : ∀ r : List Nat, PyData.depthAll (r.map fun (n : Nat) => PyData.int (n : Int)) = 0
  | [] => rfl
  | x :: r => by
    show max 0 (PyData.depthAll _) = 0
    rw [depth_row r]
    rfl
theorem rdat_depth (r : Uw83.Row) : (rdat r).depth = 1 := by
  show PyData.depthAll _ + 1 = 1
  rw [depth_row]
theorem rdat_lay (r : Uw83.Row) : (rdat r).canLay0 = true := lay_row r
theorem rdat_shaped (r : Uw83.Row) : SeqAt.shaped (rdat r) = true := by
  unfold SeqAt.shaped
  rw [rdat_lay, rdat_depth]
  decide
theorem dpAll_row {K : PySem.W.Frag} {H : Hp} : ∀ r : List Nat, DpAll K H (rv r) (r.map fun (n : Nat) => PyData.int (n : Int))
  | [] => .nil
  | x :: r => .cons (.int _) (dpAll_row r)
theorem dp_row {K : PySem.W.Frag} {H : Hp} {a : Addr} {r : Uw83.Row} (h : SqL K H a (rv r)) : Dp K H (.ref a) (rdat r) := .lst h (dpAll_row r)
/-- a == b of two rows -/
theorem rd_eq_rows {K : PySem.W.Frag} {H : Hp} {a b : Addr} {r r' : Uw83.Row} {Q : VK} (ha : SqL K H a (rv r)) (hb : SqL K H b (rv r')) (q : Q (.bl (decide (r = r'))) H) : rEqD K (.ref a) (.ref b) H Q :=
  ⟨_, _, dp_row ha, dp_row hb, rdat_shaped r, rdat_shaped r', by rw [eqv_row]; exact q⟩
theorem rd_ne_rows {K : PySem.W.Frag} {H : Hp} {a b : Addr} {r r' : Uw83.Row} {Q : VK} (ha : SqL K H a (rv r)) (hb : SqL K H b (rv r')) (q : Q (.bl (!decide (r = r'))) H) : rNeD K (.ref a) (.ref b) H Q :=
  ⟨_, _, dp_row ha, dp_row hb, rdat_shaped r, rdat_shaped r', by rw [eqv_row]; exact q⟩
/-- the addresses hold these rows -/
structure Rws (K : PySem.W.Frag) (H : Hp) (as : List Addr) (rs : List Uw83.Row) : Prop where
  len : as.length = rs.length
  at_ : ∀ (i : Nat) (a : Addr), as[i]? = some a → ∃ r, rs[i]? = some r ∧ SqL K H a (rv r)
theorem Rws.nil {K : PySem.W.Frag} {H : Hp} : Rws K H [] [] := ⟨rfl, fun i a h => by simp at h⟩
theorem Rws.same {K : PySem.W.Frag} {H H' : Hp} {as : List Addr} {rs : List Uw83.Row} (h : Rws K H as rs) (s : Same H H') : Rws K H' as rs :=
  ⟨h.len, fun i a e => by
    obtain ⟨r, h1, h2⟩ := h.at_ i a e
    exact ⟨r, h1, s.seq h2⟩⟩
theorem Rws.append {K : PySem.W.Frag} {H : Hp} {as bs : List Addr} {rs ss : List Uw83.Row} (h : Rws K H as rs) (h' : Rws K H bs ss) : Rws K H (as ++ bs) (rs ++ ss) := by
  refine ⟨by rw [List.length_append, List.length_append, h.len, h'.len], fun i a e => ?_⟩
  by_cases hi : i < as.length
  · rw [List.getElem?_append_left hi] at e
    obtain ⟨r, h1, h2⟩ := h.at_ i a e
    exact ⟨r, by rw [List.getElem?_append_left (by rw [← h.len]; exact hi)]; exact h1, h2⟩
  · rw [List.getElem?_append_right (by omega)] at e
    obtain ⟨r, h1, h2⟩ := h'.at_ _ a e
    exact ⟨r, by rw [List.getElem?_append_right (by rw [← h.len]; omega), ← h.len]; exact h1, h2⟩
theorem Rws.one {K : PySem.W.Frag} {H : Hp} {a : Addr} {r : Uw83.Row} (h : SqL K H a (rv r)) : Rws K H [a] [r] := ⟨rfl, fun i b e => by
  cases i with
  | zero =>
    have : a = b := Option.some.inj e
    subst this
    exact ⟨r, rfl, h⟩
  | succ i => simp at e⟩
theorem Rws.get {K : PySem.W.Frag} {H : Hp} {as : List Addr} {rs : List Uw83.Row} (h : Rws K H as rs) {i : Nat} {r : Uw83.Row} (e : rs[i]? = some r) : ∃ a, as[i]? = some a ∧ SqL K H a (rv r) := by
  have hi : i < as.length := by rw [h.len]; exact (List.getElem?_eq_some_iff.mp e).1
  obtain ⟨r', h1, h2⟩ := h.at_ i _ (List.getElem?_eq_getElem hi)
  rw [e] at h1
  cases h1
  exact ⟨_, List.getElem?_eq_getElem hi, h2⟩
theorem vals_refs : ∀ {as : List Addr} {us : List Value}, Vals (as.map V.ref) us → us = as.map Value.ref
  | [], us, h => by
    cases h
    rfl
  | a :: as, us, h => by
    rw [List.map_cons] at h
    cases h with
    | cons r t =>
      cases r
      rw [vals_refs t, List.map_cons]
theorem rv_inj {r r' : List Nat} (h : rv r = rv r') : r = r' := by
  unfold rv at h
  refine (List.map_inj_right ?_).mp h
  intro x y e
  injection e with e
  omega
section
variable {X : Cx}
open Classical in
/-- whether a value is a list that holds the row -/
noncomputable def isRow (K : PySem.W.Frag) (H : Hp) (r : Uw83.Row) (u : Value) : Bool := decide (∃ a, u = Value.ref a ∧ SqL K H a (rv r))
theorem isRow_iff {K : PySem.W.Frag} {H : Hp} {r : Uw83.Row} {u : Value} : isRow K H r u = true ↔ ∃ a, u = Value.ref a ∧ SqL K H a (rv r) := by
  unfold isRow
  exact @decide_eq_true_iff _ (Classical.propDecidable _)
theorem isRow_eq {pins : List (Addr × Obj)} {σ : L2.St} {H : Hp} {s : Shared} {a : Addr} {r r' : Uw83.Row} (I : Inv X pins σ H s) (h : SqL X.K H a (rv r')) : isRow X.K H r (.ref a) = decide (r' = r) := by
  rw [Bool.eq_iff_iff, isRow_iff, decide_eq_true_iff]
  constructor
  · rintro ⟨b, e, q⟩
    cases e
    exact rv_inj (I.list_inj h q)
  · intro e
    subst e
    exact ⟨a, rfl, h⟩
theorem row_eqAt {pins : List (Addr × Obj)} {σ : L2.St} {H : Hp} {s : Shared} {a c : Addr} {r r' : Uw83.Row} (I : Inv X pins σ H s) (hu : X.A.units + 64 < cLine) (h : SqL X.K H a (rv r')) (h' : SqL X.K H c (rv r)) : SeqAt.EqAt X.A.in1 s (.ref a) (.ref c) (isRow X.K H r (.ref a)) := by
  obtain ⟨as, r1⟩ := Dp.reads I _ _ (.ref a) (dp_row h) rfl
  obtain ⟨bs, r2⟩ := Dp.reads I _ _ (.ref c) (dp_row h') rfl
  rw [isRow_eq I h, ← eqv_row]
  refine SeqAt.eqAt_reads _ _ _ _ _ _ _ _ r1 r2 (rdat_lay _) (rdat_lay _) ?_
  rw [rdat_depth, rdat_depth]
  show X.A.units + 1 + min 1 1 < cLine
  omega
theorem any_isRow {pins : List (Addr × Obj)} {σ : L2.St} {H : Hp} {s : Shared} {r : Uw83.Row} (I : Inv X pins σ H s) : ∀ {as : List Addr} {rs : List Uw83.Row}, Rws X.K H as rs → (as.map Value.ref).any (isRow X.K H r) = decide (r ∈ rs) := by
  intro as rs h
  rw [Bool.eq_iff_iff, decide_eq_true_iff, List.any_eq_true]
  constructor
  · rintro ⟨u, hu, q⟩
    obtain ⟨a, ha, rfl⟩ := List.mem_map.mp hu
    obtain ⟨i, hi⟩ := List.mem_iff_getElem?.mp ha
    obtain ⟨r', h1, h2⟩ := h.at_ i a hi
    rw [isRow_eq I h2] at q
    have := of_decide_eq_true q
    subst this
    exact List.mem_of_getElem? h1
  · intro hr
    obtain ⟨i, hi⟩ := List.mem_iff_getElem?.mp hr
    obtain ⟨a, h1, h2⟩ := h.get hi
    exact ⟨.ref a, List.mem_map.mpr ⟨a, List.mem_of_getElem? h1, rfl⟩, by rw [isRow_eq I h2]; exact decide_eq_true rfl⟩
/-- a row in a list of rows -/
def rInR (K : PySem.W.Frag) (neg : Bool) : R2 := fun x y H Q => ∃ (c p : Addr) (as : List Addr) (rs : List Uw83.Row) (r : Uw83.Row), x = .ref c ∧ y = .ref p ∧ SqL K H p (as.map V.ref) ∧ Rws K H as rs ∧ SqL K H c (rv r) ∧ Q (.bl (if neg = true then !decide (r ∈ rs) else decide (r ∈ rs))) H
theorem op_in_rows (hu : X.A.units + 64 < cLine) : OpR X (compareOp .In) (rInR X.K false) := by
  intro pins s σ H x y v u Q I rx ry h
  obtain ⟨c, p, as, rs, r, rfl, rfl, hq, hR, hc, q⟩ := h
  cases rx
  cases ry
  obtain ⟨its, r', pl, hz⟩ := I.list hq
  have e := vals_refs r'
  subst e
  refine SeqAt.in_listAt (isRow X.K H r) pl.isList (fun w hw => ?_) ⟨.bl _, H, I, rfl, ?_⟩
  · have hw' : w ∈ as.map Value.ref := by simpa using hw
    obtain ⟨a, ha, rfl⟩ := List.mem_map.mp hw'
    obtain ⟨i, hi⟩ := List.mem_iff_getElem?.mp ha
    obtain ⟨r2, _, h2⟩ := hR.at_ i a hi
    exact row_eqAt I hu h2 hc
  · rw [show (as.map Value.ref).toArray.any (isRow X.K H r) = (as.map Value.ref).any (isRow X.K H r) by simp, any_isRow I hR]
    exact q
theorem op_notIn_rows (hu : X.A.units + 64 < cLine) : OpR X (compareOp .NotIn) (rInR X.K true) := by
  intro pins s σ H x y v u Q I rx ry h
  obtain ⟨c, p, as, rs, r, rfl, rfl, hq, hR, hc, q⟩ := h
  cases rx
  cases ry
  obtain ⟨its, r', pl, hz⟩ := I.list hq
  have e := vals_refs r'
  subst e
  refine SeqAt.notIn_listAt (isRow X.K H r) pl.isList (fun w hw => ?_) ⟨.bl _, H, I, rfl, ?_⟩
  · have hw' : w ∈ as.map Value.ref := by simpa using hw
    obtain ⟨a, ha, rfl⟩ := List.mem_map.mp hw'
    obtain ⟨i, hi⟩ := List.mem_iff_getElem?.mp ha
    obtain ⟨r2, _, h2⟩ := hR.at_ i a hi
    exact row_eqAt I hu h2 hc
  · rw [show (as.map Value.ref).toArray.any (isRow X.K H r) = (as.map Value.ref).any (isRow X.K H r) by simp, any_isRow I hR]
    exact q
/-- rows.index(row): j is the first place -/
def rIndexR (K : PySem.W.Frag) : V → List V → Hp → VK → Prop := fun x xs H Q => ∃ (p c : Addr) (as : List Addr) (rs : List Uw83.Row) (r : Uw83.Row) (j : Nat), x = V.ref p ∧ xs = [V.ref c] ∧ SqL K H p (as.map V.ref) ∧ Rws K H as rs ∧ SqL K H c (rv r) ∧ rs[j]? = some r ∧ (∀ m, m < j → rs[m]? ≠ some r) ∧ Q (.int (j : Nat)) H
theorem mt_index_rows (hu : X.A.units + 64 < cLine) : MtR X "list.index" (rIndexR X.K) := by
  intro pins s σ H x xs v us Q I rx rxs h
  obtain ⟨p, c, as, rs, r, j, rfl, rfl, hs, hR, hc, hj0, hno, q⟩ := h
  cases rx
  cases rxs with
  | cons ry rt =>
    cases rt
    cases ry
    obtain ⟨its, rv', ⟨⟨cls, dd, data, sl⟩, n, ho, hcl, hdn, hd⟩, hlen⟩ := I.list hs
    simp only at hcl hd
    subst hcl hd
    have e := vals_refs rv'
    subst e
    have hsl := sizeLine_eq
    rw [List.length_map] at hlen
    have hjl : j < as.length := by rw [hR.len]; exact (List.getElem?_eq_some_iff.mp hj0).1
    refine call_meets PySem.F.slot_list_index ⟨_, ho, rfl⟩ PySem.F.entry_list_index (PySem.F.args_list_index_2 _ _)
      (SeqAt.list_indexAt p (as.map Value.ref).toArray n dd sl (.ref c) (isRow X.K H r) j (by simpa using hjl) (by omega) ?_ ?_) ⟨ho, fun u' hu' => ?_, ?_⟩
    · obtain ⟨a, h1, h2⟩ := hR.get hj0
      obtain ⟨_, h3⟩ := List.getElem?_eq_some_iff.mp h1
      have e1 : (as.map Value.ref).toArray[j]'(by simpa using hjl) = .ref a := by simp [h3]
      rw [e1, isRow_eq I h2]
      exact decide_eq_true rfl
    · intro m hm hmj
      have hml : m < as.length := by simpa using hm
      obtain ⟨r2, h1, h2⟩ := hR.at_ m _ (List.getElem?_eq_getElem hml)
      have e1 : (as.map Value.ref).toArray[m] = .ref as[m] := by simp
      rw [e1, isRow_eq I h2]
      exact decide_eq_false fun e => hno m hmj (by rw [h1, e])
    · have hw' : u' ∈ as.map Value.ref := by simpa using hu'
      obtain ⟨a, ha, rfl⟩ := List.mem_map.mp hw'
      obtain ⟨i, hi⟩ := List.mem_iff_getElem?.mp ha
      obtain ⟨r2, _, h2⟩ := hR.at_ i a hi
      exact row_eqAt I hu h2 hc
    · exact ⟨.int (j : Nat), H, I.tok _, ⟨_, rfl⟩, q⟩
end
end Rec

end
section
set_option Elab.async false
set_option linter.all false
set_option maxRecDepth 100000
set_option maxHeartbeats 2000000
namespace Rec
open PySem PySem.Spec PyProof.Rows L2
open Uw83 (at_)
abbrev sRest : Stmt := top 26
abbrev sNever : Stmt := top 27
abbrev sTill : Stmt := top 28
abbrev sTillS : Stmt := top 29
abbrev sTimes : Stmt := top 30
abbrev sKnown : Stmt := top 31
abbrev sRows : Stmt := top 32
theorem bt_sum : bootBuiltins "sum" = some (.builtin "sum") := by decide +kernel
theorem bt_abs : bootBuiltins "abs" = some (.builtin "abs") := by decide +kernel
theorem bt_max : bootBuiltins "max" = some (.builtin "max") := by decide +kernel
structure TxtS (mg : Str → Option Value) : Prop extends TxtR mg where
  sum : mg "sum" = none
  abs : mg "abs" = none
  max : mg "max" = none
  never : GI mg "NEVER_AT_REST" (-6)
  noLong : GI mg "NO_LONGEST" (-1)
  fLong : GI mg "FEWEST_IN_LONGEST" 1
  mLong : GI mg "MOST_IN_LONGEST" 10
/-! ### a list of rows, each at its own address -/
structure Book (H : Hp) (p : Addr) (as : List Addr) (rs : List Uw83.Row) : Prop where
  ls : H p = some (.lst (as.map V.ref))
  len : as.length = rs.length
  at_ : ∀ (i : Nat) (a : Addr), as[i]? = some a → ∃ r, rs[i]? = some r ∧ H a = some (.lst (rv r))
  np : ∀ a, a ∈ as → a ≠ p
theorem Book.rws {K : PySem.W.Frag} {H : Hp} {p : Addr} {as : List Addr} {rs : List Uw83.Row} (b : Book H p as rs) : Rws K H as rs := ⟨b.len, fun i a e => by
  obtain ⟨r, h1, h2⟩ := b.at_ i a e
  exact ⟨r, h1, SqL.of h2⟩⟩
theorem Book.sq {K : PySem.W.Frag} {H : Hp} {p : Addr} {as : List Addr} {rs : List Uw83.Row} (b : Book H p as rs) : SqL K H p (as.map V.ref) := SqL.of b.ls
theorem Book.same {H H' : Hp} {p : Addr} {as : List Addr} {rs : List Uw83.Row} (b : Book H p as rs) (s : Same H H') : Book H' p as rs := ⟨s _ _ b.ls, b.len, fun i a e => by
  obtain ⟨r, h1, h2⟩ := b.at_ i a e
  exact ⟨r, h1, s _ _ h2⟩, b.np⟩
theorem Book.nil {H : Hp} {p : Addr} : Book (upd H p (.lst [])) p [] [] := ⟨upd_same, rfl, fun i a e => by simp at e, fun a h => by simp at h⟩
theorem Book.get {H : Hp} {p : Addr} {as : List Addr} {rs : List Uw83.Row} (b : Book H p as rs) {i : Nat} {r : Uw83.Row} (e : rs[i]? = some r) : ∃ a, as[i]? = some a ∧ H a = some (.lst (rv r)) := by
  have hi : i < as.length := by rw [b.len]; exact (List.getElem?_eq_some_iff.mp e).1
  obtain ⟨r', h1, h2⟩ := b.at_ i _ (List.getElem?_eq_getElem hi)
  rw [e] at h1
  cases h1
  exact ⟨_, List.getElem?_eq_getElem hi, h2⟩
theorem ref_get {as : List Addr} {i : Nat} {a : Addr} (h : as[i]? = some a) : (as.map V.ref)[i]? = some (.ref a) := by
  rw [List.getElem?_map, h]
  rfl
theorem ref_get_of {as : List Addr} {i : Nat} {y : V} (h : (as.map V.ref)[i]? = some y) : ∃ a, as[i]? = some a ∧ y = V.ref a := by
  rw [List.getElem?_map] at h
  cases e : as[i]? with
  | none => rw [e] at h; cases h
  | some a => rw [e] at h; exact ⟨a, rfl, (Option.some.inj h).symm⟩
/-- one more row -/
theorem Book.snoc {H : Hp} {p q : Addr} {as : List Addr} {rs : List Uw83.Row} {r : Uw83.Row} (b : Book H p as rs) (hq : H q = some (.lst (rv r))) (hqp : q ≠ p) : Book (upd H p (.lst (as.map V.ref ++ [V.ref q]))) p (as ++ [q]) (rs ++ [r]) := by
  refine ⟨by rw [upd_same, List.map_append]; rfl, by rw [List.length_append, List.length_append, b.len]; rfl, fun i a e => ?_, fun a h => ?_⟩
  · by_cases hi : i < as.length
    · rw [List.getElem?_append_left hi] at e
      obtain ⟨r', h1, h2⟩ := b.at_ i a e
      exact ⟨r', by rw [List.getElem?_append_left (by rw [← b.len]; exact hi)]; exact h1, by rw [upd_ne (b.np a (List.mem_of_getElem? e))]; exact h2⟩
    · rw [List.getElem?_append_right (by omega)] at e
      have hi0 : i - as.length = 0 := by
        have := (List.getElem?_eq_some_iff.mp e).1
        simp at this
        omega
      rw [hi0] at e
      have : q = a := Option.some.inj e
      subst this
      exact ⟨r, by rw [List.getElem?_append_right (by rw [← b.len]; omega), ← b.len, hi0]; rfl, by rw [upd_ne hqp]; exact hq⟩
  · rcases List.mem_append.mp h with h | h
    · exact b.np a h
    · have : a = q := by simpa using h
      rw [this]
      exact hqp
/-- the last row -/
theorem Book.last {H : Hp} {p : Addr} {as : List Addr} {rs : List Uw83.Row} {r : Uw83.Row} (b : Book H p as (rs ++ [r])) : ∃ a, atI (as.map V.ref) (-1) = some (.ref a) ∧ H a = some (.lst (rv r)) ∧ a ≠ p := by
  have hl := b.len
  rw [List.length_append] at hl
  have hne : as ≠ [] := by
    intro q
    rw [q] at hl
    simp at hl
  obtain ⟨as', a, e⟩ : ∃ as' a, as = as' ++ [a] := ⟨as.dropLast, as.getLast hne, (List.dropLast_concat_getLast hne).symm⟩
  subst e
  have hl' : as'.length = rs.length := by simpa using hl
  obtain ⟨r', h1, h2⟩ := b.at_ as'.length a (by simp)
  rw [hl'] at h1
  have e : r = r' := by simpa using h1
  subst e
  refine ⟨a, ?_, h2, b.np a (by simp)⟩
  rw [List.map_append]
  exact atI_last _ _
def NewB (H : Hp) (Q : VK) (rs : List Uw83.Row) : Prop := ∀ (H' : Hp) (p : Addr) (as : List Addr), Same H H' → H p = Option.none → Book H' p as rs → Q (.ref p) H'
/-- an answer that is a value -/
def Val (H : Hp) (Q : VK) (v : V) : Prop := ∀ H' : Hp, Same H H' → Q v H'
def spRest (K : PySem.W.Frag) : Sp := fun vs H Q _ => ∃ (ring : Bool) (a : Addr) (r : Uw83.Row), vs = [.int (bi ring), .ref a] ∧ SqL K H a (rv r) ∧ 1 ≤ r.length ∧ r.length ≤ 12 ∧ Val H Q (.bl (decide (Uw83.pairs ring r = 0)))
def spNever (K : PySem.W.Frag) : Sp := fun vs H Q _ => ∃ (ring : Bool) (a : Addr) (r : Uw83.Row), vs = [.int (bi ring), .ref a] ∧ SqL K H a (rv r) ∧ 1 ≤ r.length ∧ r.length ≤ 12 ∧ Val H Q (.bl (decide (ring = true ∧ Uw83.pairs ring r ≠ 0)))
def spTill (K : PySem.W.Frag) : Sp := fun vs H Q _ => ∃ (ring : Bool) (a : Addr) (r : Uw83.Row) (t : Nat), vs = [.int (bi ring), .ref a] ∧ SqL K H a (rv r) ∧ 1 ≤ r.length ∧ r.length ≤ 12 ∧ t ≤ 11 ∧ Uw83.pairs ring (Uw83.later ring t r) = 0 ∧ (∀ s, s < t → Uw83.pairs ring (Uw83.later ring s r) ≠ 0) ∧ NewB H Q (seq ring r (t + 1))
def spTillS (K : PySem.W.Frag) : Sp := fun vs H Q _ => ∃ (a : Addr) (r : Uw83.Row), vs = [.ref a] ∧ SqL K H a (rv r) ∧ (∀ x ∈ r, x ≤ 1) ∧ 1 ≤ r.length ∧ r.length ≤ 12 ∧ Val H Q (.int (secs r : Int))
def spTimes (K : PySem.W.Frag) : Sp := fun vs H Q _ => ∃ (p : Addr) (as : List Addr) (ring : Bool) (r : Uw83.Row) (t j : Nat), vs = [.ref p, .int (j : Int)] ∧ SqL K H p (as.map V.ref) ∧ Rws K H as (seq ring r (t + 1)) ∧ t ≤ 11 ∧ Wf ring r ∧ j < r.length ∧ Val H Q (.int (at_ (Uw83.turns ring t r) j : Int))
def spKnown (K : PySem.W.Frag) : Sp := fun vs H Q _ => ∃ (ring : Bool) (a : Addr) (r : Uw83.Row) (m : Nat), vs = [.int (bi ring), .ref a] ∧ SqL K H a (rv r) ∧ 1 ≤ r.length ∧ r.length ≤ 12 ∧ m ≤ 4096 ∧ Uw83.later ring m r ∈ seq ring r m ∧ (∀ i, i < m → ¬ Uw83.later ring i r ∈ seq ring r i) ∧ NewB H Q (seq ring r m)
def spRows : Sp := fun vs H Q _ => ∃ n : Nat, vs = [.int (n : Int)] ∧ n ≤ 12 ∧ NewB H Q (Uw83.rows n)
theorem big5000 {n : Nat} (h : n ≤ 5000) : n < sizeLine := by rw [sizeLine_eq]; omega
section
variable {P : Program} {w : World} {K : PySem.W.Frag} {mg : Str → Option Value} {base : Heap}
theorem scRest : FnScope ["ring", "faces"] ["ring", "faces"] (defScope sRest) := ⟨rfl, rfl, rfl, by decide +kernel, rfl, by decide +kernel, by decide +kernel⟩
theorem ok_rest {f : Addr} {fd : FuncData} (F : Fun K "at_rest" "at_rest" sRest f fd) (T : Txt mg) (UP : Use P w K mg base 2 "pairs" ["ring", "faces"] (spPairs K)) :
    FnOk P w K mg base CX0 3 f fd ["ring", "faces"] (spRest K) := by
  refine F.ok scRest (fun vs H Q E h => ?_) (fun cdv A outer s H vs Q E hr h => ?_)
  · obtain ⟨ring, a, r, rfl, _⟩ := h
    rfl
  · obtain ⟨ring, a, r, rfl, hS, h1, h12, k⟩ := h
    refine ⟨_, pss_one (ps_ret (pe_cmpR op_eq (pe_callB call_len_seq (by rfl) T.len PySem.boot_len (pa_cons (pe_use UP hr rfl (pa_cons (pv 0) (pa_cons (pv 1) pa_nil))) pa_nil)) pe_int (nomark _))), ?_⟩
    refine ⟨_, rfl, _, rfl, ring, a, r, rfl, hS, h1, h12, fun H1 p s1 hp0 hp => ?_⟩
    refine ⟨p, _, rfl, .inl (SqL.of hp), rfl, ?_⟩
    have := k H1 s1
    rw [rv_len, ← pairs_len]
    have e : decide (V.int (Uw83.pairs ring r : Int) = V.int 0) = decide (Uw83.pairs ring r = 0) := by
      rw [Bool.eq_iff_iff, decide_eq_true_iff, decide_eq_true_iff]
      constructor
      · intro q; injection q with q; omega
      · intro q; rw [q]; rfl
    rw [e]
    exact this
theorem scNever : FnScope ["ring", "faces"] ["ring", "faces"] (defScope sNever) := ⟨rfl, rfl, rfl, by decide +kernel, rfl, by decide +kernel, by decide +kernel⟩
theorem ok_never {f : Addr} {fd : FuncData} (F : Fun K "never_at_rest" "never_at_rest" sNever f fd) (T : Txt mg) (UA : Use P w K mg base 3 "at_rest" ["ring", "faces"] (spRest K)) :
    FnOk P w K mg base CX0 4 f fd ["ring", "faces"] (spNever K) := by
  refine F.ok scNever (fun vs H Q E h => ?_) (fun cdv A outer s H vs Q E hr h => ?_)
  · obtain ⟨ring, a, r, rfl, _⟩ := h
    rfl
  · obtain ⟨ring, a, r, rfl, hS, h1, h12, k⟩ := h
    refine ⟨_, pss_one (ps_ret (pe_and (pe_cmpR op_eq (pv 0) pe_int (nomark _)) (pe_one (pe_not (pe_use UA hr rfl (pa_cons (pv 0) (pa_cons (pv 1) pa_nil))))))), ?_⟩
    refine ⟨_, rfl, rfl, _, rfl, ?_⟩
    cases ring with
    | true =>
      refine iteT ?_
      refine ⟨_, rfl, _, rfl, true, a, r, rfl, hS, h1, h12, fun H1 s1 => ⟨_, rfl, ?_⟩⟩
      have := k H1 s1
      have e : (!decide (Uw83.pairs true r = 0)) = decide (true = true ∧ Uw83.pairs true r ≠ 0) := by simp
      rw [e]
      exact this
    | false =>
      refine iteF ?_
      have := k H (Same.refl H)
      have e : decide (false = true ∧ Uw83.pairs false r ≠ 0) = false := by simp
      rw [e] at this
      exact this
theorem scTill : FnScope ["ring", "faces", "course"] ["ring", "faces"] (defScope sTill) := ⟨rfl, rfl, rfl, by decide +kernel, rfl, by decide +kernel, by decide +kernel⟩
theorem ok_till {f : Addr} {fd : FuncData} (F : Fun K "till_rest" "till_rest" sTill f fd) (T : Txt mg) (UA : Use P w K mg base 3 "at_rest" ["ring", "faces"] (spRest K)) (US : Use P w K mg base 3 "behind_a_second" ["ring", "faces"] (spSec K)) :
    FnOk P w K mg base CX0 4 f fd ["ring", "faces"] (spTill K) := by
  refine F.ok scTill (fun vs H Q E h => ?_) (fun cdv A outer s H vs Q E hr h => ?_)
  · obtain ⟨ring, a, r, t, rfl, _⟩ := h
    rfl
  · obtain ⟨ring, a, r, t, rfl, hS, h1, h12, h11, ht, hno, k⟩ := h
    refine ⟨_, pss_cons (ps_set (i := 2) scTill.nd rfl (Or.inl rfl) (pe_lst (pa_cons (pe_callTy call_list_of (by rfl) T.list bt_list (pa_cons (pv 1) pa_nil)) pa_nil)))
      (pss_cons (ps_while PassesOwn.never (pt_not (pt_val (pe_use UA hr rfl (pa_cons (pv 0) (pa_cons (pe_ix ix_list (pv 2) (pe_un un_neg pe_int) (fun _ _ => rfl)) pa_nil)))))
        (pss_one (ps_expr (pe_bm PySem.F.plainAttrs_list PySem.F.slot_list_append PySem.F.type_list_append mt_append (pv 2) (pa_cons (pe_use US hr rfl (pa_cons (pv 0) (pa_cons (pe_ix ix_list (pv 2) (pe_un un_neg pe_int) (fun _ _ => rfl)) pa_nil))) pa_nil)))))
      (pss_one (ps_ret (pv 2)))), ?_⟩
    -- course = [list(faces)]
    refine ⟨_, rfl, a, _, rfl, .inl hS, fun b hb => ?_⟩
    refine ⟨(by show 1 ≤ sizeLine; decide), fun p hp => ?_⟩
    have s1 : Same H (upd H b (.lst (rv r))) := Same.upd hb
    have hbp : b ≠ p := ne_of_none upd_same hp
    have s2 : Same (upd H b (.lst (rv r))) (upd (upd H b (.lst (rv r))) p (.lst [.ref b])) := Same.upd hp
    have hp0 := s1.free hp
    have B0 : Book (upd (upd H b (.lst (rv r))) p (.lst [.ref b])) p [b] (seq ring r 1) := by
      have := (Book.nil (H := upd H b (.lst (rv r))) (p := p)).snoc (q := b) (r := r) (by rw [upd_ne hbp]; exact upd_same) hbp
      rw [upd_upd] at this
      exact this
    refine ⟨fun m σ H' => ∃ (i : Nat) (as : List Addr), m = t - i ∧ i ≤ t ∧ σ = [some (.int (bi ring)), some (.ref a), some (.ref p)] ∧ Same H H' ∧ Book H' p as (seq ring r (i + 1)), ⟨_, 0, [b], rfl, Nat.zero_le _, rfl, s1.trans s2, B0⟩, ?_⟩
    rintro m σ H1 ⟨i, as, rfl, hi, rfl, s3, B⟩
    rw [seq_succ] at B
    obtain ⟨q, hq1, hq2, hqp⟩ := B.last
    have hlen : (Uw83.later ring i r).length = r.length := later_length ring i r
    refine ⟨_, rfl, _, rfl, _, rfl, p, _, _, _, rfl, rfl, B.sq, hq1, ring, q, Uw83.later ring i r, rfl, SqL.of hq2, by omega, by omega, fun H2 s4 => ⟨_, rfl, ?_⟩⟩
    have B2 := B.same s4
    by_cases c : i = t
    · subst c
      rw [decide_eq_true ht]
      refine iteF ?_
      refine ⟨_, rfl, ?_⟩
      rw [← seq_succ] at B2
      exact k H2 p as (s3.trans s4) hp0 B2
    · rw [decide_eq_false (hno i (by omega))]
      refine iteT ?_
      refine ⟨fun σ' H' => ∃ (as : List Addr), σ' = [some (.int (bi ring)), some (.ref a), some (.ref p)] ∧ Same H H' ∧ Book H' p as (seq ring r (i + 1 + 1)), fun σ' H' ⟨as', e1, e2, e3⟩ => ⟨t - (i + 1), by omega, i + 1, as', rfl, by omega, e1, e2, e3⟩, ?_⟩
      refine ⟨_, rfl, .inl ⟨rfl, _, B2.sq⟩, _, rfl, _, rfl, _, rfl, p, _, _, _, rfl, rfl, B2.sq, hq1, ring, q, Uw83.later ring i r, rfl, SqL.of (s4 _ _ hq2), by omega, by omega, fun H3 n s5 hn0 hn => ?_⟩
      have B3 := B2.same s5
      have hnp : n ≠ p := fun e => by
        rw [e, B2.ls] at hn0
        cases hn0
      refine ⟨p, _, _, rfl, rfl, B3.ls, ?_, ?_⟩
      · rw [List.length_map, B3.len, ← seq_succ, seq_len]
        exact small1000 (by omega)
      · rw [← later_succ] at hn
        have B4 := B3.snoc hn hnp
        rw [← seq_succ, ← seq_succ] at B4
        refine ⟨_, rfl, fun x o e => ?_, B4⟩
        rw [upd_ne (ne_of_none e hp0)]
        exact (s3.trans (s4.trans s5)) x o e
theorem scTillS : FnScope ["row"] ["row"] (defScope sTillS) := ⟨rfl, rfl, rfl, by decide +kernel, rfl, by decide +kernel, by decide +kernel⟩
theorem ok_tillS {f : Addr} {fd : FuncData} (F : Fun K "seconds_till_rest" "seconds_till_rest" sTillS f fd) (T : Txt mg) (UT : Use P w K mg base 4 "till_rest" ["ring", "faces"] (spTill K)) :
    FnOk P w K mg base CX0 5 f fd ["row"] (spTillS K) := by
  refine F.ok scTillS (fun vs H Q E h => ?_) (fun cdv A outer s H vs Q E hr h => ?_)
  · obtain ⟨a, r, rfl, _⟩ := h
    rfl
  · obtain ⟨a, r, rfl, hS, hbit, h1, h12, k⟩ := h
    refine ⟨_, pss_one (ps_ret (pe_op op_sub (pe_callB call_len_seq (by rfl) T.len PySem.boot_len (pa_cons (pe_use UT hr rfl (pa_cons pe_int (pa_cons (pv 0) pa_nil))) pa_nil)) pe_int)), ?_⟩
    obtain ⟨t, h2, h3, h4, h5⟩ := rests_row hbit h1
    refine ⟨_, rfl, false, a, r, t, rfl, hS, h1, h12, by omega, h4, h5, fun H1 p as s1 hp0 B => ?_⟩
    refine ⟨p, _, rfl, .inl B.sq, _, _, rfl, rfl, ?_⟩
    have := k H1 s1
    have e : secs r = t := by
      unfold secs
      rw [h3]
      rfl
    rw [e] at this
    have e2 : ((as.map V.ref).length : Int) - 1 = (t : Int) := by
      rw [List.length_map, B.len, seq_len]
      omega
    dsimp only
    rw [e2]
    exact this
theorem scTimes : FnScope ["course", "place", "passed"] ["course", "place"] (defScope sTimes) := ⟨rfl, rfl, rfl, by decide +kernel, rfl, by decide +kernel, by decide +kernel⟩
theorem ok_times {f : Addr} {fd : FuncData} (F : Fun K "turned_times" "turned_times" sTimes f fd) (T : TxtS mg) : FnOk P w K mg base CX0 1 f fd ["course", "place"] (spTimes K) := by
  refine F.ok scTimes (fun vs H Q E h => ?_) (fun cdv A outer s H vs Q E hr h => ?_)
  · obtain ⟨p, as, ring, r, t, j, rfl, _⟩ := h
    rfl
  · obtain ⟨p, as, ring, r, t, j, rfl, hS, hR, h11, W, hj, k⟩ := h
    refine ⟨_, pss_one (ps_ret (pe_callB (cr_sum rfl) (by rfl) T.sum bt_sum (pa_cons (pe_lc (own := [("passed", 2)]) rfl scTimes.nd (pi_range1 rfl T.range (pa_cons (pe_op op_sub (pe_callB call_len_seq (by rfl) T.len PySem.boot_len (pa_cons (pv 0) pa_nil)) pe_int) pa_nil)) (blkOk_by (by show blkC ["course", "place", "passed"] (defScope sTimes) _ [("passed", 2)] = true; decide +kernel))
        (fun s H C cl fp => pg_name (i := 2) scTimes.nd rfl (Or.inl rfl))
        (fun s H C cl fp => pts_nil)
        (fun s H C cl fp => pe_callB call_abs (by rfl) T.abs bt_abs (pa_cons (pe_op op_sub (pe_ix (r := rIxL K) ix_list (pe_ix (r := rIxL K) ix_list (pv 0) (pe_op op_add (pv 2) pe_int) (fun _ _ => rfl)) (pv 1) (fun _ _ => rfl)) (pe_ix (r := rIxL K) ix_list (pe_ix (r := rIxL K) ix_list (pv 0) (pv 2) (fun _ _ => rfl)) (pv 1) (fun _ _ => rfl))) pa_nil))) pa_nil))), ?_⟩
    refine ⟨_, rfl, p, _, rfl, .inl hS, _, _, rfl, rfl, _, rfl, ?_⟩
    have e0 : ((as.map V.ref).length : Int) - 1 = (t : Int) := by
      rw [List.length_map, hR.len, seq_len]
      omega
    rw [e0, Int.toNat_natCast]
    refine ⟨by omega, by omega, fun D hD => ?_⟩
    refine lc_range (lo := 0) (Pv := fun i H' => H' D = some (.lst (((List.range i).map (dif ring r j)).map V.int)) ∧ Same H H') ⟨upd_same, Same.upd hD⟩ ?_ ?_
    · rintro i H' hi ⟨hd, sm⟩
      have hz : (0 : Int) + (i : Int) = (i : Int) := Int.zero_add _
      rw [hz]
      refine ⟨rfl, ?_⟩
      unfold tYes
      dsimp only
      rw [if_pos rfl]
      obtain ⟨q1, ha1, hq1⟩ := hR.get (seq_get (ring := ring) (r := r) (k := t + 1) (i := i + 1) (by omega))
      obtain ⟨q0, ha0, hq0⟩ := hR.get (seq_get (ring := ring) (r := r) (k := t + 1) (i := i) (by omega))
      have l1 : j < (Uw83.later ring (i + 1) r).length := by rw [later_length]; exact hj
      have l0 : j < (Uw83.later ring i r).length := by rw [later_length]; exact hj
      refine ⟨_, rfl, _, rfl, _, _, rfl, rfl, p, _, _, _, rfl, rfl, sm.seq hS, (atI_nat (j := i + 1) (ref_get ha1)), _, rfl, q1, _, _, _, rfl, rfl, sm.seq hq1, atI_nat (rv_at l1), ?_⟩
      refine ⟨_, rfl, _, rfl, p, _, _, _, rfl, rfl, sm.seq hS, atI_nat (ref_get ha0), _, rfl, q0, _, _, _, rfl, rfl, sm.seq hq0, atI_nat (rv_at l0), _, _, rfl, rfl, _, rfl, ?_⟩
      refine ⟨_, hd, (by rw [List.length_map, List.length_map, List.length_range]; exact small1000 (by omega)), ?_, ?_⟩
      · rw [upd_same, List.range_succ, List.map_append, List.map_append]
        rfl
      · exact fun b o e => by rw [upd_ne (ne_of_none e hD)]; exact sm b o e
    · rintro H' ⟨hd, sm⟩
      refine ⟨D, _, rfl, SqL.of hd, ?_⟩
      rw [dif_sum W hj]
      exact k H' sm
theorem scKnown : FnScope ["ring", "faces", "course", "then"] ["ring", "faces"] (defScope sKnown) := ⟨rfl, rfl, rfl, by decide +kernel, rfl, by decide +kernel, by decide +kernel⟩
theorem ok_known {f : Addr} {fd : FuncData} (F : Fun K "till_known" "till_known" sKnown f fd) (T : Txt mg) (US : Use P w K mg base 3 "behind_a_second" ["ring", "faces"] (spSec K)) :
    FnOk P w K mg base CX0 4 f fd ["ring", "faces"] (spKnown K) := by
  refine F.ok scKnown (fun vs H Q E h => ?_) (fun cdv A outer s H vs Q E hr h => ?_)
  · obtain ⟨ring, a, r, m, rfl, _⟩ := h
    rfl
  · obtain ⟨ring, a, r, M, rfl, hS, h1, h12, hM, hin, hno, k⟩ := h
    refine ⟨_, pss_cons (ps_set (i := 2) scKnown.nd rfl (Or.inl rfl) (pe_lst pa_nil))
      (pss_cons (ps_set (i := 3) scKnown.nd rfl (Or.inl rfl) (pe_callTy call_list_of (by rfl) T.list bt_list (pa_cons (pv 1) pa_nil)))
      (pss_cons (ps_while PassesOwn.never (pt_cmpR (op_notIn_rows hr.units) (pv 3) (pv 2) (by with_unfolding_all rfl))
        (pss_cons (ps_expr (pe_bm PySem.F.plainAttrs_list PySem.F.slot_list_append PySem.F.type_list_append mt_append (pv 2) (pa_cons (pv 3) pa_nil)))
        (pss_one (ps_set (i := 3) scKnown.nd rfl (Or.inl rfl) (pe_use US hr rfl (pa_cons (pv 0) (pa_cons (pv 3) pa_nil)))))))
      (pss_one (ps_ret (pv 2))))), ?_⟩
    refine ⟨Nat.zero_le _, fun p hp => ?_⟩
    have s1 : Same H (upd H p (.lst [])) := Same.upd hp
    refine ⟨_, rfl, a, _, rfl, .inl (s1.seq hS), fun b hb => ?_⟩
    have hbp : b ≠ p := fun e => by rw [e, upd_same] at hb; cases hb
    have s2 : Same (upd H p (.lst [])) (upd (upd H p (.lst [])) b (.lst (rv r))) := Same.upd hb
    refine ⟨fun m σ H' => ∃ (i : Nat) (as : List Addr) (q : Addr), m = M - i ∧ i ≤ M ∧ σ = [some (.int (bi ring)), some (.ref a), some (.ref p), some (.ref q)] ∧ Same H H' ∧ Book H' p as (seq ring r i) ∧ q ≠ p ∧ H' q = some (.lst (rv (Uw83.later ring i r))),
      ⟨_, 0, [], b, rfl, Nat.zero_le _, rfl, s1.trans s2, Book.nil.same s2, hbp, upd_same⟩, ?_⟩
    rintro m σ H1 ⟨i, as, q, rfl, hi, rfl, s3, B, hqp, hq⟩
    refine ⟨_, rfl, _, rfl, q, p, as, _, _, rfl, rfl, B.sq, B.rws, SqL.of hq, _, rfl, ?_⟩
    rw [if_pos rfl]
    by_cases c : i = M
    · subst c
      rw [decide_eq_true hin]
      refine iteF ?_
      refine ⟨_, rfl, ?_⟩
      exact k H1 p as s3 hp B
    · rw [decide_eq_false (hno i (by omega))]
      refine iteT ?_
      refine ⟨fun σ' H' => ∃ (as : List Addr) (q : Addr), σ' = [some (.int (bi ring)), some (.ref a), some (.ref p), some (.ref q)] ∧ Same H H' ∧ Book H' p as (seq ring r (i + 1)) ∧ q ≠ p ∧ H' q = some (.lst (rv (Uw83.later ring (i + 1) r))), fun σ' H' ⟨as', q', e1, e2, e3, e4, e5⟩ => ⟨M - (i + 1), by omega, i + 1, as', q', rfl, by omega, e1, e2, e3, e4, e5⟩, ?_⟩
      have B1 := B.snoc hq hqp
      rw [← seq_succ] at B1
      refine ⟨_, rfl, .inl ⟨rfl, _, B.sq⟩, _, rfl, p, _, _, rfl, rfl, B.ls, ?_, ?_⟩
      · rw [List.length_map, B.len, seq_len]
        exact big5000 (by omega)
      · refine ⟨_, rfl, _, rfl, ring, q, Uw83.later ring i r, rfl, SqL.of (by rw [upd_ne hqp]; exact hq), by rw [later_length]; exact h1, by rw [later_length]; exact h12, fun H2 n s5 hn0 hn => ?_⟩
        have hnp : n ≠ p := fun e => by
          rw [e, upd_same] at hn0
          cases hn0
        rw [← later_succ] at hn
        refine ⟨_, n, rfl, fun x o e => s5 x o (by rw [upd_ne (ne_of_none e hp)]; exact s3 x o e), B1.same s5, hnp, hn⟩
theorem scRows : FnScope ["count", "rows", "added", "row"] ["count"] (defScope sRows) := ⟨rfl, rfl, rfl, by decide +kernel, rfl, by decide +kernel, by decide +kernel⟩
theorem rd_g {i : Nat} {v : V} {σ : L2.St} {H : Hp} {Q : L2.St → Hp → Prop} (h : Q (σ.set i (some v)) H) : gName i v σ H Q := h
theorem rd_asg {te : TE} {g : TG} {D : Ends} {σ : L2.St} {H : Hp} (h : te σ H fun v H1 => g v σ H1 D.nx) : tAsg te g D σ H := h
theorem rd_op {r : R2} {ta tb : TE} {σ : L2.St} {H : Hp} {Q : VK} (h : ta σ H fun x H1 => tb σ H1 fun y H2 => r x y H2 Q) : tOp r ta tb σ H Q := h
/-- the reading of [[c] + row for row in rows] -/
theorem rd_grow {c : Nat} {H0 : Hp} {Q : VK} {p : Addr} {as : List Addr} {rs : List Uw83.Row} {v0 v2 : Option V} (B : Book H0 p as rs) (hn : rs.length ≤ 4096) (hl : ∀ r ∈ rs, r.length ≤ 100)
    (k : NewB H0 Q (rs.map fun l => c :: l)) :
    tLc (iList K (tVar 1)) (gName 3) tYes (tOp rCat (tLst (tCons (tC (.int (c : Int))) tNil)) (tVar 3)) [3] [v0, some (.ref p), v2, none] H0 Q := by
  refine ⟨_, rfl, p, rfl, ⟨_, B.sq⟩, fun D hD => ?_⟩
  refine lc_list (K := K) (a := p) (xs := as.map V.ref) (Pv := fun i H' => Same H0 H' ∧ ∃ as', Book H' D as' ((rs.take i).map fun l => c :: l)) ⟨Same.upd hD, [], Book.nil⟩ (fun i H' _ q => (B.same q.1).sq) ?_ ?_
  · rintro i y H' hi ⟨sm, as', B'⟩
    obtain ⟨a, ha, rfl⟩ := ref_get_of hi
    obtain ⟨r, hr, hrv⟩ := B.at_ i a ha
    refine ⟨rfl, ?_⟩
    unfold tYes
    dsimp only
    rw [if_pos rfl]
    refine ⟨(by show 1 ≤ sizeLine; decide), fun l hl0 => ?_⟩
    have s1 : Same H' (upd H' l (.lst [.int (c : Int)])) := Same.upd hl0
    refine ⟨_, rfl, l, a, _, _, rfl, rfl, upd_same, s1 _ _ (sm _ _ hrv), ?_, fun q hq => ?_⟩
    · rw [rv_len]
      have := hl r (List.mem_of_getElem? hr)
      exact small12 (by show 1 + _ ≤ 1000; omega)
    · have s2 : Same H' (upd (upd H' l (.lst [.int (c : Int)])) q (.lst ([.int (c : Int)] ++ rv r))) := s1.trans (Same.upd hq)
      have B2 := B'.same s2
      have hqD : q ≠ D := fun e => by
        rw [e, s1 _ _ B'.ls] at hq
        cases hq
      refine ⟨_, B2.ls, ?_, ?_, ?_⟩
      · rw [List.length_map, B2.len, List.length_map, List.length_take]
        exact big5000 (by omega)
      · exact fun b o e => by rw [upd_ne (ne_of_none e hD)]; exact s2 _ _ (sm b o e)
      · have B3 := B2.snoc (q := q) (r := c :: r) (by rw [upd_same]; rfl) hqD
        refine ⟨as' ++ [q], ?_⟩
        rw [take_snoc hr, List.map_append]
        exact B3
  · rintro H' ⟨sm, as', B'⟩
    rw [List.length_map, B.len, List.take_length] at B'
    exact k H' D as' sm hD B'
theorem ok_rows {f : Addr} {fd : FuncData} (F : Fun K "rows_of" "rows_of" sRows f fd) (T : Txt mg) : FnOk P w K mg base CX0 1 f fd ["count"] spRows := by
  refine F.ok scRows (fun vs H Q E h => ?_) (fun cdv A outer s H vs Q E hr h => ?_)
  · obtain ⟨n, rfl, _⟩ := h
    rfl
  · obtain ⟨n, rfl, hn, k⟩ := h
    refine ⟨_, pss_cons (ps_set (i := 1) scRows.nd rfl (Or.inl rfl) (pe_lst (pa_cons (pe_lst pa_nil) pa_nil)))
      (pss_cons (ps_for PassesOwn.never rfl (pi_range1 rfl T.range (pa_cons (pv 0) pa_nil)) (pg_name (i := 2) scRows.nd rfl (Or.inl rfl))
        (pss_one (ps_set (i := 1) scRows.nd rfl (Or.inl rfl) (pe_op op_cat
          (pe_lc (own := [("row", 3)]) rfl scRows.nd (pi_list (pv 1)) (blkOk_by (by show blkC ["count", "rows", "added", "row"] (defScope sRows) _ [("row", 3)] = true; decide +kernel))
            (fun s H C cl fp => pg_name (i := 3) scRows.nd rfl (Or.inl rfl)) (fun s H C cl fp => pts_nil) (fun s H C cl fp => pe_op op_cat (pe_lst (pa_cons pe_int pa_nil)) (pv 3)))
          (pe_lc (own := [("row", 3)]) rfl scRows.nd (pi_list (pv 1)) (blkOk_by (by show blkC ["count", "rows", "added", "row"] (defScope sRows) _ [("row", 3)] = true; decide +kernel))
            (fun s H C cl fp => pg_name (i := 3) scRows.nd rfl (Or.inl rfl)) (fun s H C cl fp => pts_nil) (fun s H C cl fp => pe_op op_cat (pe_lst (pa_cons pe_int pa_nil)) (pv 3)))))))
      (pss_one (ps_ret (pv 1)))), ?_⟩
    refine ⟨Nat.zero_le _, fun b hb => ⟨(by show 1 ≤ sizeLine; decide), fun p hp => ?_⟩⟩
    have s1 : Same H (upd H b (.lst [])) := Same.upd hb
    have hbp : b ≠ p := ne_of_none upd_same hp
    have s2 : Same (upd H b (.lst [])) (upd (upd H b (.lst [])) p (.lst [.ref b])) := Same.upd hp
    have B0 : Book (upd (upd H b (.lst [])) p (.lst [.ref b])) p [b] (Uw83.rows 0) := by
      have := (Book.nil (H := upd H b (.lst [])) (p := p)).snoc (q := b) (r := []) (by rw [upd_ne hbp]; exact upd_same) hbp
      rw [upd_upd] at this
      exact this
    refine ⟨_, rfl, _, rfl, by omega, by omega, ?_⟩
    rw [Int.toNat_natCast]
    refine for_range (lo := 0) (n := n) (fun i σ H' => ∃ (v : Option V) (p : Addr) (as : List Addr), σ = [some (.int (n : Int)), some (.ref p), v, none] ∧ H p = Option.none ∧ Same H H' ∧ Book H' p as (Uw83.rows i))
      ⟨none, p, [b], rfl, s1.free hp, s1.trans s2, B0⟩ ?_ ?_
    · rintro i σ H' hi ⟨v, p, as, rfl, hp0, s', B⟩
      have hlen : (Uw83.rows i).length ≤ 2048 := by
        rw [rows_length]
        exact Nat.le_trans (Nat.pow_le_pow_right (by decide) (show i ≤ 11 by omega)) (by decide)
      have hrow : ∀ r ∈ Uw83.rows i, r.length ≤ 100 := fun r hr => by rw [mem_rows hr]; omega
      refine rd_g (rd_asg (rd_op ?_))
      refine rd_grow (K := K) (c := 0) B (by omega) hrow fun H1 D1 as1 t1 hD1 B1 => ?_
      refine rd_grow (K := K) (c := 1) (B.same t1) (by omega) hrow fun H2 D2 as2 t2 hD2 B2 => ?_
      have B1' := B1.same t2
      refine ⟨D1, D2, _, _, rfl, rfl, B1'.ls, B2.ls, ?_, fun q hq => ?_⟩
      · rw [List.length_map, List.length_map, B1'.len, B2.len, List.length_map, List.length_map]
        exact Nat.le_of_lt (big5000 (by omega))
      · have t3 : Same H2 (upd H2 q (.lst (as1.map V.ref ++ as2.map V.ref))) := Same.upd hq
        have R := ((B1'.same t3).rws (K := K)).append ((B2.same t3).rws)
        have sH := s'.trans (t1.trans t2)
        refine ⟨_, q, as1 ++ as2, rfl, sH.free hq, sH.trans t3, ⟨by rw [upd_same, List.map_append], by rw [rows_succ]; exact R.len, fun j x e => ?_, fun x hx => ?_⟩⟩
        · rw [rows_succ]
          by_cases hj : j < as1.length
          · rw [List.getElem?_append_left hj] at e
            obtain ⟨r, e1, e2⟩ := (B1'.same t3).at_ j x e
            exact ⟨r, by rw [List.getElem?_append_left (by rw [← B1'.len]; exact hj)]; exact e1, e2⟩
          · rw [List.getElem?_append_right (by omega)] at e
            obtain ⟨r, e1, e2⟩ := (B2.same t3).at_ _ x e
            exact ⟨r, by rw [List.getElem?_append_right (by rw [← B1'.len]; omega), ← B1'.len]; exact e1, e2⟩
        · rcases List.mem_append.mp hx with hx | hx
          · obtain ⟨j, hj⟩ := List.mem_iff_getElem?.mp hx
            obtain ⟨r, _, e2⟩ := B1'.at_ j x hj
            exact ne_of_none e2 hq
          · obtain ⟨j, hj⟩ := List.mem_iff_getElem?.mp hx
            obtain ⟨r, _, e2⟩ := B2.at_ j x hj
            exact ne_of_none e2 hq
    · rintro σ H' ⟨v, p, as, rfl, hp0, s', B⟩
      refine ⟨_, rfl, ?_⟩
      exact k H' p as s' hp0 B
end
end Rec

end
section
set_option Elab.async false
set_option linter.all false
set_option maxRecDepth 100000
set_option maxHeartbeats 2000000
namespace Rec
open PySem PySem.Spec PyProof.Rows L2
open Uw83 (at_)
abbrev sRests : Stmt := inClass (top 34) 6
abbrev sTurns : Stmt := inClass (top 34) 7
abbrev sRound : Stmt := inClass (top 34) 8
abbrev sBefore : Stmt := inClass (top 34) 9
abbrev sLongest : Stmt := inClass (top 34) 10
def rLen (K : PySem.W.Frag) : List V → Hp → VK → Prop := fun xs H Q => ∃ p ys, xs = [.ref p] ∧ (SqL K H p ys ∨ SqT K H p ys) ∧ Q (.int ys.length) H
def rCountI (K : PySem.W.Frag) : V → List V → Hp → VK → Prop := fun x xs H Q => ∃ (a : Addr) (ns : List Int) (k : Int), x = V.ref a ∧ xs = [V.int k] ∧ SqL K H a (ns.map V.int) ∧ Q (.int (ns.count k : Nat)) H
theorem mt_countI {X : Cx} : MtR X "list.count" (rCountI X.K) := by
  intro pins s σ H x xs v us Q I rx rxs h
  obtain ⟨a, ns, k, rfl, rfl, hs, q⟩ := h
  cases rx
  cases rxs with
  | cons ry rt =>
    cases rt
    obtain ⟨t, rfl⟩ := ry
    obtain ⟨its, rv, pl, _⟩ := I.list hs
    exact PyProof.Rows.count_list_ints pl.isList rv.ints ⟨.int _, H, I.tok _, ⟨_, rfl⟩, q⟩
/-- the answer is a new list, the recruits stay -/
theorem Out.new {C x a : Addr} {H H' : Hp} {Q : VK} {y : Uw83.St × List Int} {st : Uw83.St} {z : List Int} (k : Out C x a H Q y) (e : y = (st, z)) (R : RecAt C H x a st) (s : Same H H') (p : Addr) (hp : H' p = Option.none) {vs : List V} (hv : vs = z.map V.int) : Q (.ref p) (upd H' p (.lst vs)) := by
  subst e hv
  exact k _ p a ((R.same s).same (Same.upd hp)) (.inl rfl) (s.free hp) upd_same fun b o e _ _ => (s.trans (Same.upd hp)) b o e
theorem step_restsNo {st : Uw83.St} (h : Uw83.rests st.ring st.row = none) : Uw83.step st .rests = (st, [-6]) := by
  show (st, match Uw83.rests st.ring st.row with | none => _ | some t => _) = _
  rw [h]
theorem step_rests {st : Uw83.St} {t : Nat} (h : Uw83.rests st.ring st.row = some t) : Uw83.step st .rests = (st, (t : Int) :: zs (Uw83.later st.ring t st.row)) := by
  show (st, match Uw83.rests st.ring st.row with | none => _ | some t => _) = _
  rw [h]
  rfl
theorem step_turnsNo {st : Uw83.St} (h : Uw83.rests st.ring st.row = none) : Uw83.step st .turns = (st, [-6]) := by
  show (st, match Uw83.rests st.ring st.row with | none => _ | some t => _) = _
  rw [h]
theorem step_turns {st : Uw83.St} {t : Nat} (h : Uw83.rests st.ring st.row = some t) : Uw83.step st .turns = (st, ((Uw83.turns st.ring t st.row).sum : Int) :: zs (Uw83.turns st.ring t st.row)) := by
  rw [← total_sum]
  show (st, match Uw83.rests st.ring st.row with | none => _ | some t => _) = _
  rw [h]
  rfl
theorem step_round {st : Uw83.St} {b n : Nat} (h : Uw83.round st.ring st.row = (b, n)) : Uw83.step st .round = (st, [(b : Int), (n : Int), (Uw83.turned st.ring n (Uw83.later st.ring b st.row) : Int)]) := by
  show (st, Uw83.ints [(Uw83.round st.ring st.row).1, (Uw83.round st.ring st.row).2, Uw83.turned st.ring (Uw83.round st.ring st.row).2 (Uw83.later st.ring (Uw83.round st.ring st.row).1 st.row)]) = _
  rw [h]
  rfl
theorem step_before (st : Uw83.St) : Uw83.step st .before = (st, ((Uw83.before st.ring st.row).length : Int) :: zs ((Uw83.before st.ring st.row).headD [])) := rfl
theorem step_longNo {st : Uw83.St} {n : Nat} (h : n < 1 ∨ 10 < n) : Uw83.step st (.longest n) = (st, [-1]) := by
  show (st, if n < 1 ∨ 10 < n then _ else _) = _
  rw [if_pos h]
theorem step_long {st : Uw83.St} {n : Nat} (h : ¬ (n < 1 ∨ 10 < n)) : Uw83.step st (.longest n) = (st, (best secs (Uw83.rows n) : Int) :: ((ties secs (Uw83.rows n)).length : Int) :: zs ((ties secs (Uw83.rows n)).headD [])) := by
  show (st, if n < 1 ∨ 10 < n then _ else Uw83.ints ((Uw83.longest n).1 :: (Uw83.longest n).2.1 :: (Uw83.longest n).2.2)) = _
  rw [if_neg h, longest_ties (by omega)]
  rfl
theorem cut_from {xs : List V} {s : Nat} (h : s ≤ xs.length) : cutV xs (some (s : Int)) none = xs.drop s := by
  unfold cutV
  rw [HT.sIx_nat, HT.sIx_none, Nat.min_eq_left h, List.take_of_length_le (by rw [List.length_drop]; omega)]
section
variable {P : Program} {w : World} {K : PySem.W.Frag} {mg : Str → Option Value} {base : Heap}
theorem scRests : FnScope ["self", "course"] ["self"] (defScope sRests) := ⟨rfl, rfl, rfl, by decide +kernel, rfl, by decide +kernel, by decide +kernel⟩
theorem ok_rests {f C : Addr} {fd : FuncData} (F : Fun K "rests" "Recruits.rests" sRests f fd) (T : TxtS mg) (TC : Cl K C) (UN : Use P w K mg base 4 "never_at_rest" ["ring", "faces"] (spNever K)) (UT : Use P w K mg base 4 "till_rest" ["ring", "faces"] (spTill K)) :
    FnOk P w K mg base CX0 5 f fd ["self"] (spOne C .rests) := by
  refine F.ok scRests (fun vs H Q E h => ?_) (fun cdv A outer s H vs Q E hr h => ?_)
  · obtain ⟨x, a, st, rfl, _⟩ := h
    rfl
  · obtain ⟨x, a, st, rfl, R, W, k⟩ := h
    refine ⟨_, pss_cons (ps_if (pt_val (pe_use UN hr rfl (pa_cons (pe_fld (pv 0) rfl) (pa_cons (pe_fld (pv 0) rfl) pa_nil)))) (pss_one (ps_ret (pe_lst (pa_cons (pe_gi rfl T.never) pa_nil)))) pss_nil)
      (pss_cons (ps_set (i := 1) scRests.nd rfl (Or.inl rfl) (pe_use UT hr rfl (pa_cons (pe_fld (pv 0) rfl) (pa_cons (pe_fld (pv 0) rfl) pa_nil))))
      (pss_one (ps_ret (pe_op op_cat (pe_lst (pa_cons (pe_op op_sub (pe_callB call_len_seq (by rfl) T.len PySem.boot_len (pa_cons (pv 1) pa_nil)) pe_int) pa_nil)) (pe_ix ix_list (pv 1) (pe_un un_neg pe_int) (fun _ _ => rfl)))))), ?_⟩
    obtain ⟨⟨dx, hx⟩, hl⟩ := id R
    refine ⟨_, rfl, x, C, dx, _, _, rfl, hx, TC.cl, TC.nR, ff_ring _ _, _, rfl, x, C, dx, _, _, rfl, hx, TC.cl, TC.nF, ff_faces _ _, st.ring, a, st.row, rfl, SqL.of hl, W.lo, W.hi, fun H1 s1 => ⟨_, rfl, ?_⟩⟩
    by_cases c : st.ring = true ∧ Uw83.pairs st.ring st.row ≠ 0
    · rw [decide_eq_true c]
      refine iteT ?_
      refine ⟨(by show 1 ≤ sizeLine; decide), ?_⟩
      exact k.one (step_restsNo (rest_never W c)) R s1
    · rw [decide_eq_false c]
      refine iteF ?_
      obtain ⟨t, ht, h2, h3, h4⟩ := rest_at W c
      have hx1 := s1 _ _ hx
      have hl1 := s1 _ _ hl
      refine ⟨_, rfl, x, C, dx, _, _, rfl, hx1, TC.cl, TC.nR, ff_ring _ _, _, rfl, x, C, dx, _, _, rfl, hx1, TC.cl, TC.nF, ff_faces _ _, st.ring, a, st.row, t, rfl, SqL.of hl1, W.lo, W.hi, ht, h3, h4, fun H2 p as s2 hp0 B => ?_⟩
      have hlen := B.len
      rw [seq_len] at hlen
      rw [seq_succ] at B
      obtain ⟨q, hq1, hq2, hqp⟩ := B.last
      refine ⟨_, rfl, p, _, rfl, .inl B.sq, _, _, rfl, rfl, (by show 1 ≤ sizeLine; decide), fun l hl0 => ?_⟩
      have s3 := Same.upd (o := .lst [.int (((as.map V.ref).length : Int) - 1)]) hl0
      refine ⟨_, rfl, _, rfl, p, _, _, _, rfl, rfl, (B.same s3).sq, hq1, l, q, _, _, rfl, rfl, upd_same, s3 _ _ hq2, ?_, fun v hv => ?_⟩
      · rw [rv_len, later_length]
        exact small12 (by have := W.hi; show 1 + _ ≤ 1000; omega)
      · refine k.new (step_rests h2) R ((s1.trans s2).trans s3) v hv ?_
        have e : ((as.map V.ref).length : Int) - 1 = (t : Int) := by
          rw [List.length_map, hlen]
          omega
        dsimp only
        rw [e, rv_zs]
        rfl
theorem scTurns : FnScope ["self", "course", "times", "place"] ["self"] (defScope sTurns) := ⟨rfl, rfl, rfl, by decide +kernel, rfl, by decide +kernel, by decide +kernel⟩
theorem ok_turns {f C : Addr} {fd : FuncData} (F : Fun K "turns" "Recruits.turns" sTurns f fd) (T : TxtS mg) (TC : Cl K C) (UN : Use P w K mg base 4 "never_at_rest" ["ring", "faces"] (spNever K)) (UT : Use P w K mg base 4 "till_rest" ["ring", "faces"] (spTill K)) (UTT : Use P w K mg base 1 "turned_times" ["course", "place"] (spTimes K)) :
    FnOk P w K mg base CX0 5 f fd ["self"] (spOne C .turns) := by
  refine F.ok scTurns (fun vs H Q E h => ?_) (fun cdv A outer s H vs Q E hr h => ?_)
  · obtain ⟨x, a, st, rfl, _⟩ := h
    rfl
  · obtain ⟨x, a, st, rfl, R, W, k⟩ := h
    have hr1 : Room 1 _ := hr.mono (by decide)
    refine ⟨_, pss_cons (ps_if (pt_val (pe_use UN hr rfl (pa_cons (pe_fld (pv 0) rfl) (pa_cons (pe_fld (pv 0) rfl) pa_nil)))) (pss_one (ps_ret (pe_lst (pa_cons (pe_gi rfl T.never) pa_nil)))) pss_nil)
      (pss_cons (ps_set (i := 1) scTurns.nd rfl (Or.inr rfl) (pe_use UT hr rfl (pa_cons (pe_fld (pv 0) rfl) (pa_cons (pe_fld (pv 0) rfl) pa_nil))))
      (pss_cons (ps_setLc (i := 2) (own := [("place", 3)]) rfl scTurns.nd rfl rfl (sw_true rfl rfl rfl (by decide +kernel)) (pi_range1 rfl T.range (pa_cons (pe_callB call_len_seq (by rfl) T.len PySem.boot_len (pa_cons (pe_fld (pv 0) rfl) pa_nil)) pa_nil))
          (blkOk_by (by show blkC ["self", "course", "times", "place"] (defScope sTurns) _ [("place", 3)] = true; decide +kernel))
          (fun s H C cl fp => pg_name (i := 3) scTurns.nd rfl (Or.inl rfl)) (fun s H C cl fp => pts_nil) (fun s H C cl fp => pe_use UTT hr1 rfl (pa_cons (pv 1) (pa_cons (pv 3) pa_nil))))
      (pss_one (ps_ret (pe_op op_cat (pe_lst (pa_cons (pe_callB (cr_sum rfl) (by rfl) T.sum bt_sum (pa_cons (pv 2) pa_nil)) pa_nil)) (pv 2)))))), ?_⟩
    obtain ⟨⟨dx, hx⟩, hl⟩ := id R
    refine ⟨_, rfl, x, C, dx, _, _, rfl, hx, TC.cl, TC.nR, ff_ring _ _, _, rfl, x, C, dx, _, _, rfl, hx, TC.cl, TC.nF, ff_faces _ _, st.ring, a, st.row, rfl, SqL.of hl, W.lo, W.hi, fun H1 s1 => ⟨_, rfl, ?_⟩⟩
    by_cases c : st.ring = true ∧ Uw83.pairs st.ring st.row ≠ 0
    · rw [decide_eq_true c]
      refine iteT ?_
      refine ⟨(by show 1 ≤ sizeLine; decide), ?_⟩
      exact k.one (step_turnsNo (rest_never W c)) R s1
    · rw [decide_eq_false c]
      refine iteF ?_
      obtain ⟨t, ht, h2, h3, h4⟩ := rest_at W c
      have hx1 := s1 _ _ hx
      have hl1 := s1 _ _ hl
      refine ⟨_, rfl, x, C, dx, _, _, rfl, hx1, TC.cl, TC.nR, ff_ring _ _, _, rfl, x, C, dx, _, _, rfl, hx1, TC.cl, TC.nF, ff_faces _ _, st.ring, a, st.row, t, rfl, SqL.of hl1, W.lo, W.hi, ht, h3, h4, fun H2 p as s2 hp0 B => ?_⟩
      have hx2 := s2 _ _ hx1
      have hl2 := s2 _ _ hl1
      have h12 := W.hi
      refine ⟨_, rfl, x, C, dx, _, _, rfl, hx2, TC.cl, TC.nF, ff_faces _ _, a, _, rfl, .inl (SqL.of hl2), _, rfl, ?_⟩
      rw [rv_len, Int.toNat_natCast]
      refine ⟨by omega, by omega, fun D hD => ?_⟩
      have eT : (List.range st.row.length).map (fun j => (at_ (Uw83.turns st.ring t st.row) j : Int)) = zs (Uw83.turns st.ring t st.row) := by
        conv => rhs; rw [← turns_map]
        unfold zs
        rw [List.map_map]
        rfl
      refine lc_range (lo := 0) (Pv := fun i H' => H' D = some (.lst (((List.range i).map (fun j => (at_ (Uw83.turns st.ring t st.row) j : Int))).map V.int)) ∧ Same H2 H') ⟨upd_same, Same.upd hD⟩ ?_ ?_
      · rintro i H' hi ⟨hd, sm⟩
        have hz : (0 : Int) + (i : Int) = (i : Int) := Int.zero_add _
        rw [hz]
        refine ⟨rfl, ?_⟩
        unfold tYes
        dsimp only
        rw [if_pos rfl]
        refine ⟨_, rfl, _, rfl, p, as, st.ring, st.row, t, i, rfl, (B.same sm).sq, (B.same sm).rws, ht, W, hi, fun H4 s4 => ?_⟩
        refine ⟨_, s4 _ _ hd, (by rw [List.length_map, List.length_map, List.length_range]; exact small1000 (by omega)), ?_, ?_⟩
        · rw [upd_same, List.range_succ, List.map_append, List.map_append]
          rfl
        · exact fun b o e => by rw [upd_ne (ne_of_none e hD)]; exact s4 _ _ (sm b o e)
      · rintro H' ⟨hd, sm⟩
        rw [eT] at hd
        refine ⟨_, rfl, D, _, rfl, SqL.of hd, (by show 1 ≤ sizeLine; decide), fun l hl0 => ?_⟩
        rw [zs_sum]
        have s3 := Same.upd (o := .lst [.int (((Uw83.turns st.ring t st.row).sum : Nat) : Int)]) hl0
        refine ⟨_, rfl, l, D, _, _, rfl, rfl, upd_same, s3 _ _ hd, ?_, fun v hv => ?_⟩
        · rw [List.length_map, zs_len, turns_length]
          exact small12 (by show 1 + _ ≤ 1000; omega)
        · exact k.new (step_turns h2) R ((s1.trans s2).trans (sm.trans s3)) v hv rfl
theorem scRound : FnScope ["self", "course", "beginning", "turned", "faces"] ["self"] (defScope sRound) := ⟨rfl, rfl, rfl, by decide +kernel, rfl, by decide +kernel, by decide +kernel⟩
theorem ok_round {f C : Addr} {fd : FuncData} (F : Fun K "comes_round" "Recruits.comes_round" sRound f fd) (T : TxtS mg) (TC : Cl K C) (UK : Use P w K mg base 4 "till_known" ["ring", "faces"] (spKnown K)) (US : Use P w K mg base 3 "behind_a_second" ["ring", "faces"] (spSec K)) (UP : Use P w K mg base 2 "pairs" ["ring", "faces"] (spPairs K)) :
    FnOk P w K mg base CX0 5 f fd ["self"] (spOne C .round) := by
  refine F.ok scRound (fun vs H Q E h => ?_) (fun cdv A outer s H vs Q E hr h => ?_)
  · obtain ⟨x, a, st, rfl, _⟩ := h
    rfl
  · obtain ⟨x, a, st, rfl, R, W, k⟩ := h
    have hr2 : Room 2 _ := hr.mono (by decide)
    have hr3 : Room 3 _ := hr.mono (by decide)
    refine ⟨_, pss_cons (ps_set (i := 1) scRound.nd rfl (Or.inl rfl) (pe_use UK hr rfl (pa_cons (pe_fld (pv 0) rfl) (pa_cons (pe_fld (pv 0) rfl) pa_nil))))
      (pss_cons (ps_set (i := 2) scRound.nd rfl (Or.inl rfl) (pe_bm PySem.F.plainAttrs_list PySem.F.slot_list_index PySem.F.type_list_index (mt_index_rows hr.units) (pv 1) (pa_cons (pe_use US hr3 rfl (pa_cons (pe_fld (pv 0) rfl) (pa_cons (pe_ix ix_list (pv 1) (pe_un un_neg pe_int) (fun _ _ => rfl)) pa_nil))) pa_nil)))
      (pss_cons (ps_setLc (i := 3) (own := [("faces", 4)]) (te := tCB (rLen K) (tCons (tCall (spPairs K) [] E0 (tCons (tFld K (tVar 0) "ring") (tCons (tVar 4) tNil))) tNil)) rfl scRound.nd rfl rfl (sw_true rfl rfl rfl (by decide +kernel)) (pi_list (pe_slice sl_list (pv 1) (po_some (pv 2)) po_none))
          (blkOk_by (by show blkC ["self", "course", "beginning", "turned", "faces"] (defScope sRound) _ [("faces", 4)] = true; decide +kernel))
          (fun s H C cl fp => pg_name (i := 4) scRound.nd rfl (Or.inl rfl)) (fun s H C cl fp => pts_nil)
          (fun s H C cl fp => pe_callB (r := rLen K) call_len_seq (by rfl) T.len PySem.boot_len (pa_cons (pe_use UP hr2 rfl (pa_cons (pe_fld (pv 0) rfl) (pa_cons (pv 4) pa_nil))) pa_nil)))
      (pss_one (ps_ret (pe_lst (pa_cons (pv 2) (pa_cons (pe_callB call_len_seq (by rfl) T.len PySem.boot_len (pa_cons (pv 3) pa_nil)) (pa_cons (pe_callB (cr_sum rfl) (by rfl) T.sum bt_sum (pa_cons (pv 3) pa_nil)) pa_nil)))))))), ?_⟩
    obtain ⟨⟨dx, hx⟩, hl⟩ := id R
    obtain ⟨m, hm, hin, hno⟩ := comes_round W
    refine ⟨_, rfl, x, C, dx, _, _, rfl, hx, TC.cl, TC.nR, ff_ring _ _, _, rfl, x, C, dx, _, _, rfl, hx, TC.cl, TC.nF, ff_faces _ _, st.ring, a, st.row, m, rfl, SqL.of hl, W.lo, W.hi, hm, hin, hno, fun H1 p as s1 hp0 B => ?_⟩
    obtain ⟨b, hb, eb⟩ := mem_seq.mp hin
    obtain ⟨m', rfl⟩ : ∃ m', m = m' + 1 := ⟨m - 1, by omega⟩
    have hx1 := s1 _ _ hx
    have B' := B
    rw [seq_succ] at B'
    obtain ⟨q, hq1, hq2, hqp⟩ := B'.last
    have WL := W.later m'
    -- beginning
    refine ⟨_, rfl, .inl ⟨rfl, _, B.sq⟩, _, rfl, x, C, dx, _, _, rfl, hx1, TC.cl, TC.nR, ff_ring _ _, _, rfl, _, rfl, p, _, _, _, rfl, rfl, B.sq, hq1, st.ring, q, Uw83.later st.ring m' st.row, rfl, SqL.of hq2, WL.lo, WL.hi, fun H2 n s2 hn0 hn => ?_⟩
    rw [← later_succ, ← eb] at hn
    have B2 := B.same s2
    refine ⟨p, n, as, _, _, b, rfl, rfl, B2.sq, B2.rws, SqL.of hn, seq_get hb, (fun i hi e => ?_), ?_⟩
    · rw [seq_get (by omega)] at e
      exact hno b hb (mem_seq.mpr ⟨i, hi, Option.some.inj e⟩)
    -- turned
    have hal : as.length = m' + 1 := by rw [B.len, seq_len]
    refine ⟨_, rfl, _, rfl, _, rfl, p, _, rfl, B2.sq, fun c hc => ?_⟩
    rw [cut_from (by rw [List.length_map]; omega), ← List.map_drop]
    have s3 : Same H2 (upd H2 c (.lst ((as.drop b).map V.ref))) := Same.upd hc
    have hx3 := s3 _ _ (s2 _ _ hx1)
    refine ⟨c, rfl, ⟨_, SqL.of upd_same⟩, fun D hD => ?_⟩
    refine lc_list (K := K) (a := c) (xs := (as.drop b).map V.ref) (Pv := fun i H' => H' D = some (.lst (((List.range i).map (fun j => (Uw83.pairs st.ring (Uw83.later st.ring (b + j) st.row) : Int))).map V.int)) ∧ Same (upd H2 c (.lst ((as.drop b).map V.ref))) H') ⟨upd_same, Same.upd hD⟩ (fun i H' _ q => SqL.of (q.2 _ _ upd_same)) ?_ ?_
    · rintro i y H' hi ⟨hd, sm⟩
      obtain ⟨u, hu, rfl⟩ := ref_get_of hi
      rw [List.getElem?_drop] at hu
      obtain ⟨r, hr', hrv⟩ := (B2.same s3).at_ _ u hu
      have hbi : b + i < m' + 1 := by
        rw [← hal]
        exact (List.getElem?_eq_some_iff.mp hu).1
      rw [seq_get hbi] at hr'
      have hr' := Option.some.inj hr'
      subst hr'
      have WB := W.later (b + i)
      refine ⟨rfl, ?_⟩
      unfold tYes
      dsimp only
      rw [if_pos rfl]
      refine ⟨_, rfl, x, C, dx, _, _, rfl, sm _ _ hx3, TC.cl, TC.nR, ff_ring _ _, _, rfl, st.ring, u, _, rfl, SqL.of (sm _ _ hrv), WB.lo, WB.hi, fun H4 pl s4 hpl0 hpl => ?_⟩
      refine ⟨pl, _, rfl, .inl (SqL.of hpl), ?_⟩
      rw [rv_len, ← pairs_len]
      refine ⟨_, s4 _ _ hd, (by rw [List.length_map, List.length_map, List.length_range]; exact big5000 (by omega)), ?_, ?_⟩
      · rw [upd_same, List.range_succ, List.map_append, List.map_append]
        rfl
      · exact fun b o e => by rw [upd_ne (ne_of_none e hD)]; exact s4 _ _ (sm b o e)
    · rintro H' ⟨hd, sm⟩
      rw [List.length_map, List.length_drop, hal] at hd
      refine ⟨_, rfl, _, rfl, D, _, rfl, .inl (SqL.of hd), _, rfl, D, _, rfl, SqL.of hd, (by show 3 ≤ sizeLine; decide), fun v hv => ?_⟩
      have ho := round_of W hb eb hno
      refine k.new (step_round ho) R ((s1.trans s2).trans (s3.trans sm)) v hv ?_
      have e1 : ((List.range (m' + 1 - b)).map (fun j => (Uw83.pairs st.ring (Uw83.later st.ring (b + j) st.row) : Int))).sum = (Uw83.turned st.ring (m' + 1 - b) (Uw83.later st.ring b st.row) : Int) := by
        rw [← turned_sum, ← zs_sum]
        unfold zs
        rw [List.map_map]
        congr 1
        apply List.map_congr_left
        intro j _
        show _ = ((Uw83.pairs st.ring (Uw83.later st.ring j (Uw83.later st.ring b st.row)) : Nat) : Int)
        rw [later_add]
      rw [List.length_map, List.length_map, List.length_range, e1]
      rfl
theorem scBefore : FnScope ["self", "earlier", "first", "row"] ["self"] (defScope sBefore) := ⟨rfl, rfl, rfl, by decide +kernel, rfl, by decide +kernel, by decide +kernel⟩
theorem ok_before {f C : Addr} {fd : FuncData} (F : Fun K "before" "Recruits.before" sBefore f fd) (T : TxtS mg) (TC : Cl K C) (UW : Use P w K mg base 1 "rows_of" ["count"] spRows) (US : Use P w K mg base 3 "behind_a_second" ["ring", "faces"] (spSec K)) :
    FnOk P w K mg base CX0 4 f fd ["self"] (spOne C .before) := by
  refine F.ok scBefore (fun vs H Q E h => ?_) (fun cdv A outer s H vs Q E hr h => ?_)
  · obtain ⟨x, a, st, rfl, _⟩ := h
    rfl
  · obtain ⟨x, a, st, rfl, R, W, k⟩ := h
    have hr1 : Room 1 _ := hr.mono (by decide)
    refine ⟨_, pss_cons (ps_setLc (i := 1) (own := [("row", 3)]) (tt := tTest (tOp (rEqD K) (tCall (spSec K) [] E0 (tCons (tFld K (tVar 0) "ring") (tCons (tVar 3) tNil))) (tFld K (tVar 0) "faces"))) rfl scBefore.nd rfl rfl (sw_true rfl rfl rfl (by decide +kernel)) (pi_list (pe_use UW hr1 rfl (pa_cons (pe_callB call_len_seq (by rfl) T.len PySem.boot_len (pa_cons (pe_fld (pv 0) rfl) pa_nil)) pa_nil)))
          (blkOk_by (by show blkC ["self", "earlier", "first", "row"] (defScope sBefore) _ [("row", 3)] = true; decide +kernel))
          (fun s H C cl fp => pg_name (i := 3) scBefore.nd rfl (Or.inl rfl))
          (fun s H C cl fp => pts_one (pt_cmpR (r := rEqD K) (op_eqD hr.units) (pe_use US hr rfl (pa_cons (pe_fld (pv 0) rfl) (pa_cons (pv 3) pa_nil))) (pe_fld (pv 0) rfl) (nomark _)))
          (fun s H C cl fp => pv 3))
      (pss_cons (ps_set (i := 2) scBefore.nd rfl (Or.inl rfl) (pe_ifExp (pt_cmpR op_gt (pe_callB call_len_seq (by rfl) T.len PySem.boot_len (pa_cons (pv 1) pa_nil)) pe_int (nomark _)) (pe_ix ix_list (pv 1) pe_int (fun _ _ => rfl)) (pe_lst pa_nil)))
      (pss_one (ps_ret (pe_op op_cat (pe_lst (pa_cons (pe_callB call_len_seq (by rfl) T.len PySem.boot_len (pa_cons (pv 1) pa_nil)) pa_nil)) (pv 2))))), ?_⟩
    obtain ⟨⟨dx, hx⟩, hl⟩ := id R
    have h12 := W.hi
    refine ⟨_, rfl, x, C, dx, _, _, rfl, hx, TC.cl, TC.nF, ff_faces _ _, a, _, rfl, .inl (SqL.of hl), ?_⟩
    rw [rv_len]
    refine ⟨st.row.length, rfl, h12, fun H1 p as s1 hp0 B => ?_⟩
    have hx1 := s1 _ _ hx
    have hl1 := s1 _ _ hl
    have hrl : (Uw83.rows st.row.length).length ≤ 4096 := by
      rw [rows_length]
      exact Nat.le_trans (Nat.pow_le_pow_right (by decide) h12) (by decide)
    refine ⟨p, rfl, ⟨_, B.sq⟩, fun D hD => ?_⟩
    refine lc_list (K := K) (a := p) (xs := as.map V.ref) (Pv := fun i H' => Same H1 H' ∧ ∃ as', Book H' D as' (((Uw83.rows st.row.length).take i).filter fun x => Uw83.second st.ring x == st.row)) ⟨Same.upd hD, [], Book.nil⟩ (fun i H' _ q => (B.same q.1).sq) ?_ ?_
    · rintro i y H' hi ⟨sm, as', B'⟩
      obtain ⟨u, hu, rfl⟩ := ref_get_of hi
      obtain ⟨r, hr', hrv⟩ := B.at_ i u hu
      have hrn := mem_rows (List.mem_of_getElem? hr')
      have hst : ((Uw83.rows st.row.length).take (i + 1)).filter (fun x => Uw83.second st.ring x == st.row) = ((Uw83.rows st.row.length).take i).filter (fun x => Uw83.second st.ring x == st.row) ++ if (Uw83.second st.ring r == st.row) = true then [r] else [] := by
        rw [take_snoc hr', List.filter_append, List.filter_cons, List.filter_nil]
      refine ⟨rfl, ?_⟩
      refine ⟨_, rfl, x, C, dx, _, _, rfl, sm _ _ hx1, TC.cl, TC.nR, ff_ring _ _, _, rfl, st.ring, u, r, rfl, SqL.of (sm _ _ hrv), (by rw [hrn]; exact W.lo), (by rw [hrn]; exact h12), fun H3 n s3 hn0 hn => ?_⟩
      refine ⟨_, rfl, x, C, dx, _, _, rfl, s3 _ _ (sm _ _ hx1), TC.cl, TC.nF, ff_faces _ _, ?_⟩
      refine rd_eq_rows (SqL.of hn) (SqL.of (s3 _ _ (sm _ _ hl1))) ⟨_, rfl, ?_⟩
      have B3 := B'.same s3
      by_cases c : Uw83.second st.ring r = st.row
      · rw [decide_eq_true c]
        refine iteT ?_
        have huD : u ≠ D := ne_of_none hrv hD
        refine ⟨_, rfl, _, B3.ls, ?_, ?_, ?_⟩
        · rw [List.length_map, B3.len]
          have := List.length_filter_le (fun x => Uw83.second st.ring x == st.row) ((Uw83.rows st.row.length).take i)
          rw [List.length_take] at this
          exact big5000 (by omega)
        · exact fun b o e => by rw [upd_ne (ne_of_none e hD)]; exact s3 _ _ (sm b o e)
        · have B4 := B3.snoc (q := u) (r := r) (s3 _ _ (sm _ _ hrv)) huD
          rw [hst, if_pos (by rw [c]; exact beq_self_eq_true _)]
          exact ⟨_, B4⟩
      · rw [decide_eq_false c]
        refine iteF ⟨sm.trans s3, as', ?_⟩
        rw [hst, if_neg (fun z => c (eq_of_beq z)), List.append_nil]
        exact B3
    · rintro H2 ⟨s2, as2, B2⟩
      rw [List.length_map, B.len, List.take_length] at B2
      have B2 : Book H2 D as2 (Uw83.before st.ring st.row) := B2
      have hb12 : ((Uw83.before st.ring st.row).headD []).length ≤ 12 := by
        have := headD_len (l := Uw83.before st.ring st.row) (n := st.row.length) (fun x hx => mem_rows (List.mem_filter.mp hx).1)
        omega
      have s12 := s1.trans s2
      have fin : ∀ (H3 : Hp) (u : Addr), Same H2 H3 → H3 u = some (.lst (rv ((Uw83.before st.ring st.row).headD []))) → tRet (tOp rCat (tLst (tCons (tCB (rLen K) (tCons (tVar 1) tNil)) tNil)) (tVar 2)) { nx := fun _ H' => Q .non H', rt := Q } [some (.ref x), some (.ref D), some (.ref u), none] H3 := by
        intro H3 u s3 hu
        refine ⟨_, rfl, D, _, rfl, .inl (B2.same s3).sq, (by show 1 ≤ sizeLine; decide), fun l hl0 => ?_⟩
        have s4 := Same.upd (o := .lst [.int ((as2.map V.ref).length : Int)]) hl0
        refine ⟨_, rfl, l, u, _, _, rfl, rfl, upd_same, s4 _ _ hu, ?_, fun v hv => ?_⟩
        · rw [rv_len]
          exact small12 (by show 1 + _ ≤ 1000; omega)
        · refine k.new (step_before st) R ((s12.trans s3).trans s4) v hv ?_
          rw [List.length_map, B2.len, rv_zs]
          rfl
      refine ⟨_, rfl, D, _, rfl, .inl B2.sq, _, _, rfl, rfl, _, rfl, ?_⟩
      rw [List.length_map, B2.len]
      cases e : Uw83.before st.ring st.row with
      | nil =>
        refine iteF ?_
        refine ⟨Nat.zero_le _, fun u hu => ?_⟩
        exact fin _ u (Same.upd hu) (by rw [upd_same, e]; rfl)
      | cons r0 rest =>
        rw [decide_eq_true (show (0 : Int) < (((r0 :: rest).length : Nat) : Int) by rw [List.length_cons]; omega)]
        refine iteT ?_
        obtain ⟨u, hu1, hu2⟩ := B2.get (i := 0) (r := r0) (by rw [e]; rfl)
        refine ⟨_, rfl, D, _, _, _, rfl, rfl, B2.sq, atI_nat (j := 0) (ref_get hu1), ?_⟩
        exact fin _ u (Same.refl _) (by rw [e]; exact hu2)
theorem scLongest : FnScope ["self", "count", "rows", "needed", "greatest", "row"] ["self", "count"] (defScope sLongest) := ⟨rfl, rfl, rfl, by decide +kernel, rfl, by decide +kernel, by decide +kernel⟩
theorem ok_longest {f C : Addr} {fd : FuncData} (F : Fun K "longest" "Recruits.longest" sLongest f fd) (T : TxtS mg) (TC : Cl K C) (UW : Use P w K mg base 1 "rows_of" ["count"] spRows) (UTS : Use P w K mg base 5 "seconds_till_rest" ["row"] (spTillS K)) :
    FnOk P w K mg base CX0 6 f fd ["self", "count"] (spTwo C .longest) := by
  refine F.ok scLongest (fun vs H Q E h => ?_) (fun cdv A outer s H vs Q E hr h => ?_)
  · obtain ⟨x, a, st, i, rfl, _⟩ := h
    rfl
  · obtain ⟨x, a, st, n, rfl, R, W, k⟩ := h
    have hr1 : Room 1 _ := hr.mono (by decide)
    refine ⟨_, pss_cons (ps_if (PW.pt (pw_or (pt_cmpR op_lt (pv 1) (pe_gi rfl T.fLong) (nomark _)) (pw_or1 (pt_cmpR op_gt (pv 1) (pe_gi rfl T.mLong) (nomark _))))) (pss_one (ps_ret (pe_lst (pa_cons (pe_gi rfl T.noLong) pa_nil)))) pss_nil)
      (pss_cons (ps_set (i := 2) scLongest.nd rfl (Or.inl rfl) (pe_use UW hr1 rfl (pa_cons (pv 1) pa_nil)))
      (pss_cons (ps_setLc (i := 3) (own := [("row", 5)]) rfl scLongest.nd rfl rfl (sw_true rfl rfl rfl (by decide +kernel)) (pi_list (pv 2))
          (blkOk_by (by show blkC ["self", "count", "rows", "needed", "greatest", "row"] (defScope sLongest) _ [("row", 5)] = true; decide +kernel))
          (fun s H C cl fp => pg_name (i := 5) scLongest.nd rfl (Or.inl rfl)) (fun s H C cl fp => pts_nil) (fun s H C cl fp => pe_use UTS hr rfl (pa_cons (pv 5) pa_nil)))
      (pss_cons (ps_set (i := 4) scLongest.nd rfl (Or.inl rfl) (pe_callB (cr_max rfl) (by rfl) T.max bt_max (pa_cons (pv 3) pa_nil)))
      (pss_one (ps_ret (pe_op op_cat (pe_lst (pa_cons (pv 4) (pa_cons (pe_bm PySem.F.plainAttrs_list PySem.F.slot_list_count PySem.F.type_list_count mt_countI (pv 3) (pa_cons (pv 4) pa_nil)) pa_nil)))
        (pe_ix ix_list (pv 2) (pe_bm PySem.F.plainAttrs_list PySem.F.slot_list_index PySem.F.type_list_index mt_index (pv 3) (pa_cons (pv 4) pa_nil)) (fun _ _ => rfl)))))))), ?_⟩
    refine ⟨_, rfl, _, _, rfl, rfl, _, rfl, ?_⟩
    by_cases c1 : n < 1
    · rw [decide_eq_true (show (n : Int) < 1 by omega)]
      refine iteT ?_
      refine iteT ?_
      refine ⟨(by show 1 ≤ sizeLine; decide), ?_⟩
      exact k.one (step_longNo (.inl c1)) R (Same.refl H)
    rw [decide_eq_false (show ¬ (n : Int) < 1 by omega)]
    refine iteF ?_
    refine ⟨_, rfl, _, _, rfl, rfl, _, rfl, ?_⟩
    by_cases c2 : 10 < n
    · rw [decide_eq_true (show (10 : Int) < (n : Int) by omega)]
      refine iteT ?_
      refine ⟨(by show 1 ≤ sizeLine; decide), ?_⟩
      exact k.one (step_longNo (.inr c2)) R (Same.refl H)
    rw [decide_eq_false (show ¬ (10 : Int) < (n : Int) by omega)]
    refine iteF ?_
    have hc : ¬ (n < 1 ∨ 10 < n) := by omega
    refine ⟨_, rfl, n, rfl, by omega, fun H1 p as s1 hp0 B => ?_⟩
    have hrl : (Uw83.rows n).length ≤ 1024 := by
      rw [rows_length]
      exact Nat.le_trans (Nat.pow_le_pow_right (by decide) (show n ≤ 10 by omega)) (by decide)
    -- needed
    refine ⟨_, rfl, p, rfl, ⟨_, B.sq⟩, fun D hD => ?_⟩
    refine lc_list (K := K) (a := p) (xs := as.map V.ref) (Pv := fun i H' => Same H1 H' ∧ H' D = some (.lst ((zs (((Uw83.rows n).take i).map secs)).map V.int))) ⟨Same.upd hD, upd_same⟩ (fun i H' _ q => (B.same q.1).sq) ?_ ?_
    · rintro i y H' hi ⟨sm, hd⟩
      obtain ⟨u, hu, rfl⟩ := ref_get_of hi
      obtain ⟨r, hr', hrv⟩ := B.at_ i u hu
      have hrm := List.mem_of_getElem? hr'
      have hrn := mem_rows hrm
      refine ⟨rfl, ?_⟩
      unfold tYes
      dsimp only
      rw [if_pos rfl]
      refine ⟨_, rfl, u, r, rfl, SqL.of (sm _ _ hrv), rows_bits hrm, (by rw [hrn]; omega), (by rw [hrn]; omega), fun H3 s3 => ?_⟩
      refine ⟨_, s3 _ _ hd, ?_, ?_, ?_⟩
      · rw [List.length_map, zs_len, List.length_map, List.length_take]
        exact big5000 (by omega)
      · exact fun b o e => by rw [upd_ne (ne_of_none e hD)]; exact s3 _ _ (sm b o e)
      · rw [upd_same, take_snoc hr', List.map_append]
        unfold zs
        rw [List.map_append, List.map_append]
        rfl
    · rintro H2 ⟨s2, hd⟩
      rw [List.length_map, B.len, List.take_length] at hd
      have s12 := s1.trans s2
      have B2 := B.same s2
      -- greatest
      refine ⟨_, rfl, D, _, rfl, SqL.of hd, ?_, fun M hM1 hM2 => ?_⟩
      · rw [zs_len, List.length_map, rows_length]
        exact Nat.two_pow_pos n
      have hM := best_is hM1 hM2
      subst hM
      obtain ⟨j, r, hj1, hj2, hj3, hj4⟩ := first_is secs (best secs (Uw83.rows n)) (Uw83.rows n) (best_mem (rows_ne n))
      have hties : (Uw83.rows n).filter (fun r => secs r == best secs (Uw83.rows n)) = ties secs (Uw83.rows n) := rfl
      refine ⟨_, rfl, _, rfl, .inl ⟨rfl, _, SqL.of hd⟩, _, rfl, D, _, _, rfl, rfl, SqL.of hd, (by show 2 ≤ sizeLine; decide), fun l hl0 => ?_⟩
      have s3 := Same.upd (o := .lst [.int (best secs (Uw83.rows n) : Int), .int (((zs ((Uw83.rows n).map secs)).count (best secs (Uw83.rows n) : Int) : Nat) : Int)]) hl0
      have hd3 := s3 _ _ hd
      obtain ⟨u, hu1, hu2⟩ := (B2.same s3).get hj1
      have gz : ∀ (i : Nat) (z : V), ((zs ((Uw83.rows n).map secs)).map V.int)[i]? = some z → ∃ y, (Uw83.rows n)[i]? = some y ∧ z = V.int (secs y : Int) := by
        intro i z e
        unfold zs at e
        rw [List.getElem?_map, List.getElem?_map, List.getElem?_map] at e
        cases e' : (Uw83.rows n)[i]? with
        | none => rw [e'] at e; cases e
        | some y => rw [e'] at e; exact ⟨y, rfl, (Option.some.inj e).symm⟩
      have gj : ((zs ((Uw83.rows n).map secs)).map V.int)[j]? = some (V.int (secs r : Int)) := by
        unfold zs
        rw [List.getElem?_map, List.getElem?_map, List.getElem?_map, hj1]
        rfl
      refine ⟨_, rfl, _, rfl, .inl ⟨rfl, _, SqL.of hd3⟩, _, rfl, D, _, _, j, V.int (secs r : Int), rfl, rfl, SqL.of hd3, rfl, ?_, gj, ?_, ?_, ?_⟩
      · rw [List.all_map, List.all_eq_true]
        intro z _
        rfl
      · rw [hj2]
        exact beq_self_eq_true _
      · intro m z hm e
        obtain ⟨y, e1, rfl⟩ := gz m z e
        show ((secs y : Int) == (best secs (Uw83.rows n) : Int)) = false
        rw [Bool.eq_false_iff]
        intro q
        have := eq_of_beq q
        exact hj3 m y hm e1 (by omega)
      · refine ⟨p, _, _, _, rfl, rfl, (B2.same s3).sq, atI_nat (ref_get hu1), l, u, _, _, rfl, rfl, upd_same, hu2, ?_, fun v hv => ?_⟩
        · rw [rv_len, mem_rows (List.mem_of_getElem? hj1)]
          exact small12 (by show 2 + _ ≤ 1000; omega)
        · refine k.new (step_long hc) R (s12.trans s3) v hv ?_
          rw [count_is, hties, rv_zs, ← hj4, hties]
          rfl
end
end Rec

end
section
set_option Elab.async false
set_option linter.all false
set_option maxRecDepth 100000
set_option maxHeartbeats 2000000
namespace Rec
open PySem PySem.Spec PyProof.Rows L2
open Uw83 (at_)
structure TxtT (mg : Str → Option Value) : Prop extends TxtA mg where
  c5 : GI mg "RESTS" 5
  c6 : GI mg "TURNS" 6
  c7 : GI mg "ROUND" 7
  c8 : GI mg "BEFORE" 8
  c9 : GI mg "LONGEST" 9
section
variable {P : Program} {w : World} {K : PySem.W.Frag} {mg : Str → Option Value} {base : Heap}
theorem scCL : FnScope ["calls", "start"] ["calls", "start"] (defScope sCL) := ⟨rfl, rfl, rfl, by decide +kernel, rfl, by decide +kernel, by decide +kernel⟩
theorem ok_cl {f : Addr} {fd : FuncData} (F : Fun K "call_length" "call_length" sCL f fd) (T : TxtT mg) : FnOk P w K mg base CX0 20 f fd ["calls", "start"] (spCL K) := by
  refine F.ok scCL (fun vs H Q E h => ?_) (fun cdv A outer s H vs Q E hr h => ?_)
  · obtain ⟨L, l, start, n, k, rfl, _⟩ := h
    rfl
  · obtain ⟨L, l, start, n, k, rfl, hS, hk, ko⟩ := h
    refine ⟨_, pss_cons (ps_if (pt_cmpR op_eq (pe_ix ix_list (pv 0) (pv 1) (fun _ _ => rfl)) (pe_gi rfl T.c0) (nomark _)) (pss_one (ps_ret (pe_op op_add pe_int (pe_ix ix_list (pv 0) (pe_op op_add (pv 1) pe_int) (fun _ _ => rfl))))) pss_nil)
      (pss_cons (ps_if (pt_cmpR op_in_seq (pe_ix ix_list (pv 0) (pv 1) (fun _ _ => rfl)) (pe_tup (pa_cons (pe_gi rfl T.c2) (pa_cons (pe_gi rfl T.c4) (pa_cons (pe_gi rfl T.c9) pa_nil)))) (by with_unfolding_all rfl)) (pss_one (ps_ret pe_int)) pss_nil)
      (pss_one (ps_ret pe_int))), ?_⟩
    have h0 : atI (l.map V.int) (start : Int) = some (.int (num k : Int)) := atI_nat (get_of hk.head)
    refine ⟨_, rfl, _, rfl, L, _, _, _, rfl, rfl, hS, h0, rfl, _, rfl, ?_⟩
    have rest : ∀ (m : Nat), (n : Int) = (if inV (.int (num k : Int)) [.int 2, .int 4, .int 9] = true then 2 else 1) → tSeq (tIfS (tTest (tOp (rIn K false) (tOp (rIxL K) (tVar 0) (tVar 1)) (tTup (tCons (tC (.int 2)) (tCons (tC (.int 4)) (tCons (tC (.int 9)) tNil)))))) (tRet (tC (.int 2))) tNext) (tRet (tC (.int 1))) { nx := fun _ H' => Q .non H', rt := Q } [some (.ref L), some (.int (start : Int))] H := by
      intro _ hn
      refine ⟨_, rfl, _, rfl, L, _, _, _, rfl, rfl, hS, h0, (by show 3 ≤ sizeLine; decide), fun t ht => ?_⟩
      have s1 := Same.upd (o := .tup [.int 2, .int 4, .int 9]) ht
      have := ko _ s1
      rw [hn] at this
      refine ⟨t, _, rfl, .inr (SqT.of upd_same), rfl, rfl, _, rfl, ?_⟩
      rw [if_neg Bool.false_ne_true]
      by_cases c : inV (.int (num k : Int)) [.int 2, .int 4, .int 9] = true
      · rw [if_pos c] at this
        rw [c]
        exact iteT this
      · rw [if_neg c] at this
        rw [Bool.eq_false_iff.mpr c]
        exact iteF this
    have hn := hk.nums.2.1
    cases k with
    | stand o fs =>
      refine iteT ?_
      have h2 : atI (l.map V.int) ((start : Int) + 2) = some (.int (fs.length : Int)) := atI_nat (j := start + 2) (get_of (hk.get rfl))
      refine ⟨_, rfl, _, rfl, _, _, rfl, rfl, L, _, _, _, rfl, rfl, hS, h2, _, _, rfl, rfl, ?_⟩
      have := ko H (Same.refl H)
      have e : (3 : Int) + (fs.length : Int) = (n : Int) := by
        rw [hn]
        show _ = (((zs fs).length + 1 + 1 + 1 : Nat) : Int)
        rw [zs_len]
        omega
      dsimp only
      rw [e]
      exact this
    | second =>
      refine iteF ?_
      exact rest 0 (by rw [hn]; rfl)
    | turn i =>
      refine iteF ?_
      exact rest 0 (by rw [hn]; rfl)
    | shows =>
      refine iteF ?_
      exact rest 0 (by rw [hn]; rfl)
    | later i =>
      refine iteF ?_
      exact rest 0 (by rw [hn]; rfl)
    | rests =>
      refine iteF ?_
      exact rest 0 (by rw [hn]; rfl)
    | turns =>
      refine iteF ?_
      exact rest 0 (by rw [hn]; rfl)
    | round =>
      refine iteF ?_
      exact rest 0 (by rw [hn]; rfl)
    | before =>
      refine iteF ?_
      exact rest 0 (by rw [hn]; rfl)
    | longest i =>
      refine iteF ?_
      exact rest 0 (by rw [hn]; rfl)
theorem ok_answer {f C : Addr} {fd : FuncData} (F : Fun K "answer" "answer" sAn f fd) (T : TxtT mg) (cl : Cls K C)
    (U0 : UseM P w K mg base 3 C "stand" ["self", "ring", "faces"] (spStand C K))
    (U1 : UseM P w K mg base 4 C "second" ["self"] (spOne C .second))
    (U2 : UseM P w K mg base 3 C "turn" ["self", "place"] (spTwo C .turn))
    (U3 : UseM P w K mg base 1 C "shows" ["self"] (spOne C .shows))
    (U4 : UseM P w K mg base 5 C "later" ["self", "seconds"] (spTwo C .later))
    (U5 : UseM P w K mg base 5 C "rests" ["self"] (spOne C .rests))
    (U6 : UseM P w K mg base 5 C "turns" ["self"] (spOne C .turns))
    (U7 : UseM P w K mg base 5 C "comes_round" ["self"] (spOne C .round))
    (U8 : UseM P w K mg base 4 C "before" ["self"] (spOne C .before))
    (U9 : UseM P w K mg base 6 C "longest" ["self", "count"] (spTwo C .longest))
    : FnOk P w K mg base CX0 20 f fd ["recruits", "call"] (spAn K C) := by
  refine F.ok scAn (fun vs H Q E h => ?_) (fun cdv A outer s H vs Q E hr h => ?_)
  · obtain ⟨x, a, c, st, k, rfl, _⟩ := h
    rfl
  · obtain ⟨x, a, c, st, k, rfl, R, W, hS, hk, ko⟩ := h
    refine ⟨_, pss_cons (ps_if (pt_cmpR op_eq (pe_ix ix_list (pv 1) pe_int (fun _ _ => rfl)) (pe_gi rfl T.c0) (nomark _)) (pss_one (ps_ret (pe_useM U0 cl (pv 0) (hr.mono (by decide)) (pa_cons (pe_ix ix_list (pv 1) pe_int (fun _ _ => rfl)) (pa_cons (pe_slice sl_list (pv 1) (po_some pe_int) po_none) pa_nil))))) pss_nil)
      (pss_cons (ps_if (pt_cmpR op_eq (pe_ix ix_list (pv 1) pe_int (fun _ _ => rfl)) (pe_gi rfl T.c1) (nomark _)) (pss_one (ps_ret (pe_useM0 U1 cl (pv 0) (hr.mono (by decide))))) pss_nil)
      (pss_cons (ps_if (pt_cmpR op_eq (pe_ix ix_list (pv 1) pe_int (fun _ _ => rfl)) (pe_gi rfl T.c2) (nomark _)) (pss_one (ps_ret (pe_useM U2 cl (pv 0) (hr.mono (by decide)) (pa_cons (pe_ix ix_list (pv 1) pe_int (fun _ _ => rfl)) pa_nil)))) pss_nil)
      (pss_cons (ps_if (pt_cmpR op_eq (pe_ix ix_list (pv 1) pe_int (fun _ _ => rfl)) (pe_gi rfl T.c3) (nomark _)) (pss_one (ps_ret (pe_useM0 U3 cl (pv 0) (hr.mono (by decide))))) pss_nil)
      (pss_cons (ps_if (pt_cmpR op_eq (pe_ix ix_list (pv 1) pe_int (fun _ _ => rfl)) (pe_gi rfl T.c4) (nomark _)) (pss_one (ps_ret (pe_useM U4 cl (pv 0) (hr.mono (by decide)) (pa_cons (pe_ix ix_list (pv 1) pe_int (fun _ _ => rfl)) pa_nil)))) pss_nil)
      (pss_cons (ps_if (pt_cmpR op_eq (pe_ix ix_list (pv 1) pe_int (fun _ _ => rfl)) (pe_gi rfl T.c5) (nomark _)) (pss_one (ps_ret (pe_useM0 U5 cl (pv 0) (hr.mono (by decide))))) pss_nil)
      (pss_cons (ps_if (pt_cmpR op_eq (pe_ix ix_list (pv 1) pe_int (fun _ _ => rfl)) (pe_gi rfl T.c6) (nomark _)) (pss_one (ps_ret (pe_useM0 U6 cl (pv 0) (hr.mono (by decide))))) pss_nil)
      (pss_cons (ps_if (pt_cmpR op_eq (pe_ix ix_list (pv 1) pe_int (fun _ _ => rfl)) (pe_gi rfl T.c7) (nomark _)) (pss_one (ps_ret (pe_useM0 U7 cl (pv 0) (hr.mono (by decide))))) pss_nil)
      (pss_cons (ps_if (pt_cmpR op_eq (pe_ix ix_list (pv 1) pe_int (fun _ _ => rfl)) (pe_gi rfl T.c8) (nomark _)) (pss_one (ps_ret (pe_useM0 U8 cl (pv 0) (hr.mono (by decide))))) pss_nil)
      (pss_one (ps_ret (pe_useM U9 cl (pv 0) (hr.mono (by decide)) (pa_cons (pe_ix ix_list (pv 1) pe_int (fun _ _ => rfl)) pa_nil)))))))))))), ?_⟩
    obtain ⟨⟨dx, hx⟩, hl⟩ := id R
    obtain ⟨tl, enum⟩ := nums_head k
    have h0 : atI ((nums k).map V.int) ((0 : Nat) : Int) = some (.int (num k : Int)) := atI_nat (get_of (by rw [enum]; rfl))
    refine ⟨_, rfl, c, _, _, _, rfl, rfl, hS, h0, rfl, _, rfl, ?_⟩
    cases k with
    | stand o fs =>
      refine iteT ?_
      refine ⟨_, rfl, x, dx, _, rfl, hx, ff_no _ _ (by decide +kernel) (by decide +kernel), _, rfl, c, _, _, _, rfl, rfl, hS, atI_nat (j := 1) rfl, _, rfl, _, rfl, c, _, rfl, hS, fun p hp => ?_⟩
      have e : cutV ((nums (.stand o fs)).map V.int) (some 3) none = rv fs := by
        rw [rv_zs]
        exact cut3
      rw [e]
      have s1 : Same H (upd H p (.lst (rv fs))) := Same.upd hp
      exact ⟨x, a, p, st, o, fs, rfl, R.same s1, SqL.of upd_same, hk, ko.same s1⟩
    | second =>
      refine iteF ?_
      refine ⟨_, rfl, c, _, _, _, rfl, rfl, hS, h0, rfl, _, rfl, ?_⟩
      refine iteT ?_
      exact ⟨_, rfl, x, dx, _, rfl, hx, ff_no _ _ (by decide +kernel) (by decide +kernel), x, a, st, rfl, R, W, ko⟩
    | turn i =>
      refine iteF ?_
      refine ⟨_, rfl, c, _, _, _, rfl, rfl, hS, h0, rfl, _, rfl, ?_⟩
      refine iteF ?_
      refine ⟨_, rfl, c, _, _, _, rfl, rfl, hS, h0, rfl, _, rfl, ?_⟩
      refine iteT ?_
      exact ⟨_, rfl, x, dx, _, rfl, hx, ff_no _ _ (by decide +kernel) (by decide +kernel), _, rfl, c, _, _, _, rfl, rfl, hS, atI_nat (j := 1) rfl, x, a, st, i, rfl, R, W, ko⟩
    | shows =>
      refine iteF ?_
      refine ⟨_, rfl, c, _, _, _, rfl, rfl, hS, h0, rfl, _, rfl, ?_⟩
      refine iteF ?_
      refine ⟨_, rfl, c, _, _, _, rfl, rfl, hS, h0, rfl, _, rfl, ?_⟩
      refine iteF ?_
      refine ⟨_, rfl, c, _, _, _, rfl, rfl, hS, h0, rfl, _, rfl, ?_⟩
      refine iteT ?_
      exact ⟨_, rfl, x, dx, _, rfl, hx, ff_no _ _ (by decide +kernel) (by decide +kernel), x, a, st, rfl, R, W, ko⟩
    | later i =>
      refine iteF ?_
      refine ⟨_, rfl, c, _, _, _, rfl, rfl, hS, h0, rfl, _, rfl, ?_⟩
      refine iteF ?_
      refine ⟨_, rfl, c, _, _, _, rfl, rfl, hS, h0, rfl, _, rfl, ?_⟩
      refine iteF ?_
      refine ⟨_, rfl, c, _, _, _, rfl, rfl, hS, h0, rfl, _, rfl, ?_⟩
      refine iteF ?_
      refine ⟨_, rfl, c, _, _, _, rfl, rfl, hS, h0, rfl, _, rfl, ?_⟩
      refine iteT ?_
      exact ⟨_, rfl, x, dx, _, rfl, hx, ff_no _ _ (by decide +kernel) (by decide +kernel), _, rfl, c, _, _, _, rfl, rfl, hS, atI_nat (j := 1) rfl, x, a, st, i, rfl, R, W, ko⟩
    | rests =>
      refine iteF ?_
      refine ⟨_, rfl, c, _, _, _, rfl, rfl, hS, h0, rfl, _, rfl, ?_⟩
      refine iteF ?_
      refine ⟨_, rfl, c, _, _, _, rfl, rfl, hS, h0, rfl, _, rfl, ?_⟩
      refine iteF ?_
      refine ⟨_, rfl, c, _, _, _, rfl, rfl, hS, h0, rfl, _, rfl, ?_⟩
      refine iteF ?_
      refine ⟨_, rfl, c, _, _, _, rfl, rfl, hS, h0, rfl, _, rfl, ?_⟩
      refine iteF ?_
      refine ⟨_, rfl, c, _, _, _, rfl, rfl, hS, h0, rfl, _, rfl, ?_⟩
      refine iteT ?_
      exact ⟨_, rfl, x, dx, _, rfl, hx, ff_no _ _ (by decide +kernel) (by decide +kernel), x, a, st, rfl, R, W, ko⟩
    | turns =>
      refine iteF ?_
      refine ⟨_, rfl, c, _, _, _, rfl, rfl, hS, h0, rfl, _, rfl, ?_⟩
      refine iteF ?_
      refine ⟨_, rfl, c, _, _, _, rfl, rfl, hS, h0, rfl, _, rfl, ?_⟩
      refine iteF ?_
      refine ⟨_, rfl, c, _, _, _, rfl, rfl, hS, h0, rfl, _, rfl, ?_⟩
      refine iteF ?_
      refine ⟨_, rfl, c, _, _, _, rfl, rfl, hS, h0, rfl, _, rfl, ?_⟩
      refine iteF ?_
      refine ⟨_, rfl, c, _, _, _, rfl, rfl, hS, h0, rfl, _, rfl, ?_⟩
      refine iteF ?_
      refine ⟨_, rfl, c, _, _, _, rfl, rfl, hS, h0, rfl, _, rfl, ?_⟩
      refine iteT ?_
      exact ⟨_, rfl, x, dx, _, rfl, hx, ff_no _ _ (by decide +kernel) (by decide +kernel), x, a, st, rfl, R, W, ko⟩
    | round =>
      refine iteF ?_
      refine ⟨_, rfl, c, _, _, _, rfl, rfl, hS, h0, rfl, _, rfl, ?_⟩
      refine iteF ?_
      refine ⟨_, rfl, c, _, _, _, rfl, rfl, hS, h0, rfl, _, rfl, ?_⟩
      refine iteF ?_
      refine ⟨_, rfl, c, _, _, _, rfl, rfl, hS, h0, rfl, _, rfl, ?_⟩
      refine iteF ?_
      refine ⟨_, rfl, c, _, _, _, rfl, rfl, hS, h0, rfl, _, rfl, ?_⟩
      refine iteF ?_
      refine ⟨_, rfl, c, _, _, _, rfl, rfl, hS, h0, rfl, _, rfl, ?_⟩
      refine iteF ?_
      refine ⟨_, rfl, c, _, _, _, rfl, rfl, hS, h0, rfl, _, rfl, ?_⟩
      refine iteF ?_
      refine ⟨_, rfl, c, _, _, _, rfl, rfl, hS, h0, rfl, _, rfl, ?_⟩
      refine iteT ?_
      exact ⟨_, rfl, x, dx, _, rfl, hx, ff_no _ _ (by decide +kernel) (by decide +kernel), x, a, st, rfl, R, W, ko⟩
    | before =>
      refine iteF ?_
      refine ⟨_, rfl, c, _, _, _, rfl, rfl, hS, h0, rfl, _, rfl, ?_⟩
      refine iteF ?_
      refine ⟨_, rfl, c, _, _, _, rfl, rfl, hS, h0, rfl, _, rfl, ?_⟩
      refine iteF ?_
      refine ⟨_, rfl, c, _, _, _, rfl, rfl, hS, h0, rfl, _, rfl, ?_⟩
      refine iteF ?_
      refine ⟨_, rfl, c, _, _, _, rfl, rfl, hS, h0, rfl, _, rfl, ?_⟩
      refine iteF ?_
      refine ⟨_, rfl, c, _, _, _, rfl, rfl, hS, h0, rfl, _, rfl, ?_⟩
      refine iteF ?_
      refine ⟨_, rfl, c, _, _, _, rfl, rfl, hS, h0, rfl, _, rfl, ?_⟩
      refine iteF ?_
      refine ⟨_, rfl, c, _, _, _, rfl, rfl, hS, h0, rfl, _, rfl, ?_⟩
      refine iteF ?_
      refine ⟨_, rfl, c, _, _, _, rfl, rfl, hS, h0, rfl, _, rfl, ?_⟩
      refine iteT ?_
      exact ⟨_, rfl, x, dx, _, rfl, hx, ff_no _ _ (by decide +kernel) (by decide +kernel), x, a, st, rfl, R, W, ko⟩
    | longest i =>
      refine iteF ?_
      refine ⟨_, rfl, c, _, _, _, rfl, rfl, hS, h0, rfl, _, rfl, ?_⟩
      refine iteF ?_
      refine ⟨_, rfl, c, _, _, _, rfl, rfl, hS, h0, rfl, _, rfl, ?_⟩
      refine iteF ?_
      refine ⟨_, rfl, c, _, _, _, rfl, rfl, hS, h0, rfl, _, rfl, ?_⟩
      refine iteF ?_
      refine ⟨_, rfl, c, _, _, _, rfl, rfl, hS, h0, rfl, _, rfl, ?_⟩
      refine iteF ?_
      refine ⟨_, rfl, c, _, _, _, rfl, rfl, hS, h0, rfl, _, rfl, ?_⟩
      refine iteF ?_
      refine ⟨_, rfl, c, _, _, _, rfl, rfl, hS, h0, rfl, _, rfl, ?_⟩
      refine iteF ?_
      refine ⟨_, rfl, c, _, _, _, rfl, rfl, hS, h0, rfl, _, rfl, ?_⟩
      refine iteF ?_
      refine ⟨_, rfl, c, _, _, _, rfl, rfl, hS, h0, rfl, _, rfl, ?_⟩
      refine iteF ?_
      exact ⟨_, rfl, x, dx, _, rfl, hx, ff_no _ _ (by decide +kernel) (by decide +kernel), _, rfl, c, _, _, _, rfl, rfl, hS, atI_nat (j := 1) rfl, x, a, st, i, rfl, R, W, ko⟩
end
end Rec

end
set_option Elab.async false
set_option linter.all false
set_option maxRecDepth 100000
set_option maxHeartbeats 2000000
namespace Rec
open PySem PySem.Spec PyProof.Rows L2
set_option maxHeartbeats 4000000 in
theorem all_mk {P : Program} {w : World} {K : PySem.W.Frag} {h : Heap} {mg : Str → Option Value} {fa C f_init f_stand f_second f_turn f_shows f_later f_rests f_turns f_round f_before f_longest f_right f_pairs f_sec f_secs f_rest f_never f_till f_tills f_times f_known f_rows f_may f_cl f_an f_ans : Addr} (X : K.In h) (G : h.Ns mainGlobals mg) (hfa : mg "answers" = some (.ref fa))
    {od_init an_init od_stand an_stand od_second an_second od_turn an_turn od_shows an_shows od_later an_later od_rests an_rests od_turns an_turns od_round an_round od_before an_before od_longest an_longest od_right an_right od_pairs an_pairs od_sec an_sec od_secs an_secs od_rest an_rest od_never an_never od_till an_till od_tills an_tills od_times an_times od_known an_known od_rows an_rows od_may an_may od_cl an_cl od_an an_an od_ans an_ans : Option Addr} {sl_init sl_stand sl_second sl_turn sl_shows sl_later sl_rests sl_turns sl_round sl_before sl_longest sl_right sl_pairs sl_sec sl_secs sl_rest sl_never sl_till sl_tills sl_times sl_known sl_rows sl_may sl_cl sl_an sl_ans : Array (Option Value)} {oc_init kV_init dc_init pm_init cd_init ct_init oc_stand kV_stand dc_stand pm_stand cd_stand ct_stand oc_second kV_second dc_second pm_second cd_second ct_second oc_turn kV_turn dc_turn pm_turn cd_turn ct_turn oc_shows kV_shows dc_shows pm_shows cd_shows ct_shows oc_later kV_later dc_later pm_later cd_later ct_later oc_rests kV_rests dc_rests pm_rests cd_rests ct_rests oc_turns kV_turns dc_turns pm_turns cd_turns ct_turns oc_round kV_round dc_round pm_round cd_round ct_round oc_before kV_before dc_before pm_before cd_before ct_before oc_longest kV_longest dc_longest pm_longest cd_longest ct_longest oc_right kV_right dc_right pm_right cd_right ct_right oc_pairs kV_pairs dc_pairs pm_pairs cd_pairs ct_pairs oc_sec kV_sec dc_sec pm_sec cd_sec ct_sec oc_secs kV_secs dc_secs pm_secs cd_secs ct_secs oc_rest kV_rest dc_rest pm_rest cd_rest ct_rest oc_never kV_never dc_never pm_never cd_never ct_never oc_till kV_till dc_till pm_till cd_till ct_till oc_tills kV_tills dc_tills pm_tills cd_tills ct_tills oc_times kV_times dc_times pm_times cd_times ct_times oc_known kV_known dc_known pm_known cd_known ct_known oc_rows kV_rows dc_rows pm_rows cd_rows ct_rows oc_may kV_may dc_may pm_may cd_may ct_may oc_cl kV_cl dc_cl pm_cl cd_cl ct_cl oc_an kV_an dc_an pm_an cd_an ct_an oc_ans kV_ans dc_ans pm_ans cd_ans ct_ans : Value} {t_c0 t_c1 t_c2 t_c3 t_c4 t_c5 t_c6 t_c7 t_c8 t_c9 t_most t_frow t_fring t_mosts t_flong t_mlong t_cannot t_nosuch t_toomuch t_nevr t_nolong : Tok}
    (aC : PySem.W.nsIn K mainGlobals "Recruits" = some (some (.ref C)))
    (a_init : PySem.W.findIn K (.ref C) "__init__" = some (some (.ref f_init))) (i_init : PySem.W.isFn K (.ref f_init) = true) (l_init : K.lookup f_init = some ⟨oc_init, od_init, .func (PySem.W.fnOf "__init__" "Recruits.__init__" (defArgs sInit) (defBody sInit) (defScope sInit) .none kV_init dc_init pm_init an_init cd_init ct_init), sl_init⟩) (c_init : PySem.W.codeIn K cd_init "Recruits.__init__" = true) (k_init : PySem.W.keepIn K (.ref f_init) = true)
    (a_stand : PySem.W.findIn K (.ref C) "stand" = some (some (.ref f_stand))) (i_stand : PySem.W.isFn K (.ref f_stand) = true) (l_stand : K.lookup f_stand = some ⟨oc_stand, od_stand, .func (PySem.W.fnOf "stand" "Recruits.stand" (defArgs sStand) (defBody sStand) (defScope sStand) .none kV_stand dc_stand pm_stand an_stand cd_stand ct_stand), sl_stand⟩) (c_stand : PySem.W.codeIn K cd_stand "Recruits.stand" = true) (k_stand : PySem.W.keepIn K (.ref f_stand) = true)
    (a_second : PySem.W.findIn K (.ref C) "second" = some (some (.ref f_second))) (i_second : PySem.W.isFn K (.ref f_second) = true) (l_second : K.lookup f_second = some ⟨oc_second, od_second, .func (PySem.W.fnOf "second" "Recruits.second" (defArgs sSecond) (defBody sSecond) (defScope sSecond) .none kV_second dc_second pm_second an_second cd_second ct_second), sl_second⟩) (c_second : PySem.W.codeIn K cd_second "Recruits.second" = true) (k_second : PySem.W.keepIn K (.ref f_second) = true)
    (a_turn : PySem.W.findIn K (.ref C) "turn" = some (some (.ref f_turn))) (i_turn : PySem.W.isFn K (.ref f_turn) = true) (l_turn : K.lookup f_turn = some ⟨oc_turn, od_turn, .func (PySem.W.fnOf "turn" "Recruits.turn" (defArgs sTurn) (defBody sTurn) (defScope sTurn) .none kV_turn dc_turn pm_turn an_turn cd_turn ct_turn), sl_turn⟩) (c_turn : PySem.W.codeIn K cd_turn "Recruits.turn" = true) (k_turn : PySem.W.keepIn K (.ref f_turn) = true)
    (a_shows : PySem.W.findIn K (.ref C) "shows" = some (some (.ref f_shows))) (i_shows : PySem.W.isFn K (.ref f_shows) = true) (l_shows : K.lookup f_shows = some ⟨oc_shows, od_shows, .func (PySem.W.fnOf "shows" "Recruits.shows" (defArgs sShows) (defBody sShows) (defScope sShows) .none kV_shows dc_shows pm_shows an_shows cd_shows ct_shows), sl_shows⟩) (c_shows : PySem.W.codeIn K cd_shows "Recruits.shows" = true) (k_shows : PySem.W.keepIn K (.ref f_shows) = true)
    (a_later : PySem.W.findIn K (.ref C) "later" = some (some (.ref f_later))) (i_later : PySem.W.isFn K (.ref f_later) = true) (l_later : K.lookup f_later = some ⟨oc_later, od_later, .func (PySem.W.fnOf "later" "Recruits.later" (defArgs sLater) (defBody sLater) (defScope sLater) .none kV_later dc_later pm_later an_later cd_later ct_later), sl_later⟩) (c_later : PySem.W.codeIn K cd_later "Recruits.later" = true) (k_later : PySem.W.keepIn K (.ref f_later) = true)
    (a_rests : PySem.W.findIn K (.ref C) "rests" = some (some (.ref f_rests))) (i_rests : PySem.W.isFn K (.ref f_rests) = true) (l_rests : K.lookup f_rests = some ⟨oc_rests, od_rests, .func (PySem.W.fnOf "rests" "Recruits.rests" (defArgs sRests) (defBody sRests) (defScope sRests) .none kV_rests dc_rests pm_rests an_rests cd_rests ct_rests), sl_rests⟩) (c_rests : PySem.W.codeIn K cd_rests "Recruits.rests" = true) (k_rests : PySem.W.keepIn K (.ref f_rests) = true)
    (a_turns : PySem.W.findIn K (.ref C) "turns" = some (some (.ref f_turns))) (i_turns : PySem.W.isFn K (.ref f_turns) = true) (l_turns : K.lookup f_turns = some ⟨oc_turns, od_turns, .func (PySem.W.fnOf "turns" "Recruits.turns" (defArgs sTurns) (defBody sTurns) (defScope sTurns) .none kV_turns dc_turns pm_turns an_turns cd_turns ct_turns), sl_turns⟩) (c_turns : PySem.W.codeIn K cd_turns "Recruits.turns" = true) (k_turns : PySem.W.keepIn K (.ref f_turns) = true)
    (a_round : PySem.W.findIn K (.ref C) "comes_round" = some (some (.ref f_round))) (i_round : PySem.W.isFn K (.ref f_round) = true) (l_round : K.lookup f_round = some ⟨oc_round, od_round, .func (PySem.W.fnOf "comes_round" "Recruits.comes_round" (defArgs sRound) (defBody sRound) (defScope sRound) .none kV_round dc_round pm_round an_round cd_round ct_round), sl_round⟩) (c_round : PySem.W.codeIn K cd_round "Recruits.comes_round" = true) (k_round : PySem.W.keepIn K (.ref f_round) = true)
    (a_before : PySem.W.findIn K (.ref C) "before" = some (some (.ref f_before))) (i_before : PySem.W.isFn K (.ref f_before) = true) (l_before : K.lookup f_before = some ⟨oc_before, od_before, .func (PySem.W.fnOf "before" "Recruits.before" (defArgs sBefore) (defBody sBefore) (defScope sBefore) .none kV_before dc_before pm_before an_before cd_before ct_before), sl_before⟩) (c_before : PySem.W.codeIn K cd_before "Recruits.before" = true) (k_before : PySem.W.keepIn K (.ref f_before) = true)
    (a_longest : PySem.W.findIn K (.ref C) "longest" = some (some (.ref f_longest))) (i_longest : PySem.W.isFn K (.ref f_longest) = true) (l_longest : K.lookup f_longest = some ⟨oc_longest, od_longest, .func (PySem.W.fnOf "longest" "Recruits.longest" (defArgs sLongest) (defBody sLongest) (defScope sLongest) .none kV_longest dc_longest pm_longest an_longest cd_longest ct_longest), sl_longest⟩) (c_longest : PySem.W.codeIn K cd_longest "Recruits.longest" = true) (k_longest : PySem.W.keepIn K (.ref f_longest) = true)
    (a_right : PySem.W.nsIn K mainGlobals "right_neighbour" = some (some (.ref f_right))) (l_right : K.lookup f_right = some ⟨oc_right, od_right, .func (PySem.W.fnOf "right_neighbour" "right_neighbour" (defArgs sRight) (defBody sRight) (defScope sRight) .none kV_right dc_right pm_right an_right cd_right ct_right), sl_right⟩) (c_right : PySem.W.codeIn K cd_right "right_neighbour" = true) (k_right : PySem.W.keepIn K (.ref f_right) = true)
    (a_pairs : PySem.W.nsIn K mainGlobals "pairs" = some (some (.ref f_pairs))) (l_pairs : K.lookup f_pairs = some ⟨oc_pairs, od_pairs, .func (PySem.W.fnOf "pairs" "pairs" (defArgs sPairs) (defBody sPairs) (defScope sPairs) .none kV_pairs dc_pairs pm_pairs an_pairs cd_pairs ct_pairs), sl_pairs⟩) (c_pairs : PySem.W.codeIn K cd_pairs "pairs" = true) (k_pairs : PySem.W.keepIn K (.ref f_pairs) = true)
    (a_sec : PySem.W.nsIn K mainGlobals "behind_a_second" = some (some (.ref f_sec))) (l_sec : K.lookup f_sec = some ⟨oc_sec, od_sec, .func (PySem.W.fnOf "behind_a_second" "behind_a_second" (defArgs sSec) (defBody sSec) (defScope sSec) .none kV_sec dc_sec pm_sec an_sec cd_sec ct_sec), sl_sec⟩) (c_sec : PySem.W.codeIn K cd_sec "behind_a_second" = true) (k_sec : PySem.W.keepIn K (.ref f_sec) = true)
    (a_secs : PySem.W.nsIn K mainGlobals "behind_seconds" = some (some (.ref f_secs))) (l_secs : K.lookup f_secs = some ⟨oc_secs, od_secs, .func (PySem.W.fnOf "behind_seconds" "behind_seconds" (defArgs sSecs) (defBody sSecs) (defScope sSecs) .none kV_secs dc_secs pm_secs an_secs cd_secs ct_secs), sl_secs⟩) (c_secs : PySem.W.codeIn K cd_secs "behind_seconds" = true) (k_secs : PySem.W.keepIn K (.ref f_secs) = true)
    (a_rest : PySem.W.nsIn K mainGlobals "at_rest" = some (some (.ref f_rest))) (l_rest : K.lookup f_rest = some ⟨oc_rest, od_rest, .func (PySem.W.fnOf "at_rest" "at_rest" (defArgs sRest) (defBody sRest) (defScope sRest) .none kV_rest dc_rest pm_rest an_rest cd_rest ct_rest), sl_rest⟩) (c_rest : PySem.W.codeIn K cd_rest "at_rest" = true) (k_rest : PySem.W.keepIn K (.ref f_rest) = true)
    (a_never : PySem.W.nsIn K mainGlobals "never_at_rest" = some (some (.ref f_never))) (l_never : K.lookup f_never = some ⟨oc_never, od_never, .func (PySem.W.fnOf "never_at_rest" "never_at_rest" (defArgs sNever) (defBody sNever) (defScope sNever) .none kV_never dc_never pm_never an_never cd_never ct_never), sl_never⟩) (c_never : PySem.W.codeIn K cd_never "never_at_rest" = true) (k_never : PySem.W.keepIn K (.ref f_never) = true)
    (a_till : PySem.W.nsIn K mainGlobals "till_rest" = some (some (.ref f_till))) (l_till : K.lookup f_till = some ⟨oc_till, od_till, .func (PySem.W.fnOf "till_rest" "till_rest" (defArgs sTill) (defBody sTill) (defScope sTill) .none kV_till dc_till pm_till an_till cd_till ct_till), sl_till⟩) (c_till : PySem.W.codeIn K cd_till "till_rest" = true) (k_till : PySem.W.keepIn K (.ref f_till) = true)
    (a_tills : PySem.W.nsIn K mainGlobals "seconds_till_rest" = some (some (.ref f_tills))) (l_tills : K.lookup f_tills = some ⟨oc_tills, od_tills, .func (PySem.W.fnOf "seconds_till_rest" "seconds_till_rest" (defArgs sTillS) (defBody sTillS) (defScope sTillS) .none kV_tills dc_tills pm_tills an_tills cd_tills ct_tills), sl_tills⟩) (c_tills : PySem.W.codeIn K cd_tills "seconds_till_rest" = true) (k_tills : PySem.W.keepIn K (.ref f_tills) = true)
    (a_times : PySem.W.nsIn K mainGlobals "turned_times" = some (some (.ref f_times))) (l_times : K.lookup f_times = some ⟨oc_times, od_times, .func (PySem.W.fnOf "turned_times" "turned_times" (defArgs sTimes) (defBody sTimes) (defScope sTimes) .none kV_times dc_times pm_times an_times cd_times ct_times), sl_times⟩) (c_times : PySem.W.codeIn K cd_times "turned_times" = true) (k_times : PySem.W.keepIn K (.ref f_times) = true)
    (a_known : PySem.W.nsIn K mainGlobals "till_known" = some (some (.ref f_known))) (l_known : K.lookup f_known = some ⟨oc_known, od_known, .func (PySem.W.fnOf "till_known" "till_known" (defArgs sKnown) (defBody sKnown) (defScope sKnown) .none kV_known dc_known pm_known an_known cd_known ct_known), sl_known⟩) (c_known : PySem.W.codeIn K cd_known "till_known" = true) (k_known : PySem.W.keepIn K (.ref f_known) = true)
    (a_rows : PySem.W.nsIn K mainGlobals "rows_of" = some (some (.ref f_rows))) (l_rows : K.lookup f_rows = some ⟨oc_rows, od_rows, .func (PySem.W.fnOf "rows_of" "rows_of" (defArgs sRows) (defBody sRows) (defScope sRows) .none kV_rows dc_rows pm_rows an_rows cd_rows ct_rows), sl_rows⟩) (c_rows : PySem.W.codeIn K cd_rows "rows_of" = true) (k_rows : PySem.W.keepIn K (.ref f_rows) = true)
    (a_may : PySem.W.nsIn K mainGlobals "may_stand" = some (some (.ref f_may))) (l_may : K.lookup f_may = some ⟨oc_may, od_may, .func (PySem.W.fnOf "may_stand" "may_stand" (defArgs sMay) (defBody sMay) (defScope sMay) .none kV_may dc_may pm_may an_may cd_may ct_may), sl_may⟩) (c_may : PySem.W.codeIn K cd_may "may_stand" = true) (k_may : PySem.W.keepIn K (.ref f_may) = true)
    (a_cl : PySem.W.nsIn K mainGlobals "call_length" = some (some (.ref f_cl))) (l_cl : K.lookup f_cl = some ⟨oc_cl, od_cl, .func (PySem.W.fnOf "call_length" "call_length" (defArgs sCL) (defBody sCL) (defScope sCL) .none kV_cl dc_cl pm_cl an_cl cd_cl ct_cl), sl_cl⟩) (c_cl : PySem.W.codeIn K cd_cl "call_length" = true) (k_cl : PySem.W.keepIn K (.ref f_cl) = true)
    (a_an : PySem.W.nsIn K mainGlobals "answer" = some (some (.ref f_an))) (l_an : K.lookup f_an = some ⟨oc_an, od_an, .func (PySem.W.fnOf "answer" "answer" (defArgs sAn) (defBody sAn) (defScope sAn) .none kV_an dc_an pm_an an_an cd_an ct_an), sl_an⟩) (c_an : PySem.W.codeIn K cd_an "answer" = true) (k_an : PySem.W.keepIn K (.ref f_an) = true)
    (a_ans : PySem.W.nsIn K mainGlobals "answers" = some (some (.ref f_ans))) (l_ans : K.lookup f_ans = some ⟨oc_ans, od_ans, .func (PySem.W.fnOf "answers" "answers" (defArgs sAns) (defBody sAns) (defScope sAns) .none kV_ans dc_ans pm_ans an_ans cd_ans ct_ans), sl_ans⟩) (c_ans : PySem.W.codeIn K cd_ans "answers" = true) (k_ans : PySem.W.keepIn K (.ref f_ans) = true)
    (g_c0 : PySem.W.nsIn K mainGlobals "STAND" = some (some (.int (0) t_c0)))
    (g_c1 : PySem.W.nsIn K mainGlobals "SECOND" = some (some (.int (1) t_c1)))
    (g_c2 : PySem.W.nsIn K mainGlobals "TURN" = some (some (.int (2) t_c2)))
    (g_c3 : PySem.W.nsIn K mainGlobals "SHOWS" = some (some (.int (3) t_c3)))
    (g_c4 : PySem.W.nsIn K mainGlobals "LATER" = some (some (.int (4) t_c4)))
    (g_c5 : PySem.W.nsIn K mainGlobals "RESTS" = some (some (.int (5) t_c5)))
    (g_c6 : PySem.W.nsIn K mainGlobals "TURNS" = some (some (.int (6) t_c6)))
    (g_c7 : PySem.W.nsIn K mainGlobals "ROUND" = some (some (.int (7) t_c7)))
    (g_c8 : PySem.W.nsIn K mainGlobals "BEFORE" = some (some (.int (8) t_c8)))
    (g_c9 : PySem.W.nsIn K mainGlobals "LONGEST" = some (some (.int (9) t_c9)))
    (g_most : PySem.W.nsIn K mainGlobals "MOST_RECRUITS" = some (some (.int (12) t_most)))
    (g_frow : PySem.W.nsIn K mainGlobals "FEWEST_IN_ROW" = some (some (.int (1) t_frow)))
    (g_fring : PySem.W.nsIn K mainGlobals "FEWEST_IN_RING" = some (some (.int (3) t_fring)))
    (g_mosts : PySem.W.nsIn K mainGlobals "MOST_SECONDS" = some (some (.int (1000) t_mosts)))
    (g_flong : PySem.W.nsIn K mainGlobals "FEWEST_IN_LONGEST" = some (some (.int (1) t_flong)))
    (g_mlong : PySem.W.nsIn K mainGlobals "MOST_IN_LONGEST" = some (some (.int (10) t_mlong)))
    (g_cannot : PySem.W.nsIn K mainGlobals "CANNOT_STAND" = some (some (.int (-1) t_cannot)))
    (g_nosuch : PySem.W.nsIn K mainGlobals "NO_SUCH_PLACE" = some (some (.int (-2) t_nosuch)))
    (g_toomuch : PySem.W.nsIn K mainGlobals "TOO_MUCH_LATER" = some (some (.int (-1) t_toomuch)))
    (g_nevr : PySem.W.nsIn K mainGlobals "NEVER_AT_REST" = some (some (.int (-6) t_nevr)))
    (g_nolong : PySem.W.nsIn K mainGlobals "NO_LONGEST" = some (some (.int (-1) t_nolong)))
    (z_len : PySem.W.nsIn K mainGlobals "len" = some none)
    (z_range : PySem.W.nsIn K mainGlobals "range" = some none)
    (z_list : PySem.W.nsIn K mainGlobals "list" = some none)
    (z_all : PySem.W.nsIn K mainGlobals "all" = some none)
    (z_sum : PySem.W.nsIn K mainGlobals "sum" = some none)
    (z_abs : PySem.W.nsIn K mainGlobals "abs" = some none)
    (z_max : PySem.W.nsIn K mainGlobals "max" = some none)
    (pg : PySem.W.plainGet K C Str.empty = true) (hd : PySem.W.hasDictIn K C = true) (po : PySem.W.plainOver K C = true) (sa : PySem.W.findIn K (.ref C) "__setattr__" = some (some (.builtin "object.__setattr__"))) (mk : PySem.W.makesIn K C = true) (kc : PySem.W.keepIn K (.ref C) = true)
    (n_ring : PySem.W.findIn K (.ref C) "ring" = some none)
    (n_faces : PySem.W.findIn K (.ref C) "faces" = some none)
    : ∃ fd : FuncData, (∀ (s : Shared) (us : List Value), us.length = (["calls"] : List Str).length → BindsTo s fd ⟨us, []⟩ ((["calls"] : List Str).zip us)) ∧ ∀ base : Heap, K.In base → base.Ns mainGlobals mg → FnOk P w K mg base CX0 21 fa fd ["calls"] (spAns K) := by
  have e := hfa.symm.trans (PySem.W.mg_of X G a_ans)
  cases e
  have F_init := fun_mk (st := sInit) l_init c_init k_init
  have b_init := F_init.binds (ps := ["self"]) fun _ _ _ _ _ _ us hl => match us, hl with | [_], _ => rfl
  have F_stand := fun_mk (st := sStand) l_stand c_stand k_stand
  have b_stand := F_stand.binds (ps := ["self", "ring", "faces"]) fun _ _ _ _ _ _ us hl => match us, hl with | [_, _, _], _ => rfl
  have F_second := fun_mk (st := sSecond) l_second c_second k_second
  have b_second := F_second.binds (ps := ["self"]) fun _ _ _ _ _ _ us hl => match us, hl with | [_], _ => rfl
  have F_turn := fun_mk (st := sTurn) l_turn c_turn k_turn
  have b_turn := F_turn.binds (ps := ["self", "place"]) fun _ _ _ _ _ _ us hl => match us, hl with | [_, _], _ => rfl
  have F_shows := fun_mk (st := sShows) l_shows c_shows k_shows
  have b_shows := F_shows.binds (ps := ["self"]) fun _ _ _ _ _ _ us hl => match us, hl with | [_], _ => rfl
  have F_later := fun_mk (st := sLater) l_later c_later k_later
  have b_later := F_later.binds (ps := ["self", "seconds"]) fun _ _ _ _ _ _ us hl => match us, hl with | [_, _], _ => rfl
  have F_rests := fun_mk (st := sRests) l_rests c_rests k_rests
  have b_rests := F_rests.binds (ps := ["self"]) fun _ _ _ _ _ _ us hl => match us, hl with | [_], _ => rfl
  have F_turns := fun_mk (st := sTurns) l_turns c_turns k_turns
  have b_turns := F_turns.binds (ps := ["self"]) fun _ _ _ _ _ _ us hl => match us, hl with | [_], _ => rfl
  have F_round := fun_mk (st := sRound) l_round c_round k_round
  have b_round := F_round.binds (ps := ["self"]) fun _ _ _ _ _ _ us hl => match us, hl with | [_], _ => rfl
  have F_before := fun_mk (st := sBefore) l_before c_before k_before
  have b_before := F_before.binds (ps := ["self"]) fun _ _ _ _ _ _ us hl => match us, hl with | [_], _ => rfl
  have F_longest := fun_mk (st := sLongest) l_longest c_longest k_longest
  have b_longest := F_longest.binds (ps := ["self", "count"]) fun _ _ _ _ _ _ us hl => match us, hl with | [_, _], _ => rfl
  have F_right := fun_mk (st := sRight) l_right c_right k_right
  have b_right := F_right.binds (ps := ["faces", "place"]) fun _ _ _ _ _ _ us hl => match us, hl with | [_, _], _ => rfl
  have F_pairs := fun_mk (st := sPairs) l_pairs c_pairs k_pairs
  have b_pairs := F_pairs.binds (ps := ["ring", "faces"]) fun _ _ _ _ _ _ us hl => match us, hl with | [_, _], _ => rfl
  have F_sec := fun_mk (st := sSec) l_sec c_sec k_sec
  have b_sec := F_sec.binds (ps := ["ring", "faces"]) fun _ _ _ _ _ _ us hl => match us, hl with | [_, _], _ => rfl
  have F_secs := fun_mk (st := sSecs) l_secs c_secs k_secs
  have b_secs := F_secs.binds (ps := ["ring", "faces", "seconds"]) fun _ _ _ _ _ _ us hl => match us, hl with | [_, _, _], _ => rfl
  have F_rest := fun_mk (st := sRest) l_rest c_rest k_rest
  have b_rest := F_rest.binds (ps := ["ring", "faces"]) fun _ _ _ _ _ _ us hl => match us, hl with | [_, _], _ => rfl
  have F_never := fun_mk (st := sNever) l_never c_never k_never
  have b_never := F_never.binds (ps := ["ring", "faces"]) fun _ _ _ _ _ _ us hl => match us, hl with | [_, _], _ => rfl
  have F_till := fun_mk (st := sTill) l_till c_till k_till
  have b_till := F_till.binds (ps := ["ring", "faces"]) fun _ _ _ _ _ _ us hl => match us, hl with | [_, _], _ => rfl
  have F_tills := fun_mk (st := sTillS) l_tills c_tills k_tills
  have b_tills := F_tills.binds (ps := ["row"]) fun _ _ _ _ _ _ us hl => match us, hl with | [_], _ => rfl
  have F_times := fun_mk (st := sTimes) l_times c_times k_times
  have b_times := F_times.binds (ps := ["course", "place"]) fun _ _ _ _ _ _ us hl => match us, hl with | [_, _], _ => rfl
  have F_known := fun_mk (st := sKnown) l_known c_known k_known
  have b_known := F_known.binds (ps := ["ring", "faces"]) fun _ _ _ _ _ _ us hl => match us, hl with | [_, _], _ => rfl
  have F_rows := fun_mk (st := sRows) l_rows c_rows k_rows
  have b_rows := F_rows.binds (ps := ["count"]) fun _ _ _ _ _ _ us hl => match us, hl with | [_], _ => rfl
  have F_may := fun_mk (st := sMay) l_may c_may k_may
  have b_may := F_may.binds (ps := ["ring", "faces"]) fun _ _ _ _ _ _ us hl => match us, hl with | [_, _], _ => rfl
  have F_cl := fun_mk (st := sCL) l_cl c_cl k_cl
  have b_cl := F_cl.binds (ps := ["calls", "start"]) fun _ _ _ _ _ _ us hl => match us, hl with | [_, _], _ => rfl
  have F_an := fun_mk (st := sAn) l_an c_an k_an
  have b_an := F_an.binds (ps := ["recruits", "call"]) fun _ _ _ _ _ _ us hl => match us, hl with | [_, _], _ => rfl
  have F_ans := fun_mk (st := sAns) l_ans c_ans k_ans
  have b_ans := F_ans.binds (ps := ["calls"]) fun _ _ _ _ _ _ us hl => match us, hl with | [_], _ => rfl
  have cl : Cls K C := ⟨pg, hd, po, sa⟩
  refine ⟨PySem.W.fnOf "answers" "answers" (defArgs sAns) (defBody sAns) (defScope sAns) .none kV_ans dc_ans pm_ans an_ans cd_ans ct_ans, fun s us hu => match us, hu with | [_], _ => .of_eq rfl, fun base _ _ => ?_⟩
  have T : Txt mg := ⟨PySem.W.mg_none_of X G z_len, PySem.W.mg_none_of X G z_range, PySem.W.mg_none_of X G z_list, PySem.W.mg_none_of X G z_all⟩
  have TM : TxtM mg := ⟨T, ⟨_, PySem.W.mg_of X G g_fring⟩, ⟨_, PySem.W.mg_of X G g_frow⟩, ⟨_, PySem.W.mg_of X G g_most⟩⟩
  have TR : TxtR mg := ⟨TM, ⟨_, PySem.W.mg_of X G g_cannot⟩, ⟨_, PySem.W.mg_of X G g_nosuch⟩, ⟨_, PySem.W.mg_of X G g_toomuch⟩, ⟨_, PySem.W.mg_of X G g_mosts⟩⟩
  have TS : TxtS mg := ⟨TR, PySem.W.mg_none_of X G z_sum, PySem.W.mg_none_of X G z_abs, PySem.W.mg_none_of X G z_max, ⟨_, PySem.W.mg_of X G g_nevr⟩, ⟨_, PySem.W.mg_of X G g_nolong⟩, ⟨_, PySem.W.mg_of X G g_flong⟩, ⟨_, PySem.W.mg_of X G g_mlong⟩⟩
  have TA : TxtA mg := ⟨⟨_, PySem.W.mg_of X G g_c0⟩, ⟨_, PySem.W.mg_of X G g_c1⟩, ⟨_, PySem.W.mg_of X G g_c2⟩, ⟨_, PySem.W.mg_of X G g_c3⟩, ⟨_, PySem.W.mg_of X G g_c4⟩⟩
  have TT : TxtT mg := ⟨TA, ⟨_, PySem.W.mg_of X G g_c5⟩, ⟨_, PySem.W.mg_of X G g_c6⟩, ⟨_, PySem.W.mg_of X G g_c7⟩, ⟨_, PySem.W.mg_of X G g_c8⟩, ⟨_, PySem.W.mg_of X G g_c9⟩⟩
  have TC : Cl K C := ⟨cl, n_ring, n_faces⟩
  have UR : Use P w K mg base 1 "right_neighbour" ["faces", "place"] (spRight K) := ⟨_, _, ok_right F_right T, b_right, PySem.W.mg_of X G a_right, k_right⟩
  have UP : Use P w K mg base 2 "pairs" ["ring", "faces"] (spPairs K) := ⟨_, _, ok_pairs F_pairs T UR, b_pairs, PySem.W.mg_of X G a_pairs, k_pairs⟩
  have US : Use P w K mg base 3 "behind_a_second" ["ring", "faces"] (spSec K) := ⟨_, _, ok_sec F_sec T UR UP, b_sec, PySem.W.mg_of X G a_sec, k_sec⟩
  have USS : Use P w K mg base 4 "behind_seconds" ["ring", "faces", "seconds"] (spSecs K) := ⟨_, _, ok_secs F_secs T US, b_secs, PySem.W.mg_of X G a_secs, k_secs⟩
  have UA : Use P w K mg base 3 "at_rest" ["ring", "faces"] (spRest K) := ⟨_, _, ok_rest F_rest T UP, b_rest, PySem.W.mg_of X G a_rest, k_rest⟩
  have UN : Use P w K mg base 4 "never_at_rest" ["ring", "faces"] (spNever K) := ⟨_, _, ok_never F_never T UA, b_never, PySem.W.mg_of X G a_never, k_never⟩
  have UT : Use P w K mg base 4 "till_rest" ["ring", "faces"] (spTill K) := ⟨_, _, ok_till F_till T UA US, b_till, PySem.W.mg_of X G a_till, k_till⟩
  have UTS : Use P w K mg base 5 "seconds_till_rest" ["row"] (spTillS K) := ⟨_, _, ok_tillS F_tills T UT, b_tills, PySem.W.mg_of X G a_tills, k_tills⟩
  have UTT : Use P w K mg base 1 "turned_times" ["course", "place"] (spTimes K) := ⟨_, _, ok_times F_times TS, b_times, PySem.W.mg_of X G a_times, k_times⟩
  have UK : Use P w K mg base 4 "till_known" ["ring", "faces"] (spKnown K) := ⟨_, _, ok_known F_known T US, b_known, PySem.W.mg_of X G a_known, k_known⟩
  have UW : Use P w K mg base 1 "rows_of" ["count"] spRows := ⟨_, _, ok_rows F_rows T, b_rows, PySem.W.mg_of X G a_rows, k_rows⟩
  have UM : Use P w K mg base 1 "may_stand" ["ring", "faces"] (spMay K) := ⟨_, _, ok_may F_may TM, b_may, PySem.W.mg_of X G a_may, k_may⟩
  have M0 : UseM P w K mg base 3 C "stand" ["self", "ring", "faces"] (spStand C K) := ⟨_, _, ok_stand F_stand TR TC UM UP, b_stand, ⟨a_stand, i_stand, k_stand⟩⟩
  have M1 : UseM P w K mg base 4 C "second" ["self"] (spOne C .second) := ⟨_, _, ok_second F_second TR TC US UP, b_second, ⟨a_second, i_second, k_second⟩⟩
  have M2 : UseM P w K mg base 3 C "turn" ["self", "place"] (spTwo C .turn) := ⟨_, _, ok_turn F_turn TR TC UP, b_turn, ⟨a_turn, i_turn, k_turn⟩⟩
  have M3 : UseM P w K mg base 1 C "shows" ["self"] (spOne C .shows) := ⟨_, _, ok_shows F_shows TR TC, b_shows, ⟨a_shows, i_shows, k_shows⟩⟩
  have M4 : UseM P w K mg base 5 C "later" ["self", "seconds"] (spTwo C .later) := ⟨_, _, ok_later F_later TR TC USS UP, b_later, ⟨a_later, i_later, k_later⟩⟩
  have M5 : UseM P w K mg base 5 C "rests" ["self"] (spOne C .rests) := ⟨_, _, ok_rests F_rests TS TC UN UT, b_rests, ⟨a_rests, i_rests, k_rests⟩⟩
  have M6 : UseM P w K mg base 5 C "turns" ["self"] (spOne C .turns) := ⟨_, _, ok_turns F_turns TS TC UN UT UTT, b_turns, ⟨a_turns, i_turns, k_turns⟩⟩
  have M7 : UseM P w K mg base 5 C "comes_round" ["self"] (spOne C .round) := ⟨_, _, ok_round F_round TS TC UK US UP, b_round, ⟨a_round, i_round, k_round⟩⟩
  have M8 : UseM P w K mg base 4 C "before" ["self"] (spOne C .before) := ⟨_, _, ok_before F_before TS TC UW US, b_before, ⟨a_before, i_before, k_before⟩⟩
  have M9 : UseM P w K mg base 6 C "longest" ["self", "count"] (spTwo C .longest) := ⟨_, _, ok_longest F_longest TS TC UW UTS, b_longest, ⟨a_longest, i_longest, k_longest⟩⟩
  have UCL : Use P w K mg base 20 "call_length" ["calls", "start"] (spCL K) := ⟨_, _, ok_cl F_cl TT, b_cl, PySem.W.mg_of X G a_cl, k_cl⟩
  have UAN : Use P w K mg base 20 "answer" ["recruits", "call"] (spAn K C) := ⟨_, _, ok_answer F_an TT cl M0 M1 M2 M3 M4 M5 M6 M7 M8 M9, b_an, PySem.W.mg_of X G a_an, k_an⟩
  exact ok_answers F_ans T (PySem.W.mg_of X G aC) ⟨mk, a_init, i_init, kc⟩ (ok_init F_init TC) b_init UCL UAN
end Rec
open PySem PySem.W PyProof.Rows
set_option maxRecDepth 100000 in
set_option maxHeartbeats 0 in
theorem PySem.Challenge.cw_turnabout_s01_answers_holds : PySem.Challenge.rw_turnabout_s01_answers.Holds := by
  w_on; k_headS; (case hw => exact ⟨[.list [.int 3]], by decide +kernel, by decide +kernel⟩)
  k_fillS
  refine L2.walk_specK (r := PySem.Challenge.rw_turnabout_s01_answers) (k := 21) (CX := L2.CX0) (ps := ["calls"]) (sp := Rec.spAns) (by decide +kernel) rfl rfl ⟨rfl, by decide, by decide⟩ (fun w h Y => PySem.W.kIn_of Y) ?F ?S (fun _ _ _ _ z => z)
  case F =>
    intro w mg fa h Y KX G hmg
    refine' Rec.all_mk KX G hmg ?aC ?a_init ?i_init ?l_init ?c_init ?k_init ?a_stand ?i_stand ?l_stand ?c_stand ?k_stand ?a_second ?i_second ?l_second ?c_second ?k_second ?a_turn ?i_turn ?l_turn ?c_turn ?k_turn ?a_shows ?i_shows ?l_shows ?c_shows ?k_shows ?a_later ?i_later ?l_later ?c_later ?k_later ?a_rests ?i_rests ?l_rests ?c_rests ?k_rests ?a_turns ?i_turns ?l_turns ?c_turns ?k_turns ?a_round ?i_round ?l_round ?c_round ?k_round ?a_before ?i_before ?l_before ?c_before ?k_before ?a_longest ?i_longest ?l_longest ?c_longest ?k_longest ?a_right ?l_right ?c_right ?k_right ?a_pairs ?l_pairs ?c_pairs ?k_pairs ?a_sec ?l_sec ?c_sec ?k_sec ?a_secs ?l_secs ?c_secs ?k_secs ?a_rest ?l_rest ?c_rest ?k_rest ?a_never ?l_never ?c_never ?k_never ?a_till ?l_till ?c_till ?k_till ?a_tills ?l_tills ?c_tills ?k_tills ?a_times ?l_times ?c_times ?k_times ?a_known ?l_known ?c_known ?k_known ?a_rows ?l_rows ?c_rows ?k_rows ?a_may ?l_may ?c_may ?k_may ?a_cl ?l_cl ?c_cl ?k_cl ?a_an ?l_an ?c_an ?k_an ?a_ans ?l_ans ?c_ans ?k_ans ?g_c0 ?g_c1 ?g_c2 ?g_c3 ?g_c4 ?g_c5 ?g_c6 ?g_c7 ?g_c8 ?g_c9 ?g_most ?g_frow ?g_fring ?g_mosts ?g_flong ?g_mlong ?g_cannot ?g_nosuch ?g_toomuch ?g_nevr ?g_nolong ?z_len ?z_range ?z_list ?z_all ?z_sum ?z_abs ?z_max ?pg ?hd ?po ?sa ?mk ?kc ?n_ring ?n_faces
    (case aC => k_is)
    (case a_init => k_is)
    (case i_init => k_is)
    (case l_init => k_is)
    (case c_init => k_is)
    (case k_init => k_is)
    (case a_stand => k_is)
    (case i_stand => k_is)
    (case l_stand => k_is)
    (case c_stand => k_is)
    (case k_stand => k_is)
    (case a_second => k_is)
    (case i_second => k_is)
    (case l_second => k_is)
    (case c_second => k_is)
    (case k_second => k_is)
    (case a_turn => k_is)
    (case i_turn => k_is)
    (case l_turn => k_is)
    (case c_turn => k_is)
    (case k_turn => k_is)
    (case a_shows => k_is)
    (case i_shows => k_is)
    (case l_shows => k_is)
    (case c_shows => k_is)
    (case k_shows => k_is)
    (case a_later => k_is)
    (case i_later => k_is)
    (case l_later => k_is)
    (case c_later => k_is)
    (case k_later => k_is)
    (case a_rests => k_is)
    (case i_rests => k_is)
    (case l_rests => k_is)
    (case c_rests => k_is)
    (case k_rests => k_is)
    (case a_turns => k_is)
    (case i_turns => k_is)
    (case l_turns => k_is)
    (case c_turns => k_is)
    (case k_turns => k_is)
    (case a_round => k_is)
    (case i_round => k_is)
    (case l_round => k_is)
    (case c_round => k_is)
    (case k_round => k_is)
    (case a_before => k_is)
    (case i_before => k_is)
    (case l_before => k_is)
    (case c_before => k_is)
    (case k_before => k_is)
    (case a_longest => k_is)
    (case i_longest => k_is)
    (case l_longest => k_is)
    (case c_longest => k_is)
    (case k_longest => k_is)
    (case a_right => k_is)
    (case l_right => k_is)
    (case c_right => k_is)
    (case k_right => k_is)
    (case a_pairs => k_is)
    (case l_pairs => k_is)
    (case c_pairs => k_is)
    (case k_pairs => k_is)
    (case a_sec => k_is)
    (case l_sec => k_is)
    (case c_sec => k_is)
    (case k_sec => k_is)
    (case a_secs => k_is)
    (case l_secs => k_is)
    (case c_secs => k_is)
    (case k_secs => k_is)
    (case a_rest => k_is)
    (case l_rest => k_is)
    (case c_rest => k_is)
    (case k_rest => k_is)
    (case a_never => k_is)
    (case l_never => k_is)
    (case c_never => k_is)
    (case k_never => k_is)
    (case a_till => k_is)
    (case l_till => k_is)
    (case c_till => k_is)
    (case k_till => k_is)
    (case a_tills => k_is)
    (case l_tills => k_is)
    (case c_tills => k_is)
    (case k_tills => k_is)
    (case a_times => k_is)
    (case l_times => k_is)
    (case c_times => k_is)
    (case k_times => k_is)
    (case a_known => k_is)
    (case l_known => k_is)
    (case c_known => k_is)
    (case k_known => k_is)
    (case a_rows => k_is)
    (case l_rows => k_is)
    (case c_rows => k_is)
    (case k_rows => k_is)
    (case a_may => k_is)
    (case l_may => k_is)
    (case c_may => k_is)
    (case k_may => k_is)
    (case a_cl => k_is)
    (case l_cl => k_is)
    (case c_cl => k_is)
    (case k_cl => k_is)
    (case a_an => k_is)
    (case l_an => k_is)
    (case c_an => k_is)
    (case k_an => k_is)
    (case a_ans => k_is)
    (case l_ans => k_is)
    (case c_ans => k_is)
    (case k_ans => k_is)
    (case g_c0 => k_is)
    (case g_c1 => k_is)
    (case g_c2 => k_is)
    (case g_c3 => k_is)
    (case g_c4 => k_is)
    (case g_c5 => k_is)
    (case g_c6 => k_is)
    (case g_c7 => k_is)
    (case g_c8 => k_is)
    (case g_c9 => k_is)
    (case g_most => k_is)
    (case g_frow => k_is)
    (case g_fring => k_is)
    (case g_mosts => k_is)
    (case g_flong => k_is)
    (case g_mlong => k_is)
    (case g_cannot => k_is)
    (case g_nosuch => k_is)
    (case g_toomuch => k_is)
    (case g_nevr => k_is)
    (case g_nolong => k_is)
    (case z_len => k_is)
    (case z_range => k_is)
    (case z_list => k_is)
    (case z_all => k_is)
    (case z_sum => k_is)
    (case z_abs => k_is)
    (case z_max => k_is)
    (case pg => k_is)
    (case hd => k_is)
    (case po => k_is)
    (case sa => k_is)
    (case mk => k_is)
    (case kc => k_is)
    (case n_ring => k_is)
    (case n_faces => k_is)
  case S =>
    intro K H xs a hO hwi hask hx
    cases hx with
    | cons h1 h2 =>
      cases h2
      cases h1 with
      | lst hs ha =>
        have e := L2.ints_dw a.1 _ ha
        subst e
        exact ⟨_, a.1, rfl, hs, hask, fun H' p hp => .lst (L2.SqL.of hp) (L2.dw_ints _)⟩



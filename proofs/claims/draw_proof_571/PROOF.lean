import PyProof.Rows.All
import Wide.All
import OpenK.AllK
import Wide.FinOn
import PyProof.EqAt
import PyProof.EqKinds
import PyProof.TupleCall
import KE.BitLaws
import OpenK.KOwn
import KE.OsGo
import Open.SpecLaws
import PySem.Challenge.RW_tintfile_s03_draw
-- CHANGE: your row's module here, as the last of these rows
set_option Elab.async false
set_option linter.all false
set_option maxRecDepth 100000
/-! THE HAND LAYER, for ints, bools, texts, own classes, lists, tuples, dicts, comprehensions, walks over dicts, enumerate, zip, reversed, texts, calls, loops. Paste it whole ahead of your own text; what your proof does not reach may be deleted. -/
namespace L2
open PySem PySem.Spec PyProof.Rows

/-- a key: an int or a str -/
abbrev Key := Sum Int Str
def keyIs : Key → Value → Bool
  | .inl k, v => Value.isInt k v
  | .inr x, v => Value.isStrOf x v
def keyH (w : World) : Key → Int
  | .inl k => hashInt k
  | .inr x => hashStr w x
theorem keyIs_shape : ∀ {k : Key} {v : Value}, keyIs k v = true → (∃ i t, k = Sum.inl i ∧ v = Value.int i t) ∨ (∃ x t, k = Sum.inr x ∧ v = Value.str x t)
  | .inl i, v, h => by
    obtain ⟨t, e⟩ := Value.isInt_shape (k := i) (v := v) h
    exact .inl ⟨i, t, rfl, e⟩
  | .inr x, v, h => by
    obtain ⟨t, e⟩ := Value.isStrOf_shape (x := x) (v := v) h
    exact .inr ⟨x, t, rfl, e⟩
theorem key_ll (a b : Int) : decide ((Sum.inl a : Key) = Sum.inl b) = (a == b) := by
  by_cases e : a = b
  · subst e; simp
  · have h : ¬ (Sum.inl a : Key) = Sum.inl b := fun q => e (Sum.inl.inj q)
    rw [decide_eq_false h]
    exact (beq_eq_false_iff_ne.mpr e).symm
theorem key_rr (a b : Str) : decide ((Sum.inr a : Key) = Sum.inr b) = decide (a = b) := by
  by_cases e : a = b
  · subst e; simp
  · have h : ¬ (Sum.inr a : Key) = Sum.inr b := fun q => e (Sum.inr.inj q)
    rw [decide_eq_false h, decide_eq_false e]
theorem key_lr (a : Int) (b : Str) : decide ((Sum.inl a : Key) = Sum.inr b) = false := decide_eq_false (fun q => nomatch q)
theorem key_rl (a : Str) (b : Int) : decide ((Sum.inr a : Key) = Sum.inl b) = false := decide_eq_false (fun q => nomatch q)

def mixKind (prog : Program) (w : World) : PySem.KeyKind prog w Key where
  is := keyIs
  hash := keyH w
  inj := fun v a b ha hb => by
    rcases keyIs_shape ha with ⟨i, t, rfl, rfl⟩ | ⟨x, t, rfl, rfl⟩
    · rcases keyIs_shape hb with ⟨j, u, rfl, e⟩ | ⟨y, u, rfl, e⟩
      · injection e with e1 _; rw [e1]
      · exact nomatch e
    · rcases keyIs_shape hb with ⟨j, u, rfl, e⟩ | ⟨y, u, rfl, e⟩
      · exact nomatch e
      · injection e with e1 _; rw [e1]
  byValue := fun k v h => by
    rcases keyIs_shape h with ⟨i, t, rfl, rfl⟩ | ⟨x, t, rfl, rfl⟩ <;> rfl
  pyHash := fun hv h => by
    rcases keyIs_shape hv with ⟨i, t, rfl, rfl⟩ | ⟨x, t, rfl, rfl⟩
    · exact wpAny_pyHash_int h
    · exact wpAny_pyHash_str h
  eqBool := fun hu hv h => by
    rcases keyIs_shape hu with ⟨i, t, rfl, rfl⟩ | ⟨x, t, rfl, rfl⟩
    · rcases keyIs_shape hv with ⟨j, u, rfl, rfl⟩ | ⟨y, u, rfl, rfl⟩
      · rw [key_ll] at h; exact wpAny_eqBool_int h
      · rw [key_lr] at h; exact SeqAt.EqAt.int_str i t y u _ _ _ _ h
    · rcases keyIs_shape hv with ⟨j, u, rfl, rfl⟩ | ⟨y, u, rfl, rfl⟩
      · rw [key_rl] at h; exact SeqAt.EqAt.str_int x t j u _ _ _ _ h
      · rw [key_rr] at h; exact wpAny_eqBool_str h
  «strs» := fun k x t v h => by
    rcases keyIs_shape h with ⟨i, u, rfl, e⟩ | ⟨y, u, rfl, e⟩
    · exact nomatch e
    · injection e with e1 _
      subst e1
      cases v <;> rfl

end L2

namespace L2
open PySem PySem.Spec PyProof.Rows

/-- a value, without the heap -/
inductive V where
  | non | bl (b : Bool) | int (i : Int) | str (x : Str) | byt (b : Array UInt8) | flt (b : UInt64) | ref (a : Addr) | ty (n : String)
  deriving DecidableEq

def RelV : V → Value → Prop
  | .non, u => u = Value.none
  | .bl b, u => u = Value.bool b
  | .int i, u => ∃ t, u = Value.int i t
  | .str x, u => ∃ t, u = Value.str x t
  | .byt b, u => ∃ t, u = Value.bytes b t
  | .flt b, u => ∃ t, u = Value.float b t
  | .ref a, u => u = Value.ref a
  | .ty n, u => u = Value.type n

abbrev Vals : List V → List Value → Prop := Paired RelV
theorem Vals.length {xs : List V} {us : List Value} (r : Vals xs us) : xs.length = us.length := Paired.length r
theorem Vals.get : ∀ {xs : List V} {us : List Value} {i : Nat} {x : V}, Vals xs us → xs[i]? = some x → ∃ u, us[i]? = some u ∧ RelV x u
  | _, _, _, _, .nil, e => by simp at e
  | _, _, 0, _, .cons r _, e => by simp at e; subst e; exact ⟨_, rfl, r⟩
  | _, _, i + 1, x, .cons _ t, e => by
    obtain ⟨u, h1, h2⟩ := Vals.get (i := i) (x := x) t (by simpa using e)
    exact ⟨u, by simpa using h1, h2⟩
theorem Vals.set {x : V} {u : Value} (r : RelV x u) : ∀ {xs : List V} {us : List Value} (i : Nat), Vals xs us → Vals (xs.set i x) (us.set i u)
  | _, _, _, .nil => .nil
  | _, _, 0, .cons _ t => .cons r t
  | _, _, i + 1, .cons q t => .cons q (Vals.set r i t)
theorem Vals.append : ∀ {xs ys : List V} {us ws : List Value}, Vals xs us → Vals ys ws → Vals (xs ++ ys) (us ++ ws)
  | _, _, _, _, .nil, s => s
  | _, _, _, _, .cons r t, s => .cons r (Vals.append t s)
theorem Vals.take : ∀ {xs : List V} {us : List Value} (n : Nat), Vals xs us → Vals (xs.take n) (us.take n)
  | _, _, 0, _ => .nil
  | _, _, _ + 1, .nil => .nil
  | _, _, n + 1, .cons r t => .cons r (Vals.take n t)
theorem Vals.drop : ∀ {xs : List V} {us : List Value} (n : Nat), Vals xs us → Vals (xs.drop n) (us.drop n)
  | _, _, 0, r => r
  | _, _, _ + 1, .nil => .nil
  | _, _, n + 1, .cons _ t => Vals.drop n t
theorem Vals.none_of : ∀ {xs : List V} {us : List Value} {i : Nat}, Vals xs us → xs[i]? = none → us[i]? = none := fun {xs us i} r e => by
  have h1 := r.length
  have h2 : xs.length ≤ i := List.getElem?_eq_none_iff.mp e
  exact List.getElem?_eq_none_iff.mpr (by omega)

def RelO : Option V → Option Value → Prop
  | some v, some u => RelV v u
  | none, none => True
  | _, _ => False
def KV {κ : Type} : List (κ × V) → List (κ × Value) → Prop := Paired fun (p : κ × V) (q : κ × Value) => p.1 = q.1 ∧ RelV p.2 q.2

/-- a key of a dict (00_mix): an int or a text -/
def kV : Key → V
  | .inl i => .int i
  | .inr x => .str x

/-- what stands at a tracked address -/
inductive HO where
  /-- a list -/
  | lst (xs : List V)
  /-- a tuple (never changes) -/
  | tup (xs : List V)
  /-- a dict whose keys are ints and texts; one whose keys are tuples of ints and texts (the empty one is both) -/
  | dK (kvs : List (Key × V)) | dT (kvs : List (List Key × V))
  /-- a set of ints: its members, its size -/
  | set (S : Int → Bool) (n : Nat)
  /-- an instance of the class at C, its dict at dx, its attributes -/
  | ins (C dx : Addr) (fs : List (Str × V))
  /-- the dict of the instance at x -/
  | own (x : Addr)
  /-- the dict of an exception -/
  | xd (fs : List (Str × V))
  /-- a bound method, f of x -/
  | met (f x : Addr)
  /-- a range object lo, lo + 1, .. below hi -/
  | rng (lo hi : Int)
  /-- a thing that is known to the object (the script; a dict while a loop walks it): read, never written while it is so -/
  | frz (o : Obj) (u : HO)
  /-- a code object's table -/
  | tbl (ps : Array Value)
  /-- any other thing, by what is true of its one object (a def of one's own: SetO a S n := HO.ext fun h => ..) -/
  | ext (φ : Heap → Prop)

abbrev Hp := Addr → Option HO
def upd (H : Hp) (a : Addr) (o : HO) : Hp := fun b => if b = a then some o else H b
theorem upd_same {H : Hp} {a : Addr} {o : HO} : upd H a o a = some o := by unfold upd; rw [if_pos rfl]
theorem upd_ne {H : Hp} {a b : Addr} {o : HO} (h : b ≠ a) : upd H a o b = H b := by unfold upd; rw [if_neg h]
/-- two objects of different content stand apart -/
theorem ne_of {H : Hp} {a b : Addr} {o u : HO} (h : H a = some o) (h' : H b = some u) (d : o ≠ u) : a ≠ b := by
  intro e; subst e; rw [h] at h'; exact d (Option.some.inj h')
theorem ne_of_none {H : Hp} {a b : Addr} {o : HO} (h : H a = some o) (h' : H b = none) : a ≠ b := by
  intro e; subst e; rw [h] at h'; cases h'

section
variable (P : Program) (w : World)
def ObjOk (H : Hp) (h : Heap) (a : Addr) : HO → Prop
  | .lst xs => xs.length ≤ sizeLine ∧ ∃ (its : List Value) (n : Nat), Vals xs its ∧ h.get? a = some { cls := .type "list", data := .seq its.toArray n }
  | .tup xs => xs.length ≤ sizeLine ∧ ∃ its : List Value, Vals xs its ∧ IsTup h a its.toArray
  | .dK kvs => kvs.length ≤ sizeLine ∧ (a == sysModules) = false ∧ ∃ vs, KV kvs vs ∧ h.DictOf (mixKind P w) a vs
  | .dT kvs => kvs.length ≤ sizeLine ∧ (a == sysModules) = false ∧ ∃ xs : List (List Key × Addr × Value),
      Paired (fun (p : List Key × V) (q : List Key × Addr × Value) => p.1 = q.1 ∧ H q.2.1 = some (.tup (p.1.map kV)) ∧ RelV p.2 q.2.2) kvs xs ∧
      ∃ o es ep, h.get? a = some o ∧ o.ExactDict ∧ o.data = .dict es ep ∧ es.toList = xs.map (entryOfKey (tupleKind (mixKind P w))) ∧ (xs.map (·.1)).Nodup
  | .set S n => h.SetOf (intKind P w) a S n
  | .ins C dx fs => H dx = some (.own a) ∧ fs.length ≤ 1000 ∧ dx ≠ a ∧ h.get? a = some (PySem.W.instObj C dx) ∧
      ∃ mA, h.Ns1 dx mA ∧ (∀ f, RelO (fs.lookup f) (mA f)) ∧ PySem.Within mA (fs.map (·.1))
  | .own _ => ∃ o, h.get? a = some o
  | .xd fs => ∃ mA, h.Ns1 a mA ∧ ∀ f, RelO (fs.lookup f) (mA f)
  | .rng lo hi => ∃ t u v, h.get? a = some { cls := .type "range", data := .fields #[.int lo t, .int hi u, .int 1 v] }
  | .frz o u => h.get? a = some o ∧ ObjOk H h a u
  | .tbl ps => h.get? a = some { cls := .none, data := .fields ps }
  | .met f x => h.get? a = some (PySem.W.methodObj (.ref f) (.ref x))
  | .ext φ => φ h ∧ (∃ o, h.get? a = some o) ∧ ∀ h1 h2 : Heap, φ h1 → (∀ o, h1.get? a = some o → h2.get? a = some o) → φ h2
/-- the abstract heap is held -/
def HOk (H : Hp) (h : Heap) : Prop := ∀ a o, H a = some o → ObjOk P w H h a o
end

section
variable {P : Program} {w : World} {H H' : Hp} {h h' : Heap} {a : Addr} {o : HO}
theorem ObjOk.lt (x : ObjOk P w H h a o) : a < h.objs.size := by
  cases o with
  | lst xs => obtain ⟨_, _, _, _, e⟩ := x; exact Heap.lt_size e
  | tup xs => obtain ⟨_, _, _, p⟩ := x; exact p.lt
  | dK kvs => obtain ⟨_, _, _, _, o, _, _, e, _⟩ := x; exact Heap.lt_size e
  | dT kvs => obtain ⟨_, _, _, _, o, _, _, e, _⟩ := x; exact Heap.lt_size e
  | set S n => obtain ⟨o, _, _, _, e, _⟩ := x; exact Heap.lt_size e
  | ins C dx fs => obtain ⟨_, _, _, e, _⟩ := x; exact Heap.lt_size e
  | own y => obtain ⟨_, e⟩ := x; exact Heap.lt_size e
  | xd fs => obtain ⟨_, ⟨_, _, _, e, _⟩, _⟩ := x; exact Heap.lt_size e
  | rng lo hi => obtain ⟨_, _, _, e⟩ := x; exact Heap.lt_size e
  | frz ob u => obtain ⟨e, _⟩ := x; exact Heap.lt_size e
  | tbl ps => exact Heap.lt_size (show h.get? a = some _ from x)
  | met f y => exact Heap.lt_size (show h.get? a = some _ from x)
  | ext φ => obtain ⟨_, ⟨_, e⟩, _⟩ := x; exact Heap.lt_size e
theorem Paired.mapP {α β : Type} {F G : α → β → Prop} : ∀ {l₁ : List α} {l₂ : List β}, Paired F l₁ l₂ → (∀ a b, F a b → G a b) → Paired G l₁ l₂
  | _, _, .nil, _ => .nil
  | _, _, .cons r t, f => .cons (f _ _ r) (Paired.mapP t f)
/-- what an object's description leans on: its own object, its own dict, the tuples -/
theorem ObjOk.stay (x : ObjOk P w H h a o) (k : ∀ b u, (b = a ∨ H b = some (.own a)) → h.get? b = some u → h'.get? b = some u)
    (ho : ∀ b, H b = some (.own a) → H' b = some (.own a)) (ht : ∀ b xs, H b = some (.tup xs) → H' b = some (.tup xs)) : ObjOk P w H' h' a o := by
  induction o with
  | lst xs => obtain ⟨z, its, n, r, e⟩ := x; exact ⟨z, its, n, r, k _ _ (.inl rfl) e⟩
  | tup xs => obtain ⟨z, its, r, ob, e, c⟩ := x; exact ⟨z, its, r, ob, k _ _ (.inl rfl) e, c⟩
  | dK kvs => obtain ⟨z, y, vs, r, ob, es, ep, e, c⟩ := x; exact ⟨z, y, vs, r, ob, es, ep, k _ _ (.inl rfl) e, c⟩
  | dT kvs =>
    obtain ⟨z, y, xs, r, ob, es, ep, e, c⟩ := x
    exact ⟨z, y, xs, Paired.mapP r fun p q z => ⟨z.1, ht _ _ z.2.1, z.2.2⟩, ob, es, ep, k _ _ (.inl rfl) e, c⟩
  | set S n => obtain ⟨ob, es, ep, t, e, c⟩ := x; exact ⟨ob, es, ep, t, k _ _ (.inl rfl) e, c⟩
  | ins C dx fs =>
    obtain ⟨d, z, ne, e, mA, ⟨od, es, ep, e2, c⟩, r⟩ := x
    exact ⟨ho _ d, z, ne, k _ _ (.inl rfl) e, mA, ⟨od, es, ep, k _ _ (.inr d) e2, c⟩, r⟩
  | own y => obtain ⟨ob, e⟩ := x; exact ⟨ob, k _ _ (.inl rfl) e⟩
  | xd fs => obtain ⟨mA, ⟨od, es, ep, e, c⟩, r⟩ := x; exact ⟨mA, ⟨od, es, ep, k _ _ (.inl rfl) e, c⟩, r⟩
  | rng lo hi => obtain ⟨t, u, v, e⟩ := x; exact ⟨t, u, v, k _ _ (.inl rfl) e⟩
  | frz ob u ih => obtain ⟨e, q⟩ := x; exact ⟨k _ _ (.inl rfl) e, ih q⟩
  | tbl ps =>
    have e : h.get? a = some { cls := .none, data := .fields ps } := x
    show h'.get? a = some { cls := .none, data := .fields ps }
    exact k a _ (.inl rfl) e
  | met f y =>
    have e : h.get? a = some (PySem.W.methodObj (.ref f) (.ref y)) := x
    show h'.get? a = some (PySem.W.methodObj (.ref f) (.ref y))
    exact k a _ (.inl rfl) e
  | ext φ => obtain ⟨p, ⟨o, e⟩, st⟩ := x; exact ⟨st _ _ p fun o q => k _ _ (.inl rfl) q, ⟨o, k _ _ (.inl rfl) e⟩, st⟩
theorem HOk.lt (x : HOk P w H h) (e : H a = some o) : a < h.objs.size := (x a o e).lt
theorem HOk.fresh (x : HOk P w H h) (e : h.objs.size ≤ a) : H a = none := by
  cases q : H a with
  | none => rfl
  | some u => exact absurd (Nat.lt_of_lt_of_le (x.lt q) e) (Nat.lt_irrefl _)
/-- every object of the heap is kept -/
theorem HOk.kept (x : HOk P w H h) (k : ∀ b u, h.get? b = some u → h'.get? b = some u) : HOk P w H h' := fun a o e =>
  (x a o e).stay (fun b u _ q => k b u q) (fun _ q => q) fun _ _ q => q
/-- a new object is laid and tracked -/
theorem HOk.laid (x : HOk P w H h) (k : ∀ b u, h.get? b = some u → h'.get? b = some u) (hp : h.objs.size ≤ a) (new : ObjOk P w (upd H a o) h' a o) : HOk P w (upd H a o) h' := fun b u e => by
  have hn := x.fresh hp
  by_cases hb : b = a
  · subst hb; rw [upd_same] at e; cases e; exact new
  · rw [upd_ne hb] at e
    exact (x b u e).stay (fun c v _ q => k c v q) (fun c q => by rw [upd_ne (ne_of_none q hn)]; exact q) fun c xs q => by rw [upd_ne (ne_of_none q hn)]; exact q
end

/-- what may be read as u: it is u, or a known u -/
def Rd (H : Hp) (a : Addr) (u : HO) : Prop := H a = some u ∨ ∃ o, H a = some (.frz o u)
theorem Rd.of {H : Hp} {a : Addr} {u : HO} (h : H a = some u) : Rd H a u := .inl h
theorem Rd.ok {P : Program} {w : World} {H : Hp} {h : Heap} {a : Addr} {u : HO} (r : Rd H a u) (x : HOk P w H h) : ObjOk P w H h a u := by
  rcases r with r | ⟨o, r⟩
  · exact x a u r
  · obtain ⟨_, q⟩ := x a _ r
    exact q
/-- what may be written -/
def Mut : Option HO → Prop
  | some (.lst _) => True
  | some (.dK _) => True
  | some (.dT _) => True
  | some (.set _ _) => True
  | some (.ins _ _ _) => True
  | some (.ext _) => True
  | _ => False
section
variable {P : Program} {w : World} {H : Hp} {h h' : Heap} {x e : Addr} {o' : HO}
/-- the object at e is changed: x itself, or the dict of the instance x -/
theorem HOk.write (ok : HOk P w H h) (mu : Mut (H x)) (he : e = x ∨ H e = some (.own x)) (k : ∀ b u, b ≠ e → h.get? b = some u → h'.get? b = some u) (heo : ∃ u, h'.get? e = some u)
    (new : ObjOk P w (upd H x o') h' x o') : HOk P w (upd H x o') h' := fun b u q => by
  have nown : ∀ c y, H c = some (.own y) → c ≠ x := fun c y r z => by subst z; rw [r] at mu; exact mu
  have ntup : ∀ c xs, H c = some (.tup xs) → c ≠ x := fun c xs r z => by subst z; rw [r] at mu; exact mu
  by_cases hb : b = x
  · subst hb; rw [upd_same] at q; cases q; exact new
  · rw [upd_ne hb] at q
    by_cases hbe : b = e
    · have q' : H b = some (.own x) := by
        rcases he with z | z
        · exact absurd (hbe.trans z) hb
        · rw [hbe]; exact z
      rw [q] at q'; cases q'
      obtain ⟨v, hv⟩ := heo
      exact ⟨v, by rw [hbe]; exact hv⟩
    · refine (ok b u q).stay (fun c v hc r => k c v ?_ r) (fun c r => by rw [upd_ne (nown c b r)]; exact r) fun c xs r => by rw [upd_ne (ntup c xs r)]; exact r
      rcases hc with rfl | hc
      · exact hbe
      · rintro rfl
        rcases he with z | z
        · exact nown c b hc z
        · rw [hc] at z; cases z; exact hb rfl
end

/-! ### kept unless tracked; of the frames at fs (the callers') the slots may change (an exception that passes writes there); of the records at ex (iterators) nothing is said -/
structure Un (fs ex : List Addr) (H H' : Hp) (h h' : Heap) : Prop where
  keep : ∀ b o, h.get? b = some o → H b = none → b ∉ fs → b ∉ ex → h'.get? b = some o
  slot : ∀ b o, h.get? b = some o → H b = none → b ∈ fs → b ∉ ex → ∃ sl, h'.get? b = some { o with slots := sl }
  free : ∀ b o, h.get? b = some o → H b = none → b ∉ ex → H' b = none
  there : ∀ b o, h.get? b = some o → b ∉ ex → ∃ o', h'.get? b = some o'
  tups : ∀ b xs, H b = some (.tup xs) → H' b = some (.tup xs)
  frzs : ∀ b o u, H b = some (.frz o u) → H' b = some (.frz o u)
  tbls : ∀ b ps, H b = some (.tbl ps) → ∃ more, H' b = some (.tbl (ps ++ more))
section
variable {fs fs' ex ex' : List Addr} {H H1 H2 : Hp} {h h1 h2 h' : Heap} {a x e : Addr} {o : HO}
theorem Un.any (u : Un fs ex H H1 h h1) {b : Addr} {ob : Obj} (q : h.get? b = some ob) (n : H b = none) (hx : b ∉ ex) : ∃ sl, h1.get? b = some { ob with slots := sl } := by
  by_cases hb : b ∈ fs
  · exact u.slot b ob q n hb hx
  · exact ⟨ob.slots, u.keep b ob q n hb hx⟩
theorem Un.trans (a : Un fs ex H H1 h h1) (b : Un fs ex H1 H2 h1 h2) : Un fs ex H H2 h h2 where
  keep := fun c ob q n hc hx => b.keep c ob (a.keep c ob q n hc hx) (a.free c ob q n hx) hc hx
  slot := fun c ob q n hc hx => by
    obtain ⟨sl, e1⟩ := a.slot c ob q n hc hx
    obtain ⟨sl', e2⟩ := b.slot c _ e1 (a.free c ob q n hx) hc hx
    exact ⟨sl', e2⟩
  free := fun c ob q n hx => by
    obtain ⟨o', e1⟩ := a.there c ob q hx
    exact b.free c o' e1 (a.free c ob q n hx) hx
  there := fun c ob q hx => by
    obtain ⟨o', e1⟩ := a.there c ob q hx
    exact b.there c o' e1 hx
  tups := fun c xs q => b.tups c xs (a.tups c xs q)
  frzs := fun c ob xs q => b.frzs c ob xs (a.frzs c ob xs q)
  tbls := fun c ps q => by
    obtain ⟨m1, e1⟩ := a.tbls c ps q
    obtain ⟨m2, e2⟩ := b.tbls c _ e1
    exact ⟨m1 ++ m2, by rw [e2, Array.append_assoc]⟩
theorem Un.kept (k : ∀ b u, h.get? b = some u → h'.get? b = some u) : Un fs ex H H h h' :=
  ⟨fun b ob q _ _ _ => k b ob q, fun b ob q _ _ _ => ⟨ob.slots, k b ob q⟩, fun _ _ _ n _ => n, fun b ob q _ => ⟨ob, k b ob q⟩, fun _ _ q => q, fun _ _ _ q => q, fun _ ps q => ⟨#[], by rw [q]; simp⟩⟩
theorem Un.refl : Un fs ex H H h h := Un.kept fun _ _ q => q
theorem Un.laid (k : ∀ b u, h.get? b = some u → h'.get? b = some u) (hp : h.objs.size ≤ a) (hn : H a = none) : Un fs ex H (upd H a o) h h' where
  keep := fun b u q _ _ _ => k b u q
  slot := fun b u q _ _ _ => ⟨u.slots, k b u q⟩
  free := fun b u q n _ => by rw [upd_ne (Nat.ne_of_lt (Nat.lt_of_lt_of_le (Heap.lt_size q) hp))]; exact n
  there := fun b u q _ => ⟨u, k b u q⟩
  tups := fun b xs q => by rw [upd_ne (ne_of_none q hn)]; exact q
  frzs := fun b u xs q => by rw [upd_ne (ne_of_none q hn)]; exact q
  tbls := fun b ps q => ⟨#[], by rw [upd_ne (ne_of_none q hn), q]; simp⟩
theorem Un.write (mu : Mut (H x)) (he : e = x ∨ H e = some (.own x)) (k : ∀ b u, b ≠ e → h.get? b = some u → h'.get? b = some u) (heo : ∃ u, h'.get? e = some u) : Un fs ex H (upd H x o) h h' := by
  have hx : ∀ b, H b = none → b ≠ x := fun b n z => by subst z; rw [n] at mu; exact mu
  have hb : ∀ b, H b = none → b ≠ e := fun b n z => by
    subst z
    rcases he with r | r
    · exact hx b n r
    · rw [n] at r; cases r
  have hm : ∀ b u, H b = some u → ¬ Mut (some u) → b ≠ x := fun b u q nm z => by subst z; rw [q] at mu; exact nm mu
  refine ⟨fun b u q n _ _ => k b u (hb b n) q, fun b u q n _ _ => ⟨u.slots, k b u (hb b n) q⟩, fun b u q n _ => by rw [upd_ne (hx b n)]; exact n, fun b u q _ => ?_,
    fun b xs q => by rw [upd_ne (hm b _ q fun z => z)]; exact q, fun b u xs q => by rw [upd_ne (hm b _ q fun z => z)]; exact q, fun b ps q => ⟨#[], by rw [upd_ne (hm b _ q fun z => z), q]; simp⟩⟩
  by_cases hbe : b = e
  · subst hbe; exact heo
  · exact ⟨u, k b u hbe q⟩
theorem Un.mono (u : Un fs ex H H1 h h1) (hs : ∀ b ∈ fs, b ∈ fs') (hx : ∀ b ∈ ex, b ∈ ex') : Un fs' ex' H H1 h h1 :=
  ⟨fun b ob q n hb he => u.keep b ob q n (fun z => hb (hs b z)) fun z => he (hx b z), fun _ _ q n _ he => u.any q n fun z => he (hx _ z), fun b ob q n he => u.free b ob q n fun z => he (hx b z), fun b ob q he => u.there b ob q fun z => he (hx b z), u.tups, u.frzs, u.tbls⟩
end

/-! ### the heap without what is tracked -/
def trk (h : Heap) (H : Hp) : List Addr := (List.range h.objs.size).filter fun a => (H a).isSome
def hidT (h : Heap) (H : Hp) : Heap := PySem.W.hideAll h (trk h H)
theorem hidT_size (h : Heap) (H : Hp) : (hidT h H).objs.size = h.objs.size := PySem.W.hideAll_size _ _
theorem hidT_get {h : Heap} {H : Hp} {b : Addr} {o : Obj} (e : h.get? b = some o) (n : H b = none) : (hidT h H).get? b = some o :=
  PySem.W.hideAll_get _ e fun hm => by
    have q : (H b).isSome = true := (List.mem_filter.mp hm).2
    rw [n] at q; simp at q
theorem of_hidT {h : Heap} {H : Hp} {b : Addr} {o : Obj} (e : (hidT h H).get? b = some o) : h.get? b = some o ∧ H b = none := by
  have e' : h.get? b = some o := PySem.W.of_hideAll (trk h H) e
  refine ⟨e', ?_⟩
  cases q : H b with
  | none => rfl
  | some x =>
    have hm : b ∈ trk h H := List.mem_filter.mpr ⟨List.mem_range.mpr (Heap.lt_size e'), by simp [q]⟩
    have z : (hidT h H).get? b = none := PySem.W.hideAll_none (trk h H) hm
    rw [z] at e; cases e

/-! ### OpenK's ledger, filled with every new object but one -/
def allNews (g h : Heap) (L : Addr) : List (Addr × Obj) := (List.range h.objs.size).filterMap fun a => if a = L ∨ (g.get? a).isSome = true then none else (h.get? a).map fun o => (a, o)
def rest (g h : Heap) (L d : Addr) : List (Addr × Obj) := (allNews g h L).filter fun p => decide (p.1 ≠ d)
end L2

namespace L2
open PySem PySem.Spec PyProof.Rows

/-- the module's facts, over the base: the heap at the law's entry without what is tracked there -/
structure Mod (K : PySem.W.Frag) (mg : Str → Option Value) (base : Heap) : Prop where
  kin : K.In base
  glob : base.Ns mainGlobals mg
  blt : ∃ mb, base.Ns builtinsNs mb ∧ ∀ x : Str, x ≠ "__name__" → mb x = bootBuiltins x
  nolimit : base.NoLimit

/-- the context: a def's body (or a comprehension's block) running. base: fixed through the whole law; s₀, H₀: the entry; outer: the frames whose slots others may change (a def's callers); stack: all frames that run;
   ex: iterators that were made ahead of the entry and are walked here (a comprehension's); fn: the names whose cells were made at the entry (a def: all; a comprehension's block: its own); calm: not within an except suite; pn: pins that every state bears; xe: what is wanted of an exception that leaves the code -/
structure Cx where
  prog : Program
  w : World
  K : PySem.W.Frag
  mg : Str → Option Value
  base : Heap
  A : Around
  N : List Str
  s₀ : Shared
  H₀ : Hp
  env : Env
  outer : List Env
  stack : List Env
  ex : List Addr
  fn : Str → Bool
  calm : Bool
  pn : List (Addr × Obj)
  xe : Value → Shared → Prop
/-- the callers' frames -/
def frs (l : List Env) : List Addr := l.filterMap (·.frame)
abbrev Cx.fs (X : Cx) : List Addr := frs X.outer

def Vis (sc : Scope) (x : Str) : Prop := sc.names.lookup x = some .local ∨ sc.names.lookup x = some .cell ∨ sc.names.lookup x = some .free
def Loc (sc : Scope) (x : Str) : Prop := sc.names.lookup x = some .local ∨ sc.names.lookup x = some .cell
def Look (env : Env) (h : Heap) (m : Str → Option Value) (x : Str) (u : Value) : Prop :=
  (env.kindOf x = some .local ∧ m x = some u) ∨ ((env.kindOf x = some .cell ∨ env.kindOf x = some .free) ∧ ∃ c, env.cells.lookup x = some c ∧ h.IsCell c (some u))

structure Cx.Ok (X : Cx) : Prop where
  mod : Mod X.K X.mg X.base
  kind : X.env.scope.kind = .function
  glob : X.env.globals = mainGlobals
  blt : X.env.builtins = builtinsNs
  above : X.s₀.heap.objs.size ≤ X.env.locals
  inj : ∀ x y c, X.env.cells.lookup x = some c → X.env.cells.lookup y = some c → x = y
  has : ∀ x, (X.env.kindOf x = some .cell ∨ X.env.kindOf x = some .free) → ∃ c, X.env.cells.lookup x = some c
  cab : ∀ x c, X.fn x = true → X.env.cells.lookup x = some c → X.s₀.heap.objs.size ≤ c
  hd : X.calm = true → X.A.handled = none
  frames : X.A.frames = some X.stack
  stk : X.stack = X.outer ∨ (X.stack = X.env :: X.outer ∧ X.env.frame = some X.env.locals)
  exf : ∀ b ∈ X.ex, b ≠ X.env.locals ∧ ∀ x c, X.env.cells.lookup x = some c → c ≠ b
  bs : ∀ b o, X.base.get? b = some o → X.s₀.heap.get? b = some o ∧ X.H₀ b = none
  bsz : X.base.objs.size ≤ X.s₀.heap.objs.size
  noex : ∀ b o, X.base.get? b = some o → b ∉ X.ex
  exfs : ∀ b ∈ X.ex, b ∉ X.fs
  funs : X.s₀.heap.FunFrames X.base X.outer
  frf : ∀ b ∈ X.fs, X.H₀ b = none

structure Inv (X : Cx) (pins : List (Addr × Obj)) (σ : List (Option V)) (H : Hp) (s : Shared) : Prop where
  ok : X.Ok
  os : s.os = X.s₀.os
  bare : AllBare s.gens
  base : Un X.fs X.ex X.H₀ H X.s₀.heap s.heap
  loc : ∃ m, s.heap.Ns X.env.locals m ∧ ∀ (i : Nat) (x : Str) (v : V), X.N[i]? = some x → σ[i]? = some (some v) → Vis X.env.scope x → ∃ u, RelV v u ∧ Look X.env s.heap m x u
  cell : ∀ x c, X.env.cells.lookup x = some c → ∃ v, s.heap.IsCell c v
  free : H X.env.locals = none
  freeC : ∀ x c, X.env.cells.lookup x = some c → H c = none
  pin : ∀ p ∈ X.pn ++ pins, s.heap.get? p.1 = some p.2 ∧ H p.1 = none ∧ p.1 ≠ X.env.locals ∧ p.1 ∉ X.fs ∧ ∀ v, p.2.data ≠ .cell v
  hok : HOk X.prog X.w H s.heap
  len : σ.length = X.N.length

section
variable {X : Cx} {pins : List (Addr × Obj)} {σ : List (Option V)} {H H' : Hp} {s : Shared} {h' : Heap}

theorem Cx.Ok.nofr (ok : X.Ok) {b : Addr} {o : Obj} (e : X.base.get? b = some o) : b ∉ X.fs := fun hb => by
  have := (ok.funs.mem hb).1
  rw [e] at this; cases this
theorem Inv.bs (I : Inv X pins σ H s) : ∀ b o, X.base.get? b = some o → s.heap.get? b = some o ∧ H b = none := fun b o e =>
  ⟨I.base.keep b o (I.ok.bs b o e).1 (I.ok.bs b o e).2 (I.ok.nofr e) (I.ok.noex b o e), I.base.free b o (I.ok.bs b o e).1 (I.ok.bs b o e).2 (I.ok.noex b o e)⟩
theorem Inv.bk (I : Inv X pins σ H s) : ∀ b o, X.base.get? b = some o → s.heap.get? b = some o := fun b o e => (I.bs b o e).1
theorem Inv.mod (I : Inv X pins σ H s) : Mod X.K X.mg X.base := I.ok.mod
theorem Inv.kIn (I : Inv X pins σ H s) : X.K.In s.heap := I.ok.mod.kin.keeps I.bk
theorem Inv.nolimit (I : Inv X pins σ H s) : s.heap.NoLimit := I.ok.mod.nolimit.keeps I.bk
theorem Inv.lt (I : Inv X pins σ H s) : X.env.locals < s.heap.objs.size := let ⟨_, hn, _⟩ := I.loc; hn.lt
theorem Inv.sz (I : Inv X pins σ H s) : X.s₀.heap.objs.size ≤ s.heap.objs.size := Nat.le_trans I.ok.above (Nat.le_of_lt I.lt)
theorem Inv.nofs (I : Inv X pins σ H s) {a : Addr} (h : s.heap.objs.size ≤ a) : a ∉ X.fs := fun hb => by
  obtain ⟨_, o, ho, _⟩ := I.ok.funs.mem hb
  exact absurd (Nat.lt_of_lt_of_le (Heap.lt_size ho) (Nat.le_trans I.sz h)) (Nat.lt_irrefl _)
theorem Inv.cne (I : Inv X pins σ H s) : ∀ x c, X.env.cells.lookup x = some c → c ≠ X.env.locals := fun x c e z => by
  obtain ⟨v, o, ho, hd⟩ := I.cell x c e
  obtain ⟨m, ⟨o', es, ep, ho', hd', _⟩, _⟩ := I.loc
  rw [z, ho'] at ho; cases ho; rw [hd'] at hd; cases hd
theorem Inv.funs (I : Inv X pins σ H s) : s.heap.FunFrames X.base X.outer := by
  have all : ∀ (l : List Env), (∀ b ∈ frs l, b ∈ X.fs) → X.s₀.heap.FunFrames X.base l → s.heap.FunFrames X.base l := by
    intro l
    induction l with
    | nil => intro _ _; trivial
    | cons env r ih =>
      intro hs hl
      obtain ⟨hk, ⟨L, o, hf, hn, ho, hd⟩, hr⟩ := hl
      have hL : L ∈ X.fs := hs L (by unfold frs; rw [List.filterMap_cons, hf]; exact List.mem_cons_self)
      obtain ⟨sl, e⟩ := I.base.slot L o ho (I.ok.frf L hL) hL fun z => I.ok.exfs L z hL
      exact ⟨hk, ⟨L, _, hf, hn, e, hd⟩, ih (fun b hb => hs b (by unfold frs; rw [List.filterMap_cons, hf]; exact List.mem_cons_of_mem _ hb)) hr⟩
  exact all X.outer (fun _ hb => hb) I.ok.funs

/-- the frames that run, for a call -/
theorem Inv.stack (I : Inv X pins σ H s) : s.heap.FunFrames X.base X.stack := by
  rcases I.ok.stk with e | ⟨e, hf⟩
  · rw [e]; exact I.funs
  · rw [e]
    obtain ⟨m, hn, _⟩ := I.loc
    refine .cons (by rw [I.ok.kind]; decide) hf hn ?_ I.funs
    exact Heap.get?_none_of_le (Nat.le_trans I.ok.bsz I.ok.above)
theorem Inv.stkSub (I : Inv X pins σ H s) : ∀ b ∈ frs X.stack, b ∈ X.env.locals :: X.fs := fun b hb => by
  rcases I.ok.stk with e | ⟨e, hf⟩
  · rw [e] at hb; exact List.mem_cons_of_mem _ hb
  · rw [e] at hb
    unfold frs at hb
    rw [List.filterMap_cons, hf] at hb
    exact hb
theorem Inv.stkFree (I : Inv X pins σ H s) : ∀ b ∈ frs X.stack, H b = none := fun b hb => by
  rcases List.mem_cons.mp (I.stkSub b hb) with e | hb
  · rw [e]; exact I.free
  · obtain ⟨_, o, ho, _⟩ := I.ok.funs.mem hb
    exact I.base.free b o ho (I.ok.frf b hb) fun z => I.ok.exfs b z hb

/-- THE STEP: the untracked objects but the frame and the records at ch are kept (the callers' frames up to slots), the frame's map is kept, the new abstract heap is held -/
theorem Inv.step {g' : Array GenState} {t' : Nat} {d' : Drawn} {ch : List Addr} (I : Inv X pins σ H s)
    (hch : ∀ b ∈ ch, (b ∈ X.ex ∨ X.s₀.heap.objs.size ≤ b) ∧ b ≠ X.env.locals ∧ (∀ x c, X.env.cells.lookup x = some c → c ≠ b) ∧ ∀ p ∈ X.pn ++ pins, p.1 ≠ b)
    (keep : ∀ b o, b ≠ X.env.locals → b ∉ X.fs → b ∉ ch → s.heap.get? b = some o → H b = none → h'.get? b = some o)
    (slot : ∀ b o, b ≠ X.env.locals → b ∈ X.fs → b ∉ ch → s.heap.get? b = some o → H b = none → ∃ sl, h'.get? b = some { o with slots := sl }) (free : ∀ b o, b ∉ ch → s.heap.get? b = some o → H b = none → H' b = none)
    (there : ∀ b o, b ∉ ch → s.heap.get? b = some o → ∃ o', h'.get? b = some o')
    (tups : ∀ b xs, H b = some (.tup xs) → H' b = some (.tup xs)) (frzs : ∀ b o u, H b = some (.frz o u) → H' b = some (.frz o u)) (tbls : ∀ b ps, H b = some (.tbl ps) → ∃ more, H' b = some (.tbl (ps ++ more)))
    (ns : ∀ m, s.heap.Ns X.env.locals m → h'.Ns X.env.locals m) (hok : HOk X.prog X.w H' h') (hg : AllBare g') :
    Inv X pins σ H' { s with heap := h', gens := g', drawn := d', toks := t' } := by
  have neL : ∀ b o, X.s₀.heap.get? b = some o → b ≠ X.env.locals := fun b o e => Nat.ne_of_lt (Nat.lt_of_lt_of_le (Heap.lt_size e) I.ok.above)
  have neC : ∀ b o, X.s₀.heap.get? b = some o → b ∉ X.ex → b ∉ ch := fun b o e hx hb => by
    rcases (hch b hb).1 with z | z
    · exact hx z
    · exact absurd (Nat.lt_of_lt_of_le (Heap.lt_size e) z) (Nat.lt_irrefl _)
  have cellK : ∀ x c, X.env.cells.lookup x = some c → ∀ v, s.heap.IsCell c v → h'.IsCell c v := fun x c e v ⟨o, ho, hd⟩ => by
    have nch : c ∉ ch := fun z => (hch c z).2.2.1 x c e rfl
    by_cases hc : c ∈ X.fs
    · obtain ⟨sl, q⟩ := slot c o (I.cne x c e) hc nch ho (I.freeC x c e)
      exact ⟨_, q, hd⟩
    · exact ⟨o, keep c o (I.cne x c e) hc nch ho (I.freeC x c e), hd⟩
  refine ⟨I.ok, I.os, hg, ⟨fun b o e n hb hx => ?_, fun b o e n hb hx => ?_, fun b o e n hx => ?_, fun b o e hx => ?_, fun b xs e => tups b xs (I.base.tups b xs e), fun b o xs e => frzs b o xs (I.base.frzs b o xs e), fun b ps e => ?_⟩, ?_, fun x c e => ?_, ?_, fun x c e => ?_, fun p hp => ?_, hok, I.len⟩
  · exact keep b o (neL b o e) hb (neC b o e hx) (I.base.keep b o e n hb hx) (I.base.free b o e n hx)
  · obtain ⟨sl, e1⟩ := I.base.slot b o e n hb hx
    obtain ⟨sl', e2⟩ := slot b _ (neL b o e) hb (neC b o e hx) e1 (I.base.free b o e n hx)
    exact ⟨sl', e2⟩
  · obtain ⟨o', e1⟩ := I.base.there b o e hx
    exact free b o' (neC b o e hx) e1 (I.base.free b o e n hx)
  · obtain ⟨o', e1⟩ := I.base.there b o e hx
    exact there b o' (neC b o e hx) e1
  · obtain ⟨m1, e1⟩ := I.base.tbls b ps e
    obtain ⟨m2, e2⟩ := tbls b _ e1
    exact ⟨m1 ++ m2, by rw [e2, Array.append_assoc]⟩
  · obtain ⟨m, hn, hl⟩ := I.loc
    refine ⟨m, ns m hn, fun i x v e1 e2 e3 => ?_⟩
    obtain ⟨u, r, l⟩ := hl i x v e1 e2 e3
    refine ⟨u, r, ?_⟩
    rcases l with l | ⟨k, c, e, z⟩
    · exact .inl l
    · exact .inr ⟨k, c, e, cellK x c e _ z⟩
  · obtain ⟨v, z⟩ := I.cell x c e
    exact ⟨v, cellK x c e v z⟩
  · obtain ⟨m, ⟨o, _, _, ho, _⟩, _⟩ := I.loc
    exact free _ o (fun z => (hch _ z).2.1 rfl) ho I.free
  · obtain ⟨v, o, ho, hd⟩ := I.cell x c e
    exact free c o (fun z => (hch c z).2.2.1 x c e rfl) ho (I.freeC x c e)
  · obtain ⟨e, n, ne, nf, d⟩ := I.pin p hp
    have nch : p.1 ∉ ch := fun z => (hch p.1 z).2.2.2 p hp rfl
    exact ⟨keep p.1 p.2 ne nf nch e n, free p.1 p.2 nch e n, ne, nf, d⟩
/-- .. where the frame's own object is kept too -/
theorem Inv.un {t' : Nat} (I : Inv X pins σ H s) (u : Un X.fs [] H H' s.heap h') (hok : HOk X.prog X.w H' h') : Inv X pins σ H' { s with heap := h', toks := t' } := by
  obtain ⟨m, ⟨o, es, ep, ho, r⟩, _⟩ := id I.loc
  obtain ⟨sl, hL⟩ := u.any ho I.free (by simp)
  exact I.step (g' := s.gens) (d' := s.drawn) (ch := []) (fun _ z => nomatch z) (fun b o _ hb _ e n => u.keep b o e n hb (by simp)) (fun b o _ hb _ e n => u.slot b o e n hb (by simp)) (fun b o _ e n => u.free b o e n (by simp)) (fun b o _ e => u.there b o e (by simp)) u.tups u.frzs u.tbls (fun m' hm => by
    obtain ⟨o', es', ep', ho', r'⟩ := hm
    rw [ho] at ho'; cases ho'
    exact ⟨_, es', ep', hL, r'⟩) hok I.bare
/-- behind a call (or a comprehension's block): the slots of this frame may have changed too, the records at ch may have turned -/
theorem Inv.call {g' : Array GenState} {t' : Nat} {d' : Drawn} {ch : List Addr} (I : Inv X pins σ H s) (u : Un (frs X.stack) ch H H' s.heap h') (hok : HOk X.prog X.w H' h') (hg : AllBare g')
    (hch : ∀ b ∈ ch, (b ∈ X.ex ∨ X.s₀.heap.objs.size ≤ b) ∧ b ≠ X.env.locals ∧ (∀ x c, X.env.cells.lookup x = some c → c ≠ b) ∧ ∀ p ∈ X.pn ++ pins, p.1 ≠ b) :
    Inv X pins σ H' { s with heap := h', gens := g', drawn := d', toks := t' } := by
  obtain ⟨m, ⟨o, es, ep, ho, r⟩, _⟩ := id I.loc
  obtain ⟨sl, hL⟩ := u.any ho I.free fun z => (hch _ z).2.1 rfl
  exact I.step (ch := ch) hch (fun b o hL hb hc e n => u.keep b o e n (fun z => (List.mem_cons.mp (I.stkSub b z)).elim hL hb) hc) (fun b o _ _ hc e n => u.any e n hc) (fun b o hc e n => u.free b o e n hc) (fun b o hc e => u.there b o e hc) u.tups u.frzs u.tbls (fun m' hm => by
    obtain ⟨o', es', ep', ho', r'⟩ := hm
    rw [ho] at ho'; cases ho'
    exact ⟨_, es', ep', hL, r'⟩) hok hg
/-- an untracked record of ours (an iterator) has turned -/
theorem Inv.turned {t' : Nat} {it : Addr} (I : Inv X pins σ H s) (k : ∀ b o, b ≠ it → s.heap.get? b = some o → h'.get? b = some o) (hn : H it = none) (hL : it ≠ X.env.locals)
    (h1 : it ∈ X.ex ∨ X.s₀.heap.objs.size ≤ it) (h2 : ∀ x c, X.env.cells.lookup x = some c → c ≠ it) (h3 : ∀ p ∈ X.pn ++ pins, p.1 ≠ it) : Inv X pins σ H { s with heap := h', toks := t' } := by
  have nit : ∀ b u, H b = some u → b ≠ it := fun b u e z => by rw [z, hn] at e; cases e
  refine I.step (g' := s.gens) (d' := s.drawn) (ch := [it]) (fun b hb => ?_) (fun b o _ _ hc e _ => k b o (fun z => hc (by simp [z])) e) (fun b o _ _ hc e _ => ⟨o.slots, k b o (fun z => hc (by simp [z])) e⟩) (fun _ _ _ _ n => n)
    (fun b o hc e => ⟨o, k b o (fun z => hc (by simp [z])) e⟩) (fun _ _ e => e) (fun _ _ _ e => e) (fun b ps e => ⟨#[], by rw [e]; simp⟩) (fun m hm => ?_) (fun b u e => ?_) I.bare
  · have e : b = it := by simpa using hb
    subst e
    exact ⟨h1, hL, h2, h3⟩
  · obtain ⟨o, es, ep, ho, r⟩ := hm
    exact ⟨o, es, ep, k _ o (Ne.symm hL) ho, r⟩
  · refine (I.hok b u e).stay (fun c v hc q => k c v ?_ q) (fun _ q => q) fun _ _ q => q
    rcases hc with z | z
    · rw [z]; exact nit b u e
    · exact nit c _ z
theorem Inv.tok (I : Inv X pins σ H s) (t : Nat) : Inv X pins σ H { s with toks := t } := I.un (h' := s.heap) (t' := t) Un.refl I.hok
/-- all objects kept -/
theorem Inv.kept {t' : Nat} (I : Inv X pins σ H s) (k : ∀ b u, s.heap.get? b = some u → h'.get? b = some u) : Inv X pins σ H { s with heap := h', toks := t' } := I.un (Un.kept k) (I.hok.kept k)
/-- a new object laid and tracked -/
theorem Inv.laid {a : Addr} {o : HO} {t' : Nat} (I : Inv X pins σ H s) (k : ∀ b u, s.heap.get? b = some u → h'.get? b = some u) (hp : s.heap.objs.size ≤ a) (new : ObjOk X.prog X.w (upd H a o) h' a o) :
    Inv X pins σ (upd H a o) { s with heap := h', toks := t' } := I.un (Un.laid k hp (I.hok.fresh hp)) (I.hok.laid k hp new)
/-- an object written -/
theorem Inv.write {x e : Addr} {o : HO} {t' : Nat} (I : Inv X pins σ H s) (mu : Mut (H x)) (he : e = x ∨ H e = some (.own x)) (k : ∀ b u, b ≠ e → s.heap.get? b = some u → h'.get? b = some u) (heo : ∃ u, h'.get? e = some u)
    (new : ObjOk X.prog X.w (upd H x o) h' x o) : Inv X pins σ (upd H x o) { s with heap := h', toks := t' } := I.un (Un.write mu he k heo) (I.hok.write mu he k heo new)
/-- forgetting slots, pins -/
theorem Inv.weak {σ' : List (Option V)} (I : Inv X pins σ H s) (hl : σ'.length = σ.length) (w : ∀ (i : Nat) v, σ'[i]? = some (some v) → σ[i]? = some (some v)) : Inv X pins σ' H s :=
  ⟨I.ok, I.os, I.bare, I.base, let ⟨m, hn, hl'⟩ := I.loc; ⟨m, hn, fun i x v e1 e2 e3 => hl' i x v e1 (w i v e2) e3⟩, I.cell, I.free, I.freeC, I.pin, I.hok, hl.trans I.len⟩
theorem Inv.pins_of {pins' : List (Addr × Obj)} (I : Inv X pins σ H s) (h : ∀ p ∈ pins', s.heap.get? p.1 = some p.2 ∧ H p.1 = none ∧ p.1 ≠ X.env.locals ∧ p.1 ∉ X.fs ∧ ∀ v, p.2.data ≠ .cell v) : Inv X pins' σ H s :=
  ⟨I.ok, I.os, I.bare, I.base, I.loc, I.cell, I.free, I.freeC, fun p hp => (List.mem_append.mp hp).elim (fun z => I.pin p (List.mem_append_left _ z)) (h p), I.hok, I.len⟩

theorem nodup_ix {N : List Str} (hN : N.Nodup) {i j : Nat} {x : Str} (a : N[i]? = some x) (b : N[j]? = some x) : i = j := by
  obtain ⟨h1, e1⟩ := List.getElem?_eq_some_iff.mp a
  obtain ⟨h2, e2⟩ := List.getElem?_eq_some_iff.mp b
  exact (List.getElem_inj hN).mp (e1.trans e2.symm)

/-- a name is stored; what changed -/
theorem store_ok2 {M : Model} {A : Around} {E : Value → Shared → Prop} {i : Nat} {x : Str} {v : V} {u : Value} {Q : Unit → Shared → Prop} (I : Inv X pins σ H s) (hN : X.N.Nodup) (hi : X.N[i]? = some x) (hx : Loc X.env.scope x) (r : RelV v u)
    (h : ∀ s', Inv X pins (σ.set i (some v)) H s' → (∃ a, Heap.SameBut a s.heap s'.heap ∧ (a = X.env.locals ∨ X.env.cells.lookup x = some a)) → Q () s') (hf : X.fn x = true ∨ X.env.scope.names.lookup x = some .local := by first | exact .inl rfl | exact .inr rfl | assumption) : wpAny M A (storeName X.env x u) Q E s := by
  obtain ⟨m, hn, hl⟩ := id I.loc
  have hcls : (X.env.scope.kind == .class || (X.env.scope.kind == .module && X.env.locals != X.env.globals)) = false := by rw [I.ok.kind]; rfl
  have hiσ : i < σ.length := by rw [I.len]; exact (List.getElem?_eq_some_iff.mp hi).1
  have cne := I.cne
  have tracked : ∀ {a : Addr} {h' : Heap}, (∃ o, s.heap.get? a = some o ∧ H a = none) → Heap.SameBut a s.heap h' → HOk X.prog X.w H h' := fun {a h'} ha hs b ob e => by
    obtain ⟨_, _, hfree⟩ := ha
    refine (I.hok b ob e).stay (fun c w' hc q => (hs.2 c ?_).trans q) (fun _ q => q) fun _ _ q => q
    rintro rfl
    rcases hc with rfl | hc
    · rw [hfree] at e; cases e
    · rw [hfree] at hc; cases hc
  rcases hx with hk | hk
  · refine wpAny_storeName_local hk hn (fun h' hn' hs => ?_) hcls
    obtain ⟨oL, _, _, hoL, _⟩ := id hn
    refine h _ ⟨I.ok, I.os, I.bare, ⟨fun b o e n hb hx => ?_, fun b o e n hb hx => ?_, I.base.free, fun b o e hx => ?_, I.base.tups, I.base.frzs, I.base.tbls⟩, ⟨_, hn', fun j y v' e1 e2 e3 => ?_⟩, fun y c e => ?_, I.free, I.freeC, fun p hp => ?_, tracked ⟨oL, hoL, I.free⟩ hs, by simpa using I.len⟩ ⟨_, hs, .inl rfl⟩
    · exact (hs.2 b (Nat.ne_of_lt (Nat.lt_of_lt_of_le (Heap.lt_size e) I.ok.above))).trans (I.base.keep b o e n hb hx)
    · obtain ⟨sl, e1⟩ := I.base.slot b o e n hb hx
      exact ⟨sl, (hs.2 b (Nat.ne_of_lt (Nat.lt_of_lt_of_le (Heap.lt_size e) I.ok.above))).trans e1⟩
    · obtain ⟨o', e1⟩ := I.base.there b o e hx
      exact ⟨o', (hs.2 b (Nat.ne_of_lt (Nat.lt_of_lt_of_le (Heap.lt_size e) I.ok.above))).trans e1⟩
    · by_cases hj : j = i
      · subst hj
        rw [hi] at e1; cases e1
        rw [List.getElem?_set_self hiσ] at e2
        cases e2
        exact ⟨u, r, .inl ⟨hk, by simp⟩⟩
      · rw [List.getElem?_set_ne (Ne.symm hj)] at e2
        obtain ⟨u', r', q⟩ := hl j y v' e1 e2 e3
        refine ⟨u', r', ?_⟩
        rcases q with ⟨k, e⟩ | ⟨k, c, e, z⟩
        · refine .inl ⟨k, ?_⟩
          have : y ≠ x := fun e => hj (nodup_ix hN e1 (e ▸ hi))
          simp [this, e]
        · exact .inr ⟨k, c, e, z.sameBut hs (cne y c e)⟩
    · obtain ⟨w', z⟩ := I.cell y c e
      exact ⟨w', z.sameBut hs (cne y c e)⟩
    · obtain ⟨e, n, ne, nf, d⟩ := I.pin p hp
      exact ⟨(hs.2 p.1 ne).trans e, n, ne, nf, d⟩
  · have hfn : X.fn x = true := by
      rcases hf with z | z
      · exact z
      · rw [z] at hk; cases hk
    obtain ⟨c, hc⟩ := I.ok.has x (.inl hk)
    obtain ⟨w', z⟩ := I.cell x c hc
    refine wpAny_storeName_cell I.ok.kind hk hc z (fun h' hc' hs => ?_)
    obtain ⟨oc, hoc, hocd⟩ := id z
    refine h { s with heap := h' } ⟨I.ok, I.os, I.bare, ⟨fun b o e n hb hx => ?_, fun b o e n hb hx => ?_, I.base.free, fun b o e hx => ?_, I.base.tups, I.base.frzs, I.base.tbls⟩, ⟨m, hn.sameBut hs (Ne.symm (cne x c hc)), fun j y v' e1 e2 e3 => ?_⟩, fun y c' e => ?_, I.free, I.freeC, fun p hp => ?_, tracked ⟨oc, hoc, I.freeC x c hc⟩ hs, by simpa using I.len⟩ ⟨c, hs, .inr hc⟩
    · exact (hs.2 b (Nat.ne_of_lt (Nat.lt_of_lt_of_le (Heap.lt_size e) (I.ok.cab x c hfn hc)))).trans (I.base.keep b o e n hb hx)
    · obtain ⟨sl, e1⟩ := I.base.slot b o e n hb hx
      exact ⟨sl, (hs.2 b (Nat.ne_of_lt (Nat.lt_of_lt_of_le (Heap.lt_size e) (I.ok.cab x c hfn hc)))).trans e1⟩
    · obtain ⟨o', e1⟩ := I.base.there b o e hx
      exact ⟨o', (hs.2 b (Nat.ne_of_lt (Nat.lt_of_lt_of_le (Heap.lt_size e) (I.ok.cab x c hfn hc)))).trans e1⟩
    · by_cases hj : j = i
      · subst hj
        rw [hi] at e1; cases e1
        rw [List.getElem?_set_self hiσ] at e2
        cases e2
        exact ⟨u, r, .inr ⟨.inl hk, c, hc, hc'⟩⟩
      · rw [List.getElem?_set_ne (Ne.symm hj)] at e2
        obtain ⟨u', r', q⟩ := hl j y v' e1 e2 e3
        refine ⟨u', r', ?_⟩
        rcases q with q | ⟨k, c', e, z'⟩
        · exact .inl q
        · refine .inr ⟨k, c', e, z'.sameBut hs ?_⟩
          rintro rfl
          exact hj (nodup_ix hN e1 (I.ok.inj _ _ _ e hc ▸ hi))
    · by_cases hcc : c' = c
      · subst hcc; exact ⟨_, hc'⟩
      · obtain ⟨w2, z2⟩ := I.cell y c' e
        exact ⟨w2, z2.sameBut hs hcc⟩
    · obtain ⟨e, n, ne, nf, d⟩ := I.pin p hp
      refine ⟨(hs.2 p.1 ?_).trans e, n, ne, nf, d⟩
      intro q
      rw [q, hoc] at e
      have q' : oc = p.2 := Option.some.inj e
      exact d w' (by rw [← q']; exact hocd)
theorem store_ok {M : Model} {A : Around} {E : Value → Shared → Prop} {i : Nat} {x : Str} {v : V} {u : Value} {Q : Unit → Shared → Prop} (I : Inv X pins σ H s) (hN : X.N.Nodup) (hi : X.N[i]? = some x) (hx : Loc X.env.scope x) (r : RelV v u)
    (h : ∀ s', Inv X pins (σ.set i (some v)) H s' → Q () s') (hf : X.fn x = true ∨ X.env.scope.names.lookup x = some .local := by first | exact .inl rfl | exact .inr rfl | assumption) : wpAny M A (storeName X.env x u) Q E s :=
  store_ok2 I hN hi hx r (fun s' I' _ => h s' I') hf
/-- behind a call or a block, the state as it is -/
theorem Inv.call' {s' : Shared} {ch : List Addr} (I : Inv X pins σ H s) (ho : s'.os = s.os) (u : Un (frs X.stack) ch H H' s.heap s'.heap) (hok : HOk X.prog X.w H' s'.heap) (hg : AllBare s'.gens)
    (hch : ∀ b ∈ ch, (b ∈ X.ex ∨ X.s₀.heap.objs.size ≤ b) ∧ b ≠ X.env.locals ∧ (∀ x c, X.env.cells.lookup x = some c → c ≠ b) ∧ ∀ p ∈ X.pn ++ pins, p.1 ≠ b) : Inv X pins σ H' s' := by
  obtain ⟨h', g', d', t', o'⟩ := s'
  have e : o' = s.os := ho
  subst e
  exact I.call (g' := g') (t' := t') (d' := d') u hok hg hch
end

/-! ### the judgements -/
/-- an exception: its class, its own dict's address (where it has one), the abstract heap behind it -/
abbrev XK := Value → Option Addr → Hp → Prop
abbrev St := List (Option V)
abbrev VK := V → Hp → Prop
/-- an expression's reading; a test's; an argument list's -/
abbrev TE := St → Hp → VK → Prop
abbrev TT := St → Hp → (Bool → Hp → Prop) → Prop
abbrev TA := St → Hp → (List V → Hp → Prop) → Prop
/-- what is wanted behind a statement -/
structure Ends where
  nx : St → Hp → Prop
  rt : VK
  bk : St → Hp → Prop := fun _ _ => False
  ct : St → Hp → Prop := fun _ _ => False
abbrev TS := Ends → St → Hp → Prop

def EP (X : Cx) (pins : List (Addr × Obj)) (σ : St) (Q : VK) (u : Value) (s' : Shared) : Prop := ∃ v H', Inv X pins σ H' s' ∧ RelV v u ∧ Q v H'
def TP (X : Cx) (pins : List (Addr × Obj)) (σ : St) (Q : Bool → Hp → Prop) (b : Bool) (s' : Shared) : Prop := ∃ H', Inv X pins σ H' s' ∧ Q b H'
def AP (X : Cx) (pins : List (Addr × Obj)) (σ : St) (Q : List V → Hp → Prop) (us : List Value) (s' : Shared) : Prop := ∃ vs H', Inv X pins σ H' s' ∧ Vals vs us ∧ Q vs H'
def SP (X : Cx) (pins : List (Addr × Obj)) (D : Ends) (f : Flow) (s' : Shared) : Prop :=
  match f with
  | .next => ∃ σ' H', Inv X pins σ' H' s' ∧ D.nx σ' H'
  | .brk => ∃ σ' H', Inv X pins σ' H' s' ∧ D.bk σ' H'
  | .cont => ∃ σ' H', Inv X pins σ' H' s' ∧ D.ct σ' H'
  | .ret u => ∃ v σ' H', Inv X pins σ' H' s' ∧ RelV v u ∧ D.rt v H'

def PE (X : Cx) (e : Expr) (t : TE) : Prop :=
  ∀ (pins : List (Addr × Obj)) (s : Shared) (σ : St) (H : Hp) (Q : VK), Inv X pins σ H s → t σ H Q → wpAny (model X.prog X.w) X.A (eval e X.env) (EP X pins σ Q) X.xe s
def PT (X : Cx) (e : Expr) (t : TT) : Prop :=
  ∀ (pins : List (Addr × Obj)) (s : Shared) (σ : St) (H : Hp) (Q : Bool → Hp → Prop), Inv X pins σ H s → t σ H Q → wpAny (model X.prog X.w) X.A (isTrue e X.env (eval e X.env)) (TP X pins σ Q) X.xe s
/-- a test whatever its 'whole' is (and, or) -/
def PW (X : Cx) (e : Expr) (t : TT) : Prop :=
  ∀ (whole : Sem Value) (pins : List (Addr × Obj)) (s : Shared) (σ : St) (H : Hp) (Q : Bool → Hp → Prop), Inv X pins σ H s → t σ H Q → wpAny (model X.prog X.w) X.A (isTrue e X.env whole) (TP X pins σ Q) X.xe s
theorem PW.pt {X : Cx} {e : Expr} {t : TT} (h : PW X e t) : PT X e t := h _
/-- an argument list (no star), from the left -/
def PA (X : Cx) (es : List Expr) (t : TA) : Prop :=
  ∀ (pos : Pos) (pins : List (Addr × Obj)) (s : Shared) (σ : St) (H : Hp) (Q : List V → Hp → Prop), Inv X pins σ H s → t σ H Q → wpAny (model X.prog X.w) X.A (spliced (backTo pos (starEach es X.env))) (AP X pins σ Q) X.xe s
def PS (X : Cx) (st : Stmt) (t : TS) : Prop :=
  ∀ (pins : List (Addr × Obj)) (s : Shared) (σ : St) (H : Hp) (D : Ends), Inv X pins σ H s → t D σ H → wpAny (model X.prog X.w) X.A (exec st X.env) (SP X pins D) X.xe s
def PSs (X : Cx) (st : List Stmt) (t : TS) : Prop :=
  ∀ (pins : List (Addr × Obj)) (s : Shared) (σ : St) (H : Hp) (D : Ends), Inv X pins σ H s → t D σ H → wpAny (model X.prog X.w) X.A (execs st X.env) (SP X pins D) X.xe s
/-- weaken the end -/
theorem thn {α : Type} {t : Sem α} {Q Q' : α → Shared → Prop} {M : Model} {A : Around} {E : Value → Shared → Prop} {s : Shared} (h : wpAny M A t Q E s) (hQ : ∀ a s, Q a s → Q' a s) : wpAny M A t Q' E s := wpAny_mono h hQ fun _ _ x => x
end L2

namespace L2
open PySem PySem.Spec PyProof.Rows
section
variable {X : Cx}

/-! ### names and constants -/
def tVar (i : Nat) : TE := fun σ H Q => ∃ v, σ[i]? = some (some v) ∧ Q v H
def tC (v : V) : TE := fun _ H Q => Q v H
theorem pe_var {i : Nat} {x : Str} {pos : Pos} (hN : X.N[i]? = some x) (hv : Vis X.env.scope x) (hd : (x == ("__debug__" : Str)) = false := by decide) (hcd : (x == ("__classdict__" : Str)) = false := by decide) : PE X (.Name x pos) (tVar i) := by
  intro pins s σ H Q I h
  obtain ⟨v, e, h⟩ := h
  obtain ⟨m, hn, hl⟩ := I.loc
  obtain ⟨u, r, l⟩ := hl i x v hN e hv
  have fin : EP X pins σ Q u s := ⟨v, H, I, r, h⟩
  rcases l with ⟨hk, hm⟩ | ⟨hk, c, hc, hcell⟩
  · exact wpAny_Name (wpAny_loadName_local I.ok.kind hk hn hm fin) hd
  · rcases hk with hk | hk
    · exact wpAny_Name (wpAny_loadName_cell I.ok.kind hk hc hcell fin) hd
    · exact wpAny_Name (wpAny_loadName_free I.ok.kind hk hc hcell fin hcd) hd
theorem pe_int {i j pos} : PE X (.Constant (.int i) j pos) (tC (.int i)) := fun _ _ _ H _ I h => wpAny_Constant_int ⟨.int i, H, I.tok _, ⟨_, rfl⟩, h⟩
theorem pe_bl {b j pos} : PE X (.Constant (.bool b) j pos) (tC (.bl b)) := fun _ _ _ H _ I h => Constant_bool ⟨.bl b, H, I, rfl, h⟩
/-- a global name of the def -/
def Gl (X : Cx) (x : Str) : Prop := X.env.kindOf x = some .globalImplicit
theorem ld_glob {E : Value → Shared → Prop} {pins : List (Addr × Obj)} {s : Shared} {σ : St} {H : Hp} {x : Str} {u : Value} {pos : Pos} {Q : Value → Shared → Prop} (I : Inv X pins σ H s) (hg : Gl X x) (hm : X.mg x = some u) (h : Q u s)
    (hd : (x == ("__debug__" : Str)) = false := by decide) : wpAny (model X.prog X.w) X.A (eval (.Name x pos) X.env) Q E s :=
  Calls.Name_function_global I.ok.kind hg (Calls.loadGlobal_global (by rw [I.ok.glob]; exact I.mod.glob.keeps I.bk) hm h) hd
theorem ld_blt {E : Value → Shared → Prop} {pins : List (Addr × Obj)} {s : Shared} {σ : St} {H : Hp} {x : Str} {u : Value} {pos : Pos} {Q : Value → Shared → Prop} (I : Inv X pins σ H s) (hg : Gl X x) (hm : X.mg x = none) (hv : bootBuiltins x = some u) (h : Q u s)
    (hn : x ≠ "__name__" := by decide) (hd : (x == ("__debug__" : Str)) = false := by decide) : wpAny (model X.prog X.w) X.A (eval (.Name x pos) X.env) Q E s := by
  obtain ⟨mb, h1, h2⟩ := I.mod.blt
  exact Calls.Name_function_global I.ok.kind hg (Calls.loadGlobal_builtin (by rw [I.ok.glob]; exact I.mod.glob.keeps I.bk) hm (by rw [I.ok.blt]; exact h1.keeps I.bk) ((h2 x hn).trans hv) h) hd
/-- a module's constant, a class, a function, as a value -/
theorem pe_glob {x : Str} {v : V} {u : Value} {pos : Pos} (hg : Gl X x) (hm : X.mg x = some u) (r : RelV v u) (hd : (x == ("__debug__" : Str)) = false := by decide) : PE X (.Name x pos) (tC v) :=
  fun _ _ _ H _ I h => ld_glob I hg hm ⟨v, H, I, r, h⟩ hd
/-! ### arithmetic -/
variable {a b : Expr} {ta tb : TE} {pos : Pos}
/-! ### comparisons -/
/-- a comparison as a value, as a test -/
def tB (t : TE) : TT := fun σ H Q => t σ H fun x H1 => ∃ c, x = .bl c ∧ Q c H1
/-- an expression whose value is a bool, as a test -/
theorem pt_val {e : Expr} {t : TE} (h : PE X e t) (he : ∀ whole, isTrue e X.env whole = (do let v ← whole; standAt e.pos; holding [v] (truthy v)) := by intro _; rfl) : PT X e (tB t) := by
  intro pins s σ H Q I hw
  refine isTrue_plain (thn (h pins s σ H _ I hw) fun v s1 ⟨x, H1, I1, r1, q1⟩ => ?_) (he _)
  obtain ⟨d, rfl, q⟩ := q1
  cases r1
  exact wpAny_truthy_bool ⟨H1, I1, q⟩

/-! ### and, or, not -/
variable {tA tB' : TT} {rest : List Expr}
def tAnd (t u : TT) : TT := fun σ H Q => t σ H fun c H1 => if c = true then u σ H1 Q else Q false H1
def tOr (t u : TT) : TT := fun σ H Q => t σ H fun c H1 => if c = true then Q true H1 else u σ H1 Q
def tNot (t : TT) : TT := fun σ H Q => t σ H fun c H1 => Q (!c) H1
theorem pw_and1 (ha : PT X a tA) : PW X (.BoolOp .And [a] pos) tA := by
  intro wh pins s σ H Q I h
  refine isTrue_and (thn (ha pins s σ H Q I h) fun c s1 e => ?_)
  cases c with
  | true => exact isTrue_and_nil e
  | false => exact e
theorem pw_or1 (ha : PT X a tA) : PW X (.BoolOp .Or [a] pos) tA := by
  intro wh pins s σ H Q I h
  refine isTrue_or (thn (ha pins s σ H Q I h) fun c s1 e => ?_)
  cases c with
  | false => exact isTrue_or_nil e
  | true => exact e
theorem pw_and (ha : PT X a tA) (hb : PW X (.BoolOp .And (b :: rest) pos) tB') : PW X (.BoolOp .And (a :: b :: rest) pos) (tAnd tA tB') := by
  intro wh pins s σ H Q I h
  refine isTrue_and (thn (ha pins s σ H _ I h) fun c s1 ⟨H1, I1, q1⟩ => ?_)
  cases c with
  | true => exact hb wh pins s1 σ H1 Q I1 q1
  | false => exact ⟨H1, I1, q1⟩
theorem pw_or (ha : PT X a tA) (hb : PW X (.BoolOp .Or (b :: rest) pos) tB') : PW X (.BoolOp .Or (a :: b :: rest) pos) (tOr tA tB') := by
  intro wh pins s σ H Q I h
  refine isTrue_or (thn (ha pins s σ H _ I h) fun c s1 ⟨H1, I1, q1⟩ => ?_)
  cases c with
  | true => exact ⟨H1, I1, q1⟩
  | false => exact hb wh pins s1 σ H1 Q I1 q1
theorem pt_not (ha : PT X a tA) : PT X (.UnaryOp .Not a pos) (tNot tA) := by
  intro pins s σ H Q I h
  exact isTrue_not (ha pins s σ H (fun c H1 => Q (!c) H1) I h)
/-- a if t else b -/
def tIf (t : TT) (ta tb : TE) : TE := fun σ H Q => t σ H fun c H1 => if c = true then ta σ H1 Q else tb σ H1 Q
theorem pe_ifExp {c : Expr} (hc : PT X c tA) (ha : PE X a ta) (hb : PE X b tb) : PE X (.IfExp c a b pos) (tIf tA ta tb) := by
  intro pins s σ H Q I h
  refine wpAny_IfExp (thn (hc pins s σ H _ I h) fun d s1 ⟨H1, I1, q1⟩ => ?_)
  cases d with
  | true => exact ha pins s1 σ H1 Q I1 q1
  | false => exact hb pins s1 σ H1 Q I1 q1
end
end L2

namespace L2
open PySem PySem.Spec PyProof.Rows

/-! ### a list, a tuple that is read: tracked, frozen, or an object of the module -/
def SqL (K : PySem.W.Frag) (H : Hp) (a : Addr) (xs : List V) : Prop :=
  Rd H a (.lst xs) ∨
    ∃ (o : Obj) (its : Array Value) (n : Nat), K.lookup a = some o ∧ o.cls = .type "list" ∧ o.dict = none ∧ o.data = .seq its n ∧ its.size ≤ sizeLine ∧ Vals xs its.toList
def SqT (K : PySem.W.Frag) (H : Hp) (a : Addr) (xs : List V) : Prop :=
  Rd H a (.tup xs) ∨
    ∃ (o : Obj) (its : Array Value) (n : Nat), K.lookup a = some o ∧ o.cls = .type "tuple" ∧ o.data = .seq its n ∧ its.size ≤ sizeLine ∧ Vals xs its.toList
def absV : Value → Option V
  | .none => some .non
  | .bool b => some (.bl b)
  | .int i _ => some (.int i)
  | .str x _ => some (.str x)
  | .bytes b _ => some (.byt b)
  | .float b _ => some (.flt b)
  | .ref a => some (.ref a)
  | .type n => some (.ty n)
  | _ => none
theorem RelV.abs {x : V} {u : Value} (r : RelV x u) : absV u = some x := by
  cases x with
  | non => cases r; rfl
  | bl _ => cases r; rfl
  | int _ => obtain ⟨t, rfl⟩ := r; rfl
  | str _ => obtain ⟨t, rfl⟩ := r; rfl
  | byt _ => obtain ⟨t, rfl⟩ := r; rfl
  | flt _ => obtain ⟨t, rfl⟩ := r; rfl
  | ref _ => cases r; rfl
  | ty _ => cases r; rfl
theorem RelV.inj {x y : V} {u : Value} (r : RelV x u) (q : RelV y u) : x = y := Option.some.inj (r.abs.symm.trans q.abs)
theorem Vals.inj : ∀ {xs ys : List V} {us : List Value}, Vals xs us → Vals ys us → xs = ys
  | _, _, _, .nil, .nil => rfl
  | _, _, _, .cons r t, .cons r' t' => by rw [r.inj r', Vals.inj t t']
section
variable {X : Cx} {pins : List (Addr × Obj)} {σ : St} {H : Hp} {s : Shared} {a : Addr} {xs ys : List V}
theorem SqL.of {K : PySem.W.Frag} (h : H a = some (.lst xs)) : SqL K H a xs := .inl (.inl h)
theorem SqT.of {K : PySem.W.Frag} (h : H a = some (.tup xs)) : SqT K H a xs := .inl (.inl h)
theorem Inv.list (I : Inv X pins σ H s) (h : SqL X.K H a xs) : ∃ its : List Value, Vals xs its ∧ PlainL s.heap a its.toArray ∧ xs.length ≤ sizeLine := by
  rcases h with h | ⟨o, its, n, hk, hc, hd, hs, hz, r⟩
  · obtain ⟨z, its, n, r, e⟩ := h.ok I.hok
    exact ⟨its, r, ⟨_, n, e, rfl, rfl, rfl⟩, z⟩
  · refine ⟨its.toList, r, ⟨o, n, I.kIn a o hk, hc, hd, by simpa using hs⟩, ?_⟩
    have e := r.length
    simp only [Array.length_toList] at e
    omega
theorem Inv.tuple (I : Inv X pins σ H s) (h : SqT X.K H a xs) : ∃ its : List Value, Vals xs its ∧ IsTup s.heap a its.toArray ∧ xs.length ≤ sizeLine := by
  rcases h with h | ⟨o, its, n, hk, hc, hs, hz, r⟩
  · obtain ⟨z, its, r, p⟩ := h.ok I.hok
    exact ⟨its, r, p, z⟩
  · refine ⟨its.toList, r, ⟨o, I.kIn a o hk, hc, n, by simpa using hs⟩, ?_⟩
    have e := r.length
    simp only [Array.length_toList] at e
    omega
theorem Inv.list_inj (I : Inv X pins σ H s) (h : SqL X.K H a xs) (h' : SqL X.K H a ys) : xs = ys := by
  obtain ⟨its, r, ⟨o, n, e, _, _, d⟩, _⟩ := I.list h
  obtain ⟨its', r', ⟨o', n', e', _, _, d'⟩, _⟩ := I.list h'
  rw [e] at e'; cases e'
  rw [d] at d'
  injection d' with d1 _
  have : its = its' := by simpa using congrArg Array.toList d1
  subst this
  exact r.inj r'
theorem Inv.tuple_inj (I : Inv X pins σ H s) (h : SqT X.K H a xs) (h' : SqT X.K H a ys) : xs = ys := by
  obtain ⟨its, r, ⟨o, e, _, n, d⟩, _⟩ := I.tuple h
  obtain ⟨its', r', ⟨o', e', _, n', d'⟩, _⟩ := I.tuple h'
  rw [e] at e'; cases e'
  rw [d] at d'
  injection d' with d1 _
  have : its = its' := by simpa using congrArg Array.toList d1
  subst this
  exact r.inj r'
end

/-! ### another wish about exceptions -/
abbrev Cx.wish (X : Cx) (E : Value → Shared → Prop) : Cx := { X with xe := E }
/-- no exception leaves -/
abbrev Cx.nox (X : Cx) : Cx := X.wish fun _ _ => False
theorem Cx.Ok.wish {X : Cx} (ok : X.Ok) (E : Value → Shared → Prop) : (X.wish E).Ok :=
  ⟨ok.mod, ok.kind, ok.glob, ok.blt, ok.above, ok.inj, ok.has, ok.cab, ok.hd, ok.frames, ok.stk, ok.exf, ok.bs, ok.bsz, ok.noex, ok.exfs, ok.funs, ok.frf⟩
theorem Cx.Ok.unwish {X : Cx} {E : Value → Shared → Prop} (ok : (X.wish E).Ok) : X.Ok :=
  ⟨ok.mod, ok.kind, ok.glob, ok.blt, ok.above, ok.inj, ok.has, ok.cab, ok.hd, ok.frames, ok.stk, ok.exf, ok.bs, ok.bsz, ok.noex, ok.exfs, ok.funs, ok.frf⟩
section
variable {X : Cx} {pins : List (Addr × Obj)} {σ : St} {H : Hp} {s : Shared} {E : Value → Shared → Prop}
theorem Inv.wish (I : Inv X pins σ H s) (E : Value → Shared → Prop) : Inv (X.wish E) pins σ H s := ⟨I.ok.wish E, I.os, I.bare, I.base, I.loc, I.cell, I.free, I.freeC, I.pin, I.hok, I.len⟩
theorem Inv.unwish (I : Inv (X.wish E) pins σ H s) : Inv X pins σ H s := ⟨I.ok.unwish, I.os, I.bare, I.base, I.loc, I.cell, I.free, I.freeC, I.pin, I.hok, I.len⟩
theorem SP.unwish {D : Ends} {f : Flow} {s' : Shared} (h : SP (X.wish E) pins D f s') : SP X pins D f s' := by
  cases f with
  | next => obtain ⟨σ', H', I, q⟩ := h; exact ⟨σ', H', I.unwish, q⟩
  | brk => obtain ⟨σ', H', I, q⟩ := h; exact ⟨σ', H', I.unwish, q⟩
  | cont => obtain ⟨σ', H', I, q⟩ := h; exact ⟨σ', H', I.unwish, q⟩
  | ret u => obtain ⟨v, σ', H', I, r, q⟩ := h; exact ⟨v, σ', H', I.unwish, r, q⟩
theorem PE.nox {e : Expr} {t : TE} (h : PE X.nox e t) : PE X e t := fun pins s σ H Q I hw =>
  wpAny_mono (h pins s σ H Q (I.wish _) hw) (fun _ _ ⟨v, H', I', r, q⟩ => ⟨v, H', I'.unwish, r, q⟩) fun _ _ z => False.elim z
theorem PT.nox {e : Expr} {t : TT} (h : PT X.nox e t) : PT X e t := fun pins s σ H Q I hw =>
  wpAny_mono (h pins s σ H Q (I.wish _) hw) (fun _ _ ⟨H', I', q⟩ => ⟨H', I'.unwish, q⟩) fun _ _ z => False.elim z
theorem PSs.nox {st : List Stmt} {t : TS} (h : PSs X.nox st t) : PSs X st t := fun pins s σ H D I hw =>
  wpAny_mono (h pins s σ H D (I.wish _) hw) (fun _ _ q => q.unwish) fun _ _ z => False.elim z
end

/-! ### blocks and small statements -/
section
variable {X : Cx} {st : Stmt} {rest : List Stmt} {t u : TS} {e : Expr} {te : TE} {pos : Pos}
def tNext : TS := fun D σ H => D.nx σ H
def tSeq (t u : TS) : TS := fun D σ H => t { D with nx := u D } σ H
theorem pss_nil : PSs X [] tNext := fun _ _ σ H _ I h => wpAny_execs_nil ⟨σ, H, I, h⟩
theorem pss_cons (h1 : PS X st t) (h2 : PSs X rest u) : PSs X (st :: rest) (tSeq t u) := by
  intro pins s σ H D I h
  refine wpAny_execs_cons (thn (h1 pins s σ H { D with nx := u D } I h) fun f s1 q => ?_)
  cases f with
  | next =>
    obtain ⟨σ', H', I', q⟩ := q
    exact h2 pins s1 σ' H' D I' q
  | ret v => exact q
  | brk => exact q
  | cont => exact q
theorem pss_one (h1 : PS X st t) : PSs X [st] t := by
  intro pins s σ H D I h
  refine wpAny_execs_cons (thn (h1 pins s σ H D I h) fun f s1 q => ?_)
  cases f with
  | next => exact wpAny_execs_nil q
  | ret v => exact q
  | brk => exact q
  | cont => exact q
/-- in a def's body nothing is shown -/
theorem Inv.quiet {pins : List (Addr × Obj)} {σ : St} {H : Hp} {s : Shared} (I : Inv X pins σ H s) : interactive X.env = false := by simp [interactive, I.ok.kind]
/-- an expression whose value is dropped -/
def tDrop (te : TE) : TS := fun D σ H => te σ H fun _ H1 => D.nx σ H1
theorem ps_expr (he : PE X e te) (hs : swapsWith e none pos.line X.env = pure false := by rfl) : PS X (.Expr e pos) (tDrop te) := by
  intro pins s σ H D I h
  exact wpAny_Expr_any (thn (he pins s σ H _ I h) fun v s1 ⟨x, H1, I1, r1, q1⟩ => ⟨σ, H1, I1, q1⟩) I.quiet hs
def tRet (te : TE) : TS := fun D σ H => te σ H D.rt
theorem ps_ret (he : PE X e te) : PS X (.Return (some e) pos) (tRet te) := by
  intro pins s σ H D I h
  exact wpAny_Return_some (thn (he pins s σ H _ I h) fun v s1 ⟨x, H1, I1, r1, q1⟩ => ⟨x, σ, H1, I1, r1, q1⟩)
def tRetN : TS := fun D _ H => D.rt .non H
theorem ps_retN : PS X (.Return none pos) tRetN := fun _ _ σ H _ I h => wpAny_Return_none ⟨.non, σ, H, I, rfl, h⟩
def tIfS (c : TT) (t u : TS) : TS := fun D σ H => c σ H fun b H1 => if b = true then t D σ H1 else u D σ H1
theorem ps_if {c : Expr} {a b : List Stmt} {tc : TT} (hc : PT X c tc) (ha : PSs X a t) (hb : PSs X b u) : PS X (.If c a b pos) (tIfS tc t u) := by
  intro pins s σ H D I h
  refine wpAny_If (thn (hc pins s σ H _ I h) fun d s1 ⟨H1, I1, q1⟩ => ?_)
  cases d with
  | true => exact ha pins s1 σ H1 D I1 q1
  | false => exact hb pins s1 σ H1 D I1 q1
end

/-! ### targets -/
abbrev TG := V → St → Hp → (St → Hp → Prop) → Prop
abbrev TGs := List V → St → Hp → (St → Hp → Prop) → Prop
def PG (X : Cx) (target : Expr) (t : TG) : Prop :=
  ∀ (pins : List (Addr × Obj)) (s : Shared) (σ : St) (H : Hp) (v : V) (u : Value) (Q : St → Hp → Prop), Inv X pins σ H s → RelV v u → t v σ H Q →
    wpAny (model X.prog X.w) X.A (assign target X.env u) (fun _ s' => ∃ σ' H', Inv X pins σ' H' s' ∧ Q σ' H') X.xe s
/-- several targets, one after another -/
def PGs (X : Cx) (ts : List Expr) (t : TGs) : Prop :=
  ∀ (pins : List (Addr × Obj)) (s : Shared) (σ : St) (H : Hp) (vs : List V) (us : List Value) (Q : St → Hp → Prop), Inv X pins σ H s → Vals vs us → t vs σ H Q →
    wpAny (model X.prog X.w) X.A (assignInOrder ((assignEach ts X.env).map (·.2)) us) (fun _ s' => ∃ σ' H', Inv X pins σ' H' s' ∧ Q σ' H') X.xe s
/-- o[i] = v, by values -/
abbrev TSet := V → V → V → Hp → (Hp → Prop) → Prop
def PSet (X : Cx) (t : TSet) : Prop :=
  ∀ (pins : List (Addr × Obj)) (s : Shared) (σ : St) (H : Hp) (o i v : V) (ov iv u : Value) (Q : Hp → Prop), Inv X pins σ H s → RelV o ov → RelV i iv → RelV v u → t o i v H Q →
    wpAny (model X.prog X.w) X.A (setItem ov iv u) (fun _ s' => ∃ H', Inv X pins σ H' s' ∧ Q H') X.xe s
section
variable {X : Cx} {pos : Pos}
def gName (i : Nat) : TG := fun v σ H Q => Q (σ.set i (some v)) H
theorem pg_name {i : Nat} {x : Str} (hN : X.N.Nodup) (hi : X.N[i]? = some x) (hx : Loc X.env.scope x) (hf : X.fn x = true ∨ X.env.scope.names.lookup x = some .local := by first | exact .inl rfl | exact .inr rfl | assumption) : PG X (.Name x pos) (gName i) := by
  intro pins s σ H v u Q I r h
  exact wpAny_assign_Name (store_ok I hN hi hx r (fun s' I' => ⟨_, H, I', h⟩) hf)
def gNil : TGs := fun vs σ H Q => vs = [] ∧ Q σ H
def gCons (t : TG) (u : TGs) : TGs := fun vs σ H Q => ∃ v r, vs = v :: r ∧ t v σ H fun σ' H' => u r σ' H' Q
theorem pgs_nil : PGs X [] gNil := by
  intro pins s σ H vs us Q I r h
  obtain ⟨e, h⟩ := h
  subst e
  cases r
  exact assignInOrder_nil ⟨σ, H, I, h⟩
theorem pgs_cons {e : Expr} {es : List Expr} {t : TG} {u : TGs} (h1 : PG X e t) (h2 : PGs X es u)
    (hs : (assignEach (e :: es) X.env).map (·.2) = assign e X.env :: (assignEach es X.env).map (·.2) := by rfl) : PGs X (e :: es) (gCons t u) := by
  intro pins s σ H vs us Q I r h
  obtain ⟨v, vr, e1, h⟩ := h
  subst e1
  cases r with
  | cons r rr =>
    rw [hs]
    refine assignInOrder_cons (thn (h1 pins s σ H _ _ _ I r h) fun _ s1 ⟨σ1, H1, I1, q1⟩ => ?_)
    exact h2 pins s1 σ1 H1 _ _ Q I1 rr q1
/-- (a, b, ..) = a tuple of that length -/
def gTup (K : PySem.W.Frag) (n : Nat) (t : TGs) : TG := fun v σ H Q => ∃ a xs, v = .ref a ∧ SqT K H a xs ∧ xs.length = n ∧ t xs σ H Q
theorem pg_tup {es : List Expr} {k : Nat} {t : TGs} {n : Nat} (hc : X.calm = true) (h : PGs X es t)
    (hn : (assignEach es X.env).length = n := by rfl) (hst : (assignEach es X.env).findIdx? (·.1) = none := by rfl) : PG X (.Tuple es k pos) (gTup X.K n t) := by
  intro pins s σ H v u Q I r hw
  obtain ⟨a, xs, e1, hq, hl, hw⟩ := hw
  subst e1
  cases r
  obtain ⟨its, rv, ht, hz⟩ := I.tuple hq
  refine assign_Tuple_tuple (I.ok.hd hc) ht (by simp [hn, ← hl, rv.length]) hst fun h' hx => ?_
  have I1 : Inv X pins σ H { s with heap := h' } := I.kept (t' := s.toks) fun b o e => hx b o (Nat.ne_of_lt (Heap.lt_size e)) e
  exact h pins _ σ H xs _ Q I1 (by simpa using rv) hw
/-- o[i] = .. -/
def gSub (to ti : TE) (t : TSet) : TG := fun v σ H Q => to σ H fun o H1 => ti σ H1 fun i H2 => t o i v H2 fun H3 => Q σ H3
theorem pg_sub {o i : Expr} {to ti : TE} {t : TSet} (ho : PE X o to) (hi : PE X i ti) (hs : PSet X t)
    (ha : ∀ v, assign (.Subscript o i pos) X.env v = (do
      let ov ← holding [v] (eval o X.env)
      let iv ← holding [v, ov] (eval i X.env)
      standAt pos
      holding [v, ov, iv] (setItem ov iv v)
      release [v, ov, iv] []) := by intro _; rfl) : PG X (.Subscript o i pos) (gSub to ti t) := by
  intro pins s σ H v u Q I r h
  rw [ha]
  refine wpAny_bind (wpAny_holding (thn (ho pins s σ H _ I h) fun ov s1 ⟨x, H1, I1, r1, q1⟩ => ?_))
  refine wpAny_bind (wpAny_holding (thn (hi pins s1 σ H1 _ I1 q1) fun iv s2 ⟨y, H2, I2, r2, q2⟩ => ?_))
  refine wpAny_bind (wpAny_standAt (wpAny_bind (wpAny_holding (thn (hs pins s2 σ H2 x y v ov iv u _ I2 r1 r2 r q2) fun _ s3 ⟨H3, I3, q3⟩ => ?_))))
  exact wpAny_release ⟨σ, H3, I3, q3⟩
/-- target = value -/
def tAsg (te : TE) (g : TG) : TS := fun D σ H => te σ H fun x H1 => g x σ H1 D.nx
theorem ps_asg {tg e : Expr} {te : TE} {g : TG} (he : PE X e te) (hg : PG X tg g) (hs : swapsWithSole [tg] e pos.line X.env = pure false := by rfl) (hw : swappedStores [tg] e X.env = pure none := by rfl)
    (h1 : (assignEach [tg] X.env).map (·.2) = [assign tg X.env] := by rfl) : PS X (.Assign [tg] e pos) (tAsg te g) := by
  intro pins s σ H D I h
  refine wpAny_Assign_stores (thn (he pins s σ H _ I h) fun v s1 ⟨x, H1, I1, r1, q1⟩ => ?_) hs hw
  rw [h1]
  exact thn (hg pins s1 σ H1 x v _ I1 r1 q1) fun _ s2 q => q
/-- name = value -/
theorem ps_set {i : Nat} {x : Str} {e : Expr} {te : TE} {pos' : Pos} (hN : X.N.Nodup) (hi : X.N[i]? = some x) (hx : Loc X.env.scope x) (he : PE X e te) (hs : swapsWith e (some (.Name x pos')) pos.line X.env = pure false := by rfl) (hf : X.fn x = true ∨ X.env.scope.names.lookup x = some .local := by first | exact .inl rfl | exact .inr rfl | assumption) :
    PS X (.Assign [.Name x pos'] e pos) (tAsg te (gName i)) := by
  intro pins s σ H D I h
  refine wpAny_Assign_Name (thn (he pins s σ H _ I h) fun v s1 ⟨y, H1, I1, r1, q1⟩ => ?_) hs
  exact store_ok I1 hN hi hx r1 (fun s2 I2 => ⟨_, H1, I2, q1⟩) hf
end

/-! ### while -/
section
variable {X : Cx} {pos : Pos}
/-- the invariant W with its measure -/
def tWhile (c : TT) (tb : TS) : TS := fun D σ H => ∃ W : Nat → St → Hp → Prop, (∃ m, W m σ H) ∧ ∀ m σ H, W m σ H →
  c σ H fun b H1 => if b = true then ∃ N : St → Hp → Prop, (∀ σ' H', N σ' H' → ∃ m', m' < m ∧ W m' σ' H') ∧ tb { D with nx := N, ct := N, bk := D.nx } σ H1 else D.nx σ H1
theorem ps_while {c : Expr} {body : List Stmt} {tc : TT} {tb : TS} (hp : PassesOwn (model X.prog X.w) X.A X.env X.xe) (hc : PT X c tc) (hb : PSs X body tb) : PS X (.While c body [] pos) (tWhile tc tb) := by
  intro pins s σ H D I h
  obtain ⟨W, ⟨m0, w0⟩, turn⟩ := h
  refine wpAny_While (codeAny_whileLoop (fun n s' => ∃ σ' H', Inv X pins σ' H' s' ∧ W n σ' H') ?_ m0 ⟨σ, H, I, w0⟩)
  rintro n s1 ⟨σ1, H1, I1, w1⟩
  refine wpAny_passesOwn hp (thn (hc pins s1 σ1 H1 _ I1 (turn n σ1 H1 w1)) fun b s2 ⟨H2, I2, q2⟩ => ?_)
  cases b with
  | true =>
    obtain ⟨N, hN, q2⟩ := q2
    rw [if_pos rfl]
    refine wpAny_passesOwn hp (thn (hb pins s2 σ1 H2 _ I2 q2) fun f s3 q3 => ?_)
    cases f with
    | next =>
      obtain ⟨σ3, H3, I3, n3⟩ := q3
      obtain ⟨m', hm, w3⟩ := hN σ3 H3 n3
      exact ⟨m', hm, σ3, H3, I3, w3⟩
    | cont =>
      obtain ⟨σ3, H3, I3, n3⟩ := q3
      obtain ⟨m', hm, w3⟩ := hN σ3 H3 n3
      exact ⟨m', hm, σ3, H3, I3, w3⟩
    | brk => exact q3
    | ret v => exact q3
  | false =>
    rw [if_neg Bool.false_ne_true]
    exact wpAny_execs_nil ⟨σ1, H2, I2, q2⟩
end

/-! ### what a loop or a comprehension walks -/
/-- at turn i: it yields x (the heap may grow), or it stops -/
structure It where
  go : Nat → Hp → Prop
  yld : Nat → Hp → V → Hp → Prop
  stop : Nat → Hp → Prop
/-- the iterator's own objects may turn: they are not the frame's, not pinned, younger than the entry (or a comprehension's own) -/
def FpOk (X : Cx) (pins : List (Addr × Obj)) (H : Hp) (b : Addr) : Prop :=
  H b = none ∧ b ≠ X.env.locals ∧ b ∉ X.fs ∧ (b ∈ X.ex ∨ X.s₀.heap.objs.size ≤ b) ∧ (∀ x c, X.env.cells.lookup x = some c → c ≠ b) ∧ ∀ p ∈ X.pn ++ pins, p.1 ≠ b
theorem Inv.fpOk {X : Cx} {pins : List (Addr × Obj)} {σ : St} {H H' : Hp} {s : Shared} {b : Addr} (I : Inv X pins σ H s) (hb : s.heap.objs.size ≤ b) (hn : H' b = none) : FpOk X pins H' b := by
  refine ⟨hn, Nat.ne_of_gt (Nat.lt_of_lt_of_le I.lt hb), I.nofs hb, .inr (Nat.le_trans I.sz hb), fun x c e z => ?_, fun p hp z => ?_⟩
  · obtain ⟨v, q⟩ := I.cell x c e
    exact absurd (Nat.lt_of_lt_of_le q.lt (by rw [z]; exact hb)) (Nat.lt_irrefl _)
  · exact absurd (Nat.lt_of_lt_of_le (Heap.lt_size (I.pin p hp).1) (by rw [z]; exact hb)) (Nat.lt_irrefl _)
structure Turn (P : Program) (w : World) (K : PySem.W.Frag) (tg : Expr) (J : It) (fp : List Addr) (it : Addr) (tn : Nat → Heap → Prop) : Prop where
  mem : it ∈ fp
  obj : ∀ i h, tn i h → ∀ b ∈ fp, ∃ o, h.get? b = some o ∧ ∀ v, o.data ≠ .cell v
  keep : ∀ i h h', tn i h → (∀ b ∈ fp, ∀ o, h.get? b = some o → h'.get? b = some o) → tn i h'
  item : ∀ (X : Cx), X.prog = P → X.w = w → X.K = K → X.calm = true → ∀ (i : Nat) (pins : List (Addr × Obj)) (s : Shared) (σ : St) (H : Hp) (E : Value → Shared → Prop), Inv X pins σ H s → (∀ b ∈ fp, FpOk X pins H b) → tn i s.heap → J.go i H →
    wpAny (model P w) X.A (pyNext (.ref it)) (fun r s1 => ∃ u, r = some u ∧
      wpAny (model P w) X.A (letOwnedTupleGo tg (.ref it) u) (fun _ s2 => ∃ x H', Inv X pins σ H' s2 ∧ RelV x u ∧ J.yld i H x H' ∧ tn (i + 1) s2.heap ∧ ∀ b ∈ fp, H' b = none) E s1) E s
  done : ∀ (X : Cx), X.prog = P → X.w = w → X.K = K → X.calm = true → ∀ (i : Nat) (pins : List (Addr × Obj)) (s : Shared) (σ : St) (H : Hp) (E : Value → Shared → Prop), Inv X pins σ H s → (∀ b ∈ fp, FpOk X pins H b) → tn i s.heap → J.stop i H →
    wpAny (model P w) X.A (pyNext (.ref it)) (fun r s1 => r = none ∧ Inv X pins σ H s1) E s
  self : ∀ (A : Around) (i : Nat) (s : Shared) (Q : Value → Shared → Prop) (E : Value → Shared → Prop), tn i s.heap → Q (.ref it) s → wpAny (model P w) A (pyIter (.ref it)) Q E s
abbrev TI := St → Hp → (It → Hp → Prop) → Prop
/-- an iterator has come -/
def PIE (X : Cx) (pins : List (Addr × Obj)) (σ : St) (tg : Expr) (R : It → Hp → Prop) (itv : Value) (s2 : Shared) : Prop :=
  ∃ (it : Addr) (fp : List Addr) (tn : Nat → Heap → Prop) (J : It) (H' : Hp), itv = .ref it ∧ Inv X pins σ H' s2 ∧ Turn X.prog X.w X.K tg J fp it tn ∧ tn 0 s2.heap ∧ (∀ b ∈ fp, FpOk X pins H' b) ∧ R J H'
def PI (X : Cx) (tg iter : Expr) (wi : TI) : Prop :=
  ∀ (pins : List (Addr × Obj)) (s : Shared) (σ : St) (H : Hp) (R : It → Hp → Prop), Inv X pins σ H s → wi σ H R →
    wpAny (model X.prog X.w) X.A (eval iter X.env) (fun v s1 => wpAny (model X.prog X.w) X.A (pyIter v) (PIE X pins σ tg R) X.xe s1) X.xe s

/-- the step ahead of the store is nothing for an iterator that keeps no tuple -/
theorem go_of {M : Model} {A : Around} {E : Value → Shared → Prop} {s : Shared} {tg : Expr} {it : Addr} {u : Value} {o : Obj} {n : String} {vs : Array Value} {Q : Unit → Shared → Prop} (ho : s.heap.get? it = some o) (hc : o.cls = .type n) (hd : o.data = .fields vs)
    (hn : ["enumerate", "zip", "dict_itemiterator", "dict_reverseitemiterator", "odict_iterator", "itertools.zip_longest", "itertools.pairwise"].contains n = false) (hQ : Q () s) : wpAny M A (letOwnedTupleGo tg (.ref it) u) Q E s := by
  unfold letOwnedTupleGo
  cases tg <;> first
    | exact wpAny_pure hQ
    | (cases u <;> first
        | exact wpAny_pure hQ
        | (refine wpAny_bind (wpAny_load ho ?_)
           rw [hc, hd]
           show wpAny M A (if (["enumerate", "zip", "dict_itemiterator", "dict_reverseitemiterator", "odict_iterator", "itertools.zip_longest", "itertools.pairwise"].contains n && vs[0]? == some (rawInt _)) = true then _ else _) Q E s
           rw [if_neg (by intro h; rw [hn, Bool.false_and] at h; cases h)]
           exact wpAny_pure hQ))

/-- the list at a, as it stands at each turn (a loop may append to it) -/
def Itl (K : PySem.W.Frag) (a : Addr) : It :=
  ⟨fun i H => ∃ xs x, SqL K H a xs ∧ xs[i]? = some x, fun i H x H' => H' = H ∧ ∀ xs, SqL K H a xs → xs[i]? = some x, fun i H => ∃ xs, SqL K H a xs ∧ xs.length ≤ i⟩
def Itt (K : PySem.W.Frag) (a : Addr) : It :=
  ⟨fun i H => ∃ xs x, SqT K H a xs ∧ xs[i]? = some x, fun i H x H' => H' = H ∧ ∀ xs, SqT K H a xs → xs[i]? = some x, fun i H => ∃ xs, SqT K H a xs ∧ xs.length ≤ i⟩
/-- lo, lo + 1, .. (n of them) -/
def Itr (lo : Int) (n : Nat) : It := ⟨fun i _ => i < n, fun i H x H' => H' = H ∧ x = .int (lo + i), fun i _ => n ≤ i⟩
theorem turn_list {P : Program} {w : World} {K : PySem.W.Frag} {tg : Expr} (a it : Addr) : Turn P w K tg (Itl K a) [it] it (fun i h => h.IsListIter it a i) where
  mem := by simp
  obj := fun i h st b hb => by
    have e : b = it := by simpa using hb
    subst e
    obtain ⟨o, e, c, d⟩ := st
    exact ⟨o, e, fun v z => by rw [d] at z; cases z⟩
  keep := fun i h h' st k => st.at fun o e => k it (by simp) o e
  item := by
    intro X hP hw hK hc i pins s σ H E I hf st hg
    subst hP hw hK
    obtain ⟨xs, x, hq, hx⟩ := hg
    obtain ⟨its, rv, p, hz⟩ := I.list hq
    obtain ⟨u, hu, ru⟩ := rv.get hx
    obtain ⟨f0, f1, f2, f3, f4, f5⟩ := hf it (by simp)
    refine wpAny_pyNext_list_item st p.isList (x := u) (by simpa using hu) fun h' st' sb => ?_
    have I1 : Inv X pins σ H { s with heap := h' } := I.turned (t' := s.toks) (fun b o hb e => (sb.2 b hb).trans e) f0 f1 f3 f4 f5
    obtain ⟨o, e, c, d⟩ := id st'
    exact ⟨u, rfl, go_of (s := { s with heap := h' }) e c d (by decide) ⟨x, H, I1, ru, ⟨rfl, fun ys hy => by rw [I.list_inj hy hq]; exact hx⟩, st', fun b hb => (hf b hb).1⟩⟩
  done := by
    intro X hP hw hK hc i pins s σ H E I hf st hg
    subst hP hw hK
    obtain ⟨xs, hq, hx⟩ := hg
    obtain ⟨its, rv, p, hz⟩ := I.list hq
    obtain ⟨f0, f1, f2, f3, f4, f5⟩ := hf it (by simp)
    have hl := rv.length
    exact wpAny_pyNext_list_end (I.ok.hd hc) st p.isList (by simp; omega) fun h' eb => ⟨rfl, I.turned (t' := s.toks) (fun b o hb e => eb b o hb e) f0 f1 f3 f4 f5⟩
  self := fun _ _ _ _ _ st h => wpAny_pyIter_listiter st h
theorem turn_tuple {P : Program} {w : World} {K : PySem.W.Frag} {tg : Expr} (a it : Addr) : Turn P w K tg (Itt K a) [it] it (fun i h => h.IsTupleIter it a i) where
  mem := by simp
  obj := fun i h st b hb => by
    have e : b = it := by simpa using hb
    subst e
    obtain ⟨o, e, c, d⟩ := st
    exact ⟨o, e, fun v z => by rw [d] at z; cases z⟩
  keep := fun i h h' st k => st.at fun o e => k it (by simp) o e
  item := by
    intro X hP hw hK hc i pins s σ H E I hf st hg
    subst hP hw hK
    obtain ⟨xs, x, hq, hx⟩ := hg
    obtain ⟨its, rv, p, hz⟩ := I.tuple hq
    obtain ⟨u, hu, ru⟩ := rv.get hx
    obtain ⟨f0, f1, f2, f3, f4, f5⟩ := hf it (by simp)
    refine wpAny_pyNext_tuple_item st (show s.heap.IsTuple a its.toArray from p) (x := u) (by simpa using hu) fun h' st' sb => ?_
    have I1 : Inv X pins σ H { s with heap := h' } := I.turned (t' := s.toks) (fun b o hb e => (sb.2 b hb).trans e) f0 f1 f3 f4 f5
    obtain ⟨o, e, c, d⟩ := id st'
    exact ⟨u, rfl, go_of (s := { s with heap := h' }) e c d (by decide) ⟨x, H, I1, ru, ⟨rfl, fun ys hy => by rw [I.tuple_inj hy hq]; exact hx⟩, st', fun b hb => (hf b hb).1⟩⟩
  done := by
    intro X hP hw hK hc i pins s σ H E I hf st hg
    subst hP hw hK
    obtain ⟨xs, hq, hx⟩ := hg
    obtain ⟨its, rv, p, hz⟩ := I.tuple hq
    obtain ⟨f0, f1, f2, f3, f4, f5⟩ := hf it (by simp)
    have hl := rv.length
    exact wpAny_pyNext_tuple_end (I.ok.hd hc) st (show s.heap.IsTuple a its.toArray from p) (by simp; omega) fun h' eb => ⟨rfl, I.turned (t' := s.toks) (fun b o hb e => eb b o hb e) f0 f1 f3 f4 f5⟩
  self := fun _ _ _ _ _ st h => wpAny_pyIter_tupleiter st h
theorem turn_range {P : Program} {w : World} {K : PySem.W.Frag} {tg : Expr} (it : Addr) (lo : Int) (n : Nat) : Turn P w K tg (Itr lo n) [it] it (fun i h => IsRangeIter h it (lo + (i : Nat) * 1) ((n : Int) - (i : Nat)) 1) where
  mem := by simp
  obj := fun i h st b hb => by
    have e : b = it := by simpa using hb
    subst e
    exact ⟨_, st, fun v z => by
      have z' : Data.fields _ = Data.cell v := z
      cases z'⟩
  keep := fun i h h' st k => k it (by simp) _ st
  item := by
    intro X hP hw hK hc i pins s σ H E I hf st hg
    subst hP hw hK
    obtain ⟨f0, f1, f2, f3, f4, f5⟩ := hf it (by simp)
    have W := Walks.range (prog := X.prog) (w := X.w) (I.ok.hd hc) it lo 1 n
    refine W.item i s _ _ hg st fun v h' tk hv st' kk => ?_
    obtain ⟨t, rfl⟩ := hv
    have I1 : Inv X pins σ H { s with heap := h', toks := tk } := I.turned (fun b o hb e => kk b o (by simpa using hb) e) f0 f1 f3 f4 f5
    refine ⟨_, rfl, go_of (s := { s with heap := h', toks := tk }) (n := "range_iterator") st' rfl rfl (by decide) ⟨.int (lo + i), H, I1, ⟨t, ?_⟩, ⟨rfl, rfl⟩, st', fun b hb => (hf b hb).1⟩⟩
    rw [Int.mul_one]
  done := by
    intro X hP hw hK hc i pins s σ H E I hf st hg
    subst hP hw hK
    obtain ⟨f0, f1, f2, f3, f4, f5⟩ := hf it (by simp)
    exact wpAny_pyNext_range_end (I.ok.hd hc) st (by have : n ≤ i := hg; omega) fun h' eb => ⟨rfl, I.turned (t' := s.toks) (fun b o hb e => eb b o hb e) f0 f1 f3 f4 f5⟩
  self := fun _ _ _ _ _ st h => wpAny_pyIter_rangeiter st h
end L2

namespace L2
open PySem PySem.Spec PyProof.Rows
section
variable {X : Cx} {tg : Expr}
def iList (K : PySem.W.Frag) (tl : TE) : TI := fun σ H R => tl σ H fun x H1 => ∃ a, x = .ref a ∧ (∃ xs, SqL K H1 a xs) ∧ R (Itl K a) H1
def iTup (K : PySem.W.Frag) (tl : TE) : TI := fun σ H R => tl σ H fun x H1 => ∃ a, x = .ref a ∧ (∃ xs, SqT K H1 a xs) ∧ R (Itt K a) H1
theorem pi_list {l : Expr} {tl : TE} (hl : PE X l tl) : PI X tg l (iList X.K tl) := by
  intro pins s σ H R I h
  refine thn (hl pins s σ H _ I h) fun v s1 ⟨x, H1, I1, r1, q1⟩ => ?_
  obtain ⟨a, e, ⟨xs, hq⟩, q⟩ := q1
  subst e
  cases r1
  obtain ⟨its, rv, p, hz⟩ := I1.list hq
  refine wpAny_pyIter_list p.isList ?_
  refine ⟨s1.heap.objs.size, [s1.heap.objs.size], _, _, H1, rfl, I1.kept (t' := s1.toks) fun b o e => Heap.get?_push_of_some _ e, turn_list a _, ⟨_, Heap.get?_push_size _ rfl, rfl, rfl⟩, fun b hb => ?_, q⟩
  have e : b = s1.heap.objs.size := by simpa using hb
  subst e
  exact I1.fpOk (Nat.le_refl _) (I1.hok.fresh (Nat.le_refl _))
theorem pi_tup {l : Expr} {tl : TE} (hl : PE X l tl) : PI X tg l (iTup X.K tl) := by
  intro pins s σ H R I h
  refine thn (hl pins s σ H _ I h) fun v s1 ⟨x, H1, I1, r1, q1⟩ => ?_
  obtain ⟨a, e, ⟨xs, hq⟩, q⟩ := q1
  subst e
  cases r1
  obtain ⟨its, rv, p, hz⟩ := I1.tuple hq
  refine wpAny_pyIter_tuple (show s1.heap.IsTuple a its.toArray from p) ?_
  refine ⟨s1.heap.objs.size, [s1.heap.objs.size], _, _, H1, rfl, I1.kept (t' := s1.toks) fun b o e => Heap.get?_push_of_some _ e, turn_tuple a _, ⟨_, Heap.get?_push_size _ rfl, rfl, rfl⟩, fun b hb => ?_, q⟩
  have e : b = s1.heap.objs.size := by simpa using hb
  subst e
  exact I1.fpOk (Nat.le_refl _) (I1.hok.fresh (Nat.le_refl _))
/-- a range object just made, walked -/
theorem range_it {pins : List (Addr × Obj)} {σ : St} {H : Hp} {s : Shared} {R : It → Hp → Prop} {E : Value → Shared → Prop} {lo hi : Int} {t u v : Tok} {tk : Nat} (I : Inv X pins σ H s) (h1 : -(2 ^ 62) ≤ lo) (h2 : lo < 2 ^ 62) (h3 : -(2 ^ 62) ≤ hi) (h4 : hi < 2 ^ 62)
    (q : R (Itr lo (hi - lo).toNat) H) : wpAny (model X.prog X.w) X.A (pyIter (.ref s.heap.objs.size)) (PIE X pins σ tg R) E { s with heap := s.heap.push { cls := .type "range", data := .fields #[.int lo t, .int hi u, .int 1 v] }, toks := tk } := by
  refine wpAny_pyIter_range (IsRange.new ..) (small_one h1 h2 h3 h4) ?_
  have I1 : Inv X pins σ H { s with heap := s.heap.push { cls := .type "range", data := .fields #[.int lo t, .int hi u, .int 1 v] }, toks := tk } := I.kept fun b o e => Heap.get?_push_of_some _ e
  refine ⟨(s.heap.push { cls := .type "range", data := .fields #[.int lo t, .int hi u, .int 1 v] }).objs.size, [(s.heap.push { cls := .type "range", data := .fields #[.int lo t, .int hi u, .int 1 v] }).objs.size], _, _, H, rfl,
    I1.kept (t' := tk) fun b o e => Heap.get?_push_of_some _ e, turn_range _ lo (hi - lo).toNat, ?_, fun b hb => ?_, q⟩
  · have e1 : lo + ((0 : Nat) : Int) * 1 = lo := by simp
    have e2 : (((hi - lo).toNat : Nat) : Int) - ((0 : Nat) : Int) = Builtin.Range.rangeSize lo hi 1 := by rw [rangeSize_one]; split <;> omega
    show IsRangeIter _ _ (lo + ((0 : Nat) : Int) * 1) ((((hi - lo).toNat : Nat) : Int) - ((0 : Nat) : Int)) 1
    rw [e1, e2]
    exact Heap.get?_push_size _ rfl
  · have e : b = (s.heap.push { cls := .type "range", data := .fields #[.int lo t, .int hi u, .int 1 v] }).objs.size := by simpa using hb
    subst e
    exact I1.fpOk (Nat.le_refl _) (I1.hok.fresh (Nat.le_refl _))
def iRng1 (ta : TA) : TI := fun σ H R => ta σ H fun vs H1 => ∃ j : Int, vs = [.int j] ∧ -(2 ^ 62) ≤ j ∧ j < 2 ^ 62 ∧ R (Itr 0 j.toNat) H1
theorem pi_range1 {a : Expr} {ta : TA} {p pos : Pos} (hg : Gl X "range") (hm : X.mg "range" = none) (ha : PA X [a] ta) (hs : starEach [a] X.env = [(false, eval a X.env)] := by rfl) : PI X tg (.Call (.Name "range" p) [a] [] pos) (iRng1 ta) := by
  intro pins s σ H R I h
  refine Call_ (ld_blt I hg hm boot_range (PyProof.Rows.callWith_type1 (thn (ha pos pins s σ H _ I h) fun us s1 ⟨vs, H1, I1, r1, q1⟩ => ?_) hs rfl))
  obtain ⟨j, e, q1, q2, q⟩ := q1
  subst e
  cases r1 with
  | cons r rr =>
    cases rr
    obtain ⟨t, rfl⟩ := r
    exact call_range_1 (range_it I1 (by omega) (by omega) q1 q2 (by simpa using q))
/-! ### for -/
/-- W: the invariant by the turn and a measure; N: what the body is to reach -/
def tFor (wi : TI) (g : TG) (tb : TS) : TS := fun D σ H => wi σ H fun J H1 => ∃ W : Nat → Nat → St → Hp → Prop, (∃ m, W 0 m σ H1) ∧ ∀ i m σ H, W i m σ H →
  (J.stop i H ∧ D.nx σ H) ∨ (J.go i H ∧ ∃ N : St → Hp → Prop, (∀ σ' H', N σ' H' → ∃ m', m' < m ∧ W (i + 1) m' σ' H') ∧ ∀ x H', J.yld i H x H' → g x σ H' fun σ2 H2 => tb { D with nx := N, ct := N, bk := D.nx } σ2 H2)
/-- the records at fp as they stand -/
def pinsAt (fp : List Addr) (h : Heap) : List (Addr × Obj) := fp.filterMap fun b => (h.get? b).map fun o => (b, o)
theorem mem_pinsAt {fp : List Addr} {h : Heap} {b : Addr} {o : Obj} (hb : b ∈ fp) (e : h.get? b = some o) : (b, o) ∈ pinsAt fp h := List.mem_filterMap.mpr ⟨b, hb, by rw [e]; rfl⟩
theorem of_pinsAt {fp : List Addr} {h : Heap} {p : Addr × Obj} (hp : p ∈ pinsAt fp h) : p.1 ∈ fp ∧ h.get? p.1 = some p.2 := by
  obtain ⟨b, hb, e⟩ := List.mem_filterMap.mp hp
  cases q : h.get? b with
  | none => rw [q] at e; cases e
  | some o =>
    rw [q] at e
    have e' : (b, o) = p := Option.some.inj e
    subst e'
    exact ⟨hb, q⟩
theorem Inv.pinned {pins : List (Addr × Obj)} {σ : St} {H : Hp} {s : Shared} {fp : List Addr} (I : Inv X pins σ H s) (hf : ∀ b ∈ fp, FpOk X pins H b) (ho : ∀ b ∈ fp, ∃ o, s.heap.get? b = some o ∧ ∀ v, o.data ≠ .cell v) : Inv X (pins ++ pinsAt fp s.heap) σ H s :=
  I.pins_of fun p hp => (List.mem_append.mp hp).elim (fun z => I.pin p (List.mem_append_right _ z)) fun z => by
    obtain ⟨hb, e⟩ := of_pinsAt z
    obtain ⟨f0, f1, f2, _⟩ := hf p.1 hb
    obtain ⟨o, e', d⟩ := ho p.1 hb
    rw [e] at e'; cases e'
    exact ⟨e, f0, f1, f2, d⟩
theorem Inv.unpinned {pins pl : List (Addr × Obj)} {σ : St} {H : Hp} {s : Shared} (I : Inv X (pins ++ pl) σ H s) : Inv X pins σ H s := I.pins_of fun p hp => I.pin p (List.mem_append_right _ (List.mem_append_left _ hp))
theorem ps_for {iter : Expr} {body : List Stmt} {wi : TI} {g : TG} {tb : TS} {pos : Pos} (hp : PassesOwn (model X.prog X.w) X.A X.env X.xe) (hc : X.calm = true) (hi : PI X tg iter wi) (hg : PG X tg g) (hb : PSs X body tb)
    (hs : ∀ x, foldedSetIterable iter X.env x = pure x := by intro _; rfl) : PS X (.For tg iter body [] pos) (tFor wi g tb) := by
  intro pins s σ H D I h
  refine wpAny_For (thn (hi pins s σ H _ I h) fun v s1 h1 => thn h1 fun itv s2 h2 => ?_) hs
  obtain ⟨it, fp, tn, J, H2, e, I2, T, st2, f2, W, ⟨m0, w0⟩, turn⟩ := h2
  subst e
  -- what stays true of the iterator's objects through the loop
  have stat : ∀ {H' : Hp}, (∀ b ∈ fp, H' b = none) → ∀ b ∈ fp, FpOk X pins H' b := fun hn b hb => ⟨hn b hb, (f2 b hb).2⟩
  refine codeAny_forLoop_any (fun n s' => ∃ i σ' H', Inv X pins σ' H' s' ∧ tn i s'.heap ∧ (∀ b ∈ fp, H' b = none) ∧ W i n σ' H') ?_ m0 ⟨0, σ, H2, I2, st2, fun b hb => (f2 b hb).1, w0⟩
  rintro n s3 ⟨i, σ3, H3, I3, st3, fr3, w3⟩
  rcases turn i n σ3 H3 w3 with ⟨stop, qn⟩ | ⟨go, N, hN, step⟩
  · refine wpAny_passesOwn hp (thn (T.done X rfl rfl rfl hc i pins s3 σ3 H3 X.xe I3 (stat fr3) st3 stop) fun r s4 ⟨hr, I4⟩ => ?_)
    subst hr
    exact wpAny_execs_nil ⟨σ3, H3, I4, qn⟩
  · refine wpAny_passesOwn hp (thn (T.item X rfl rfl rfl hc i pins s3 σ3 H3 X.xe I3 (stat fr3) st3 go) fun r s4 ⟨u, hr, h4⟩ => ?_)
    subst hr
    refine wpAny_passesOwn hp (thn h4 fun _ s5 ⟨x, H5, I5, r5, y5, st5, fr5⟩ => ?_)
    have I5' := I5.pinned (stat fr5) (T.obj _ _ st5)
    refine wpAny_passesOwn hp (thn (hg _ s5 σ3 H5 x u _ I5' r5 (step x H5 y5)) fun _ s6 ⟨σ6, H6, I6, q6⟩ => ?_)
    refine wpAny_passesOwn hp (thn (hb _ s6 σ6 H6 _ I6 q6) fun f s7 q7 => ?_)
    have again : ∀ {σ7 : St} {H7 : Hp}, Inv X (pins ++ pinsAt fp s5.heap) σ7 H7 s7 → N σ7 H7 → ∃ m, m < n ∧ ∃ i σ' H', Inv X pins σ' H' s7 ∧ tn i s7.heap ∧ (∀ b ∈ fp, H' b = none) ∧ W i m σ' H' := fun {σ7 H7} I7 n7 => by
      obtain ⟨m', hm, w7⟩ := hN σ7 H7 n7
      refine ⟨m', hm, i + 1, σ7, H7, I7.unpinned, T.keep _ _ _ st5 fun b hb o e => (I7.pin (b, o) (List.mem_append_right _ (List.mem_append_right _ (mem_pinsAt hb e)))).1, fun b hb => ?_, w7⟩
      obtain ⟨o, e, d⟩ := T.obj _ _ st5 b hb
      exact (I7.pin (b, o) (List.mem_append_right _ (List.mem_append_right _ (mem_pinsAt hb e)))).2.1
    cases f with
    | next => obtain ⟨σ7, H7, I7, n7⟩ := q7; exact again I7 n7
    | cont => obtain ⟨σ7, H7, I7, n7⟩ := q7; exact again I7 n7
    | brk => obtain ⟨σ7, H7, I7, q7⟩ := q7; exact ⟨σ7, H7, I7.unpinned, q7⟩
    | ret v => obtain ⟨x7, σ7, H7, I7, r7, q7⟩ := q7; exact ⟨x7, σ7, H7, I7.unpinned, r7, q7⟩
end

/-! ### the forms one uses -/
/-- over a list that the body leaves as it is -/
theorem for_list {K : PySem.W.Frag} {a : Addr} {xs : List V} {g : TG} {tb : TS} {D : Ends} {σ : St} {H : Hp} (Pv : Nat → St → Hp → Prop) (h0 : Pv 0 σ H) (hl : ∀ i σ H, i ≤ xs.length → Pv i σ H → SqL K H a xs)
    (hs : ∀ i x σ H, xs[i]? = some x → Pv i σ H → g x σ H fun σ2 H2 => tb { D with nx := Pv (i + 1), ct := Pv (i + 1), bk := D.nx } σ2 H2) (hd : ∀ σ H, Pv xs.length σ H → D.nx σ H) :
    ∃ W : Nat → Nat → St → Hp → Prop, (∃ m, W 0 m σ H) ∧ ∀ i m σ H, W i m σ H →
      ((Itl K a).stop i H ∧ D.nx σ H) ∨ ((Itl K a).go i H ∧ ∃ N : St → Hp → Prop, (∀ σ' H', N σ' H' → ∃ m', m' < m ∧ W (i + 1) m' σ' H') ∧ ∀ x H', (Itl K a).yld i H x H' → g x σ H' fun σ2 H2 => tb { D with nx := N, ct := N, bk := D.nx } σ2 H2) := by
  refine ⟨fun i m σ H => m = xs.length - i ∧ i ≤ xs.length ∧ Pv i σ H, ⟨xs.length, by simp, Nat.zero_le _, h0⟩, ?_⟩
  rintro i m σ H ⟨rfl, hi, p⟩
  have q := hl i σ H hi p
  by_cases hlt : i < xs.length
  · refine .inr ⟨⟨xs, xs[i], q, by simp [hlt]⟩, Pv (i + 1), fun σ' H' p' => ⟨xs.length - (i + 1), by omega, rfl, hlt, p'⟩, fun x H' y => ?_⟩
    obtain ⟨e, y⟩ := y
    subst e
    exact hs i x σ _ (y xs q) p
  · have e : i = xs.length := by omega
    subst e
    exact .inl ⟨⟨xs, q, Nat.le_refl _⟩, hd σ H p⟩
theorem for_tup {K : PySem.W.Frag} {a : Addr} {xs : List V} {g : TG} {tb : TS} {D : Ends} {σ : St} {H : Hp} (Pv : Nat → St → Hp → Prop) (h0 : Pv 0 σ H) (hl : ∀ i σ H, i ≤ xs.length → Pv i σ H → SqT K H a xs)
    (hs : ∀ i x σ H, xs[i]? = some x → Pv i σ H → g x σ H fun σ2 H2 => tb { D with nx := Pv (i + 1), ct := Pv (i + 1), bk := D.nx } σ2 H2) (hd : ∀ σ H, Pv xs.length σ H → D.nx σ H) :
    ∃ W : Nat → Nat → St → Hp → Prop, (∃ m, W 0 m σ H) ∧ ∀ i m σ H, W i m σ H →
      ((Itt K a).stop i H ∧ D.nx σ H) ∨ ((Itt K a).go i H ∧ ∃ N : St → Hp → Prop, (∀ σ' H', N σ' H' → ∃ m', m' < m ∧ W (i + 1) m' σ' H') ∧ ∀ x H', (Itt K a).yld i H x H' → g x σ H' fun σ2 H2 => tb { D with nx := N, ct := N, bk := D.nx } σ2 H2) := by
  refine ⟨fun i m σ H => m = xs.length - i ∧ i ≤ xs.length ∧ Pv i σ H, ⟨xs.length, by simp, Nat.zero_le _, h0⟩, ?_⟩
  rintro i m σ H ⟨rfl, hi, p⟩
  have q := hl i σ H hi p
  by_cases hlt : i < xs.length
  · refine .inr ⟨⟨xs, xs[i], q, by simp [hlt]⟩, Pv (i + 1), fun σ' H' p' => ⟨xs.length - (i + 1), by omega, rfl, hlt, p'⟩, fun x H' y => ?_⟩
    obtain ⟨e, y⟩ := y
    subst e
    exact hs i x σ _ (y xs q) p
  · have e : i = xs.length := by omega
    subst e
    exact .inl ⟨⟨xs, q, Nat.le_refl _⟩, hd σ H p⟩
theorem for_range {lo : Int} {n : Nat} {g : TG} {tb : TS} {D : Ends} {σ : St} {H : Hp} (Pv : Nat → St → Hp → Prop) (h0 : Pv 0 σ H)
    (hs : ∀ i σ H, i < n → Pv i σ H → g (.int (lo + i)) σ H fun σ2 H2 => tb { D with nx := Pv (i + 1), ct := Pv (i + 1), bk := D.nx } σ2 H2) (hd : ∀ σ H, Pv n σ H → D.nx σ H) :
    ∃ W : Nat → Nat → St → Hp → Prop, (∃ m, W 0 m σ H) ∧ ∀ i m σ H, W i m σ H →
      ((Itr lo n).stop i H ∧ D.nx σ H) ∨ ((Itr lo n).go i H ∧ ∃ N : St → Hp → Prop, (∀ σ' H', N σ' H' → ∃ m', m' < m ∧ W (i + 1) m' σ' H') ∧ ∀ x H', (Itr lo n).yld i H x H' → g x σ H' fun σ2 H2 => tb { D with nx := N, ct := N, bk := D.nx } σ2 H2) := by
  refine ⟨fun i m σ H => m = n - i ∧ i ≤ n ∧ Pv i σ H, ⟨n, by simp, Nat.zero_le _, h0⟩, ?_⟩
  rintro i m σ H ⟨rfl, hi, p⟩
  by_cases hlt : i < n
  · refine .inr ⟨hlt, Pv (i + 1), fun σ' H' p' => ⟨n - (i + 1), by omega, rfl, hlt, p'⟩, fun x H' y => ?_⟩
    obtain ⟨e, y⟩ := y
    subst e y
    exact hs i σ _ hlt p
  · have e : i = n := by omega
    subst e
    exact .inl ⟨Nat.le_refl _, hd σ H p⟩
end L2

namespace L2
open PySem PySem.Spec PyProof.Rows

abbrev R2 := V → V → Hp → VK → Prop
/-- a two-place operation on values: f is binaryOp op, inplaceOp op or compareOp op -/
def OpR (X : Cx) (f : Value → Value → Sem Value) (r : R2) : Prop :=
  ∀ (pins : List (Addr × Obj)) (s : Shared) (σ : St) (H : Hp) (x y : V) (v u : Value) (Q : VK), Inv X pins σ H s → RelV x v → RelV y u → r x y H Q →
    wpAny (model X.prog X.w) X.A (f v u) (EP X pins σ Q) X.xe s
/-- a one-place operation -/
def UnR (X : Cx) (f : Value → Sem Value) (r : V → Hp → VK → Prop) : Prop :=
  ∀ (pins : List (Addr × Obj)) (s : Shared) (σ : St) (H : Hp) (x : V) (v : Value) (Q : VK), Inv X pins σ H s → RelV x v → r x H Q →
    wpAny (model X.prog X.w) X.A (f v) (EP X pins σ Q) X.xe s
/-- a call of a value that is known (a builtin, a type) with values -/
def CallR (X : Cx) (f : Value) (r : List V → Hp → VK → Prop) : Prop :=
  ∀ (pins : List (Addr × Obj)) (s : Shared) (σ : St) (H : Hp) (xs : List V) (us : List Value) (Q : VK), Inv X pins σ H s → Vals xs us → r xs H Q →
    wpAny (model X.prog X.w) X.A (call f us) (EP X pins σ Q) X.xe s
def tOp (r : R2) (ta tb : TE) : TE := fun σ H Q => ta σ H fun x H1 => tb σ H1 fun y H2 => r x y H2 Q
def tUn (r : V → Hp → VK → Prop) (ta : TE) : TE := fun σ H Q => ta σ H fun x H1 => r x H1 Q
/-- ints in, under C, and a value out -/
def rI (C : Int → Int → Prop) (g : Int → Int → V) : R2 := fun x y H Q => ∃ i j, x = .int i ∧ y = .int j ∧ C i j ∧ Q (g i j) H
def rI0 (g : Int → Int → V) : R2 := fun x y H Q => ∃ i j, x = .int i ∧ y = .int j ∧ Q (g i j) H
def rU (g : Int → V) : V → Hp → VK → Prop := fun x H Q => ∃ i, x = .int i ∧ Q (g i) H

section
variable {X : Cx} {a b c : Expr} {ta tb tc : TE} {pos : Pos}

theorem binT (ha : PE X a ta) (hb : PE X b tb) {pins : List (Addr × Obj)} {s : Shared} {σ : St} {H : Hp} {R : V → V → Hp → Prop} (I : Inv X pins σ H s)
    (h : ta σ H fun x H1 => tb σ H1 fun y H2 => R x y H2) {Q : Value → Shared → Prop} {f : Value → Value → Sem Value}
    (hf : ∀ v u s2 x y H2, Inv X pins σ H2 s2 → RelV x v → RelV y u → R x y H2 → wpAny (model X.prog X.w) X.A (f v u) Q X.xe s2) :
    wpAny (model X.prog X.w) X.A (eval a X.env) (fun v s₁ => wpAny (model X.prog X.w) X.A (eval b X.env) (fun u s₂ => wpAny (model X.prog X.w) X.A (f v u) Q X.xe s₂) X.xe s₁) X.xe s := by
  refine thn (ha pins s σ H _ I h) fun v s1 ⟨x, H1, I1, r1, q1⟩ => ?_
  refine thn (hb pins s1 σ H1 _ I1 q1) fun u s2 ⟨y, H2, I2, r2, q2⟩ => ?_
  exact hf v u s2 x y H2 I2 r1 r2 q2

theorem pe_op {op : Operator} {r : R2} (ho : OpR X (binaryOp op) r) (ha : PE X a ta) (hb : PE X b tb) : PE X (.BinOp a op b pos) (tOp r ta tb) := by
  intro pins s σ H Q I h
  exact wpAny_BinOp (binT ha hb I h fun v u s2 x y H2 I2 rx ry q => ho pins s2 σ H2 x y v u Q I2 rx ry q)
theorem pe_un {op : UnaryOp} {r : V → Hp → VK → Prop} (ho : UnR X (unaryOp op) r) (ha : PE X a ta) : PE X (.UnaryOp op a pos) (tUn r ta) := by
  intro pins s σ H Q I h
  exact UnaryOp_ (thn (ha pins s σ H _ I h) fun v s1 ⟨x, H1, I1, r1, q1⟩ => ho pins s1 σ H1 x v Q I1 r1 q1)
/-! ### ints -/
theorem opI {f : Value → Value → Sem Value} {C : Int → Int → Prop} {g : Int → Int → Int}
    (rule : ∀ (i j : Int) (t u : Tok) (s : Shared) (Q : Value → Shared → Prop) (E : Value → Shared → Prop), C i j → Q (.int (g i j) s.toks) { s with toks := s.toks + 1 } → wpAny (model X.prog X.w) X.A (f (.int i t) (.int j u)) Q E s) :
    OpR X f (rI C fun i j => .int (g i j)) := by
  intro pins s σ H x y v u Q I rx ry h
  obtain ⟨i, j, rfl, rfl, hc, q⟩ := h
  obtain ⟨t, rfl⟩ := rx
  obtain ⟨t', rfl⟩ := ry
  exact rule i j t t' s _ _ hc ⟨.int (g i j), H, I.tok _, ⟨_, rfl⟩, q⟩
theorem opI0 {f : Value → Value → Sem Value} {g : Int → Int → Int}
    (rule : ∀ (i j : Int) (t u : Tok) (s : Shared) (Q : Value → Shared → Prop) (E : Value → Shared → Prop), Q (.int (g i j) s.toks) { s with toks := s.toks + 1 } → wpAny (model X.prog X.w) X.A (f (.int i t) (.int j u)) Q E s) :
    OpR X f (rI0 fun i j => .int (g i j)) := by
  intro pins s σ H x y v u Q I rx ry h
  obtain ⟨i, j, rfl, rfl, q⟩ := h
  obtain ⟨t, rfl⟩ := rx
  obtain ⟨t', rfl⟩ := ry
  exact rule i j t t' s _ _ ⟨.int (g i j), H, I.tok _, ⟨_, rfl⟩, q⟩
theorem opB0 {f : Value → Value → Sem Value} {g : Int → Int → Bool}
    (rule : ∀ (i j : Int) (t u : Tok) (s : Shared) (Q : Value → Shared → Prop) (E : Value → Shared → Prop), Q (.bool (g i j)) s → wpAny (model X.prog X.w) X.A (f (.int i t) (.int j u)) Q E s) :
    OpR X f (rI0 fun i j => .bl (g i j)) := by
  intro pins s σ H x y v u Q I rx ry h
  obtain ⟨i, j, rfl, rfl, q⟩ := h
  obtain ⟨t, rfl⟩ := rx
  obtain ⟨t', rfl⟩ := ry
  exact rule i j t t' s _ _ ⟨.bl (g i j), H, I, rfl, q⟩

def CDiv (i j : Int) : Prop := 0 < j ∧ j < 1073741824
def CPow (i j : Int) : Prop := 0 ≤ j ∧ j ≤ 1000000 ∧ i.natAbs < 2 ^ 64
def CMul (i j : Int) : Prop := (-(2 ^ 64) < i ∧ i < 2 ^ 64) ∨ (-(2 ^ 64) < j ∧ j < 2 ^ 64)
theorem CMul.ok {i j : Int} (h : CMul i j) : IntMulOk i j := by
  rcases h with ⟨h1, h2⟩ | ⟨h1, h2⟩
  · exact .of_left (intBits_le_64 h1 h2)
  · exact .of_right (intBits_le_64 h1 h2)
theorem two_pow_nn (k : Nat) : (0 : Int) ≤ 2 ^ k := by
  rw [two_pow_cast]
  exact Int.natCast_nonneg _

theorem op_add : OpR X (binaryOp .Add) (rI0 fun i j => .int (i + j)) := opI0 fun _ _ _ _ _ _ _ q => add_int q
theorem op_sub : OpR X (binaryOp .Sub) (rI0 fun i j => .int (i - j)) := opI0 fun _ _ _ _ _ _ _ q => sub_int q
theorem op_mul : OpR X (binaryOp .Mult) (rI CMul fun i j => .int (i * j)) := opI fun _ _ _ _ _ _ _ hc q => mul_int q hc.ok
/-- // by a positive divisor -/
theorem op_fdiv : OpR X (binaryOp .FloorDiv) (rI CDiv fun i j => .int (i / j)) := opI fun i j _ _ _ _ _ hc q => by
  have h1 : (0 : Int) < j := hc.1
  have h2 : j < 1073741824 := hc.2
  exact floordiv_int (by omega) (by rw [Int.fdiv_eq_ediv_of_nonneg i (by omega)]; exact q) (.inl (PyProof.noPylong_small (by omega)))
/-- % by a positive divisor of any size -/
theorem op_mod : OpR X (binaryOp .Mod) (rI (fun _ j => 0 < j) fun i j => .int (i % j)) := opI fun i j _ _ _ _ _ hc q => by
  have h1 : (0 : Int) < j := hc
  exact mod_int' (by omega) (by rw [Int.fmod_eq_emod_of_nonneg i (by omega)]; exact q)
theorem op_shl : OpR X (binaryOp .LShift) (rI CPow fun i j => .int (i * 2 ^ j.toNat)) := opI fun _ _ _ _ _ _ _ hc q => lshift_int_small hc.1 hc.2.1 hc.2.2 q
theorem iop_shr : OpR X (inplaceOp .RShift) (rI (fun _ j => 0 ≤ j) fun i j => .int (i / 2 ^ j.toNat)) := opI fun i j _ _ _ _ _ hc q =>
  irshift_int hc (by rw [Int.fdiv_eq_ediv_of_nonneg i (two_pow_nn _)]; exact q)
theorem unI {f : Value → Sem Value} {g : Int → Int}
    (rule : ∀ (i : Int) (t : Tok) (s : Shared) (Q : Value → Shared → Prop) (E : Value → Shared → Prop), Q (.int (g i) s.toks) { s with toks := s.toks + 1 } → wpAny (model X.prog X.w) X.A (f (.int i t)) Q E s) :
    UnR X f (rU fun i => .int (g i)) := by
  intro pins s σ H x v Q I rx h
  obtain ⟨i, rfl, q⟩ := h
  obtain ⟨t, rfl⟩ := rx
  exact rule i t s _ _ ⟨.int (g i), H, I.tok _, ⟨_, rfl⟩, q⟩
theorem un_neg : UnR X (unaryOp .USub) (rU fun i => .int (-i)) := unI fun _ _ _ _ _ q => neg_int q
/-! ### bools among ints: n += (a < b) -/
end

/-! ### comparisons -/
/-- the scalars that == tells apart as data does -/
def scal : V → V → Bool
  | .non, .non => true | .non, .int _ => true | .int _, .non => true | .non, .bl _ => true | .bl _, .non => true | .non, .str _ => true | .str _, .non => true
  | .int _, .int _ => true | .bl _, .bl _ => true | .str _, .str _ => true | .byt _, .byt _ => true
  | .int _, .str _ => true | .str _, .int _ => true | .bl _, .str _ => true | .str _, .bl _ => true
  | _, _ => false
def rEq : R2 := fun x y H Q => scal x y = true ∧ Q (.bl (decide (x = y))) H
def rNe : R2 := fun x y H Q => scal x y = true ∧ Q (.bl (!decide (x = y))) H

theorem dec_int {i j : Int} : decide (V.int i = V.int j) = (i == j) := by
  rw [Bool.eq_iff_iff]
  simp
theorem dec_bl {i j : Bool} : decide (V.bl i = V.bl j) = (i == j) := by
  rw [Bool.eq_iff_iff]
  simp
theorem dec_str {i j : Str} : decide (V.str i = V.str j) = (i == j) := by
  rw [Bool.eq_iff_iff]
  simp
theorem dec_byt {i j : Array UInt8} : decide (V.byt i = V.byt j) = (i.toList == j.toList) := by
  rw [Bool.eq_iff_iff]
  cases i
  cases j
  simp

section
variable {X : Cx} {a b c : Expr} {ta tb tc : TE} {pos : Pos}
theorem fin_bl {pins : List (Addr × Obj)} {σ : St} {H : Hp} {s : Shared} {Q : VK} {k k' : Bool} (I : Inv X pins σ H s) (q : Q (.bl k) H) (e : k = k') : EP X pins σ Q (.bool k') s := by
  subst e
  exact ⟨.bl k, H, I, rfl, q⟩
theorem op_eq : OpR X (compareOp .Eq) rEq := by
  intro pins s σ H x y v u Q I rx ry h
  obtain ⟨hs, q⟩ := h
  cases x with
  | non =>
    cases rx
    cases y with
    | non => cases ry; exact PySem.EqNone.eq_none_none (fin_bl I q (by simp))
    | bl j => cases ry; exact PySem.EqNone.eq_none_bool (fin_bl I q (by simp))
    | int j => obtain ⟨t', rfl⟩ := ry; exact PySem.EqNone.eq_none_int (fin_bl I q (by simp))
    | str j => obtain ⟨t', rfl⟩ := ry; exact PySem.EqNone.eq_none_str (fin_bl I q (by simp))
    | _ => exact absurd (show false = true from hs) Bool.false_ne_true
  | bl i =>
    cases rx
    cases y with
    | non => cases ry; exact PySem.EqNone.eq_bool_none (fin_bl I q (by simp))
    | bl j => cases ry; exact eq_bool (fin_bl I q dec_bl)
    | str j => obtain ⟨t', rfl⟩ := ry; exact PySem.EqMixed.eq_bool_str (fin_bl I q (by simp))
    | _ => exact absurd (show false = true from hs) Bool.false_ne_true
  | int i =>
    obtain ⟨t, rfl⟩ := rx
    cases y with
    | non => cases ry; exact PySem.EqNone.eq_int_none (fin_bl I q (by simp))
    | int j => obtain ⟨t', rfl⟩ := ry; exact eq_int (fin_bl I q dec_int)
    | str j => obtain ⟨t', rfl⟩ := ry; exact PySem.EqMixed.eq_int_str (fin_bl I q (by simp))
    | _ => exact absurd (show false = true from hs) Bool.false_ne_true
  | str i =>
    obtain ⟨t, rfl⟩ := rx
    cases y with
    | non => cases ry; exact PySem.EqNone.eq_str_none (fin_bl I q (by simp))
    | bl j => cases ry; exact PySem.EqMixed.eq_str_bool (fin_bl I q (by simp))
    | int j => obtain ⟨t', rfl⟩ := ry; exact PySem.EqMixed.eq_str_int (fin_bl I q (by simp))
    | str j => obtain ⟨t', rfl⟩ := ry; exact eq_str (fin_bl I q dec_str)
    | _ => exact absurd (show false = true from hs) Bool.false_ne_true
  | byt i =>
    obtain ⟨t, rfl⟩ := rx
    cases y with
    | byt j => obtain ⟨t', rfl⟩ := ry; exact PySem.W.eq_bytes (fin_bl I q dec_byt)
    | _ => exact absurd (show false = true from hs) Bool.false_ne_true
  | _ => cases y <;> exact absurd (show false = true from hs) Bool.false_ne_true
theorem op_ne : OpR X (compareOp .NotEq) rNe := by
  intro pins s σ H x y v u Q I rx ry h
  obtain ⟨hs, q⟩ := h
  cases x with
  | non =>
    cases rx
    cases y with
    | non => cases ry; exact PySem.EqNone.ne_none_none (fin_bl I q (by simp))
    | bl j => cases ry; exact PySem.EqNone.ne_none_bool (fin_bl I q (by simp))
    | int j => obtain ⟨t', rfl⟩ := ry; exact PySem.EqNone.ne_none_int (fin_bl I q (by simp))
    | str j => obtain ⟨t', rfl⟩ := ry; exact PySem.EqNone.ne_none_str (fin_bl I q (by simp))
    | _ => exact absurd (show false = true from hs) Bool.false_ne_true
  | bl i =>
    cases rx
    cases y with
    | non => cases ry; exact PySem.EqNone.ne_bool_none (fin_bl I q (by simp))
    | bl j => cases ry; exact ne_bool (fin_bl I q (congrArg not dec_bl))
    | str j => obtain ⟨t', rfl⟩ := ry; exact PySem.EqMixed.ne_bool_str (fin_bl I q (by simp))
    | _ => exact absurd (show false = true from hs) Bool.false_ne_true
  | int i =>
    obtain ⟨t, rfl⟩ := rx
    cases y with
    | non => cases ry; exact PySem.EqNone.ne_int_none (fin_bl I q (by simp))
    | int j => obtain ⟨t', rfl⟩ := ry; exact ne_int (fin_bl I q (congrArg not dec_int))
    | str j => obtain ⟨t', rfl⟩ := ry; exact PySem.EqMixed.ne_int_str (fin_bl I q (by simp))
    | _ => exact absurd (show false = true from hs) Bool.false_ne_true
  | str i =>
    obtain ⟨t, rfl⟩ := rx
    cases y with
    | non => cases ry; exact PySem.EqNone.ne_str_none (fin_bl I q (by simp))
    | bl j => cases ry; exact PySem.EqMixed.ne_str_bool (fin_bl I q (by simp))
    | int j => obtain ⟨t', rfl⟩ := ry; exact PySem.EqMixed.ne_str_int (fin_bl I q (by simp))
    | str j => obtain ⟨t', rfl⟩ := ry; exact ne_str (fin_bl I q (congrArg not dec_str))
    | _ => exact absurd (show false = true from hs) Bool.false_ne_true
  | byt i =>
    obtain ⟨t, rfl⟩ := rx
    cases y with
    | byt j => obtain ⟨t', rfl⟩ := ry; exact PySem.W.ne_bytes (fin_bl I q (congrArg not dec_byt))
    | _ => exact absurd (show false = true from hs) Bool.false_ne_true
  | _ => cases y <;> exact absurd (show false = true from hs) Bool.false_ne_true

theorem op_lt : OpR X (compareOp .Lt) (rI0 fun i j => .bl (decide (i < j))) := opB0 fun _ _ _ _ _ _ _ q => lt_int q
theorem op_gt : OpR X (compareOp .Gt) (rI0 fun i j => .bl (decide (j < i))) := opB0 fun _ _ _ _ _ _ _ q => gt_int q
theorem op_ge : OpR X (compareOp .GtE) (rI0 fun i j => .bl (decide (j ≤ i))) := opB0 fun _ _ _ _ _ _ _ q => ge_int q
/-- two rules for one operation: by cases -/
theorem OpR.or {f : Value → Value → Sem Value} {r r' : R2} (h : OpR X f r) (h' : OpR X f r') : OpR X f (fun x y H Q => r x y H Q ∨ r' x y H Q) := by
  intro pins s σ H x y v u Q I rx ry q
  rcases q with q | q
  · exact h pins s σ H x y v u Q I rx ry q
  · exact h' pins s σ H x y v u Q I rx ry q

theorem nomark (b : Expr) {op : CmpOp} (h : op ≠ .In := by decide) (h2 : op ≠ .NotIn := by decide) : behindInMarks op b = false := by
  have e1 : (op == CmpOp.In) = false := by cases op <;> first | rfl | exact absurd rfl h
  have e2 : (op == CmpOp.NotIn) = false := by cases op <;> first | rfl | exact absurd rfl h2
  cases b <;> simp [behindInMarks, e1, e2]
/-- a comparison as a value; hm: nomark b, or (for in, not in) by with_unfolding_all rfl -/
theorem pe_cmpR {op : CmpOp} {r : R2} (ho : OpR X (compareOp op) r) (ha : PE X a ta) (hb : PE X b tb) (hm : behindInMarks op b = false) : PE X (.Compare a [op] [b] pos) (tOp r ta tb) := by
  intro pins s σ H Q I h
  exact wpAny_Compare1 (binT ha hb I h fun v u s2 x y H2 I2 rx ry q => ho pins s2 σ H2 x y v u Q I2 rx ry q) hm
/-- a reading of a value as a test -/
def tTest (t : TE) : TT := fun σ H Q => t σ H fun x H' => ∃ k, x = .bl k ∧ Q k H'
theorem pt_cmpR {op : CmpOp} {r : R2} (ho : OpR X (compareOp op) r) (ha : PE X a ta) (hb : PE X b tb) (hm : behindInMarks op b = false) : PT X (.Compare a [op] [b] pos) (tTest (tOp r ta tb)) := by
  intro pins s σ H Q I h
  refine wpAny_isTrue_Compare1 (thn (ha pins s σ H _ I h) fun v s1 ⟨x, H1, I1, r1, q1⟩ => thn (hb pins s1 σ H1 _ I1 q1) fun u s2 ⟨y, H2, I2, r2, q2⟩ =>
    thn (ho pins s2 σ H2 x y v u _ I2 r1 r2 q2) fun c s3 ⟨z, H3, I3, r3, k, e, q3⟩ => ?_) hm
  subst e
  cases r3
  exact wpAny_truthy_bool ⟨H3, I3, q3⟩
/-! ### truth -/
theorem line63 : (sizeLine : Nat) < 2 ^ 63 := by rw [sizeLine_eq]; decide
/-! ### strs and bytes -/
/-! ### scalar builtins, by CallR -/
theorem vals1 {x : V} {us : List Value} (r : Vals [x] us) : ∃ u, us = [u] ∧ RelV x u := by
  cases r with
  | cons r1 r2 => cases r2; exact ⟨_, rfl, r1⟩
end
end L2

namespace L2
open PySem PySem.Spec PyProof.Rows

/-! ### an instance, its attributes a map -/
structure ObjM (h : Heap) (x dx C : Addr) (mA : Str → Option Value) : Prop where
  obj : h.get? x = some (PySem.W.instObj C dx)
  ns : h.Ns1 dx mA
  ne : dx ≠ x

theorem lookIn_ns {h : Heap} {dx : Addr} {mA : Str → Option Value} (n : h.Ns1 dx mA) : ∃ od, h.get? dx = some od ∧ ∀ name, PySem.W.lookIn name od = some (mA name) := by
  obtain ⟨o, es, ep, ho, hd, hk, _, hm⟩ := n
  refine ⟨o, ho, fun name => ?_⟩
  have e := hm name
  unfold nsFind findBy at e
  rw [← Array.find?_toList] at e
  unfold PySem.W.lookIn
  rw [hd]
  dsimp only
  split
  · rename_i y q
    rw [q] at e
    exact congrArg some e
  · rename_i q
    rw [q] at e
    have a : es.toList.any (·.refKey) = false := by
      rw [List.any_eq_false]
      intro y hy
      obtain ⟨z, t, hkey⟩ := hk y (Array.mem_toList_iff.mp hy)
      simp [DictEntry.refKey, hkey]
    have a' : ¬ es.toList.any (·.refKey) = true := by rw [a]; exact Bool.false_ne_true
    rw [if_neg a']
    exact congrArg some e

theorem ObjM.look {h : Heap} {x dx C : Addr} {mA : Str → Option Value} (I : ObjM h x dx C mA) : ∃ od, PySem.W.InstAt h x (PySem.W.instObj C dx) C (some od) ∧ ∀ name, PySem.W.lookIn name od = some (mA name) :=
  let ⟨od, ho, hl⟩ := lookIn_ns I.ns
  ⟨od, ⟨I.obj, rfl, rfl, ho⟩, hl⟩

section
variable {prog : Program} {w : World} {A : Around} {E : Value → Shared → Prop} {s : Shared} {K : PySem.W.Frag} {x dx C f : Addr} {mA : Str → Option Value} {name : Str} {v : Value}

theorem get_map {expr : Bool} {Q : Value → Shared → Prop} (X : K.In s.heap) (I : ObjM s.heap x dx C mA) (hg : PySem.W.plainGet K C name = true) (hh : PySem.W.hasDictIn K C = true)
    (ha : PySem.W.findIn K (.ref C) name = some none) (hv : mA name = some v) (hv' : PySem.W.handedIn v = true) (h : Q v { s with toks := s.toks + 1 }) :
    wpAny (model prog w) A (getAttr (.ref x) name expr) Q E s := by
  obtain ⟨od, J, hl⟩ := I.look
  exact PySem.W.get_value X J (PySem.W.plainGet_of hg).1 (PySem.W.findObj_own hh ha rfl (by rw [hl, hv])) hv' h

theorem get_meth {pl : Sem Bool} {Q : Value × List Value → Shared → Prop} (X : K.In s.heap) (I : ObjM s.heap x dx C mA) (hg : PySem.W.plainGet K C name = true)
    (hf : PySem.W.findIn K (.ref C) name = some (some (.ref f))) (ht : PySem.W.isFn K (.ref f) = true) (hv : mA name = none) (h : Q (.ref f, [.ref x]) s) :
    wpAny (model prog w) A (getMethod (.ref x) name pl) Q E s := by
  obtain ⟨od, J, hl⟩ := I.look
  exact PySem.W.method_fn X J (PySem.W.plainGet_of hg).1 (PySem.W.plainGet_of hg).2 hf (beq_iff_eq.mp ht) (by show (PySem.W.lookIn name od).map (·.isSome) = some false; rw [hl, hv]; rfl) h

theorem set_map {ns : List Str} {Q : Unit → Shared → Prop} (X : K.In s.heap) (I : ObjM s.heap x dx C mA)
    (hs : PySem.W.findIn K (.ref C) "__setattr__" = some (some (.builtin "object.__setattr__"))) (hp : PySem.W.plainOver K C = true) (ht : PySem.W.takerIn K C name = some none) (hh : PySem.W.hasDictIn K C = true)
    (hw : PySem.Within mA ns) (hsz : ns.length ≤ sizeLine)
    (h : ∀ h', ObjM h' x dx C (fun y => if y = name then some v else mA y) → Heap.SameBut dx s.heap h' → Q () { s with heap := h', toks := s.toks + 2 }) :
    wpAny (model prog w) A (setAttr (.ref x) name v) Q E s := by
  obtain ⟨od, J, hl⟩ := I.look
  refine PySem.W.set_plain X J hs (PySem.W.osa_open (s := { s with toks := s.toks + 1 }) (r := none) X J hp ht fun b => ?_)
  obtain ⟨cd, hc, hd'⟩ := PySem.W.any_some hh
  have hx : s.heap.get? x = some ⟨.ref C, some dx, .plain, #[]⟩ := I.obj
  refine wpAny_bind (wpAny_pure (wpAny_bind (wpAny_bind (wpAny_loadPart hx (wpAny_bind (PySem.W.Looks.here (s := { s with toks := s.toks + 1 }) (PySem.W.looks_clsIn X hc) ?_))))))
  rw [hd']
  refine wpAny_pure (a := some dx) (wpAny_bind (wpAny_pure (wpAny_bind ?_)))
  refine wpAny_nsSet1 (s := { s with toks := s.toks + 1 }) I.ns fun h' hn2 hs2 => ?_
  obtain ⟨oD, esD, epD, hoD, hdD, hcD⟩ := hn2.count (PySem.Within.cons name v hw)
  refine wpAny_bind (wpAny_lookBehind hoD (by rw [hdD]; exact pastItsLine_dict (Nat.le_trans hcD (by rw [List.length_cons]; omega))) ?_)
  exact wpAny_pure (h _ ⟨(hs2.2 _ (Ne.symm I.ne)).trans I.obj, hn2, I.ne⟩ hs2)

/-- C(..): the dict at the heap's end, the instance behind it; then its __init__ -/
theorem make_map {R : Result → Shared → Prop} {vs : List Value} {kw : List (Str × Value)} (X : K.In s.heap) (hm : PySem.W.makesIn K C = true)
    (hi : PySem.W.findIn K (.ref C) "__init__" = some (some (.ref f))) (hf : PySem.W.typeIn K (.ref f) = some (.type "function"))
    (h : codeAny (model prog w) (A.under (.builtin "type.__call__" ⟨.ref C :: vs, kw⟩)) (.call (.ref f) ⟨.ref (s.heap.objs.size + 1) :: vs, kw⟩) (PySem.W.InitBack (s.heap.objs.size + 1) R)
      { s with heap := (s.heap.push PySem.W.emptyDict).push (PySem.W.instObj C s.heap.objs.size) }) :
    codeAny (model prog w) A (.call (.ref C) ⟨vs, kw⟩) R s := by
  obtain ⟨hh, g, d, t, os⟩ := s
  exact PySem.W.make_core (PySem.W.makes_of X hm) (PySem.W.looks_findIn X hi) (fun self => PySem.W.bind_fn X self hf) (.inl rfl) h
end

/-! ### the attributes as a list of pairs -/
def putF (f : Str) (v : V) : List (Str × V) → List (Str × V)
  | [] => [(f, v)]
  | (g, x) :: r => if g = f then (g, v) :: r else (g, x) :: putF f v r
theorem lookup_putF (f g : Str) (v : V) : ∀ fs : List (Str × V), (putF f v fs).lookup g = if g = f then some v else fs.lookup g
  | [] => by
    show List.lookup g [(f, v)] = _
    by_cases h : g = f
    · have hb : (g == f) = true := beq_iff_eq.mpr h
      simp only [List.lookup, hb, if_pos h]
    · have hb : (g == f) = false := beq_eq_false_iff_ne.mpr h
      simp only [List.lookup, hb, if_neg h]
  | (k, x) :: r => by
    have ih := lookup_putF f g v r
    rw [show putF f v ((k, x) :: r) = (if k = f then (k, v) :: r else (k, x) :: putF f v r) from rfl]
    by_cases hk : k = f
    · rw [if_pos hk]
      by_cases h : g = k
      · have hb : (g == k) = true := beq_iff_eq.mpr h
        simp only [List.lookup, hb, if_pos (h.trans hk)]
      · have hb : (g == k) = false := beq_eq_false_iff_ne.mpr h
        simp only [List.lookup, hb, if_neg (fun e : g = f => h (e.trans hk.symm))]
    · rw [if_neg hk]
      by_cases h : g = k
      · have hb : (g == k) = true := beq_iff_eq.mpr h
        simp only [List.lookup, hb, if_neg (fun e : g = f => hk (h.symm.trans e))]
      · have hb : (g == k) = false := beq_eq_false_iff_ne.mpr h
        simp only [List.lookup, hb]
        exact ih
theorem keys_putF (f : Str) (v : V) : ∀ fs : List (Str × V), f ∈ (putF f v fs).map (·.1) ∧ ∀ g, g ∈ fs.map (·.1) → g ∈ (putF f v fs).map (·.1)
  | [] => ⟨by simp [putF], fun g h => by simp at h⟩
  | (k, x) :: r => by
    obtain ⟨i1, i2⟩ := keys_putF f v r
    rw [show putF f v ((k, x) :: r) = (if k = f then (k, v) :: r else (k, x) :: putF f v r) from rfl]
    by_cases hk : k = f
    · rw [if_pos hk]
      subst hk
      exact ⟨by simp, fun g h => by simpa using h⟩
    · rw [if_neg hk]
      refine ⟨?_, fun g h => ?_⟩
      · rw [List.map_cons]
        exact List.mem_cons_of_mem _ i1
      · rw [List.map_cons] at h ⊢
        rcases List.mem_cons.mp h with e | e
        · exact List.mem_cons.mpr (.inl e)
        · exact List.mem_cons_of_mem _ (i2 g e)
theorem length_putF (f : Str) (v : V) : ∀ fs : List (Str × V), (putF f v fs).length ≤ fs.length + 1
  | [] => by simp [putF]
  | (k, x) :: r => by
    have ih := length_putF f v r
    rw [show putF f v ((k, x) :: r) = (if k = f then (k, v) :: r else (k, x) :: putF f v r) from rfl]
    by_cases hk : k = f
    · rw [if_pos hk, List.length_cons, List.length_cons]; omega
    · rw [if_neg hk, List.length_cons, List.length_cons]; omega

theorem RelO.some_of {v : V} {o : Option Value} (r : RelO (some v) o) : ∃ u, o = some u ∧ RelV v u := by
  cases o with
  | none => exact (show False from r).elim
  | some u => exact ⟨u, rfl, r⟩
theorem RelO.none_of {o : Option Value} (r : RelO none o) : o = none := by
  cases o with
  | none => rfl
  | some u => exact (show False from r).elim
theorem handed_of {v : V} {u : Value} (r : RelV v u) : PySem.W.handedIn u = true := by
  cases v with
  | non => cases (show u = Value.none from r); rfl
  | bl b => cases (show u = Value.bool b from r); rfl
  | int i => obtain ⟨t, e⟩ := (show ∃ t, u = Value.int i t from r); cases e; rfl
  | str x => obtain ⟨t, e⟩ := (show ∃ t, u = Value.str x t from r); cases e; rfl
  | byt b => obtain ⟨t, e⟩ := (show ∃ t, u = Value.bytes b t from r); cases e; rfl
  | flt b => obtain ⟨t, e⟩ := (show ∃ t, u = Value.float b t from r); cases e; rfl
  | ref a => cases (show u = Value.ref a from r); rfl
  | ty n => cases (show u = Value.type n from r); rfl

section
variable {P : Program} {w : World} {H H' : Hp} {h h' : Heap} {a C dx : Addr} {fs fs' : List (Str × V)}
theorem ins_get (hok : HOk P w H h) (e : H a = some (.ins C dx fs)) : ∃ mA, ObjM h a dx C mA ∧ (∀ f, RelO (fs.lookup f) (mA f)) ∧ PySem.Within mA (fs.map (·.1)) ∧ fs.length ≤ 1000 ∧ H dx = some (.own a) := by
  obtain ⟨d, z, ne, ob, mA, n, r, q⟩ := (show ObjOk P w H h a (.ins C dx fs) from hok a _ e)
  exact ⟨mA, ⟨ob, n, ne⟩, r, q, z, d⟩
end

/-! ### what of the text a class must have -/
structure Cls (K : PySem.W.Frag) (C : Addr) : Prop where
  pg : PySem.W.plainGet K C Str.empty = true
  hd : PySem.W.hasDictIn K C = true
  po : PySem.W.plainOver K C = true
  sa : PySem.W.findIn K (.ref C) "__setattr__" = some (some (.builtin "object.__setattr__"))
theorem Cls.get {K : PySem.W.Frag} {C : Addr} (c : Cls K C) (f : Str) : PySem.W.plainGet K C f = true := c.pg
/-- no class of it has the name -/
def NoAttr (K : PySem.W.Frag) (C : Addr) (f : Str) : Prop := PySem.W.findIn K (.ref C) f = some none
theorem NoAttr.taker {K : PySem.W.Frag} {C : Addr} {f : Str} (n : NoAttr K C f) : PySem.W.takerIn K C f = some none := by
  unfold PySem.W.takerIn
  rw [show PySem.W.findIn K (.ref C) f = some none from n]
  rfl
/-- a method: a plain def of the class or of one above it -/
structure Meth (K : PySem.W.Frag) (C : Addr) (m : Str) (f : Addr) : Prop where
  at_ : PySem.W.findIn K (.ref C) m = some (some (.ref f))
  fn : PySem.W.isFn K (.ref f) = true
  kp : PySem.W.keepIn K (.ref f) = true

section
variable {X : Cx} {pins : List (Addr × Obj)} {σ : St} {H : Hp} {s : Shared} {a C dx : Addr} {fs : List (Str × V)} {f : Str} {v : V} {A : Around} {E : Value → Shared → Prop}

theorem getattr_ok {b : Bool} {Q : Value → Shared → Prop} (I : Inv X pins σ H s) (e : H a = some (.ins C dx fs)) (c : Cls X.K C) (n : NoAttr X.K C f) (l : fs.lookup f = some v)
    (h : ∀ u s', Inv X pins σ H s' → RelV v u → Q u s') : wpAny (model X.prog X.w) A (getAttr (.ref a) f b) Q E s := by
  obtain ⟨mA, O, r, _, _, _⟩ := ins_get I.hok e
  obtain ⟨u, hu, ru⟩ := RelO.some_of (v := v) (o := mA f) (by rw [← l]; exact r f)
  exact get_map I.kIn O (c.get f) c.hd n hu (handed_of ru) (h u _ (I.tok _) ru)

theorem getmeth_ok {m : Str} {g : Addr} {pl : Sem Bool} {Q : Value × List Value → Shared → Prop} (I : Inv X pins σ H s) (e : H a = some (.ins C dx fs)) (c : Cls X.K C) (k : Meth X.K C m g) (l : fs.lookup m = none)
    (h : Q (.ref g, [.ref a]) s) : wpAny (model X.prog X.w) A (getMethod (.ref a) m pl) Q E s := by
  obtain ⟨mA, O, r, _, _, _⟩ := ins_get I.hok e
  have hn : mA m = none := RelO.none_of (by rw [← l]; exact r m)
  exact get_meth I.kIn O (c.get m) k.at_ k.fn hn h

theorem setattr_ok {y : V} {u : Value} {Q : Unit → Shared → Prop} (I : Inv X pins σ H s) (e : H a = some (.ins C dx fs)) (c : Cls X.K C) (n : NoAttr X.K C f) (hl : fs.length < 1000) (ry : RelV y u)
    (h : ∀ s', Inv X pins σ (upd H a (.ins C dx (putF f y fs))) s' → Q () s') : wpAny (model X.prog X.w) A (setAttr (.ref a) f u) Q E s := by
  obtain ⟨mA, O, r, wi, _, ho⟩ := ins_get I.hok e
  have hz : (fs.map (·.1)).length ≤ sizeLine := by rw [List.length_map, sizeLine_eq]; omega
  refine set_map I.kIn O c.sa c.po n.taker c.hd wi hz fun h' O' sb => h _ ?_
  have hd : ∃ o, h'.get? dx = some o := let ⟨o, _, _, e', _⟩ := O'.ns; ⟨o, e'⟩
  refine I.write (x := a) (e := dx) (by rw [e]; exact True.intro) (.inr ho) (fun b q hb z => (sb.2 b hb).trans z) hd ?_
  refine ⟨by rw [upd_ne O.ne]; exact ho, ?_, O.ne, O'.obj, _, O'.ns, fun g => ?_, fun g hg => ?_⟩
  · have := length_putF f y fs; omega
  · show RelO ((putF f y fs).lookup g) (if g = f then some u else mA g)
    rw [lookup_putF]
    by_cases q : g = f
    · rw [if_pos q, if_pos q]; exact ry
    · rw [if_neg q, if_neg q]; exact r g
  · by_cases q : g = f
    · rw [q]; exact (keys_putF f y fs).1
    · refine (keys_putF f y fs).2 g (wi g fun z => hg ?_)
      show (if g = f then some u else mA g) = none
      rw [if_neg q]; exact z

/-- a new instance, tracked, without attributes -/
theorem Inv.made (I : Inv X pins σ H s) : Inv X pins σ (upd (upd H s.heap.objs.size (.own (s.heap.objs.size + 1))) (s.heap.objs.size + 1) (.ins C s.heap.objs.size []))
    { s with heap := (s.heap.push PySem.W.emptyDict).push (PySem.W.instObj C s.heap.objs.size) } := by
  have e1 : (s.heap.push PySem.W.emptyDict).get? s.heap.objs.size = some PySem.W.emptyDict := Heap.get?_push_size s.heap rfl
  have e2 : ((s.heap.push PySem.W.emptyDict).push (PySem.W.instObj C s.heap.objs.size)).get? (s.heap.objs.size + 1) = some (PySem.W.instObj C s.heap.objs.size) := by
    have := Heap.get?_push_size (s.heap.push PySem.W.emptyDict) (o := PySem.W.instObj C s.heap.objs.size) rfl
    rwa [Heap.size_push] at this
  have e3 : (s.heap.push PySem.W.emptyDict).Ns s.heap.objs.size (fun _ => none) := ⟨PySem.W.emptyDict, #[], _, e1, rfl, (fun e he => absurd he (by simp)), fun _ => rfl⟩
  have I1 := I.laid (a := s.heap.objs.size) (o := .own (s.heap.objs.size + 1)) (h' := s.heap.push PySem.W.emptyDict) (t' := s.toks) (fun b u q => Heap.get?_push_of_some _ q) (Nat.le_refl _) ⟨_, e1⟩
  refine I1.laid (a := s.heap.objs.size + 1) (o := .ins C s.heap.objs.size []) (t' := s.toks) (fun b u q => Heap.get?_push_of_some _ q) (Nat.le_of_eq (Heap.size_push _ _)) ?_
  have ne : s.heap.objs.size ≠ s.heap.objs.size + 1 := Nat.ne_of_lt (Nat.lt_succ_self _)
  refine ⟨by rw [upd_ne ne, upd_same], Nat.zero_le _, ne, e2, fun _ => none, (Heap.Ns1.of_empty e3).at fun o q => Heap.get?_push_of_some _ q, fun _ => True.intro, fun y hy => absurd rfl hy⟩

/-- e.f where nothing but the object is asked: through attributeBase (super) and the last hold -/
theorem attr_of {prog : Program} {w : World} {env : Env} {e : Expr} {f : Str} {pos : Pos} {s : Shared} {Q : Value → Shared → Prop} (hb : attributeBase e f env (eval e env) = eval e env)
    (h : wpAny (model prog w) A (eval e env) (fun o s₁ => wpAny (model prog w) A (getAttr o f true) Q E s₁) E s) : wpAny (model prog w) A (eval (.Attribute e f pos) env) Q E s :=
  Attribute_any_ h (by rw [arm_eval_Attribute, hb])
end

/-! ### readings and rules -/
/-- e.f, an attribute of the instance -/
def tFld (K : PySem.W.Frag) (ta : TE) (f : Str) : TE := fun σ H Q => ta σ H fun x H1 => ∃ a C dx fs v, x = .ref a ∧ H1 a = some (.ins C dx fs) ∧ Cls K C ∧ NoAttr K C f ∧ fs.lookup f = some v ∧ Q v H1
/-- e.f = value -/
def sFld (K : PySem.W.Frag) (ta tv : TE) (f : Str) : TS := fun D σ H => tv σ H fun y H1 => ta σ H1 fun x H2 => ∃ a C dx fs, x = .ref a ∧ H2 a = some (.ins C dx fs) ∧ Cls K C ∧ NoAttr K C f ∧ fs.length < 1000 ∧
  D.nx σ (upd H2 a (.ins C dx (putF f y fs)))
/-- an augmented operator on two values -/
def InOp (X : Cx) (op : Operator) (rd : V → V → Hp → VK → Prop) : Prop :=
  ∀ (pins : List (Addr × Obj)) (s : Shared) (σ : St) (H : Hp) (x y : V) (u v : Value) (Q : VK), Inv X pins σ H s → RelV x u → RelV y v → rd x y H Q → wpAny (model X.prog X.w) X.A (inplaceOp op u v) (EP X pins σ Q) X.xe s
/-- e.f op= value -/
def sFldAug (K : PySem.W.Frag) (ta tv : TE) (rd : V → V → Hp → VK → Prop) (f : Str) : TS := fun D σ H => ta σ H fun x H1 => ∃ a C dx fs v, x = .ref a ∧ H1 a = some (.ins C dx fs) ∧ Cls K C ∧ NoAttr K C f ∧ fs.lookup f = some v ∧
  tv σ H1 fun y H2 => rd v y H2 fun z H3 => ∃ dx' fs', H3 a = some (.ins C dx' fs') ∧ fs'.length < 1000 ∧ D.nx σ (upd H3 a (.ins C dx' (putF f z fs')))

section
variable {X : Cx} {o e value : Expr} {f : Str} {pos pos' tpos : Pos} {ta tv : TE}
theorem pe_fld (he : PE X e ta) (hb : attributeBase e f X.env (eval e X.env) = eval e X.env) : PE X (.Attribute e f pos) (tFld X.K ta f) := by
  intro pins s σ H Q I h
  refine attr_of hb (thn (he pins s σ H _ I h) fun u s1 ⟨x, H1, I1, rx, a, C, dx, fs, v, ex, ea, c, n, l, q⟩ => ?_)
  subst ex
  obtain rfl : u = Value.ref a := rx
  exact getattr_ok I1 ea c n l fun u' s2 I2 ru => ⟨v, H1, I2, ru, q⟩
theorem ps_fld (ha : PE X o ta) (hv : PE X value tv) (hs : swapsWith value (some (.Attribute o f pos')) pos.line X.env = pure false) : PS X (.Assign [.Attribute o f pos'] value pos) (sFld X.K ta tv f) := by
  intro pins s σ H D I h
  refine plainObj_wpAny_Assign_Attribute (thn (hv pins s σ H _ I h) fun u s1 ⟨y, H1, I1, ry, q⟩ => thn (ha pins s1 σ H1 _ I1 q) fun ov s2 ⟨x, H2, I2, rx, a, C, dx, fs, ex, ea, c, n, l, q2⟩ => ?_) hs
  subst ex
  obtain rfl : ov = Value.ref a := rx
  exact setattr_ok I2 ea c n l ry fun s3 I3 => ⟨σ, _, I3, q2⟩
theorem ps_fldaug {op : Operator} {rd : V → V → Hp → VK → Prop} (ha : PE X o ta) (hv : PE X value tv) (hop : InOp X op rd) : PS X (.AugAssign (.Attribute o f tpos) op value pos) (sFldAug X.K ta tv rd f) := by
  intro pins s σ H D I h
  refine wpAny_AugAssign_AttributeAny (thn (ha pins s σ H _ I h) fun ov s1 ⟨x, H1, I1, rx, a, C, dx, fs, v, ex, ea, c, n, l, q⟩ => ?_)
  subst ex
  obtain rfl : ov = Value.ref a := rx
  refine getattr_ok I1 ea c n l fun u s2 I2 ru => thn (hv pins s2 σ H1 _ I2 q) fun w3 s3 ⟨y, H2, I3, ry, q3⟩ => thn (hop pins s3 σ H2 v y u w3 _ I3 ru ry q3) fun w4 s4 ⟨z, H3, I4, rz, dx', fs', ea', l', q4⟩ => ?_
  exact setattr_ok I4 ea' c n l' rz fun s5 I5 => ⟨σ, _, I5, q4⟩
def rAdd : V → V → Hp → VK → Prop := fun x y H Q => ∃ i j, x = .int i ∧ y = .int j ∧ Q (.int (i + j)) H
def rSub : V → V → Hp → VK → Prop := fun x y H Q => ∃ i j, x = .int i ∧ y = .int j ∧ Q (.int (i - j)) H
theorem in_add : InOp X .Add rAdd := by
  rintro pins s σ H x y u v Q I rx ry ⟨i, j, rfl, rfl, q⟩
  obtain ⟨t, rfl⟩ := (show ∃ t, u = Value.int i t from rx)
  obtain ⟨t', rfl⟩ := (show ∃ t', v = Value.int j t' from ry)
  exact PyProof.Rows.iadd_int ⟨.int (i + j), H, I.tok _, ⟨_, rfl⟩, q⟩
theorem in_sub : InOp X .Sub rSub := by
  rintro pins s σ H x y u v Q I rx ry ⟨i, j, rfl, rfl, q⟩
  obtain ⟨t, rfl⟩ := (show ∃ t, u = Value.int i t from rx)
  obtain ⟨t', rfl⟩ := (show ∃ t', v = Value.int j t' from ry)
  exact PyProof.Rows.isub_int ⟨.int (i - j), H, I.tok _, ⟨_, rfl⟩, q⟩

end

/-! ### isinstance -/
section
variable {X : Cx} {pins : List (Addr × Obj)} {σ : St} {H : Hp} {s : Shared} {A : Around} {E : Value → Shared → Prop} {Q : Value → Shared → Prop} {c : Value} {b : Bool}
end
end L2

namespace L2
open PySem PySem.Spec PyProof.Rows

/-! ### room -/
structure Room (k : Nat) (A : Around) : Prop where
  hd : A.handled = none
  dp : A.depth + 3 * k + 5 < recursionLimit
  un : A.units + 16 * k + 200 < cLine
theorem Room.mono {j k : Nat} {A : Around} (r : Room k A) (h : j ≤ k) : Room j A := ⟨r.hd, by have := r.dp; omega, by have := r.un; omega⟩
theorem Room.deeper {k : Nat} {A : Around} (r : Room (k + 1) A) (env : Env) : Room k (A.deeper env) :=
  ⟨r.hd, by have := r.dp; show A.depth + 1 + 3 * k + 5 < _; omega, by have := r.un; show A.units + 3 + 16 * k + 200 < _; omega⟩
theorem Room.in1 {k : Nat} {A : Around} (r : Room (k + 1) A) : Room k A.in1 :=
  ⟨r.hd, by have := r.dp; show A.depth + 3 * k + 5 < _; omega, by have := r.un; show A.units + 1 + 16 * k + 200 < _; omega⟩
theorem make_depth {A : Around} {C : Addr} {us : List Value} {kw : List (Str × Value)} : (A.under (.builtin "type.__call__" ⟨.ref C :: us, kw⟩)).depth = A.depth + 1 := by
  first | rfl | simp [Around.under, Code.weight, Code.isCreation, Code.isGuard, Code.isCaller, Code.frames, Code.isFrame, guardIds]
theorem make_units {A : Around} {C : Addr} {us : List Value} {kw : List (Str × Value)} : (A.under (.builtin "type.__call__" ⟨.ref C :: us, kw⟩)).units = A.units + 1 := by
  first | rfl | simp [Around.under, Code.cUnits, Code.frames, Code.isFrame]
theorem Room.make {k : Nat} {A : Around} (r : Room (k + 1) A) (C : Addr) (us : List Value) (kw : List (Str × Value)) : Room k (A.under (.builtin "type.__call__" ⟨.ref C :: us, kw⟩)) :=
  ⟨r.hd, by have := r.dp; rw [make_depth]; omega, by have := r.un; rw [make_units]; omega⟩
theorem Room.depth {k : Nat} {A : Around} (r : Room k A) : A.depth < recursionLimit := by have := r.dp; omega
theorem Room.units {k : Nat} {A : Around} (r : Room k A) : A.units + 64 < cLine := by have := r.un; omega
/-! ### argument lists and displays -/
def tNil : TA := fun _ H Q => Q [] H
def tCons (ta : TE) (tr : TA) : TA := fun σ H Q => ta σ H fun x H1 => tr σ H1 fun xs H2 => Q (x :: xs) H2
section
variable {X : Cx} {e : Expr} {es : List Expr} {te : TE} {t : TA} {pos : Pos}
theorem pa_nil : PA X [] tNil := fun _ _ _ _ H Q I h => Calls.spliced_nil ⟨[], H, I, .nil, h⟩
theorem pa_cons (ha : PE X e te) (hr : PA X es t) (hs : starEach (e :: es) X.env = (false, eval e X.env) :: starEach es X.env := by rfl) : PA X (e :: es) (tCons te t) := by
  intro pos pins s σ H Q I h
  rw [hs]
  show wpAny _ _ (spliced ((false, eval e X.env) :: backTo pos (starEach es X.env))) _ _ s
  refine Calls.spliced_cons (thn (ha pins s σ H _ I h) fun u s1 ⟨x, H1, I1, r1, q1⟩ => ?_)
  exact thn (hr pos pins s1 σ H1 _ I1 q1) fun us s2 ⟨xs, H2, I2, r2, q2⟩ => ⟨x :: xs, H2, I2, .cons r1 r2, q2⟩

def tLst (t : TA) : TE := fun σ H Q => t σ H fun xs H1 => xs.length ≤ sizeLine ∧ ∀ p, H1 p = none → Q (.ref p) (upd H1 p (.lst xs))
theorem pe_lst (h : PA X es t) : PE X (.List es pos) (tLst t) := by
  intro pins s σ H Q I hq
  refine wpAny_List_spliced (thn (h pos pins s σ H _ I hq) fun us s1 ⟨xs, H1, I1, r, z, q⟩ => ⟨by rw [← r.length]; exact z, ?_⟩)
  have hf : H1 s1.heap.objs.size = none := I1.hok.fresh (Nat.le_refl _)
  refine ⟨.ref s1.heap.objs.size, upd H1 s1.heap.objs.size (.lst xs), I1.laid (t' := s1.toks) (fun b u e => Heap.get?_push_of_some _ e) (Nat.le_refl _) ?_, rfl, q _ hf⟩
  exact ⟨z, us, 0, r, Heap.get?_push_size _ rfl⟩
end

/-! ### what a def promises -/
/-- a def's promise: the bound arguments in the parameters' order, the heap, the wanted end, the wanted exception -/
abbrev Sp := List V → Hp → VK → XK → Prop
/-- how an exception lies behind a call (file 08 gives it): the callers' frames, abstract heap and state ahead of the call, the wish, the exception, the state -/
abbrev CXT := List Env → Hp → Shared → XK → Value → Shared → Prop

/-- the state at a call -/
structure Env0 (P : Program) (w : World) (K : PySem.W.Frag) (mg : Str → Option Value) (base : Heap) (A : Around) (outer : List Env) (s : Shared) (H : Hp) : Prop where
  frames : A.frames = some outer
  mod : Mod K mg base
  bs : ∀ b o, base.get? b = some o → s.heap.get? b = some o ∧ H b = none
  bsz : base.objs.size ≤ s.heap.objs.size
  funs : s.heap.FunFrames base outer
  frf : ∀ b ∈ frs outer, H b = none
  hok : HOk P w H s.heap
  bare : AllBare s.gens
/-- a call's end -/
def CE (outer : List Env) (P : Program) (w : World) (H : Hp) (s : Shared) (Q : VK) (u : Value) (s' : Shared) : Prop :=
  ∃ v H', s'.os = s.os ∧ AllBare s'.gens ∧ Un (frs outer) [] H H' s.heap s'.heap ∧ HOk P w H' s'.heap ∧ RelV v u ∧ Q v H'
def CR (CX : CXT) (outer : List Env) (P : Program) (w : World) (H : Hp) (s : Shared) (Q : VK) (E : XK) (r : Result) (s' : Shared) : Prop :=
  match r with
  | .ok (.ret u) => CE outer P w H s Q u s'
  | .ok _ => False
  | .error e => CX outer H s E e s'
structure FnOk (P : Program) (w : World) (K : PySem.W.Frag) (mg : Str → Option Value) (base : Heap) (CX : CXT) (k : Nat) (f : Addr) (fd : FuncData) (ps : List Str) (sp : Sp) : Prop where
  len : ∀ vs H Q E, sp vs H Q E → vs.length = ps.length
  run : ∀ (A : Around) (outer : List Env) (s : Shared) (H : Hp) (args : Args) (us : List Value) (vs : List V) (Q : VK) (E : XK), Room k A → Env0 P w K mg base A outer s H → BindsTo s fd args (ps.zip us) → Vals vs us → sp vs H Q E →
    codeAny (model P w) A (.call (.ref f) args) (CR CX outer P w H s Q E) s
theorem FnOk.mono {P : Program} {w : World} {K : PySem.W.Frag} {mg : Str → Option Value} {base : Heap} {CX : CXT} {j k : Nat} {f : Addr} {fd : FuncData} {ps : List Str} {sp : Sp} (F : FnOk P w K mg base CX j f fd ps sp) (h : j ≤ k) :
    FnOk P w K mg base CX k f fd ps sp := ⟨F.len, fun A outer s H args us vs Q E hr => F.run A outer s H args us vs Q E (hr.mono h)⟩
theorem Env0.make {P : Program} {w : World} {K : PySem.W.Frag} {mg : Str → Option Value} {base : Heap} {A : Around} {outer : List Env} {s : Shared} {H : Hp} (e : Env0 P w K mg base A outer s H) (C : Addr) (us : List Value) (kw : List (Str × Value)) :
    Env0 P w K mg base (A.under (.builtin "type.__call__" ⟨.ref C :: us, kw⟩)) outer s H := ⟨by first | exact e.frames | (simpa [Around.under, Code.envs, Code.isFrame, pushEnvs] using e.frames), e.mod, e.bs, e.bsz, e.funs, e.frf, e.hok, e.bare⟩
theorem Env0.in1 {P : Program} {w : World} {K : PySem.W.Frag} {mg : Str → Option Value} {base : Heap} {A : Around} {outer : List Env} {s : Shared} {H : Hp} (e : Env0 P w K mg base A outer s H) :
    Env0 P w K mg base A.in1 outer s H := ⟨e.frames, e.mod, e.bs, e.bsz, e.funs, e.frf, e.hok, e.bare⟩

section
variable {X : Cx} {pins : List (Addr × Obj)} {σ : St} {H : Hp} {s s' : Shared}
/-- from a body: what a callee wants -/
theorem Inv.env0 (I : Inv X pins σ H s) : Env0 X.prog X.w X.K X.mg X.base X.A X.stack s H :=
  ⟨I.ok.frames, I.ok.mod, I.bs, Nat.le_trans I.ok.bsz I.sz, I.stack, I.stkFree, I.hok, I.bare⟩
/-- behind a call -/
theorem Inv.after {Q : VK} {u : Value} (I : Inv X pins σ H s) (h : CE X.stack X.prog X.w H s Q u s') : EP X pins σ Q u s' := by
  obtain ⟨v, H', os, bare, un, hok, r, q⟩ := h
  obtain ⟨hh, g, d, t, os'⟩ := s'
  obtain rfl : os' = s.os := os
  exact ⟨v, H', I.call (h' := hh) (g' := g) (d' := d) (t' := t) (ch := []) un hok bare (fun b z => absurd z (by simp)), r, q⟩
end

/-! ### calls -/
/-- f(..): the written arguments, then the defaults dvs; E: what is wanted of an exception -/
def tCall (sp : Sp) (dvs : List V) (E : XK) (t : TA) : TE := fun σ H Q => t σ H fun vs H1 => sp (vs ++ dvs) H1 Q E
/-- o.m(..) of an instance of the class at C -/
def tMeth (C : Addr) (m : Str) (sp : Sp) (dvs : List V) (E : XK) (ta : TE) (t : TA) : TE := fun σ H Q => ta σ H fun x H1 => ∃ a dx fs, x = .ref a ∧ H1 a = some (.ins C dx fs) ∧ fs.lookup m = none ∧
  t σ H1 fun vs H2 => sp (x :: (vs ++ dvs)) H2 Q E
/-- C(..): a new instance and its dict, then __init__ -/
def tMake (C : Addr) (sp : Sp) (dvs : List V) (E : XK) (t : TA) : TE := fun σ H Q => t σ H fun vs H1 => ∀ x dx, H1 x = none → H1 dx = none → dx ≠ x →
  sp (.ref x :: (vs ++ dvs)) (upd (upd H1 dx (.own x)) x (.ins C dx [])) (fun v H2 => v = .non ∧ Q (.ref x) H2) E

/-- how the parameters are bound: us the positional arguments, kw the keywords' values by name, ds the defaults that fill up -/
def Binds (K : PySem.W.Frag) (fd : FuncData) (ps : List Str) (ds : List Value) : Prop :=
  ∀ (s : Shared) (us : List Value), K.In s.heap → (us ++ ds).length = ps.length → BindsTo s fd ⟨us, []⟩ (ps.zip (us ++ ds))
/-- every parameter is given -/
theorem Binds.all {K : PySem.W.Frag} {fd : FuncData} {ps : List Str} (h : ∀ us : List Value, us.length = ps.length → bindArgs fd ⟨us, []⟩ = pure (ps.zip us)) : Binds K fd ps [] := fun s us _ hl => by
  rw [List.append_nil] at hl ⊢
  exact .of_eq (h us hl)

/-- an exception of a callee reaches what this body wants of exceptions -/
def Passes (CX : CXT) (X : Cx) (E : XK) : Prop := ∀ (pins : List (Addr × Obj)) (σ : St) (H : Hp) (s : Shared) (e : Value) (s' : Shared), Inv X pins σ H s → CX X.stack H s E e s' → X.xe e s'

section
variable {X : Cx} {CX : CXT} {k : Nat} {f C : Addr} {fd : FuncData} {ps : List Str} {sp : Sp} {dvs : List V} {ds : List Value} {E : XK} {x m : Str} {p pos apos : Pos} {e o : Expr} {es : List Expr} {ta : TE} {t : TA}

/-- the callee runs -/
theorem run_fn {pins : List (Addr × Obj)} {σ : St} {H : Hp} {s : Shared} {Q : VK} {us : List Value} {vs : List V} (F : FnOk X.prog X.w X.K X.mg X.base CX k f fd ps sp) (hr : Room k X.A) (hb : Binds X.K fd ps ds) (hd : Vals dvs ds) (hx : Passes CX X E)
    (I : Inv X pins σ H s) (r : Vals vs us) (h : sp (vs ++ dvs) H Q E) : wpAny (model X.prog X.w) X.A (call (.ref f) us) (EP X pins σ Q) X.xe s := by
  have r2 : Vals (vs ++ dvs) (us ++ ds) := r.append hd
  have hl : (us ++ ds).length = ps.length := by rw [← r2.length]; exact F.len _ _ _ _ h
  refine wpAny_call (codeAny_mono (F.run X.A X.stack s H ⟨us, []⟩ (us ++ ds) (vs ++ dvs) Q E hr I.env0 (hb s us I.kIn hl) r2 h) fun r s' hq => ?_)
  cases r with
  | error e => exact hx pins σ H s e s' I hq
  | ok fl =>
    cases fl with
    | ret u => exact I.after hq
    | next => exact False.elim hq
    | brk => exact False.elim hq
    | cont => exact False.elim hq

theorem pe_call (F : FnOk X.prog X.w X.K X.mg X.base CX k f fd ps sp) (hr : Room k X.A) (hg : Gl X x) (hm : X.mg x = some (.ref f)) (hk : PySem.W.keepIn X.K (.ref f) = true) (hb : Binds X.K fd ps ds) (hd : Vals dvs ds) (hx : Passes CX X E)
    (ha : PA X (e :: es) t) (hdb : (x == ("__debug__" : Str)) = false := by decide) (he : starEach (e :: es) X.env = (false, eval e X.env) :: starEach es X.env := by rfl) (hpl : (backTo pos (starEach es X.env)).any (·.1) = false := by rfl) :
    PE X (.Call (.Name x p) (e :: es) [] pos) (tCall sp dvs E t) := by
  intro pins s σ H Q I h
  refine wpAny_Call_Name_kw (ld_glob I hg hm ?_ hdb)
  refine PySem.W.callWith_K (h₀ := X.base) I.ok.mod.kin hk (thn (ha pos pins s σ H _ I h) fun us s1 ⟨vs, H1, I1, r, q⟩ => ⟨I1.kIn, ?_⟩) he hpl
  exact run_fn F hr hb hd hx I1 r q
theorem pe_call0 (F : FnOk X.prog X.w X.K X.mg X.base CX k f fd ps sp) (hr : Room k X.A) (hg : Gl X x) (hm : X.mg x = some (.ref f)) (hk : PySem.W.keepIn X.K (.ref f) = true) (hb : Binds X.K fd ps ds) (hd : Vals dvs ds) (hx : Passes CX X E)
    (hdb : (x == ("__debug__" : Str)) = false := by decide) : PE X (.Call (.Name x p) [] [] pos) (tCall sp dvs E tNil) := by
  intro pins s σ H Q I h
  refine wpAny_Call_Name_kw (ld_glob I hg hm ?_ hdb)
  exact PySem.W.callWith_K0 I.kIn hk (run_fn (us := []) F hr hb hd hx I .nil h)

/-- o.m(e, ..) -/
theorem pe_meth {pl : Sem Bool} (he : PE X o ta) (c : Cls X.K C) (hm : Meth X.K C m f) (F : FnOk X.prog X.w X.K X.mg X.base CX k f fd ps sp) (hr : Room k X.A) (hb : Binds X.K fd ps ds) (hd : Vals dvs ds) (hx : Passes CX X E) (ha : PA X (e :: es) t)
    (hst : starEach (e :: es) X.env = (false, eval e X.env) :: starEach es X.env := by rfl) (hpl : (backTo pos (starEach es X.env)).any (·.1) = false := by rfl)
    (ht : eval (.Call (.Attribute o m apos) (e :: es) [] pos) X.env = (do
      let ov ← eval o X.env
      standAt apos.atName
      let (f, first) ← holding [ov] (getMethod ov m pl)
      callWith pos f first (backTo pos (starEach (e :: es) X.env)) (backToKw pos (keywordEach [] X.env))) := by rfl) :
    PE X (.Call (.Attribute o m apos) (e :: es) [] pos) (tMeth C m sp dvs E ta t) := by
  intro pins s σ H Q I h
  refine PySem.W.methodCall_KW (pl := pl) (thn (he pins s σ H _ I h) fun u s1 ⟨x, H1, I1, rx, a, dx, fs, ex, ea, l, q⟩ => ?_) ht
  subst ex
  obtain rfl : u = Value.ref a := rx
  refine getmeth_ok I1 ea c hm l ?_
  refine PySem.W.callWith_K (first := [.ref a]) (h₀ := X.base) I.ok.mod.kin hm.kp (thn (ha pos pins s1 σ H1 _ I1 q) fun us s2 ⟨vs, H2, I2, r, q2⟩ => ⟨I2.kIn, ?_⟩) hst hpl
  exact run_fn (us := .ref a :: us) (vs := .ref a :: vs) F hr hb hd hx I2 (.cons rfl r) q2
/-- o.m() -/
theorem pe_meth0 {pl : Sem Bool} (he : PE X o ta) (c : Cls X.K C) (hm : Meth X.K C m f) (F : FnOk X.prog X.w X.K X.mg X.base CX k f fd ps sp) (hr : Room k X.A) (hb : Binds X.K fd ps ds) (hd : Vals dvs ds) (hx : Passes CX X E)
    (ht : eval (.Call (.Attribute o m apos) [] [] pos) X.env = (do
      let ov ← eval o X.env
      standAt apos.atName
      let (f, first) ← holding [ov] (getMethod ov m pl)
      callWith pos f first (backTo pos (starEach [] X.env)) (backToKw pos (keywordEach [] X.env))) := by rfl) :
    PE X (.Call (.Attribute o m apos) [] [] pos) (tMeth C m sp dvs E ta tNil) := by
  intro pins s σ H Q I h
  refine PySem.W.methodCall_KW (pl := pl) (thn (he pins s σ H _ I h) fun u s1 ⟨x, H1, I1, rx, a, dx, fs, ex, ea, l, q⟩ => ?_) ht
  subst ex
  obtain rfl : u = Value.ref a := rx
  refine getmeth_ok I1 ea c hm l ?_
  exact PySem.W.callWith_K0 (first := [.ref a]) I1.kIn hm.kp (run_fn (us := [.ref a]) (vs := [.ref a]) F hr hb hd hx I1 (.cons rfl .nil) q)

/-- what a class must have to be made -/
structure Mk (K : PySem.W.Frag) (C f : Addr) : Prop where
  makes : PySem.W.makesIn K C = true
  init : PySem.W.findIn K (.ref C) "__init__" = some (some (.ref f))
  fn : PySem.W.isFn K (.ref f) = true
  kp : PySem.W.keepIn K (.ref C) = true

theorem run_make {pins : List (Addr × Obj)} {σ : St} {H : Hp} {s : Shared} {Q : VK} {us : List Value} {vs : List V} (M : Mk X.K C f) (F : FnOk X.prog X.w X.K X.mg X.base CX k f fd ps sp) (hr : Room (k + 1) X.A) (hb : Binds X.K fd ps ds) (hd : Vals dvs ds)
    (hx : Passes CX X E) (I : Inv X pins σ H s) (r : Vals vs us)
    (h : ∀ x dx, H x = none → H dx = none → dx ≠ x → sp (.ref x :: (vs ++ dvs)) (upd (upd H dx (.own x)) x (.ins C dx [])) (fun v H2 => v = .non ∧ Q (.ref x) H2) E) :
    wpAny (model X.prog X.w) X.A (call (.ref C) us) (EP X pins σ Q) X.xe s := by
  have hq := h (s.heap.objs.size + 1) s.heap.objs.size (I.hok.fresh (Nat.le_succ _)) (I.hok.fresh (Nat.le_refl _)) (Nat.ne_of_lt (Nat.lt_succ_self _))
  have I2 := Inv.made (C := C) I
  have r2 : Vals (V.ref (s.heap.objs.size + 1) :: (vs ++ dvs)) (Value.ref (s.heap.objs.size + 1) :: (us ++ ds)) := .cons rfl (r.append hd)
  have hl : (Value.ref (s.heap.objs.size + 1) :: us ++ ds).length = ps.length := by
    have e := r2.length
    rw [F.len _ _ _ _ hq] at e
    exact e.symm
  refine wpAny_call (make_map (f := f) I.kIn M.makes M.init (beq_iff_eq.mp M.fn) (codeAny_mono (F.run _ X.stack _ _ ⟨Value.ref (s.heap.objs.size + 1) :: us, []⟩ (Value.ref (s.heap.objs.size + 1) :: (us ++ ds)) _ _ E (hr.make C us [])
    (I2.env0.make C us []) (hb _ (Value.ref (s.heap.objs.size + 1) :: us) I2.kIn hl) r2 hq) fun r s' hq' => ?_))
  cases r with
  | error e => exact hx pins σ _ _ e s' I2 hq'
  | ok fl =>
    cases fl with
    | ret u =>
      obtain ⟨v, H', I3, rv, ev, q3⟩ := I2.after hq'
      subst ev
      exact ⟨rv, ⟨V.ref (s.heap.objs.size + 1), H', I3, rfl, q3⟩⟩
    | next => exact False.elim hq'
    | brk => exact False.elim hq'
    | cont => exact False.elim hq'
theorem pe_make (M : Mk X.K C f) (F : FnOk X.prog X.w X.K X.mg X.base CX k f fd ps sp) (hr : Room (k + 1) X.A) (hg : Gl X x) (hm : X.mg x = some (.ref C)) (hb : Binds X.K fd ps ds) (hd : Vals dvs ds) (hx : Passes CX X E)
    (ha : PA X (e :: es) t) (hdb : (x == ("__debug__" : Str)) = false := by decide) (he : starEach (e :: es) X.env = (false, eval e X.env) :: starEach es X.env := by rfl) (hpl : (backTo pos (starEach es X.env)).any (·.1) = false := by rfl) :
    PE X (.Call (.Name x p) (e :: es) [] pos) (tMake C sp dvs E t) := by
  intro pins s σ H Q I h
  refine wpAny_Call_Name_kw (ld_glob I hg hm ?_ hdb)
  refine PySem.W.callWith_K (h₀ := X.base) I.ok.mod.kin M.kp (thn (ha pos pins s σ H _ I h) fun us s1 ⟨vs, H1, I1, r, q⟩ => ⟨I1.kIn, ?_⟩) he hpl
  exact run_make M F hr hb hd hx I1 r q
end

/-! ### keywords -/
section
variable {X : Cx} {CX : CXT} {k : Nat} {f C : Addr} {fd : FuncData} {ps ks : List Str} {sp : Sp} {E : XK} {x m : Str} {p pos apos kpos : Pos} {e o : Expr} {es : List Expr} {kws : List Keyword} {te ta : TE} {t tk : TA} {nm : Option Str}
variable {g : List Value → List Value → List Value} {gV : List V → List V → List V}
end

/-! ### a def's body keeps its promise -/
/-- names: the parameters first -/
structure FnScope (N P : List Str) (sc : Scope) : Prop where
  kind : sc.kind = .function
  co : sc.isCoroutine = false
  gen : sc.isGenerator = false
  nd : N.Nodup
  pre : N.take P.length = P
  par : ∀ x ∈ P, sc.names.lookup x = some .local ∨ sc.names.lookup x = some .cell
  nofree : ∀ y ∈ sc.names, y.2 ≠ .free

theorem bindL_out {kindOf : Str → Option NameKind} {x : Str} : ∀ {binds : List (Str × Value)} {m : Str → Option Value}, (∀ v, (x, v) ∉ binds) → bindL kindOf binds m x = m x
  | [], _, _ => rfl
  | (n, v) :: r, m, h => by
    unfold bindL
    rw [bindL_out fun w hw => h w (List.mem_cons_of_mem _ hw)]
    split
    · have : x ≠ n := by rintro rfl; exact h v List.mem_cons_self
      simp [this]
    · rfl
theorem bindC_out {kindOf : Str → Option NameKind} {x : Str} : ∀ {binds : List (Str × Value)} {m : Str → Option Value}, (∀ v, (x, v) ∉ binds) → bindC kindOf binds m x = m x
  | [], _, _ => rfl
  | (n, v) :: r, m, h => by
    unfold bindC
    rw [bindC_out fun w hw => h w (List.mem_cons_of_mem _ hw)]
    split
    · rfl
    · have : x ≠ n := by rintro rfl; exact h v List.mem_cons_self
      simp [this]
theorem bindL_get {kindOf : Str → Option NameKind} {x : Str} {v : Value} : ∀ {P : List Str} {vs : List Value} {i : Nat} {m : Str → Option Value}, P.Nodup → P[i]? = some x → vs[i]? = some v → kindOf x = some .local →
    bindL kindOf (P.zip vs) m x = some v
  | [], _, _, _, _, h, _, _ => by simp at h
  | _ :: _, [], _, _, _, _, h, _ => by simp at h
  | p :: P, w :: vs, 0, m, nd, h1, h2, hk => by
    simp at h1 h2; subst h1; subst h2
    show bindL kindOf ((p, w) :: P.zip vs) m p = _
    unfold bindL
    rw [bindL_out fun v hv => (List.nodup_cons.mp nd).1 (List.of_mem_zip hv).1, if_pos hk]
    simp
  | p :: P, w :: vs, i + 1, m, nd, h1, h2, hk => by
    show bindL kindOf ((p, w) :: P.zip vs) m x = _
    unfold bindL
    exact bindL_get (i := i) (List.nodup_cons.mp nd).2 (by simpa using h1) (by simpa using h2) hk
theorem bindC_get {kindOf : Str → Option NameKind} {x : Str} {v : Value} : ∀ {P : List Str} {vs : List Value} {i : Nat} {m : Str → Option Value}, P.Nodup → P[i]? = some x → vs[i]? = some v → kindOf x ≠ some .local →
    bindC kindOf (P.zip vs) m x = some v
  | [], _, _, _, _, h, _, _ => by simp at h
  | _ :: _, [], _, _, _, _, h, _ => by simp at h
  | p :: P, w :: vs, 0, m, nd, h1, h2, hk => by
    simp at h1 h2; subst h1; subst h2
    show bindC kindOf ((p, w) :: P.zip vs) m p = _
    unfold bindC
    rw [bindC_out fun v hv => (List.nodup_cons.mp nd).1 (List.of_mem_zip hv).1, if_neg hk]
    simp
  | p :: P, w :: vs, i + 1, m, nd, h1, h2, hk => by
    show bindC kindOf ((p, w) :: P.zip vs) m x = _
    unfold bindC
    exact bindC_get (i := i) (List.nodup_cons.mp nd).2 (by simpa using h1) (by simpa using h2) hk

/-- the names' values at the entry -/
def start (N : List Str) (vs : List V) : St := vs.map some ++ List.replicate (N.length - vs.length) none

/-- the context of a def's body, at its entry; an exception leaves the frame, then lies as CX says -/
def cxOf (CX : CXT) (P : Program) (w : World) (K : PySem.W.Frag) (mg : Str → Option Value) (base : Heap) (N : List Str) (qual : Str) (scope : Scope) (f : Addr) (cd : Value) (A : Around) (outer : List Env) (s : Shared) (H : Hp) (E : XK) : Cx where
  prog := P
  w := w
  K := K
  mg := mg
  base := base
  A := A.deeper (envOfC qual scope s.heap.objs.size f cd)
  N := N
  s₀ := s
  H₀ := H
  env := envOfC qual scope s.heap.objs.size f cd
  outer := outer
  stack := envOfC qual scope s.heap.objs.size f cd :: outer
  ex := []
  calm := true
  fn := fun _ => true
  pn := []
  xe := fun e s' => wpAny (model P w) (A.deeper (envOfC qual scope s.heap.objs.size f cd)) (leaving (envOfC qual scope s.heap.objs.size f cd) e) (fun _ s'' => CX outer H s E e s'') (fun e' s'' => CX outer H s E e' s'') s'

theorem cell_has {sc : Scope} {n : Nat} {x : Str} (h : sc.names.lookup x = some .cell) : ∃ c, (cellsFrom n sc.names []).lookup x = some c := by
  have q := PySem.W.cellsFrom_some sc.names n [] (.inl h)
  exact Option.isSome_iff_exists.mp q

theorem inv_start {CX : CXT} {P : Program} {w : World} {K : PySem.W.Frag} {mg : Str → Option Value} {base : Heap} {N ps : List Str} {qual : Str} {scope : Scope} {f : Addr} {cd : Value} {A : Around} {outer : List Env} {s s1 : Shared} {H : Hp} {E : XK} {us : List Value} {vs : List V}
    (S : FnScope N ps scope) (hd : A.handled = none) (e0 : Env0 P w K mg base A outer s H) (hl : vs.length = ps.length) (r : Vals vs us)
    (x : InCallC s s.heap.objs.size (bindL (envOfC qual scope s.heap.objs.size f cd).kindOf (ps.zip us) fun _ => none) (cellsFrom (s.heap.objs.size + 1) scope.names []) (bindC (envOfC qual scope s.heap.objs.size f cd).kindOf (ps.zip us) fun _ => none) s1) :
    Inv (cxOf CX P w K mg base N qual scope f cd A outer s H E) [] (start N vs) H s1 := by
  have hpl : ps.length ≤ N.length := by have := congrArg List.length S.pre; rw [List.length_take] at this; omega
  obtain ⟨h1, tk, rfl, hk⟩ := x.done
  have noA : ∀ b : Addr, b ∉ (cxOf CX P w K mg base N qual scope f cd A outer s H E).ex := fun b z => absurd (show b ∈ ([] : List Addr) from z) (by simp)
  refine ⟨⟨e0.mod, S.kind, rfl, rfl, Nat.le_refl _, fun y z c h1 h2 => ?_, fun y hy => ?_, fun y c _ h => ?_, fun _ => hd, Around.frames_deeper e0.frames, .inr ⟨rfl, rfl⟩, fun b z => absurd z (noA b), e0.bs, e0.bsz, fun b _ _ => noA b, fun b z => absurd z (noA b), e0.funs, e0.frf⟩,
    rfl, e0.bare, Un.kept hk, ⟨_, x.toInCall.ns, fun i y v h1 h2 h3 => ?_⟩, fun y c h => ⟨_, x.cell y c h⟩, e0.hok.fresh (Nat.le_refl _), fun y c h => ?_, fun p hp => absurd (show p ∈ ([] : List (Addr × Obj)) from hp) (by simp), e0.hok.kept hk, ?_⟩
  · exact name_of_addr x.apart (PySem.mem_of_lookup h1) (PySem.mem_of_lookup h2)
  · have hy : scope.names.lookup y = some .cell ∨ scope.names.lookup y = some .free := hy
    rcases hy with hy | hy
    · exact cell_has hy
    · exact absurd rfl (S.nofree _ (PySem.mem_of_lookup hy))
  · exact Nat.le_of_lt (x.above y c (PySem.mem_of_lookup h))
  · have hi : i < vs.length := by
      unfold start at h2
      by_cases hi : i < vs.length
      · exact hi
      · rw [List.getElem?_append_right (by simpa using hi)] at h2
        rw [List.getElem?_replicate] at h2
        split at h2 <;> cases h2
    have ha : vs[i]? = some v := by
      unfold start at h2
      rw [List.getElem?_append_left (by simpa using hi), List.getElem?_map] at h2
      cases e : vs[i]? with
      | none => rw [e] at h2; cases h2
      | some a => rw [e] at h2; cases h2; rfl
    obtain ⟨u, hu, rv⟩ := r.get ha
    have hp : ps[i]? = some y := by
      rw [← S.pre, List.getElem?_take_of_lt (by omega)]; exact h1
    have ndP : ps.Nodup := by rw [← S.pre]; exact S.nd.sublist (List.take_sublist _ _)
    refine ⟨u, rv, ?_⟩
    rcases S.par y (List.mem_of_getElem? hp) with k | k
    · exact .inl ⟨k, bindL_get ndP hp hu k⟩
    · obtain ⟨c, e⟩ := cell_has (n := s.heap.objs.size + 1) k
      refine .inr ⟨.inl k, c, e, ?_⟩
      have q := x.cell y c e
      rw [bindC_get ndP hp hu (by show scope.names.lookup y ≠ _; rw [k]; decide)] at q
      exact q
  · exact e0.hok.fresh (Nat.le_of_lt (x.above y c (PySem.mem_of_lookup h)))
  · unfold start
    show _ = N.length
    rw [List.length_append, List.length_map, List.length_replicate]
    omega

/-- THE RULE: a def (or a method) of the text, by its body. The body's reading t is chosen for each entry; it is run at the parameters' values -/
theorem fn_of {CX : CXT} {P : Program} {w : World} {K : PySem.W.Frag} {mg : Str → Option Value} {base : Heap} {k : Nat} {f : Addr} {name qual : Str} {params : Arguments} {body : List Stmt} {scope : Scope} {dV kV doc pm cdv ct oc : Value} {an od : Option Addr}
    {osl : Array (Option Value)} {N ps : List Str} {sp : Sp} (lk : K.lookup f = some ⟨oc, od, .func (PySem.W.fnOf name qual params body scope dV kV doc pm an cdv ct), osl⟩) (hcd : PySem.W.codeIn K cdv qual = true) (S : FnScope N ps scope)
    (len : ∀ vs H Q E, sp vs H Q E → vs.length = ps.length)
    (hbody : ∀ (A : Around) (outer : List Env) (s : Shared) (H : Hp) (vs : List V) (Q : VK) (E : XK), Room k (A.deeper (envOfC qual scope s.heap.objs.size f cdv)) → sp vs H Q E →
      ∃ t, PSs (cxOf CX P w K mg base N qual scope f cdv A outer s H E) body t ∧ t { nx := fun _ H' => Q .non H', rt := Q } (start N vs) H) :
    FnOk P w K mg base CX (k + 1) f (PySem.W.fnOf name qual params body scope dV kV doc pm an cdv ct) ps sp := by
  refine ⟨len, fun A outer s H args us vs Q E hr e0 hb r hsp => ?_⟩
  have hl := len _ _ _ _ hsp
  have KX : K.In s.heap := e0.mod.kin.keeps fun b o e => (e0.bs b o e).1
  have lim : s.heap.NoLimit := e0.mod.nolimit.keeps fun b o e => (e0.bs b o e).1
  have hkind : ∀ y ∈ ps.zip us, scope.names.lookup y.1 = some .local ∨ (scope.names.lookup y.1 = some .cell ∧ ((cellsFrom (s.heap.objs.size + 1) scope.names []).lookup y.1).isSome = true) := fun ⟨n, v⟩ hy => by
    rcases S.par n (List.of_mem_zip hy).1 with q | q
    · exact .inl q
    · exact .inr ⟨q, PySem.W.cellsFrom_some _ _ _ (.inl q)⟩
  refine codeAny_call_function hr.depth (KX _ _ lk) rfl S.co S.gen rfl (PySem.W.codeRec_of KX hcd) (hb _ _ _ _ ?_)
  refine wpAny_newFunctionEnv_cells S.kind hkind fun env he s1 x => ?_
  subst he
  refine ⟨lim.keeps x.toInCall.keep, codeAny_func ?_⟩
  obtain ⟨t, ht, hq⟩ := hbody A outer s H vs Q E (hr.deeper _) hsp
  have I : Inv (cxOf CX P w K mg base N qual scope f cdv A outer s H E) [] (start N vs) H s1 := inv_start S hr.hd e0 hl r x
  refine wpAny_mono (ht [] s1 (start N vs) H _ I hq) (fun fl s' hs => ?_) fun e s' hs => hs
  have fin : ∀ {σ' : St} {H' : Hp} {v : V} {u : Value}, Inv (cxOf CX P w K mg base N qual scope f cdv A outer s H E) [] σ' H' s' → RelV v u → Q v H' → CE outer P w H s Q u s' :=
    fun {σ' H' v u} J rv q => ⟨v, H', J.os, J.bare, J.base, J.hok, rv, q⟩
  cases fl with
  | ret u =>
    obtain ⟨v, σ', H', J, rv, q⟩ := hs
    exact fin J rv q
  | next =>
    obtain ⟨σ', H', J, q⟩ := hs
    exact fin (v := V.non) (u := Value.none) J rfl q
  | brk =>
    obtain ⟨_, _, _, q⟩ := hs
    exact False.elim q
  | cont =>
    obtain ⟨_, _, _, q⟩ := hs
    exact False.elim q
end L2

namespace L2
open PySem PySem.Spec PyProof.Rows
section
variable {X : Cx} {x : Str} {p pos : Pos} {e : Expr} {es : List Expr} {t : TA} {id T : String} {r : List V → Hp → VK → Prop}

def tCB (r : List V → Hp → VK → Prop) (t : TA) : TE := fun σ H Q => t σ H fun vs H1 => r vs H1 Q
/-- f(e, ..), f a built-in function -/
theorem pe_callB (hc : CallR X (.builtin id) r) (hg : Gl X x) (hm : X.mg x = none) (hv : bootBuiltins x = some (.builtin id)) (ha : PA X (e :: es) t) (hn : x ≠ "__name__" := by decide) (hdb : (x == ("__debug__" : Str)) = false := by decide)
    (he : starEach (e :: es) X.env = (false, eval e X.env) :: starEach es X.env := by rfl) (hpl : (backTo pos (starEach es X.env)).any (·.1) = false := by rfl) : PE X (.Call (.Name x p) (e :: es) [] pos) (tCB r t) := by
  intro pins s σ H Q I h
  refine wpAny_Call_Name_kw (ld_blt I hg hm hv ?_ hn hdb)
  exact PyProof.Rows.callWith_builtin1 (thn (ha pos pins s σ H _ I h) fun us s1 ⟨vs, H1, I1, r1, q1⟩ => hc pins s1 σ H1 vs us Q I1 r1 q1) he hpl
/-- T(e, ..), T a built-in type -/
theorem pe_callTy (hc : CallR X (.type T) r) (hg : Gl X x) (hm : X.mg x = none) (hv : bootBuiltins x = some (.type T)) (ha : PA X (e :: es) t) (hn : x ≠ "__name__" := by decide) (hdb : (x == ("__debug__" : Str)) = false := by decide)
    (he : starEach (e :: es) X.env = (false, eval e X.env) :: starEach es X.env := by rfl) (hpl : (backTo pos (starEach es X.env)).any (·.1) = false := by rfl) : PE X (.Call (.Name x p) (e :: es) [] pos) (tCB r t) := by
  intro pins s σ H Q I h
  refine wpAny_Call_Name_kw (ld_blt I hg hm hv ?_ hn hdb)
  exact PyProof.Rows.callWith_type1 (thn (ha pos pins s σ H _ I h) fun us s1 ⟨vs, H1, I1, r1, q1⟩ => hc pins s1 σ H1 vs us Q I1 r1 q1) he hpl
end
end L2

namespace HT
open PySem PyProof.Rows

section
open PySem.SeqAt
open PySem.AutoSeq1 (wpAny_loadPart')
open PySem.MeetsSeq PySem.MeetsSeq2 PySem.MeetsSeq3

end

section
variable {prog : Program} {w : World} {A : Around} {E : Value → Shared → Prop} {s : Shared}

/-! ### t[a:b], not the whole -/
/-- a slice's bound as a place among n (d where it is left out) -/
def sIx (n d : Nat) : Option Int → Nat
  | none => d
  | some v => if v < 0 then (v + (n : Int)).toNat else min v.toNat n
theorem sIx_none (n d : Nat) : sIx n d none = d := rfl
theorem sIx_nat (n d k : Nat) : sIx n d (some (k : Int)) = min k n := by
  show (if (k : Int) < 0 then ((k : Int) + (n : Int)).toNat else min (k : Int).toNat n) = min k n
  rw [if_neg (by omega), Int.toNat_natCast]
end
end HT

namespace L2
open PySem PySem.Spec PyProof.Rows

/-! ### the parts of a slice -/
abbrev TO := St → Hp → (Option Int → Hp → Prop) → Prop
/-- a slice's part (left out, or an int) -/
def PO (X : Cx) (e : Option Expr) (t : TO) : Prop :=
  ∀ (pins : List (Addr × Obj)) (s : Shared) (σ : St) (H : Hp) (Q : Option Int → Hp → Prop), Inv X pins σ H s → t σ H Q →
    wpAny (model X.prog X.w) X.A (evalPart e X.env) (fun u s' => ∃ o H', Inv X pins σ H' s' ∧ IsPart u o ∧ Q o H') X.xe s
def tNoPart : TO := fun _ H Q => Q none H
def tPart (t : TE) : TO := fun σ H Q => t σ H fun x H1 => ∃ i, x = .int i ∧ Q (some i) H1

section
variable {X : Cx} {e : Expr} {te : TE} {lo hi : Option Expr} {tl th : TO} {pos p2 : Pos}

theorem po_none : PO X none tNoPart := by
  intro pins s σ H Q I h
  rw [evalPart_none]
  exact wpAny_pure ⟨none, H, I, .none, h⟩
theorem po_some (h : PE X e te) : PO X (some e) (tPart te) := by
  intro pins s σ H Q I hw
  rw [evalPart_some]
  refine thn (h pins s σ H _ I hw) fun u s1 ⟨x, H1, I1, r1, q1⟩ => ?_
  obtain ⟨i, rfl, q⟩ := q1
  obtain ⟨t, rfl⟩ := r1
  exact ⟨some i, H1, I1, .int i t, q⟩

/-- what a slice of a value is, by values: the slice object stands at sl -/
def SlR (X : Cx) (r : V → Option Int → Option Int → Hp → VK → Prop) : Prop :=
  ∀ (pins : List (Addr × Obj)) (s : Shared) (σ : St) (H : Hp) (x : V) (v vl vu : Value) (lo hi : Option Int) (sl : Addr) (Q : VK), Inv X pins σ H s → RelV x v → s.heap.IsSliceOf sl vl vu .none → IsPart vl lo → IsPart vu hi → r x lo hi H Q →
    ∃ T id, typeLookup (.type T) "__getitem__" = pure (some (.builtin id)) ∧ s.TypeIs v T ∧ wpAny (model X.prog X.w) X.A (getItem v (.ref sl)) (EP X pins σ Q) X.xe s
theorem SlR.or {r r' : V → Option Int → Option Int → Hp → VK → Prop} (h : SlR X r) (h' : SlR X r') : SlR X (fun x lo hi H Q => r x lo hi H Q ∨ r' x lo hi H Q) := by
  intro pins s σ H x v vl vu lo hi sl Q I rx hs pl pu q
  rcases q with q | q
  · exact h pins s σ H x v vl vu lo hi sl Q I rx hs pl pu q
  · exact h' pins s σ H x v vl vu lo hi sl Q I rx hs pl pu q
def tSl (r : V → Option Int → Option Int → Hp → VK → Prop) (te : TE) (tl th : TO) : TE := fun σ H Q => te σ H fun x H1 => tl σ H1 fun l H2 => th σ H2 fun u H3 => r x l u H3 Q
/-- a[lo:hi], any a -/
theorem pe_slice {r : V → Option Int → Option Int → Hp → VK → Prop} (hr : SlR X r) (he : PE X e te) (hl : PO X lo tl) (hu : PO X hi th) : PE X (.Subscript e (.Slice lo hi none p2) pos) (tSl r te tl th) := by
  intro pins s σ H Q I h
  refine Subscript_ (thn (he pins s σ H _ I h) fun v s1 ⟨x, H1, I1, r1, q1⟩ => ?_)
  refine wpAny_Slice (thn (hl pins s1 σ H1 _ I1 q1) fun vl s2 ⟨l, H2, I2, pl, q2⟩ => thn (hu pins s2 σ H2 _ I2 q2) fun vu s3 ⟨u, H3, I3, pu, q3⟩ => ?_)
  rw [evalPart_none]
  refine wpAny_pure ?_
  have I4 : Inv X pins σ H3 { s3 with heap := s3.heap.push { cls := .type "slice", data := .fields #[vl, vu, .none] } } := I3.kept (t' := s3.toks) fun b ob q => Heap.get?_push_of_some _ q
  obtain ⟨T, id, hT, ht, hg⟩ := hr pins { s3 with heap := s3.heap.push { cls := .type "slice", data := .fields #[vl, vu, .none] } } σ H3 x v vl vu l u s3.heap.objs.size Q I4 r1 (Heap.IsSliceOf.new ..) pl pu q3
  show wpAny (model X.prog X.w) X.A (subscriptTail e (.Slice lo hi none p2) v (.ref s3.heap.objs.size)) (EP X pins σ Q) X.xe { s3 with heap := s3.heap.push { cls := .type "slice", data := .fields #[vl, vu, .none] } }
  exact tail_any (ops := [.ref s3.heap.objs.size, v]) ht hT hg (by with_unfolding_all rfl)

/-- the items of xs[lo:hi] -/
def cutV (xs : List V) (lo hi : Option Int) : List V := (xs.drop (HT.sIx xs.length 0 lo)).take (HT.sIx xs.length xs.length hi - HT.sIx xs.length 0 lo)
theorem cutV_length (xs : List V) (lo hi : Option Int) : (cutV xs lo hi).length ≤ xs.length := by
  unfold cutV
  rw [List.length_take, List.length_drop]
  omega
/-! ### t < u, t + u -/
end
end L2

namespace L2
open PySem PySem.Spec PyProof.Rows

/-! ### places -/
/-- the place that an index of any sign means -/
def ixN (n : Nat) (i : Int) : Option Nat := if 0 ≤ i then (if i < n then some i.toNat else none) else if -(n : Int) ≤ i then some (i + n).toNat else none
def atI {α : Type} (xs : List α) (i : Int) : Option α := (ixN xs.length i).bind fun j => xs[j]?
theorem ixN_seq {n : Nat} {i : Int} {j : Nat} (h : ixN n i = some j) : seqIndex? i n = some j ∧ j < n ∧ -(n : Int) ≤ i ∧ i < n := by
  unfold ixN at h
  by_cases h0 : 0 ≤ i
  · rw [if_pos h0] at h
    by_cases h1 : i < n
    · rw [if_pos h1] at h
      have e : i.toNat = j := Option.some.inj h
      exact ⟨by rw [seqIndex_of h0 h1, e], by omega, by omega, h1⟩
    · rw [if_neg h1] at h; cases h
  · rw [if_neg h0] at h
    by_cases h1 : -(n : Int) ≤ i
    · rw [if_pos h1] at h
      have e : (i + n).toNat = j := Option.some.inj h
      exact ⟨by rw [seqIndex_neg (by omega) h1, e], by omega, h1, by omega⟩
    · rw [if_neg h1] at h; cases h
theorem atI_get {α : Type} {xs : List α} {i : Int} {v : α} (h : atI xs i = some v) : ∃ j, seqIndex? i xs.length = some j ∧ xs[j]? = some v ∧ j < xs.length ∧ -(xs.length : Int) ≤ i ∧ i < xs.length := by
  unfold atI at h
  cases e : ixN xs.length i with
  | none => rw [e] at h; cases h
  | some j =>
    rw [e] at h
    obtain ⟨h1, h2, h3, h4⟩ := ixN_seq e
    exact ⟨j, h1, h, h2, h3, h4⟩
theorem atI_nat {α : Type} {xs : List α} {j : Nat} {v : α} (h : xs[j]? = some v) : atI xs (j : Int) = some v := by
  have hj : j < xs.length := (List.getElem?_eq_some_iff.mp h).1
  have e : ixN xs.length (j : Int) = some j := by
    unfold ixN
    rw [if_pos (by omega), if_pos (by omega)]; simp
  unfold atI; rw [e]; exact h
/-! ### what may be subscripted -/
/-- what stands as an index of a plain subscript -/
def PlainIx (b : Expr) : Prop := ∀ o i, subscripted b false o i = operate [o, i] (getItem o i)
/-- a subscript by values -/
def IxR (X : Cx) (r : R2) : Prop :=
  ∀ (value slice : Expr) (pins : List (Addr × Obj)) (s : Shared) (σ : St) (H : Hp) (x y : V) (v u : Value) (Q : VK), Inv X pins σ H s → RelV x v → RelV y u → r x y H Q →
    subscripted slice false v u = operate [v, u] (getItem v u) → wpAny (model X.prog X.w) X.A (subscriptTail value slice v u) (EP X pins σ Q) X.xe s
/-- a call of a builtin's method by values: the receiver, the arguments -/
def MtR (X : Cx) (id : String) (r : V → List V → Hp → VK → Prop) : Prop :=
  ∀ (pins : List (Addr × Obj)) (s : Shared) (σ : St) (H : Hp) (x : V) (xs : List V) (v : Value) (us : List Value) (Q : VK), Inv X pins σ H s → RelV x v → Vals xs us → r x xs H Q →
    wpAny (model X.prog X.w) X.A (call (.builtin id) (v :: us)) (EP X pins σ Q) X.xe s
section
variable {X : Cx} {a b : Expr} {ta tb : TE} {pos : Pos}
theorem IxR.or {r r' : R2} (h : IxR X r) (h' : IxR X r') : IxR X (fun x y H Q => r x y H Q ∨ r' x y H Q) := by
  intro value slice pins s σ H x y v u Q I rx ry q hs
  rcases q with q | q
  · exact h value slice pins s σ H x y v u Q I rx ry q hs
  · exact h' value slice pins s σ H x y v u Q I rx ry q hs
theorem MtR.or {id : String} {r r' : V → List V → Hp → VK → Prop} (h : MtR X id r) (h' : MtR X id r') : MtR X id (fun x xs H Q => r x xs H Q ∨ r' x xs H Q) := by
  intro pins s σ H x xs v us Q I rx rs q
  rcases q with q | q
  · exact h pins s σ H x xs v us Q I rx rs q
  · exact h' pins s σ H x xs v us Q I rx rs q
/-- a[b] -/
theorem pe_ix {r : R2} (hr : IxR X r) (ha : PE X a ta) (hb : PE X b tb) (hs : PlainIx b) : PE X (.Subscript a b pos) (tOp r ta tb) := by
  intro pins s σ H Q I h
  exact Subscript_ (binT ha hb I h fun v u s2 x y H2 I2 rx ry q => hr a b pins s2 σ H2 x y v u Q I2 rx ry q (hs _ _))

def rIxL (K : PySem.W.Frag) : R2 := fun x y H Q => ∃ p xs i v, x = .ref p ∧ y = .int i ∧ SqL K H p xs ∧ atI xs i = some v ∧ Q v H
theorem ix_list : IxR X (rIxL X.K) := by
  intro value slice pins s σ H x y v u Q I rx ry h hs
  obtain ⟨p, xs, i, z, rfl, rfl, hq, he, q⟩ := h
  cases rx
  obtain ⟨t, rfl⟩ := ry
  obtain ⟨its, r, pl, hz⟩ := I.list hq
  obtain ⟨j, h1, h2, h3, h4, h5⟩ := atI_get he
  obtain ⟨w, ew, rw'⟩ := r.get h2
  have hl := r.length
  have hn := line63
  have fin : EP X pins σ Q w s := ⟨z, H, I, rw', q⟩
  by_cases h0 : 0 ≤ i
  · have hj : i.toNat = j := by
      rw [seqIndex_of h0 h5] at h1
      exact Option.some.inj h1
    exact item_listR pl.isList h0 (by omega) (by rw [hj]; simpa using ew) fin hs
  · have hj : (i + (its.toArray.size : Int)).toNat = j := by
      rw [seqIndex_neg (by omega) h4] at h1
      rw [List.size_toArray, ← hl]
      exact Option.some.inj h1
    exact subscriptTail_builtinR (x := w) pl.isList.typeIs slot_list_getitem.lookup
      (wpAny_getItem_list_neg (Q := fun r s' => r = w ∧ EP X pins σ Q r s') pl.isList (by omega) (by rw [List.size_toArray] <;> omega) (by omega) (by rw [hj]; simpa using ew) ⟨rfl, fin⟩) hs
/-! ### xs[i] = v, any sign -/
/-- the list's object behind a store -/
theorem mapSeq_set (its : List Value) (n j : Nat) (u : Value) : Obj.mapSeq (·.setIfInBounds j u) { cls := .type "list", data := .seq its.toArray n } = { cls := .type "list", data := .seq (its.set j u).toArray n } := by
  simp [Obj.mapSeq]
theorem Inv.lst {pins : List (Addr × Obj)} {σ : St} {H : Hp} {s : Shared} {p : Addr} {xs : List V} (I : Inv X pins σ H s) (h : H p = some (.lst xs)) :
    ∃ (its : List Value) (n : Nat), Vals xs its ∧ s.heap.get? p = some { cls := .type "list", data := .seq its.toArray n } ∧ xs.length ≤ sizeLine := by
  obtain ⟨z, its, n, r, e⟩ := I.hok p _ h
  exact ⟨its, n, r, e, z⟩
/-- the list at p is written by an update of its object -/
theorem Inv.lstUpd {pins : List (Addr × Obj)} {σ : St} {H : Hp} {s : Shared} {p : Addr} {xs ys : List V} {its its' : List Value} {n n' : Nat} {f : Obj → Obj} (I : Inv X pins σ H s) (h : H p = some (.lst xs))
    (ho : s.heap.get? p = some { cls := .type "list", data := .seq its.toArray n }) (hf : f { cls := .type "list", data := .seq its.toArray n } = { cls := .type "list", data := .seq its'.toArray n' }) (r : Vals ys its') (hz : ys.length ≤ sizeLine) (t : Nat) :
    Inv X pins σ (upd H p (.lst ys)) { s with heap := s.heap.update p f, toks := t } := by
  have e : (s.heap.update p f).get? p = some { cls := .type "list", data := .seq its'.toArray n' } := by
    rw [Heap.get?_update_self f ho (by rw [hf] <;> rfl), hf]
  refine I.write (x := p) (e := p) (by rw [h]; trivial) (.inl rfl) (fun b u hb q => (Heap.get?_update_other _ _ (Ne.symm hb)).trans q) ⟨_, e⟩ ?_
  exact ⟨hz, its', n', r, e⟩
def rSetL : V → V → V → Hp → (Hp → Prop) → Prop := fun o i v H Q => ∃ p xs k j, o = .ref p ∧ i = .int k ∧ H p = some (.lst xs) ∧ ixN xs.length k = some j ∧ Q (upd H p (.lst (xs.set j v)))
theorem set_list : PSet X rSetL := by
  intro pins s σ H o i v ov iv u Q I ro ri rv h
  obtain ⟨p, xs, k, j, rfl, rfl, hp, hj, q⟩ := h
  cases ro
  obtain ⟨t, rfl⟩ := ri
  obtain ⟨its, n, r, ho, hz⟩ := I.lst hp
  obtain ⟨h1, h2, h3, h4⟩ := ixN_seq hj
  have hl := r.length
  have hn := line63
  have I' : Inv X pins σ (upd H p (.lst (xs.set j v))) { s with heap := s.heap.update p (Obj.mapSeq (·.setIfInBounds j u)) } :=
    I.lstUpd hp ho (mapSeq_set its n j u) (r.set rv j) (by rw [List.length_set]; exact hz) s.toks
  by_cases h0 : 0 ≤ k
  · have hk : k.toNat = j := by
      rw [seqIndex_of h0 h4] at h1
      exact Option.some.inj h1
    exact PySem.W.ki_setAt ho h0 (by omega) (by rw [List.size_toArray, ← hl]; exact h4) (by rw [hk]; exact ⟨_, I', q⟩)
  · have hk : (k + (its.toArray.size : Int)).toNat = j := by
      rw [seqIndex_neg (by omega) h3] at h1
      rw [List.size_toArray, ← hl]
      exact Option.some.inj h1
    exact PySem.W.ki_setBack ho (by omega) (by rw [List.size_toArray, ← hl]; exact h3) (by omega) (by rw [hk]; exact ⟨_, I', q⟩)

/-! ### slices -/
theorem slice_bounds (lo hi : Option Int) (n : Nat) : (sliceBounds lo hi none n).1 = ((HT.sIx n 0 lo : Nat) : Int) ∧ (sliceBounds lo hi none n).2.1 = ((HT.sIx n n hi : Nat) : Int) ∧ (sliceBounds lo hi none n).2.2 = 1 := by
  refine ⟨?_, ?_, rfl⟩
  · cases lo with
    | none => simp [sliceBounds, HT.sIx]
    | some i =>
      simp only [sliceBounds, HT.sIx, Option.getD_none, show (1 : Int) > 0 by decide, if_true]
      by_cases h : i < 0
      · simp only [h, if_true] <;> omega
      · simp only [h, if_false] <;> omega
  · cases hi with
    | none => simp [sliceBounds, HT.sIx]
    | some i =>
      simp only [sliceBounds, HT.sIx, Option.getD_none, show (1 : Int) > 0 by decide, if_true]
      by_cases h : i < 0
      · simp only [h, if_true] <;> omega
      · simp only [h, if_false] <;> omega
theorem slicePick_cut (its : List Value) (lo hi : Option Int) : slicePick its.toArray lo hi none = ((its.drop (HT.sIx its.length 0 lo)).take (HT.sIx its.length its.length hi - HT.sIx its.length 0 lo)).toArray := by
  obtain ⟨h1, h2, h3⟩ := slice_bounds lo hi its.toArray.size
  unfold slicePick
  rw [h1, h2, h3]
  simp only [sliceRange_one, pick_run, List.size_toArray] <;> rfl
/-- xs[lo:hi] of a list: a new list -/
def rSlL (K : PySem.W.Frag) : V → Option Int → Option Int → Hp → VK → Prop := fun x lo hi H Q => ∃ a xs, x = .ref a ∧ SqL K H a xs ∧ ∀ p, H p = none → Q (.ref p) (upd H p (.lst (cutV xs lo hi)))
theorem sl_list : SlR X (rSlL X.K) := by
  intro pins s σ H x v vl vu lo hi sl Q I rx hs pl pu h
  obtain ⟨a, xs, rfl, hx, q⟩ := h
  cases rx
  obtain ⟨its, r, ht, hz⟩ := I.list hx
  have hlen := r.length
  refine ⟨"list", _, slot_list_getitem.lookup, ht.isList.typeIs, ?_⟩
  refine wpAny_getItem_list_slice ht.isList hs pl pu .none (by simp) ?_ (by rw [List.size_toArray] <;> omega)
  rw [slicePick_cut, ← hlen]
  refine ⟨.ref s.heap.objs.size, _, I.laid (t' := s.toks) (o := .lst (cutV xs lo hi)) (fun b ob q => Heap.get?_push_of_some _ q) (Nat.le_refl _) ?_, rfl, q _ (I.hok.fresh (Nat.le_refl _))⟩
  exact ⟨Nat.le_trans (cutV_length xs lo hi) hz, _, 0, (r.drop (HT.sIx xs.length 0 lo)).take (HT.sIx xs.length xs.length hi - HT.sIx xs.length 0 lo), Heap.get?_push_size _ rfl⟩

/-! ### in, not in: flat items -/
/-! ### len, list(x), tuple(x) of any list or tuple that is read -/
theorem call_len_seq : CallR X (.builtin "len") (fun xs H Q => ∃ p ys, xs = [.ref p] ∧ (SqL X.K H p ys ∨ SqT X.K H p ys) ∧ Q (.int ys.length) H) := by
  intro pins s σ H xs us Q I r h
  obtain ⟨p, ys, rfl, hq, q⟩ := h
  obtain ⟨u, rfl, rx⟩ := vals1 r
  cases rx
  have hn := line63
  rcases hq with hq | hq
  · obtain ⟨its, r', pl, hz⟩ := I.list hq
    have hlen := r'.length
    exact Calls.call_len_list pl.isList (by simp only [List.size_toArray] <;> omega) ⟨.int ys.length, H, I.tok _, ⟨s.toks + 1, by rw [List.size_toArray, hlen]⟩, q⟩
  · obtain ⟨its, r', pl, hz⟩ := I.tuple hq
    have hlen := r'.length
    exact len_tuple pl (by simp only [List.size_toArray] <;> omega) ⟨.int ys.length, H, I.tok _, ⟨s.toks + 1, by rw [List.size_toArray, hlen]⟩, q⟩
theorem CallR.or {f : Value} {r r' : List V → Hp → VK → Prop} (h : CallR X f r) (h' : CallR X f r') : CallR X f (fun xs H Q => r xs H Q ∨ r' xs H Q) := by
  intro pins s σ H xs us Q I rs q
  rcases q with q | q
  · exact h pins s σ H xs us Q I rs q
  · exact h' pins s σ H xs us Q I rs q
theorem call_list_of : CallR X (.type "list") (fun xs H Q => ∃ p ys, xs = [.ref p] ∧ (SqL X.K H p ys ∨ SqT X.K H p ys) ∧ ∀ l, H l = none → Q (.ref l) (upd H l (.lst ys))) := by
  intro pins s σ H xs us Q I r h
  obtain ⟨p, ys, rfl, hq, q⟩ := h
  obtain ⟨u, rfl, rx⟩ := vals1 r
  cases rx
  have fin : ∀ (its : List Value), Vals ys its → ys.length ≤ sizeLine → ∀ (h' : Heap) (c' : Nat), (∀ b o', s.heap.get? b = some o' → h'.get? b = some o') →
      h'.get? s.heap.objs.size = some { cls := .type "list", dict := none, data := .seq its.toArray c', slots := #[] } → EP X pins σ Q (.ref s.heap.objs.size) { s with heap := h' } := fun its r' hz h' c' kp e =>
    ⟨.ref s.heap.objs.size, _, I.laid (t' := s.toks) kp (Nat.le_refl _) (show ObjOk X.prog X.w _ h' _ (.lst ys) from ⟨hz, its, c', r', e⟩), rfl, q _ (I.hok.fresh (Nat.le_refl _))⟩
  rcases hq with hq | hq
  · obtain ⟨its, r', pl, hz⟩ := I.list hq
    have hlen := r'.length
    obtain ⟨o, ho, hc, n, hd⟩ := pl.isList
    exact call_list_seq p (.inl rfl) ho hc hd (fun h' c' kp e => fin its r' hz h' c' kp e) (by simp only [List.size_toArray] <;> omega)
  · obtain ⟨its, r', pl, hz⟩ := I.tuple hq
    have hlen := r'.length
    obtain ⟨o, ho, hc, n, hd⟩ := pl
    exact call_list_seq p (.inr rfl) ho hc hd (fun h' c' kp e => fin its r' hz h' c' kp e) (by simp only [List.size_toArray] <;> omega)
theorem call_tuple_of : CallR X (.type "tuple") (fun xs H Q => ∃ p ys, xs = [.ref p] ∧ ((SqL X.K H p ys ∧ ∀ l, H l = none → Q (.ref l) (upd H l (.tup ys))) ∨ (SqT X.K H p ys ∧ Q (.ref p) H))) := by
  intro pins s σ H xs us Q I r h
  obtain ⟨p, ys, rfl, h⟩ := h
  obtain ⟨u, rfl, rx⟩ := vals1 r
  cases rx
  rcases h with ⟨hq, q⟩ | ⟨hq, q⟩
  · obtain ⟨its, r', pl, hz⟩ := I.list hq
    have hlen := r'.length
    refine call_tuple_list pl.isList (fun h' kp => ?_) (by simp only [List.size_toArray] <;> omega)
    have I1 : Inv X pins σ H { s with heap := h' } := I.kept (t' := s.toks) kp
    have I2 : Inv X pins σ (upd H h'.objs.size (.tup ys)) { s with heap := h'.push { cls := .type "tuple", data := .seq its.toArray } } :=
      I1.laid (t' := s.toks) (fun b o e => Heap.get?_push_of_some _ e) (Nat.le_refl _) (show ObjOk X.prog X.w _ _ _ (.tup ys) from ⟨hz, its, r', IsTup.new _ _⟩)
    exact ⟨.ref h'.objs.size, _, I2, rfl, q _ (I1.hok.fresh (Nat.le_refl _))⟩
  · obtain ⟨its, r', pl, hz⟩ := I.tuple hq
    exact call_tuple_same pl ⟨.ref p, H, I, rfl, q⟩

/-! ### the call of a builtin's method: o.m(..) -/
/-- the value is of that builtin type -/
def tyV (K : PySem.W.Frag) (T : String) (x : V) (H : Hp) : Prop := match x with
  | .str _ => T = "str"
  | .int _ => T = "int"
  | .ref p => (T = "list" ∧ ∃ xs, SqL K H p xs) ∨ (T = "tuple" ∧ ∃ o, K.lookup p = some o ∧ o.cls = .type "tuple" ∧ o.dict = none) ∨
      (T = "dict" ∧ ((∃ kvs, H p = some (.dK kvs)) ∨ ∃ kvs, H p = some (.dT kvs))) ∨ (T = "set" ∧ ∃ S n, H p = some (.set S n))
  | _ => False
theorem tyV_is {pins : List (Addr × Obj)} {σ : St} {H : Hp} {s : Shared} {T : String} {x : V} {v : Value} (I : Inv X pins σ H s) (r : RelV x v) (ty : tyV X.K T x H) :
    s.TypeIs v T ∧ ∀ a, v = .ref a → ∃ ob, s.heap.get? a = some ob ∧ ob.dict = none := by
  cases x with
  | str z =>
    obtain ⟨t, rfl⟩ := r
    cases (show T = "str" from ty)
    exact ⟨typeIs_str s z t, fun _ e => nomatch e⟩
  | int i =>
    obtain ⟨t, rfl⟩ := r
    cases (show T = "int" from ty)
    exact ⟨typeIs_int s i t, fun _ e => nomatch e⟩
  | ref p =>
    cases r
    rcases ty with ⟨rfl, xs, hq⟩ | ⟨rfl, o, hk, hc, hd⟩ | ⟨rfl, hk⟩ | ⟨rfl, S, n, hk⟩
    · obtain ⟨its, _, pl, _⟩ := I.list hq
      refine ⟨pl.isList.typeIs, fun a e => ?_⟩
      cases e
      obtain ⟨o, n, e, c, hd, _⟩ := pl
      exact ⟨o, e, hd⟩
    · refine ⟨⟨o, I.kIn p o hk, hc⟩, fun a e => ?_⟩
      cases e
      exact ⟨o, I.kIn _ o hk, hd⟩
    · have z : ∃ o, s.heap.get? p = some o ∧ o.ExactDict := by
        rcases hk with ⟨kvs, hk⟩ | ⟨kvs, hk⟩
        · obtain ⟨_, _, _, _, o, _, _, e, ex, _⟩ := I.hok p _ hk
          exact ⟨o, e, ex⟩
        · obtain ⟨_, _, _, _, o, _, _, e, ex, _⟩ := I.hok p _ hk
          exact ⟨o, e, ex⟩
      obtain ⟨o, e, ex⟩ := z
      refine ⟨⟨o, e, ex.1⟩, fun a e2 => ?_⟩
      cases e2
      exact ⟨o, e, ex.2.1⟩
    · obtain ⟨o, _, _, _, e, ex, _⟩ := I.hok p _ hk
      refine ⟨⟨o, e, ex.1⟩, fun a e2 => ?_⟩
      cases e2
      exact ⟨o, e, ex.2.1⟩
  | _ => exact False.elim ty
def tBM (K : PySem.W.Frag) (T : String) (r : V → List V → Hp → VK → Prop) (to : TE) (t : TA) : TE := fun σ H Q => to σ H fun x H1 => tyV K T x H1 ∧ t σ H1 fun xs H2 => r x xs H2 Q
variable {o e : Expr} {es : List Expr} {to : TE} {t : TA} {name : Str} {apos cpos : Pos} {T id : String} {r : V → List V → Hp → VK → Prop}
theorem pe_bm (pa : PlainAttrs T) (slot : Slot T name id) (hty : typeOf (.builtin id) = pure (.type "method_descriptor")) (hm : MtR X id r) (ho : PE X o to) (ha : PA X (e :: es) t)
    (hbase : attributeBase o name X.env (eval o X.env) = eval o X.env := by rfl)
    (hfew : ((backTo cpos (starEach (e :: es) X.env)).all (fun x => !x.1) && (backToKw cpos (keywordEach [] X.env)).all (fun x => x.1.isSome)
      && decide ((e :: es).length + ([] : List Keyword).length + (if ([] : List Keyword).isEmpty then 0 else 1) < 30)) = true := by rfl)
    (hline : (apos.endLine == cpos.line) = true := by rfl) (hs : starEach (e :: es) X.env = (false, eval e X.env) :: starEach es X.env := by rfl) (hplain : (backTo cpos (starEach es X.env)).any (·.1) = false := by rfl) :
    PE X (.Call (.Attribute o name apos) (e :: es) [] cpos) (tBM X.K T r to t) := by
  intro pins s σ H Q I h
  refine wpAny_Call_method_late hbase hfew hline rfl (thn (ho pins s σ H _ I h) fun v s1 ⟨x, H1, I1, r1, ty, q1⟩ => ?_)
  obtain ⟨h1, h2⟩ := tyV_is I1 r1 ty
  refine ⟨T, id, pa, slot, hty, h1, h2, ?_⟩
  have hA := ha cpos pins s1 σ H1 _ I1 q1
  rw [hs] at hA ⊢
  refine Calls.callWith_builtin (by show (false || (backTo cpos (starEach es X.env)).any (·.1)) = false; rw [hplain] <;> rfl) (Calls.evalArgs_plain ?_)
  exact thn hA fun us s2 ⟨vs, H2, I2, r2, q2⟩ => hm pins s2 σ H2 x vs v us Q I2 r1 r2 q2
/- xs.append(e), list.index on a module's tuple .. are MtR facts of 06m -/
end
end L2

namespace L2
open PySem PySem.Spec PyProof.Rows

def MtM (X : Cx) (id : String) (r : V → List V → Hp → VK → Prop) : Prop :=
  ∀ (pins : List (Addr × Obj)) (s : Shared) (σ : St) (H : Hp) (x : V) (xs : List V) (v : Value) (us : List Value) (Q : VK), Inv X pins σ H s → RelV x v → Vals xs us → r x xs H Q →
    wpAny (model X.prog X.w) X.A (call (.builtin id) (v :: us)) (EP X pins σ Q) X.xe s

/-! ### lists of values -/
theorem Vals.one : ∀ {x : V} {us : List Value}, Vals [x] us → ∃ u, us = [u] ∧ RelV x u
  | _, _, .cons r .nil => ⟨_, rfl, r⟩
theorem Vals.two : ∀ {x y : V} {us : List Value}, Vals [x, y] us → ∃ u v, us = [u, v] ∧ RelV x u ∧ RelV y v
  | _, _, _, .cons r (.cons q .nil) => ⟨_, _, rfl, r, q⟩
theorem Vals.zero : ∀ {us : List Value}, Vals [] us → us = []
  | _, .nil => rfl
theorem Vals.rep {xs : List V} {us : List Value} (h : Vals xs us) : ∀ k : Nat, Vals (List.replicate k xs).flatten (List.replicate k us).flatten
  | 0 => .nil
  | k + 1 => by
    rw [List.replicate_succ, List.replicate_succ, List.flatten_cons, List.flatten_cons]
    exact Vals.append h (Vals.rep h k)
theorem foldl_rep (its : List Value) : ∀ (k : Nat) (acc : List Value),
    List.foldl (fun x1 x2 => x1 ++ x2) acc.toArray (List.replicate k its.toArray) = (acc ++ (List.replicate k its).flatten).toArray
  | 0, acc => by simp
  | k + 1, acc => by
    have e : acc.toArray ++ its.toArray = (acc ++ its).toArray := by simp
    have e2 : (acc ++ its) ++ (List.replicate k its).flatten = acc ++ (List.replicate (k + 1) its).flatten := by
      rw [List.replicate_succ, List.flatten_cons, List.append_assoc]
    rw [← e2, ← foldl_rep its k (acc ++ its), ← e, List.replicate_succ, List.foldl_cons]

section
variable {X : Cx} {pins : List (Addr × Obj)} {σ : St} {H : Hp} {s : Shared} {l b : Addr} {xs ys zs : List V}

/-! ### the two steps: a tracked list is rewritten, a new list is laid -/
theorem Inv.lset {its its' : List Value} {n : Nat} {f : Array Value → Array Value} {t' : Nat} (I : Inv X pins σ H s) (hH : H l = some (.lst xs))
    (e : s.heap.get? l = some { cls := .type "list", data := .seq its.toArray n }) (hf : f its.toArray = its'.toArray) (hv : Vals ys its') (hz : ys.length ≤ sizeLine) :
    Inv X pins σ (upd H l (.lst ys)) { s with heap := s.heap.update l (Obj.mapSeq f), toks := t' } := by
  have q := PySem.IsL.update e f
  rw [hf] at q
  refine I.write (x := l) (e := l) (by rw [hH]; exact trivial) (.inl rfl) (fun b' u hb hu => (Heap.get?_update_other s.heap (Obj.mapSeq f) (Ne.symm hb)).trans hu) ⟨_, q⟩ ?_
  exact ⟨hz, its', _, hv, q⟩
theorem Inv.lnew {its : List Value} {t' : Nat} (I : Inv X pins σ H s) (hv : Vals ys its) (hz : ys.length ≤ sizeLine) :
    Inv X pins σ (upd H s.heap.objs.size (.lst ys)) { s with heap := s.heap.push { cls := .type "list", data := .seq its.toArray }, toks := t' } :=
  I.laid (fun _ _ q => Heap.get?_push_of_some _ q) (Nat.le_refl _) ⟨hz, its, 0, hv, Heap.get?_push_size _ rfl⟩
theorem Inv.fresh (I : Inv X pins σ H s) : H s.heap.objs.size = none := I.hok.fresh (Nat.le_refl _)
theorem Inv.lstM (I : Inv X pins σ H s) (hH : H l = some (.lst xs)) : xs.length ≤ sizeLine ∧ ∃ (its : List Value) (n : Nat), Vals xs its ∧ xs.length = its.length ∧ s.heap.get? l = some { cls := .type "list", data := .seq its.toArray n } := by
  obtain ⟨z, its, n, r, e⟩ := I.hok l _ hH
  exact ⟨z, its, n, r, r.length, e⟩

theorem notLongL {n : Nat} (h : n ≤ sizeLine) : Builtin.List.listTooLong n = false := by
  unfold Builtin.List.listTooLong
  exact decide_eq_false (by omega)
end

section
variable {X : Cx}

/-! ### methods -/
def rAppend : V → List V → Hp → VK → Prop := fun x vs H Q => ∃ l xs y, x = .ref l ∧ vs = [y] ∧ H l = some (.lst xs) ∧ xs.length < sizeLine ∧ Q .non (upd H l (.lst (xs ++ [y])))
theorem mt_append : MtM X "list.append" rAppend := by
  intro pins s σ H x vs v us Q I rx rv h
  obtain ⟨l, xs, y, rfl, rfl, hH, hz, q⟩ := h
  cases rx
  obtain ⟨u, rfl, ru⟩ := rv.one
  obtain ⟨z, its, n, r, hl, e⟩ := I.lstM hH
  refine call_meets F.slot_list_append ⟨_, e, rfl⟩ F.entry_list_append (F.args_list_append_2 _ _) (PySem.list_append l its.toArray n u (by rw [List.size_toArray]; omega)) ⟨e, ?_⟩
  refine ⟨.non, _, I.lset (its' := its ++ [u]) hH e (by simp) (r.append (.cons ru .nil)) ?_, rfl, q⟩
  rw [List.length_append, List.length_singleton]
  omega

def rExtend : V → List V → Hp → VK → Prop := fun x vs H Q => ∃ l b xs zs, x = .ref l ∧ vs = [.ref b] ∧ H l = some (.lst xs) ∧ H b = some (.lst zs) ∧ xs.length + zs.length ≤ sizeLine ∧ Q .non (upd H l (.lst (xs ++ zs)))
theorem mt_extend : MtM X "list.extend" rExtend := by
  intro pins s σ H x vs v us Q I rx rv h
  obtain ⟨l, b, xs, zs, rfl, rfl, hH, hB, hz, q⟩ := h
  cases rx
  obtain ⟨u, rfl, ru⟩ := rv.one
  cases ru
  obtain ⟨z, its, n, r, hl, e⟩ := I.lstM hH
  obtain ⟨z2, its2, n2, r2, hl2, e2⟩ := I.lstM hB
  have hsz : its.toArray.size + its2.toArray.size ≤ sizeLine := by rw [List.size_toArray, List.size_toArray]; omega
  have hlong : ¬ (!its.toArray.isEmpty && Builtin.List.listTooLong (its.toArray.size + its2.toArray.size)) = true := by
    rw [notLongL hsz, Bool.and_false]
    exact Bool.false_ne_true
  refine call_meets F.slot_list_extend ⟨_, e, rfl⟩ F.entry_list_extend (F.args_list_extend_2 _ _)
    (AutoSeq1.list_extend_list_list_0 l its.toArray n b its2.toArray n2 hlong (by rw [List.size_toArray]; omega) (by omega)) ⟨e, e2, ?_⟩
  refine ⟨.non, _, I.lset (its' := its ++ its2) hH e (by simp) (r.append r2) ?_, rfl, q⟩
  rw [List.length_append]
  omega

/-! ### list + list, list += list, list * int -/
def rCat : R2 := fun x y H Q => ∃ l b xs zs, x = .ref l ∧ y = .ref b ∧ H l = some (.lst xs) ∧ H b = some (.lst zs) ∧ xs.length + zs.length ≤ sizeLine ∧ ∀ p, H p = none → Q (.ref p) (upd H p (.lst (xs ++ zs)))
theorem op_cat : OpR X (binaryOp .Add) rCat := by
  intro pins s σ H x y v u Q I rx ry h
  obtain ⟨l, b, xs, zs, rfl, rfl, hH, hB, hz, q⟩ := h
  cases rx
  cases ry
  obtain ⟨z, its, n, r, hl, e⟩ := I.lstM hH
  obtain ⟨z2, its2, n2, r2, hl2, e2⟩ := I.lstM hB
  refine PySem.P.add_list e e2 ?_ (by rw [List.size_toArray, List.size_toArray]; omega)
  have ea : its.toArray ++ its2.toArray = (its ++ its2).toArray := by simp
  rw [ea]
  exact ⟨.ref _, _, I.lnew (t' := s.toks) (r.append r2) (by rw [List.length_append]; omega), rfl, q _ I.fresh⟩
/-- a list times an int (a negative one is nothing) -/
def rRep : R2 := fun x y H Q => ∃ l k xs, x = .ref l ∧ y = .int k ∧ H l = some (.lst xs) ∧ -(2 ^ 63) ≤ k ∧ k < 2 ^ 63 ∧ xs.length * k.toNat ≤ sizeLine ∧
  ∀ p, H p = none → Q (.ref p) (upd H p (.lst (List.replicate k.toNat xs).flatten))
theorem len_rep {α : Type} (xs : List α) (k : Nat) : (List.replicate k xs).flatten.length = k * xs.length := by
  induction k with
  | zero => simp
  | succ k ih => rw [List.replicate_succ, List.flatten_cons, List.length_append, ih, Nat.succ_mul, Nat.add_comm]
theorem op_rep : OpR X (binaryOp .Mult) rRep := by
  intro pins s σ H x y v u Q I rx ry h
  obtain ⟨l, k, xs, rfl, rfl, hH, h1, h2, hz, q⟩ := h
  cases rx
  obtain ⟨t, rfl⟩ := ry
  obtain ⟨z, its, n, r, hl, e⟩ := I.lstM hH
  have hlen : its.toArray.size * k.toNat ≤ sizeLine := by rw [List.size_toArray, ← hl]; exact hz
  have hcap : ¬ its.toArray.size * k.toNat > (2 ^ 63 - 1) / 8 := by
    have : (sizeLine : Nat) ≤ (2 ^ 63 - 1) / 8 := by decide
    omega
  have hfit : ¬ (!Builtin.List.listFitsIndex k) = true := by
    rw [fitsIndex_both h1 h2]
    exact Bool.false_ne_true
  have hlong : ¬ Builtin.List.listTooLong (its.toArray.size * k.toNat) = true := by
    rw [notLongL hlen]
    exact Bool.false_ne_true
  have hnew : List.foldl (fun x1 x2 => x1 ++ x2) #[] (List.replicate (if its.toArray.isEmpty = true then 0 else k.toNat) its.toArray) = (List.replicate k.toNat its).flatten.toArray := by
    have f0 : ∀ m : Nat, List.foldl (fun x1 x2 => x1 ++ x2) #[] (List.replicate m its.toArray) = (List.replicate m its).flatten.toArray := fun m => by
      have := foldl_rep its m []
      rw [List.nil_append] at this
      exact this
    rw [f0]
    cases its with
    | nil => simp
    | cons a r' => rw [if_neg (by simp)]
  refine wpAny_binaryOp_repeat_ref (T := "list") (U := "int") (by decide) ⟨_, e, rfl⟩ (fun s' => typeIs_int s' k t) noFill_list_mul F.fills_int_mul F.slot_int_rmul repeat_list F.slot_int_index.lookup
    (call_meets F.slot_int_rmul (typeIs_int s k t) F.entry_int_rmul (F.args_int_rmul_2 _ _) (int___rmul___int_list k t l its.toArray n)
      ⟨e, rfl, ⟨_, e, rfl⟩, call_meets F.slot_list_mul ⟨_, e, rfl⟩ F.entry_list_mul (F.args_list_mul_2 _ _) (AutoListH.list___mul___list_int_3 l its.toArray n k t hfit hcap hlong) ⟨e, ?_⟩⟩)
  rw [hnew]
  exact ⟨.ref _, _, I.lnew (t' := s.toks) (r.rep k.toNat) (by rw [len_rep, Nat.mul_comm]; exact hz), rfl, q _ I.fresh⟩

/-! ### del xs[i] -/
end

/-! ### xs[a:b] = ys -/
section
variable {prog : Program} {w : World} {A : Around} {E : Value → Shared → Prop} {s : Shared}
set_option maxRecDepth 100000 in
end

section
variable {X : Cx}
end
end L2

namespace L2
open PySem PySem.Spec PyProof.Rows

theorem Vals.ints : ∀ {ns : List Int} {us : List Value}, Vals (ns.map V.int) us → IntsAre us ns
  | [], us, h => by
    rw [List.map_nil] at h
    cases h
    exact IntsAre.nil
  | n :: ns, us, h => by
    rw [List.map_cons] at h
    cases h with
    | cons r t =>
      obtain ⟨k, rfl⟩ := r
      exact IntsAre.cons n k (Vals.ints t)
/-! ### the library's walks over a list of ints, kept objects alone -/
section
variable {prog : Program} {w : World} {A : Around} {E : Value → Shared → Prop} {s : Shared} {l : Addr} {its : List Value} {ns : List Int} {Q : Value → Shared → Prop}
end

/-! ### the calls, by values (CallR of 03t; MtR of 06l) -/
section
variable {X : Cx}
/-! sorted, sort (fewer than 64 items: the library's own bound) -/
end

/-! ### list.index, flat items -/
section
variable {X : Cx}
end

/-! ### type(x) of an own instance; is, is not of a module's class -/
section
variable {X : Cx}
end

/-! ### any(xs), all(xs) of a list of bools -/
section
variable {X : Cx}
end

/-! ### == and != of data at any depth: none, bools, ints, texts, lists, tuples -/
mutual
inductive Dp (K : PySem.W.Frag) (H : Hp) : V → PyData → Prop
  | non : Dp K H .non .none
  | bl (b : Bool) : Dp K H (.bl b) (.bool b)
  | int (i : Int) : Dp K H (.int i) (.int i)
  | str (x : Str) : Dp K H (.str x) (.str x)
  | lst {a : Addr} {xs : List V} {ds : List PyData} : SqL K H a xs → DpAll K H xs ds → Dp K H (.ref a) (.list ds)
  | tup {a : Addr} {xs : List V} {ds : List PyData} : SqT K H a xs → DpAll K H xs ds → Dp K H (.ref a) (.tuple ds)
inductive DpAll (K : PySem.W.Frag) (H : Hp) : List V → List PyData → Prop
  | nil : DpAll K H [] []
  | cons {v : V} {vs : List V} {d : PyData} {ds : List PyData} : Dp K H v d → DpAll K H vs ds → DpAll K H (v :: vs) (d :: ds)
end
section
variable {X : Cx} {pins : List (Addr × Obj)} {σ : St} {H : Hp} {s : Shared}
mutual
theorem Dp.reads (I : Inv X pins σ H s) : ∀ (d : PyData) (v : V) (u : Value), Dp X.K H v d → RelV v u → ∃ as, Reads s.heap u d as
  | .none, _, _, h, r => by
    cases h
    cases r
    exact ⟨_, Reads.none⟩
  | .bool b, _, _, h, r => by
    cases h
    cases r
    exact ⟨_, Reads.bool b⟩
  | .int i, _, _, h, r => by
    cases h
    obtain ⟨t, rfl⟩ := r
    exact ⟨_, Reads.int i t⟩
  | .str x, _, _, h, r => by
    cases h
    obtain ⟨t, rfl⟩ := r
    exact ⟨_, Reads.str x t⟩
  | .list ds, _, _, h, r => by
    cases h with
    | lst hs ha =>
      cases r
      obtain ⟨its, rv, ⟨o, n, ho, hc, _, hd⟩, _⟩ := I.list hs
      obtain ⟨as, hr⟩ := Dp.readsAll I ds _ its ha rv
      exact ⟨_, Reads.list ho hc hd hr⟩
  | .tuple ds, _, _, h, r => by
    cases h with
    | tup hs ha =>
      cases r
      obtain ⟨its, rv, ⟨o, ho, hc, n, hd⟩, _⟩ := I.tuple hs
      obtain ⟨as, hr⟩ := Dp.readsAll I ds _ its ha rv
      exact ⟨_, Reads.tuple ho hc hd hr⟩
  | .dict _, _, _, h, _ => by cases h
theorem Dp.readsAll (I : Inv X pins σ H s) : ∀ (ds : List PyData) (vs : List V) (us : List Value), DpAll X.K H vs ds → Vals vs us → ∃ as, ReadsAll s.heap us ds as
  | [], _, _, h, r => by
    cases h
    cases r
    exact ⟨_, ReadsAll.nil⟩
  | d :: ds, _, _, h, r => by
    cases h with
    | cons h1 h2 =>
      cases r with
      | cons r1 r2 =>
        obtain ⟨as, q1⟩ := Dp.reads I d _ _ h1 r1
        obtain ⟨bs, q2⟩ := Dp.readsAll I ds _ _ h2 r2
        exact ⟨_, ReadsAll.cons q1 q2⟩
end
end
section
variable {X : Cx}
end
end L2

namespace L2
open PySem PySem.Spec PyProof.Rows
abbrev CellAt (h : Heap) (c : Addr) (v : Option Value) : Prop := h.IsCell c v
def relS (scope sc : Scope) : Scope :=
  { scope with names := scope.names.map fun (n, k) => if (k == .free && sc.kind == .function && sc.names.lookup n == some .cell) then (n, .cell) else (n, k) }

def cloFrom (cells : List (Str × Addr)) : List (Str × NameKind) → List (Str × Addr) → List (Str × Addr)
  | [], acc => acc
  | (n, k) :: r, acc => if k == .free then cloFrom cells r ((n, (cells.lookup n).getD 0) :: acc) else cloFrom cells r acc

theorem closure_loop (env : Env) (f : Str × NameKind → List (Str × Addr) → Sem (ForInStep (List (Str × Addr))))
    (hf : ∀ n k c, f (n, k) c = if k == .free then (do let a ← cellOf env n; pure (.yield ((n, a) :: c))) else pure (.yield c)) :
    ∀ (names : List (Str × NameKind)) (acc : List (Str × Addr)), (∀ y ∈ names, y.2 = .free → ∃ c, env.cells.lookup y.1 = some c) → forIn names acc f = pure (cloFrom env.cells names acc)
  | [], acc, _ => by rw [List.forIn_nil]; rfl
  | (n, k) :: r, acc, h => by
    rw [List.forIn_cons, hf]
    have ih := fun acc => closure_loop env f hf r acc fun y hy => h y (List.mem_cons_of_mem _ hy)
    unfold cloFrom
    by_cases hk : (k == NameKind.free) = true
    · rw [if_pos hk, if_pos hk]
      obtain ⟨c, hc⟩ := h (n, k) List.mem_cons_self (by simpa using hk)
      have e : cellOf env n = pure c := by unfold cellOf; rw [hc]
      rw [e]
      have e2 : (env.cells.lookup n).getD 0 = c := by rw [hc]; rfl
      rw [e2]
      exact ih _
    · rw [if_neg hk, if_neg hk]
      exact ih _
theorem closure_ok {scope : Scope} {env : Env} (h : ∀ y ∈ scope.names, y.2 = .free → ∃ c, env.cells.lookup y.1 = some c) : closureFor scope env = pure (cloFrom env.cells scope.names []) := by
  simp only [closureFor]
  rw [closure_loop env _ (fun n k c => rfl) scope.names [] h]
  rfl

theorem mem_lookup {α : Type} : ∀ {l : List (Str × α)} {n : Str} {c : α}, (n, c) ∈ l → ∃ c', l.lookup n = some c'
  | (k, v) :: r, n, c, h => by
    rw [List.lookup_cons]
    cases hb : n == k with
    | true => exact ⟨_, rfl⟩
    | false =>
      rcases List.mem_cons.mp h with e | h
      · cases e; simp at hb
      · exact mem_lookup h

theorem cloFrom_mem {cells : List (Str × Addr)} : ∀ {names : List (Str × NameKind)} {acc : List (Str × Addr)} {n : Str} {c : Addr}, (n, c) ∈ cloFrom cells names acc → (n, c) ∈ acc ∨ ((n, .free) ∈ names ∧ c = (cells.lookup n).getD 0)
  | [], _, _, _, h => .inl h
  | (m, k) :: r, acc, n, c, h => by
    unfold cloFrom at h
    split at h
    · rename_i hk
      have hk : k = .free := by simpa using hk
      rcases cloFrom_mem h with h | ⟨h1, h2⟩
      · rcases List.mem_cons.mp h with e | h
        · cases e; exact .inr ⟨hk ▸ List.mem_cons_self, rfl⟩
        · exact .inl h
      · exact .inr ⟨List.mem_cons_of_mem _ h1, h2⟩
    · rcases cloFrom_mem h with h | ⟨h1, h2⟩
      · exact .inl h
      · exact .inr ⟨List.mem_cons_of_mem _ h1, h2⟩
theorem cloFrom_acc {cells : List (Str × Addr)} : ∀ {names : List (Str × NameKind)} {acc : List (Str × Addr)} {p : Str × Addr}, p ∈ acc → p ∈ cloFrom cells names acc
  | [], _, _, h => h
  | (m, k) :: r, acc, p, h => by
    unfold cloFrom
    split
    · exact cloFrom_acc (List.mem_cons_of_mem _ h)
    · exact cloFrom_acc h
theorem cloFrom_has {cells : List (Str × Addr)} : ∀ {names : List (Str × NameKind)} {acc : List (Str × Addr)} {n : Str}, (n, .free) ∈ names → (n, (cells.lookup n).getD 0) ∈ cloFrom cells names acc
  | (m, k) :: r, acc, n, h => by
    unfold cloFrom
    rcases List.mem_cons.mp h with e | h
    · cases e
      exact cloFrom_acc List.mem_cons_self
    · split
      · exact cloFrom_has h
      · exact cloFrom_has h

theorem cells_mem : ∀ {names : List (Str × NameKind)} {h : Heap} {acc : List (Str × Addr)} {x : Str} {c : Addr}, (x, c) ∈ cellsFrom h.objs.size names acc →
    (x, c) ∈ acc ∨ ((x, .cell) ∈ names ∧ h.objs.size ≤ c ∧ CellAt (pushCells h names) c none)
  | [], _, _, _, _, h => .inl h
  | (n, k) :: r, h, acc, x, c, hm => by
    unfold cellsFrom at hm
    unfold pushCells
    split at hm
    · rename_i hk
      rw [if_pos hk]
      have hk : k = .cell := by simpa using hk
      rw [← Heap.size_push h { cls := .type "cell", data := .cell none }] at hm
      rcases cells_mem hm with hm | ⟨h1, h2, h3⟩
      · rcases List.mem_cons.mp hm with e | hm
        · cases e
          exact .inr ⟨hk ▸ List.mem_cons_self, Nat.le_refl _, _, pushCells_keeps r _ _ _ (Heap.get?_push_size _ rfl), rfl⟩
        · exact .inl hm
      · rw [Heap.size_push] at h2
        exact .inr ⟨List.mem_cons_of_mem _ h1, Nat.le_of_succ_le h2, h3⟩
    · rename_i hk
      rw [if_neg hk]
      rcases cells_mem hm with hm | ⟨h1, h2, h3⟩
      · exact .inl hm
      · exact .inr ⟨List.mem_cons_of_mem _ h1, h2, h3⟩
theorem cells_acc : ∀ {names : List (Str × NameKind)} {n : Nat} {acc : List (Str × Addr)} {p : Str × Addr}, p ∈ acc → p ∈ cellsFrom n names acc
  | [], _, _, _, h => h
  | (m, k) :: r, n, acc, p, h => by
    unfold cellsFrom
    split
    · exact cells_acc (List.mem_cons_of_mem _ h)
    · exact cells_acc h
theorem cells_has : ∀ {names : List (Str × NameKind)} {n : Nat} {acc : List (Str × Addr)} {x : Str}, (x, .cell) ∈ names → ∃ c, (x, c) ∈ cellsFrom n names acc
  | (m, k) :: r, n, acc, x, h => by
    unfold cellsFrom
    rcases List.mem_cons.mp h with e | h
    · cases e
      exact ⟨n, cells_acc List.mem_cons_self⟩
    · split
      · exact cells_has h
      · exact cells_has h
theorem cells_inj : ∀ {names : List (Str × NameKind)} {h : Heap} {acc : List (Str × Addr)} {x y : Str} {c : Addr}, (∀ p ∈ acc, p.2 < h.objs.size) → (∀ x y c, (x, c) ∈ acc → (y, c) ∈ acc → x = y) →
    (x, c) ∈ cellsFrom h.objs.size names acc → (y, c) ∈ cellsFrom h.objs.size names acc → x = y
  | [], _, _, _, _, _, _, hi, h1, h2 => hi _ _ _ h1 h2
  | (n, k) :: r, h, acc, x, y, c, hl, hi, h1, h2 => by
    unfold cellsFrom at h1 h2
    split at h1
    · rename_i hk
      rw [if_pos hk] at h2
      rw [← Heap.size_push h { cls := .type "cell", data := .cell none }] at h1 h2
      refine cells_inj (h := h.push _) (fun p hp => ?_) (fun x y c a b => ?_) h1 h2
      · rw [Heap.size_push]
        rcases List.mem_cons.mp hp with rfl | hp
        · exact Nat.lt_succ_self _
        · exact Nat.lt_succ_of_lt (hl p hp)
      · rcases List.mem_cons.mp a with e | a <;> rcases List.mem_cons.mp b with e' | b
        · cases e; cases e'; rfl
        · cases e; exact absurd (hl _ b) (Nat.lt_irrefl _)
        · cases e'; exact absurd (hl _ a) (Nat.lt_irrefl _)
        · exact hi _ _ _ a b
    · rename_i hk
      rw [if_neg hk] at h2
      exact cells_inj hl hi h1 h2

theorem newEnv_comp {M : Model} {A : Around} {E : Value → Shared → Prop} {s : Shared} {scope : Scope} {globals : Addr} {closure : List (Str × Addr)} {qual : Str} {func : Option Addr} {code : Value} {around : Env} {builtins : Addr} {Q : Env → Shared → Prop}
    (h : Q (newEnv scope s.heap.objs.size globals (cellsFrom (s.heap.objs.size + 1) scope.names closure) qual func code (some around) builtins)
      { s with heap := pushCells (s.heap.push { cls := .type "dict", data := .dict #[] }) scope.names }) :
    wpAny M A (newFunctionEnv scope globals closure [] qual func code (some around) builtins) Q E s := by
  simp only [newFunctionEnv, Option.isSome_some, if_true]
  refine wpAny_bind (wpAny_alloc ?_)
  refine wpAny_bind (wpAny_layCells _ (fun n k c => rfl) scope.names closure _ _ ?_)
  rw [show ({ s with heap := s.heap.push { cls := .type "dict", data := .dict #[] } } : Shared).heap.objs.size = s.heap.objs.size + 1 from Heap.size_push ..]
  rw [List.forIn_nil]
  exact wpAny_bind (wpAny_pure (wpAny_pure h))

/-- every name of the written scope, in the scope that runs -/
theorem lookup_relS {sc : Scope} : ∀ {names : List (Str × NameKind)} {x : Str} {k : NameKind},
    (names.map fun (n, k) => if (k == NameKind.free && sc.kind == .function && sc.names.lookup n == some .cell) then (n, NameKind.cell) else (n, k)).lookup x = some k →
    ∃ k', names.lookup x = some k' ∧ (k = k' ∨ (k' = .free ∧ k = .cell))
  | [], _, _, h => by simp at h
  | (n, k₀) :: r, x, k, h => by
    have ih := @lookup_relS sc r x k
    have h' : List.lookup x ((if (k₀ == NameKind.free && sc.kind == .function && sc.names.lookup n == some .cell) = true then (n, NameKind.cell) else (n, k₀)) :: (r.map _)) = some k := h
    cases hx : x == n with
    | true =>
      simp only [List.lookup_cons, hx]
      by_cases hc : (k₀ == NameKind.free && sc.kind == .function && sc.names.lookup n == some .cell) = true
      · rw [if_pos hc] at h'
        simp only [List.lookup_cons, hx] at h'
        cases h'
        simp only [Bool.and_eq_true, beq_iff_eq] at hc
        exact ⟨k₀, rfl, .inr ⟨hc.1.1, rfl⟩⟩
      · rw [if_neg hc] at h'
        simp only [List.lookup_cons, hx] at h'
        cases h'
        exact ⟨_, rfl, .inl rfl⟩
    | false =>
      simp only [List.lookup_cons, hx]
      by_cases hc : (k₀ == NameKind.free && sc.kind == .function && sc.names.lookup n == some .cell) = true
      · rw [if_pos hc] at h'
        simp only [List.lookup_cons, hx] at h'
        exact ih h'
      · rw [if_neg hc] at h'
        simp only [List.lookup_cons, hx] at h'
        exact ih h'
/-- the names of a comprehension's block: its own (with their places in N), or captured -/
structure BlkOk (N : List Str) (sc scope : Scope) (own : List (Str × Nat)) : Prop where
  kind : scope.kind = .function
  uniq : ∀ y ∈ scope.names, scope.names.lookup y.1 = some y.2
  ix : ∀ p ∈ own, N[p.2]? = some p.1
  free : ∀ y ∈ scope.names, y.2 = .free → sc.names.lookup y.1 = some .cell ∨ sc.names.lookup y.1 = some .free
  own : ∀ y ∈ scope.names, y.2 = .local ∨ y.2 = .cell → y.1 ∈ own.map (·.1) ∨ y.1 ∉ N
/-- the slots of the block's own names forgotten -/
def wipe (σ : St) : List Nat → St
  | [] => σ
  | v :: vs => (wipe σ vs).set v none
theorem wipe_length (σ : St) : ∀ vs : List Nat, (wipe σ vs).length = σ.length
  | [] => rfl
  | v :: vs => by unfold wipe; rw [List.length_set, wipe_length σ vs]
theorem wipe_some {σ : St} {i : Nat} {x : V} : ∀ {vs : List Nat}, (wipe σ vs)[i]? = some (some x) → σ[i]? = some (some x) ∧ i ∉ vs
  | [], h => ⟨h, by simp⟩
  | v :: vs, h => by
    unfold wipe at h
    by_cases hi : v = i
    · subst hi
      by_cases hv : v < (wipe σ vs).length
      · rw [List.getElem?_set_self hv] at h; cases h
      · rw [List.getElem?_eq_none (by simpa using hv)] at h; cases h
    · rw [List.getElem?_set_ne hi] at h
      obtain ⟨h1, h2⟩ := wipe_some h
      exact ⟨h1, by simp only [List.mem_cons, not_or]; exact ⟨fun e => hi e.symm, h2⟩⟩

/-- the context of a block that starts at s, its iterator's objects at fp -/
abbrev Cx.blk (X : Cx) (s : Shared) (H : Hp) (scope : Scope) (cenv : Env) (fp : List Addr) : Cx := { X with s₀ := s, H₀ := H, env := cenv, outer := X.stack, ex := fp, fn := fun x => scope.names.lookup x == some .cell, pn := [], xe := fun _ _ => False }
section
variable {X : Cx} {pins : List (Addr × Obj)} {σ : St} {H : Hp} {s : Shared}
theorem block_start {scope : Scope} {own : List (Str × Nat)} {fp : List Addr} (I : Inv X pins σ H s) (ok : BlkOk X.N X.env.scope scope own) (hN : X.N.Nodup) (hfp : ∀ b ∈ fp, FpOk X pins H b ∧ b < s.heap.objs.size) :
    Inv (X.blk s H scope (compEnvC scope (cellsFrom (s.heap.objs.size + 1) scope.names (cloFrom X.env.cells scope.names [])) s.heap.objs.size X.env) fp) [] (wipe σ (own.map (·.2))) H { s with heap := pushCells (s.heap.push { cls := .type "dict", data := .dict #[] }) scope.names } := by
  have hfree : ∀ y ∈ scope.names, y.2 = .free → ∃ c, X.env.cells.lookup y.1 = some c := fun y hy e => by
    rcases ok.free y hy e with k | k
    · exact I.ok.has _ (.inl k)
    · exact I.ok.has _ (.inr k)
  generalize hcenv : compEnvC scope (cellsFrom (s.heap.objs.size + 1) scope.names (cloFrom X.env.cells scope.names [])) s.heap.objs.size X.env = cenv
  have kp : ∀ b o, s.heap.get? b = some o → (pushCells (s.heap.push { cls := .type "dict", data := .dict #[] }) scope.names).get? b = some o := fun b o e => pushCells_keeps _ _ _ _ (Heap.get?_push_of_some _ e)
  have hL : cenv.locals = s.heap.objs.size := by rw [← hcenv]; rfl
  have hcl : cenv.cells = cellsFrom (s.heap.objs.size + 1) scope.names (cloFrom X.env.cells scope.names []) := by rw [← hcenv]; rfl
  have hsc : cenv.scope = relS scope X.env.scope := by rw [← hcenv]; rfl
  rw [← Heap.size_push s.heap { cls := .type "dict", data := .dict #[] }] at hcl
  have cm : ∀ {y c}, (y, c) ∈ cloFrom X.env.cells scope.names [] → X.env.cells.lookup y = some c ∧ c < s.heap.objs.size := fun {y c} hm => by
    rcases cloFrom_mem hm with hm | ⟨h1, rfl⟩
    · cases hm
    · obtain ⟨c, hc⟩ := hfree _ h1 rfl
      rw [hc]
      obtain ⟨w, z⟩ := I.cell _ _ hc
      exact ⟨rfl, z.lt⟩
  have mem : ∀ {y c}, cenv.cells.lookup y = some c → (X.env.cells.lookup y = some c ∧ c < s.heap.objs.size) ∨ (s.heap.objs.size + 1 ≤ c ∧ CellAt (pushCells (s.heap.push { cls := .type "dict", data := .dict #[] }) scope.names) c none) := fun {y c} e => by
    rw [hcl] at e
    rcases cells_mem (PySem.mem_of_lookup e) with hm | ⟨_, h2, h3⟩
    · exact .inl (cm hm)
    · rw [Heap.size_push] at h2; exact .inr ⟨h2, h3⟩
  have look : ∀ {y}, scope.names.lookup y = some .free → ∃ c, cenv.cells.lookup y = some c ∧ X.env.cells.lookup y = some c := fun {y} hl => by
    have hy : (y, NameKind.free) ∈ scope.names := PySem.mem_of_lookup hl
    obtain ⟨c', e'⟩ := mem_lookup (cells_acc (names := scope.names) (n := (s.heap.push { cls := .type "dict", data := .dict #[] }).objs.size) (cloFrom_has (cells := X.env.cells) (acc := []) hy))
    rw [← hcl] at e'
    refine ⟨c', e', ?_⟩
    rw [hcl] at e'
    rcases cells_mem (PySem.mem_of_lookup e') with hm | ⟨h1, _, _⟩
    · exact (cm hm).1
    · have := ok.uniq _ h1
      rw [hl] at this; cases this
  have okB : (X.blk s H scope cenv fp).Ok := by
    refine ⟨I.ok.mod, by show cenv.scope.kind = _; rw [hsc]; exact ok.kind, by show cenv.globals = _; rw [← hcenv]; exact I.ok.glob, by show cenv.builtins = _; rw [← hcenv]; exact I.ok.blt, by show s.heap.objs.size ≤ cenv.locals; rw [hL]; exact Nat.le_refl _,
      fun y z c e1 e2 => ?_, fun y hy => ?_, fun y c z e => ?_, I.ok.hd, I.ok.frames, .inl rfl, fun b hb => ⟨?_, fun y c e z => ?_⟩, I.bs, Nat.le_trans I.ok.bsz I.sz, fun b o e hb => ?_, fun b hb z => ?_, I.stack, I.stkFree⟩
    · have e1 : cenv.cells.lookup y = some c := e1
      have e2 : cenv.cells.lookup z = some c := e2
      rw [hcl] at e1 e2
      refine cells_inj (fun p hp => ?_) (fun y z c a b => I.ok.inj y z c (cm a).1 (cm b).1) (PySem.mem_of_lookup e1) (PySem.mem_of_lookup e2)
      rw [Heap.size_push]
      exact Nat.lt_succ_of_lt (cm (y := p.1) (c := p.2) hp).2
    · show ∃ c, cenv.cells.lookup y = some c
      have key : ∀ k, cenv.kindOf y = some k → (k = .cell ∨ k = .free) → ∃ c, cenv.cells.lookup y = some c := fun k hk hk' => by
        unfold Env.kindOf at hk
        rw [hsc] at hk
        obtain ⟨k', e, r⟩ := lookup_relS hk
        have : k' = .cell ∨ k' = .free := by
          rcases r with rfl | ⟨rfl, _⟩
          · exact hk'
          · exact .inr rfl
        rcases this with rfl | rfl
        · obtain ⟨c, hm⟩ := cells_has (n := (s.heap.push { cls := .type "dict", data := .dict #[] }).objs.size) (acc := cloFrom X.env.cells scope.names []) (PySem.mem_of_lookup e)
          obtain ⟨c', e'⟩ := mem_lookup hm
          exact ⟨c', by rw [hcl]; exact e'⟩
        · obtain ⟨c, h1, _⟩ := look e
          exact ⟨c, h1⟩
      rcases hy with hy | hy
      · exact key _ hy (.inl rfl)
      · exact key _ hy (.inr rfl)
    · have z : (scope.names.lookup y == some NameKind.cell) = true := z
      have z : scope.names.lookup y = some .cell := by simpa using z
      have e : cenv.cells.lookup y = some c := e
      rw [hcl] at e
      rcases cells_mem (PySem.mem_of_lookup e) with hm | ⟨_, h2, _⟩
      · rcases cloFrom_mem hm with hm | ⟨h1, _⟩
        · cases hm
        · have q := ok.uniq _ h1
          rw [z] at q; cases q
      · rw [Heap.size_push] at h2
        exact Nat.le_of_succ_le h2
    · show b ≠ cenv.locals
      rw [hL]; exact Nat.ne_of_lt (hfp b hb).2
    · have e : cenv.cells.lookup y = some c := e
      rcases mem e with ⟨h1, _⟩ | ⟨h1, _⟩
      · exact (hfp b hb).1.2.2.2.2.1 y c h1 z
      · have h2 : s.heap.objs.size + 1 ≤ b := by rw [← z]; exact h1
        exact absurd (Nat.lt_of_lt_of_le (hfp b hb).2 (Nat.le_of_succ_le h2)) (Nat.lt_irrefl _)
    · rcases (hfp b hb).1.2.2.2.1 with z | z
      · exact I.ok.noex b o e z
      · exact absurd (Nat.lt_of_lt_of_le (Heap.lt_size e) (Nat.le_trans I.ok.bsz z)) (Nat.lt_irrefl _)
    · rcases List.mem_cons.mp (I.stkSub b z) with z | z
      · exact (hfp b hb).1.2.1 z
      · exact (hfp b hb).1.2.2.1 z
  refine ⟨okB, rfl, I.bare, Un.kept kp, ⟨fun _ => none, ?_, fun i y av e1 e2 e3 => ?_⟩, fun y c e => ?_, ?_, fun y c e => ?_, fun p hp => ?_, I.hok.kept kp, by rw [wipe_length]; exact I.len⟩
  · show Heap.Ns _ cenv.locals _
    rw [hL]
    exact Heap.Ns.keeps (Heap.Ns.new ..) fun b o e => pushCells_keeps _ _ _ _ e
  · obtain ⟨e2, hne⟩ := wipe_some e2
    have hfr : scope.names.lookup y = some .free ∧ (cenv.kindOf y = some .cell ∨ cenv.kindOf y = some .free) := by
      have key : ∀ k, cenv.scope.names.lookup y = some k → k = .local ∨ k = .cell ∨ k = .free → scope.names.lookup y = some .free ∧ (cenv.kindOf y = some .cell ∨ cenv.kindOf y = some .free) := fun k hk hk' => by
        have hk0 := hk
        rw [hsc] at hk
        obtain ⟨k', e, r⟩ := lookup_relS hk
        have no : ¬ (k' = .local ∨ k' = .cell) := fun hh => by
          rcases ok.own _ (PySem.mem_of_lookup e) hh with e' | e'
          · obtain ⟨p, hp, hpy⟩ := List.mem_map.mp e'
            have e3 := ok.ix p hp
            have : p.1 = y := hpy
            rw [this] at e3
            exact hne (List.mem_map.mpr ⟨p, hp, nodup_ix hN e3 e1⟩)
          · exact e' (List.mem_of_getElem? e1)
        rcases r with rfl | ⟨rfl, rfl⟩
        · rcases hk' with rfl | rfl | rfl
          · exact absurd (.inl rfl) no
          · exact absurd (.inr rfl) no
          · exact ⟨e, .inr hk0⟩
        · exact ⟨e, .inl hk0⟩
      have e3 : Vis cenv.scope y := e3
      rcases e3 with e3 | e3 | e3
      · exact key _ e3 (.inl rfl)
      · exact key _ e3 (.inr (.inl rfl))
      · exact key _ e3 (.inr (.inr rfl))
    obtain ⟨m, hn, hl⟩ := I.loc
    have hvis : Vis X.env.scope y := (ok.free _ (PySem.mem_of_lookup hfr.1) rfl).elim (fun k => .inr (.inl k)) (fun k => .inr (.inr k))
    obtain ⟨w, r, q⟩ := hl i y av e1 e2 hvis
    refine ⟨w, r, .inr ⟨hfr.2, ?_⟩⟩
    obtain ⟨c, h1, h2⟩ := look hfr.1
    rcases q with ⟨k, _⟩ | ⟨_, c', e', z⟩
    · have k : X.env.scope.names.lookup y = some .local := k
      rcases ok.free _ (PySem.mem_of_lookup hfr.1) rfl with k' | k' <;> rw [show X.env.scope.names.lookup y = _ from k'] at k <;> cases k
    · rw [h2] at e'; cases e'
      exact ⟨c, h1, z.keeps kp⟩
  · have e : cenv.cells.lookup y = some c := e
    rcases mem e with ⟨h1, _⟩ | ⟨_, z⟩
    · obtain ⟨w, z⟩ := I.cell y c h1
      exact ⟨w, z.keeps kp⟩
    · exact ⟨_, z⟩
  · show H cenv.locals = none
    rw [hL]; exact I.hok.fresh (Nat.le_refl _)
  · have e : cenv.cells.lookup y = some c := e
    rcases mem e with ⟨h1, _⟩ | ⟨h1, _⟩
    · exact I.freeC y c h1
    · exact I.hok.fresh (Nat.le_of_succ_le h1)
  · exact absurd (show p ∈ ([] : List (Addr × Obj)) ++ [] from hp) (by simp)

/-- an item appended to a tracked list -/
theorem app_ok {E : Value → Shared → Prop} {D : Addr} {xs : List V} {y : V} {v : Value} {Q : Value → Shared → Prop} (I : Inv X pins σ H s) (hD : H D = some (.lst xs)) (hz : xs.length < sizeLine) (r : RelV y v)
    (h : ∀ s', Inv X pins σ (upd H D (.lst (xs ++ [y]))) s' → Q .none s') : wpAny (model X.prog X.w) X.A (call (.builtin "list.append") [.ref D, v]) Q E s := by
  obtain ⟨hz', its, n, ri, e⟩ := I.hok D _ hD
  have hl := ri.length
  refine append_at (hsz := by rw [List.size_toArray]; omega) e fun h' sb ho' => ?_
  refine h { s with heap := h' } (I.write (t' := s.toks) (by rw [hD]; trivial) (.inl rfl) (fun b u hb q => (sb.2 b hb).trans q) ⟨_, ho'⟩ ⟨by rw [List.length_append]; exact hz, its ++ [v], n + 1, ri.append (.cons r .nil), ?_⟩)
  rw [ho']
  simp

/-- a clause's tests -/
def PTs (X : Cx) (ifs : List Expr) (t : TT) : Prop :=
  ∀ (pins : List (Addr × Obj)) (s : Shared) (σ : St) (H : Hp) (Q : Bool → Hp → Prop), Inv X pins σ H s → t σ H Q →
    wpAny (model X.prog X.w) X.A (forIn ifs true fun c r => if r = true then do let ok ← isTrue c X.env (eval c X.env); pure (ForInStep.yield ok) else pure (ForInStep.yield r)) (TP X pins σ Q) X.xe s
def tYes : TT := fun _ H Q => Q true H
theorem pts_nil : PTs X [] tYes := fun _ _ _ H _ I h => wpAny_tests_nil ⟨H, I, h⟩
end

theorem thnF {α : Type} {t : Sem α} {Q Q' : α → Shared → Prop} {M : Model} {A : Around} {E : Value → Shared → Prop} {s : Shared} (h : wpAny M A t Q (fun _ _ => False) s) (hQ : ∀ a s, Q a s → Q' a s) : wpAny M A t Q' E s := wpAny_mono h hQ fun _ _ z => False.elim z

/-- the loop of a list comprehension's block, the target of any form (codeAny_compLoop_tests asks a target that no tuple goes to; statement and proof follow it, PyProof/CompMap.lean:41-61, with the step letOwnedTupleGo kept) -/
theorem compLoop_any {prog : Program} {w : World} {A : Around} {R : Result → Shared → Prop} {s : Shared} {elt target iter : Expr} {ifs : List Expr} {scope : Scope} {pos : Pos} {it acc : Value} {env : Env} (I : Nat → Shared → Prop)
    (turn : ∀ n s, I n s → wpAny (model prog w) A (pyNext it) (fun r s₁ => match r with
      | none => R (.ok .next) s₁
      | some v => wpAny (model prog w) A (letOwnedTupleGo target it v) (fun _ s₁' => wpAny (model prog w) A (assign target env v) (fun _ s₂ =>
          wpAny (model prog w) A (forIn ifs true fun c r => if r = true then do let ok ← isTrue c env (eval c env); pure (ForInStep.yield ok) else pure (ForInStep.yield r)) (fun ok s₃ =>
            if ok = true then wpAny (model prog w) A (eval elt env) (fun x s₄ =>
              wpAny (model prog w) A (call (.builtin "list.append") [acc, x]) (fun _ s₅ => ∃ m, m < n ∧ I m s₅) (notedBy (model prog w) A env fun e s' => R (.error e) s') s₄) (notedBy (model prog w) A env fun e s' => R (.error e) s') s₃
            else ∃ m, m < n ∧ I m s₃) (notedBy (model prog w) A env fun e s' => R (.error e) s') s₂) (notedBy (model prog w) A env fun e s' => R (.error e) s') s₁') (notedBy (model prog w) A env fun e s' => R (.error e) s') s₁) (notedBy (model prog w) A env fun e s' => R (.error e) s') s)
    (n : Nat) (h : I n s) :
    codeAny (model prog w) A (.compLoop (.ListComp elt [⟨target, iter, ifs, 0⟩] scope pos) 0 it acc env) R s := by
  refine codeAny_loop rfl I (fun n s hI => ?_) n h
  show wpAny _ A ((compTurn (.ListComp elt [⟨target, iter, ifs, 0⟩] scope pos) 0 it acc env).onRaise (fun x => do noteFrame x env; theTreesLotGoes x)) _ _ s
  refine wpAny_noted ?_
  rw [compTurn_list]
  refine wpAny_bind (wpAny_standAt (wpAny_bind (wpAny_mono (turn n s hI) (fun r s₁ h₁ => ?_) fun _ _ h' => h')))
  cases r with
  | none => exact wpAny_pure h₁
  | some v =>
    refine wpAny_bind (wpAny_mono h₁ (fun _ s₁' h₁' => ?_) fun _ _ h' => h')
    refine wpAny_bind (wpAny_mono h₁' (fun _ s₂ h₂ => wpAny_bind (wpAny_mono h₂ (fun ok s₃ h₃ => ?_) fun _ _ h' => h')) fun _ _ h' => h')
    cases ok with
    | false => exact wpAny_pure ⟨rfl, h₃⟩
    | true =>
      exact wpAny_bind (wpAny_bind (wpAny_mono h₃ (fun x s₄ h₄ => wpAny_bind (wpAny_mono h₄ (fun _ s₅ h₅ => wpAny_pure (wpAny_pure ⟨rfl, h₅⟩)) fun _ _ h' => h')) fun _ _ h' => h'))

section
variable {X : Cx}
/-- [elt for target in iter if ..]: D the new list; W by the turn and a measure, Nx what a turn is to reach -/
def tLc (wi : TI) (g : TG) (tt : TT) (te : TE) (vs : List Nat) : TE := fun σ H Q => wi σ H fun J H1 => ∀ D, H1 D = none → ∃ W : Nat → Nat → Hp → Prop, (∃ m, W 0 m (upd H1 D (.lst []))) ∧ ∀ i m H, W i m H →
  (J.stop i H ∧ Q (.ref D) H) ∨ (J.go i H ∧ ∃ Nx : Hp → Prop, (∀ H', Nx H' → ∃ m', m' < m ∧ W (i + 1) m' H') ∧ ∀ x H', J.yld i H x H' → g x (wipe σ vs) H' fun σ2 H2 => wipe σ2 vs = wipe σ vs ∧ tt σ2 H2 fun b H3 =>
    if b = true then te σ2 H3 fun y H4 => ∃ acc, H4 D = some (.lst acc) ∧ acc.length < sizeLine ∧ Nx (upd H4 D (.lst (acc ++ [y]))) else Nx H3)
end

/-! ### the forms one uses -/
/-- over a range: Pv by the turn and the heap (the new list at D within) -/
theorem lc_range {lo : Int} {n : Nat} {g : TG} {tt : TT} {te : TE} {vs : List Nat} {σ : St} {H1 : Hp} {D : Addr} {Qd : Hp → Prop} (Pv : Nat → Hp → Prop) (h0 : Pv 0 (upd H1 D (.lst [])))
    (hs : ∀ i H, i < n → Pv i H → g (.int (lo + i)) (wipe σ vs) H fun σ2 H2 => wipe σ2 vs = wipe σ vs ∧ tt σ2 H2 fun b H3 =>
      if b = true then te σ2 H3 fun y H4 => ∃ acc, H4 D = some (.lst acc) ∧ acc.length < sizeLine ∧ Pv (i + 1) (upd H4 D (.lst (acc ++ [y]))) else Pv (i + 1) H3) (hd : ∀ H, Pv n H → Qd H) :
    ∃ W : Nat → Nat → Hp → Prop, (∃ m, W 0 m (upd H1 D (.lst []))) ∧ ∀ i m H, W i m H →
      ((Itr lo n).stop i H ∧ Qd H) ∨ ((Itr lo n).go i H ∧ ∃ Nx : Hp → Prop, (∀ H', Nx H' → ∃ m', m' < m ∧ W (i + 1) m' H') ∧ ∀ x H', (Itr lo n).yld i H x H' → g x (wipe σ vs) H' fun σ2 H2 => wipe σ2 vs = wipe σ vs ∧ tt σ2 H2 fun b H3 =>
        if b = true then te σ2 H3 fun y H4 => ∃ acc, H4 D = some (.lst acc) ∧ acc.length < sizeLine ∧ Nx (upd H4 D (.lst (acc ++ [y]))) else Nx H3) := by
  refine ⟨fun i m H => m = n - i ∧ i ≤ n ∧ Pv i H, ⟨n, by simp, Nat.zero_le _, h0⟩, ?_⟩
  rintro i m H ⟨rfl, hi, p⟩
  by_cases hlt : i < n
  · refine .inr ⟨hlt, Pv (i + 1), fun H' p' => ⟨n - (i + 1), by omega, rfl, hlt, p'⟩, fun x H' y => ?_⟩
    obtain ⟨e, y⟩ := y
    subst e y
    exact hs i _ hlt p
  · have e : i = n := by omega
    subst e
    exact .inl ⟨Nat.le_refl _, hd H p⟩
def blkC (N : List Str) (sc scope : Scope) (own : List (Str × Nat)) : Bool :=
  (match scope.kind with | .function => true | _ => false) && (scope.names.all fun y => decide (scope.names.lookup y.1 = some y.2)) && (own.all fun p => decide (N[p.2]? = some p.1)) &&
    (scope.names.all fun y => match y.2 with
      | .free => (match sc.names.lookup y.1 with | some .cell => true | some .free => true | _ => false)
      | .local => decide (y.1 ∈ own.map (·.1)) || decide (y.1 ∉ N)
      | .cell => decide (y.1 ∈ own.map (·.1)) || decide (y.1 ∉ N)
      | _ => true)
theorem blkOk_by {N : List Str} {sc scope : Scope} {own : List (Str × Nat)} (h : blkC N sc scope own = true) : BlkOk N sc scope own := by
  unfold blkC at h
  simp only [Bool.and_eq_true, List.all_eq_true, decide_eq_true_eq] at h
  obtain ⟨⟨⟨h1, h2⟩, h3⟩, h4⟩ := h
  refine ⟨?_, h2, h3, fun y hy e => ?_, fun y hy e => ?_⟩
  · split at h1
    · assumption
    · cases h1
  · have q := h4 y hy
    simp only [e] at q
    split at q <;> first | exact .inl (by assumption) | exact .inr (by assumption) | cases q
  · have q := h4 y hy
    rcases e with e | e <;> (simp only [e, Bool.or_eq_true, decide_eq_true_eq] at q; exact q)
end L2

namespace L2
open PySem PySem.Spec PyProof.Rows

section
variable {prog : Program} {w : World} {A : Around} {R : Result → Shared → Prop} {s : Shared} {elt t0 i0 t1 i1 : Expr} {ifs0 ifs1 : List Expr} {scope : Scope} {pos : Pos} {it acc : Value} {env : Env}
end

section
variable {X : Cx}
end
end L2

namespace L2
open PySem PySem.Spec PyProof.Rows

/-! ### lists of pairs as tables -/
section
variable {κ : Type} [DecidableEq κ]
def valV (kvs : List (κ × V)) (k : κ) : Option V := (kvs.find? fun kv => decide (kv.1 = k)).map (·.2)
/-- in its place, or at the end -/
def putK (kvs : List (κ × V)) (k : κ) (v : V) : List (κ × V) :=
  if (kvs.any fun kv => decide (kv.1 = k)) = true then kvs.map (fun kv => if kv.1 = k then (kv.1, v) else kv) else kvs ++ [(k, v)]
def dropK (kvs : List (κ × V)) (k : κ) : List (κ × V) := kvs.filter fun kv => decide (kv.1 ≠ k)

theorem valV_pos {p : κ × V} {r : List (κ × V)} {k : κ} (e : p.1 = k) : valV (p :: r) k = some p.2 := by simp [valV, List.find?_cons, e]
theorem valV_neg {p : κ × V} {r : List (κ × V)} {k : κ} (e : ¬ p.1 = k) : valV (p :: r) k = valV r k := by simp [valV, List.find?_cons, e]
theorem RelO.getD {o : Option V} {u : Option Value} {d : V} {d' : Value} (r : RelO o u) (rd : RelV d d') : RelV (o.getD d) (u.getD d') := by
  cases o with
  | none => cases u with
    | none => exact rd
    | some _ => exact (show False from r).elim
  | some _ => cases u with
    | none => exact (show False from r).elim
    | some _ => exact r

/-- raw tables of the same keys -/
theorem KV.val {kvs : List (κ × V)} {vs : List (κ × Value)} (r : KV kvs vs) (k : κ) : RelO (valV kvs k) (valueAt vs k) := by
  unfold KV at r
  induction r with
  | nil => exact True.intro
  | @cons p q ps qs h t ih =>
    obtain ⟨h1, h2⟩ := h
    by_cases e : p.1 = k
    · have e' : q.1 = k := h1.symm.trans e
      have b : valueAt (q :: qs) k = some q.2 := by simp [valueAt, List.find?_cons, e']
      rw [valV_pos e, b]; exact h2
    · have e' : ¬ q.1 = k := fun z => e (h1.trans z)
      have b : valueAt (q :: qs) k = valueAt qs k := by simp [valueAt, List.find?_cons, e']
      rw [valV_neg e, b]; exact ih
theorem KV.any {kvs : List (κ × V)} {vs : List (κ × Value)} (r : KV kvs vs) (k : κ) : (kvs.any fun kv => decide (kv.1 = k)) = vs.any fun kv => decide (kv.1 = k) := by
  unfold KV at r
  induction r with
  | nil => rfl
  | cons h t ih => rw [List.any_cons, List.any_cons, ih, h.1]
theorem KV.drop {kvs : List (κ × V)} {vs : List (κ × Value)} (r : KV kvs vs) (k : κ) : KV (dropK kvs k) (without vs k) := by
  unfold KV at r ⊢
  unfold dropK without
  induction r with
  | nil => exact .nil
  | @cons p q ps qs h t ih =>
    obtain ⟨h1, h2⟩ := h
    rw [List.filter_cons, List.filter_cons]
    by_cases e : p.1 = k
    · have a : ¬ decide (p.1 ≠ k) = true := by simp [e]
      have b : ¬ decide (q.1 ≠ k) = true := by simp [h1.symm.trans e]
      rw [if_neg a, if_neg b]; exact ih
    · have e' : ¬ q.1 = k := fun z => e (h1.trans z)
      have a : decide (p.1 ≠ k) = true := by simp [e]
      have b : decide (q.1 ≠ k) = true := by simp [e']
      rw [if_pos a, if_pos b]; exact .cons ⟨h1, h2⟩ ih
theorem KV.keys {kvs : List (κ × V)} {vs : List (κ × Value)} (r : KV kvs vs) : kvs.map (·.1) = vs.map (·.1) := by
  unfold KV at r
  induction r with
  | nil => rfl
  | cons h t ih => rw [List.map_cons, List.map_cons, ih, h.1]
theorem KV.length {kvs : List (κ × V)} {vs : List (κ × Value)} (r : KV kvs vs) : kvs.length = vs.length := Paired.length r
end


/-! ### a tracked dict, its keys ints and texts or tuples of these -/
/-- raw entries of a dict with tuple keys -/
abbrev KT (H : Hp) : List (List Key × V) → List (List Key × Addr × Value) → Prop := Paired fun p q => p.1 = q.1 ∧ H q.2.1 = some (.tup (p.1.map kV)) ∧ RelV p.2 q.2.2
theorem KT.val {H : Hp} {kvs : List (List Key × V)} {xs : List (List Key × Addr × Value)} (r : KT H kvs xs) (k : List Key) : RelO (valV kvs k) ((atKey xs k).map (·.2)) := by
  induction r with
  | nil => exact True.intro
  | @cons p q ps qs h t ih =>
    obtain ⟨h1, _, h2⟩ := h
    by_cases e : p.1 = k
    · have e' : q.1 = k := h1.symm.trans e
      have b : atKey (q :: qs) k = some q.2 := by simp [atKey, List.find?_cons, e']
      rw [valV_pos e, b]; exact h2
    · have e' : ¬ q.1 = k := fun z => e (h1.trans z)
      have b : atKey (q :: qs) k = atKey qs k := by simp [atKey, List.find?_cons, e']
      rw [valV_neg e, b]; exact ih
theorem KT.keeps {H H' : Hp} {kvs : List (List Key × V)} {xs : List (List Key × Addr × Value)} (r : KT H kvs xs) (ht : ∀ b ys, H b = some (.tup ys) → H' b = some (.tup ys)) : KT H' kvs xs :=
  Paired.mapP r fun _ _ z => ⟨z.1, ht _ _ z.2.1, z.2.2⟩

section
variable {P : Program} {w : World} {H : Hp} {h : Heap} {a : Addr}
end

/-- what the dict at a holds at the key y -/
def DGet (H : Hp) (a : Addr) (y : V) (r : Option V) : Prop :=
  (∃ kvs k, Rd H a (.dK kvs) ∧ y = kV k ∧ r = valV kvs k) ∨ ∃ kvs k b, Rd H a (.dT kvs) ∧ y = .ref b ∧ H b = some (.tup (k.map kV)) ∧ r = valV kvs k
/-- the heap behind a[y] = v -/
def DPut (H : Hp) (a : Addr) (y v : V) (H' : Hp) : Prop :=
  (∃ kvs k, H a = some (.dK kvs) ∧ y = kV k ∧ kvs.length < sizeLine ∧ H' = upd H a (.dK (putK kvs k v))) ∨
  ∃ kvs k b, H a = some (.dT kvs) ∧ y = .ref b ∧ H b = some (.tup (k.map kV)) ∧ kvs.length < sizeLine ∧ H' = upd H a (.dT (putK kvs k v))
theorem DGet.k {H : Hp} {a : Addr} {kvs : List (Key × V)} {k : Key} (e : H a = some (.dK kvs)) : DGet H a (kV k) (valV kvs k) := .inl ⟨kvs, k, .inl e, rfl, rfl⟩
theorem DGet.t {H : Hp} {a b : Addr} {kvs : List (List Key × V)} {k : List Key} (e : H a = some (.dT kvs)) (eb : H b = some (.tup (k.map kV))) : DGet H a (.ref b) (valV kvs k) := .inr ⟨kvs, k, b, .inl e, rfl, eb, rfl⟩
theorem DPut.k {H : Hp} {a : Addr} {kvs : List (Key × V)} {k : Key} {v : V} (e : H a = some (.dK kvs)) (hl : kvs.length < sizeLine) : DPut H a (kV k) v (upd H a (.dK (putK kvs k v))) := .inl ⟨kvs, k, e, rfl, hl, rfl⟩
theorem DPut.t {H : Hp} {a b : Addr} {kvs : List (List Key × V)} {k : List Key} {v : V} (e : H a = some (.dT kvs)) (eb : H b = some (.tup (k.map kV))) (hl : kvs.length < sizeLine) :
    DPut H a (.ref b) v (upd H a (.dT (putK kvs k v))) := .inr ⟨kvs, k, b, e, rfl, eb, hl, rfl⟩


section
variable {X : Cx} {pins : List (Addr × Obj)} {σ : St} {H : Hp} {s : Shared} {a : Addr} {y v : V} {u r : Value} {o : Option V} {A : Around} {E : Value → Shared → Prop}

end

section
variable {X : Cx} {pins : List (Addr × Obj)} {σ : St} {H : Hp} {s : Shared} {a : Addr} {kvs : List (Key × V)} {k : Key} {u : Value} {A : Around} {E : Value → Shared → Prop}
end


/-! ### readings and rules -/
section
variable {X : Cx} {o i e value : Expr} {pos pos' tpos : Pos} {td ty tv : TE}
end


/-! ### displays -/
section
variable {X : Cx} {pos : Pos}
end

/-! ### methods -/
section
variable {X : Cx} {pins : List (Addr × Obj)} {σ : St} {H : Hp} {s : Shared} {a : Addr} {y d : V} {u r : Value} {o : Option V} {A : Around} {E : Value → Shared → Prop}
end

section
variable {X : Cx} {o e f : Expr} {apos cpos : Pos} {td ty tx : TE}
end

/-! ### dict(d): a copy -/
section
variable {X : Cx} {pins : List (Addr × Obj)} {σ : St} {H : Hp} {s : Shared} {a : Addr} {kvs : List (Key × V)} {A : Around} {E : Value → Shared → Prop}
end


section
variable {X : Cx} {pins : List (Addr × Obj)} {σ : St} {H : Hp} {s : Shared} {a : Addr} {y : V} {u : Value} {A : Around} {E : Value → Shared → Prop}
end
end L2

namespace L2
open PySem PySem.Spec PyProof.Rows

section
variable {prog : Program} {w : World} {A : Around} {E : Value → Shared → Prop}
end

section
variable {X : Cx}
end
end L2

namespace L2
open PySem PySem.Spec PyProof.Rows

section
variable {X : Cx} {pins : List (Addr × Obj)} {σ : St} {H : Hp} {s : Shared} {h' : Heap}
/-- .. and one new object is laid -/
theorem Inv.turnedNew {t' : Nat} {ch : List Addr} {T : Addr} {ob : HO} (I : Inv X pins σ H s) (k : ∀ b o, b ∉ ch → s.heap.get? b = some o → h'.get? b = some o) (hf : ∀ b ∈ ch, FpOk X pins H b) (hT : s.heap.objs.size ≤ T)
    (new : ObjOk X.prog X.w (upd H T ob) h' T ob) : Inv X pins σ (upd H T ob) { s with heap := h', toks := t' } := by
  have hn : H T = none := I.hok.fresh hT
  have nit : ∀ b u, H b = some u → b ∉ ch := fun b u e z => by
    have q := (hf b z).1
    rw [q] at e; cases e
  refine I.step (g' := s.gens) (d' := s.drawn) (ch := ch) (fun b hb => ⟨(hf b hb).2.2.2.1, (hf b hb).2.1, (hf b hb).2.2.2.2.1, (hf b hb).2.2.2.2.2⟩) (fun b o _ _ hc e _ => k b o hc e) (fun b o _ _ hc e _ => ⟨o.slots, k b o hc e⟩)
    (fun b o _ e n => ?_) (fun b o hc e => ⟨o, k b o hc e⟩) (fun b xs e => ?_) (fun b o u e => ?_) (fun b ps e => ⟨#[], ?_⟩) (fun m hm => ?_) (fun b u e => ?_) I.bare
  · rw [upd_ne (Nat.ne_of_lt (Nat.lt_of_lt_of_le (Heap.lt_size e) hT))]; exact n
  · rw [upd_ne (ne_of_none e hn)]; exact e
  · rw [upd_ne (ne_of_none e hn)]; exact e
  · rw [upd_ne (ne_of_none e hn), e]; simp
  · obtain ⟨o, es, ep, ho, r⟩ := hm
    exact ⟨o, es, ep, k _ o (fun z => (hf _ z).2.1 rfl) ho, r⟩
  · by_cases hb : b = T
    · subst hb
      rw [upd_same] at e
      cases e
      exact new
    · rw [upd_ne hb] at e
      refine (I.hok b u e).stay (fun c v hc q => k c v ?_ q) (fun c q => by rw [upd_ne (ne_of_none q hn)]; exact q) fun c xs q => by rw [upd_ne (ne_of_none q hn)]; exact q
      rcases hc with z | z
      · rw [z]; exact nit b u e
      · exact nit c _ z

/-! ### locking a thing while a statement runs -/
end
section
variable {X : Cx}
/-! ### one iterator just laid -/
end

/-! ### range with a step -/
/-- range(i, j, c): small bounds, n items -/
def RgC (i j c : Int) (n : Nat) : Prop := c ≠ 0 ∧ c.natAbs < 1073741824 ∧ Builtin.Range.small i j c = true ∧ Builtin.Range.rangeSize i j c = n
section
variable {X : Cx} {tg : Expr}
end
/-! ### reversed(list) -/
section
variable {X : Cx} {tg : Expr}
end

/-! ### a str -/
/-! ### a dict's keys: any dict's entries -/
section
variable {prog : Program} {w : World} {A : Around} {E : Value → Shared → Prop} {s : Shared}
end

/-! ### a locked dict -/
section
variable {X : Cx} {pins : List (Addr × Obj)} {σ : St} {H : Hp} {s : Shared} {d : Addr} {o : Obj}
end

section
variable {P : Program} {w : World} {K : PySem.W.Frag} {tg : Expr} {d : Addr} {o : Obj} {es : Array DictEntry} {ep : Nat}
end

/-! ### for k in d, d.keys(), d.values(), d.items() -/
section
variable {X : Cx} {tg e : Expr} {td : TE} {apos cpos : Pos}
end

/-! ### enumerate(list) -/
/-- the list at a as it stands at each turn, each item in a new pair -/
def Ite (K : PySem.W.Frag) (a : Addr) : It :=
  ⟨fun i H => ∃ (xs : List V) (x : V), SqL K H a xs ∧ xs[i]? = some x, fun i H v H' => ∃ T x, v = .ref T ∧ H T = none ∧ H' = upd H T (.tup [.int (i : Nat), x]) ∧ ∀ xs, SqL K H a xs → xs[i]? = some x, fun i H => ∃ xs : List V, SqL K H a xs ∧ xs.length ≤ i⟩
theorem turn_enum {P : Program} {w : World} {K : PySem.W.Frag} {elts : List Expr} {kk : Nat} {tpos : Pos} (a e it : Addr) :
    Turn P w K (.Tuple elts kk tpos) (Ite K a) [e, it] e (fun i h => (∃ old, IsEnum h e it ((i : Nat) : Int) old) ∧ h.IsListIter it a i ∧ e ≠ it) where
  mem := by simp
  obj := fun i h st b hb => by
    obtain ⟨⟨old, he⟩, ⟨o, ho, hc, hd⟩, _⟩ := st
    have e' : b = e ∨ b = it := by simpa using hb
    rcases e' with z | z
    · rw [z]; exact ⟨_, he, fun v q => nomatch q⟩
    · rw [z]; exact ⟨o, ho, fun v q => by rw [hd] at q; cases q⟩
  keep := fun i h h' st k => let ⟨⟨old, he⟩, hi, hne⟩ := st; ⟨⟨old, k e (by simp) _ he⟩, hi.at fun o q => k it (by simp) o q, hne⟩
  item := by
    intro X hP hw hK hc i pins s σ H E I hf st hg
    subst hP hw hK
    obtain ⟨⟨old, he⟩, hit, hne⟩ := st
    obtain ⟨xs, x, hq, hx⟩ := hg
    obtain ⟨its, rv, p, hz⟩ := I.list hq
    obtain ⟨u, hu, ru⟩ := rv.get hx
    have hel : e < s.heap.objs.size := Heap.lt_size he
    have hil : it < s.heap.objs.size := by obtain ⟨_, q, _⟩ := hit; exact Heap.lt_size q
    refine wpAny_pyNext_enum_item he hit p.isList (x := u) (by simpa using hu) hne fun h' ho hit' hT hsz hk => ?_
    refine ⟨_, rfl, wpAny_letOwnedTupleGo_enum (s := { s with heap := h', toks := s.toks + 1 }) ho fun h'' he' sb => ?_⟩
    have hT2 : h''.get? s.heap.objs.size = some { cls := .type "tuple", data := .seq #[.int i s.toks, u] } := (sb.2 _ (Nat.ne_of_gt hel)).trans hT
    have new : ObjOk X.prog X.w (upd H s.heap.objs.size (.tup [.int (i : Nat), x])) h'' s.heap.objs.size (.tup [.int (i : Nat), x]) :=
      ⟨by show 2 ≤ sizeLine; decide, [.int i s.toks, u], .cons ⟨_, rfl⟩ (.cons ru .nil), ⟨_, hT2, rfl, _, rfl⟩⟩
    have I1 : Inv X pins σ (upd H s.heap.objs.size (.tup [.int (i : Nat), x])) { s with heap := h'', toks := s.toks + 1 } :=
      I.turnedNew (ch := [e, it]) (fun b ob hb q => (sb.2 b (fun z => hb (by simp [z]))).trans (hk b ob (fun z => hb (by simp [z])) (fun z => hb (by simp [z])) q)) hf (Nat.le_refl _) new
    refine ⟨.ref s.heap.objs.size, _, I1, rfl, ⟨_, x, rfl, I.hok.fresh (Nat.le_refl _), rfl, fun ys hy => by rw [I.list_inj hy hq]; exact hx⟩, ⟨⟨u, ?_⟩, hit'.at fun o q => (sb.2 it (Ne.symm hne)).trans q, hne⟩, fun b hb => ?_⟩
    · have e1 : ((i + 1 : Nat) : Int) = (i : Int) + 1 := by omega
      rw [e1]; exact he'
    · have hb' : b < s.heap.objs.size := by
        have e' : b = e ∨ b = it := by simpa using hb
        rcases e' with z | z
        · rw [z]; exact hel
        · rw [z]; exact hil
      rw [upd_ne (Nat.ne_of_lt hb')]
      exact (hf b hb).1
  done := by
    intro X hP hw hK hc i pins s σ H E I hf st hg
    subst hP hw hK
    obtain ⟨⟨old, he⟩, hit, hne⟩ := st
    obtain ⟨xs, hq, hx⟩ := hg
    obtain ⟨its, rv, p, hz⟩ := I.list hq
    obtain ⟨f0, f1, f2, f3, f4, f5⟩ := hf it (by simp)
    have hl := rv.length
    exact wpAny_pyNext_enum_end (I.ok.hd hc) he hit p.isList (by simp; omega) fun h' eb => ⟨rfl, I.turned (t' := s.toks) (fun b o hb q => eb b o hb q) f0 f1 f3 f4 f5⟩
  self := fun A i s Q E st h => let ⟨⟨_, he⟩, _⟩ := st; wpAny_pyIter_enum he h
def iEnum (K : PySem.W.Frag) (ta : TA) : TI := fun σ H R => ta σ H fun vs H1 => ∃ a xs, vs = [.ref a] ∧ SqL K H1 a xs ∧ R (Ite K a) H1
theorem pi_enum {X : Cx} {e : Expr} {ta : TA} {p pos tpos : Pos} {elts : List Expr} {kk : Nat} (hg : Gl X "enumerate") (hm : X.mg "enumerate" = none) (ha : PA X [e] ta) (hs : starEach [e] X.env = [(false, eval e X.env)] := by rfl) :
    PI X (.Tuple elts kk tpos) (.Call (.Name "enumerate" p) [e] [] pos) (iEnum X.K ta) := by
  intro pins s σ H R I h
  refine Call_ (ld_blt I hg hm boot_enumerate (PyProof.Rows.callWith_type1 (thn (ha pos pins s σ H _ I h) fun us s1 ⟨vs, H1, I1, r1, q1⟩ => ?_) hs rfl))
  obtain ⟨a, xs, ex, hq, q⟩ := q1
  subst ex
  cases r1 with
  | cons r rr =>
    cases rr
    cases r
    obtain ⟨its, rv, p', hz⟩ := I1.list hq
    refine call_enumerate_list p'.isList fun h' he hit hsz hk => wpAny_pyIter_enum he ?_
    have I2 : Inv X pins σ H1 { s1 with heap := h' } := I1.kept (t' := s1.toks) hk
    refine ⟨s1.heap.objs.size + 1, [s1.heap.objs.size + 1, s1.heap.objs.size], _, _, H1, rfl, I2, turn_enum a (s1.heap.objs.size + 1) s1.heap.objs.size, ⟨⟨.none, he⟩, hit, Nat.succ_ne_self _⟩, fun b hb => ?_, q⟩
    have e' : b = s1.heap.objs.size + 1 ∨ b = s1.heap.objs.size := by simpa using hb
    have hle : s1.heap.objs.size ≤ b := by
      rcases e' with z | z
      · rw [z]; exact Nat.le_add_right _ _
      · rw [z]; exact Nat.le_refl _
    exact I1.fpOk hle (I1.hok.fresh hle)
/-! ### zip(list, list) -/
end L2

section 
namespace Bits
open PySem PyProof.Rows

end Bits
end 

section 
namespace TL
open PySem PySem.Builtin PySem.Builtin.Str PySem.StrLaws

abbrev tl (x : Str) : List Nat := x.cps.toList
theorem len_tl (x : Str) : x.length = (tl x).length := by simp [tl, Str.length]
/-! ### the list functions -/
/-- S stands at the head of l -/
def pre (S l : List Nat) : Bool := l.take S.length == S
/-- what stands before the first S, and behind it -/
def par (S : List Nat) : List Nat → List Nat → Option (List Nat × List Nat)
  | _, [] => none
  | acc, c :: r => if pre S (c :: r) = true then some (acc, (c :: r).drop S.length) else par S (acc ++ [c]) r

/-! ### the model's split and partition are these -/
theorem at_iff {x y : Str} (hy : tl y ≠ []) (i : Nat) : At x y x.length i ↔ pre (tl y) ((tl x).drop i) = true := by
  have hx := len_tl x
  have hl := len_tl y
  constructor
  · intro h
    have h2 := h.2
    rw [subAt_eq, hl] at h2
    exact h2
  · intro h
    have e : ((tl x).drop i).take (tl y).length = tl y := eq_of_beq h
    have e1 := congrArg List.length e
    rw [List.length_take, List.length_drop] at e1
    have e2 : 0 < (tl y).length := List.length_pos_iff.mpr hy
    refine ⟨by omega, ?_⟩
    rw [subAt_eq, hl]
    exact h
/-! ### computing spl and par -/
/-! ### digits -/
/-! ### words: x.split() -/
end TL
end 

namespace L2
open PySem PySem.Spec PyProof.Rows

section
variable {X : Cx} {pins : List (Addr × Obj)} {σ : St} {H : Hp} {s : Shared} {Q : VK}
end

section
variable {X : Cx}

/-! ### of a text alone -/
/-! ### of a text and a text -/
end

section
variable {X : Cx} {o e : Expr} {to te : TE}
end
end L2

namespace L2
open PySem PySem.Spec PyProof.Rows

section
variable {X : Cx}
end

/-! ### slices of a text -/
theorem IsPart.raw {v : Value} {o : Option Int} (p : IsPart v o) : ∃ l : Option (Int × Tok), v = partValue l ∧ l.map (·.1) = o := by
  cases p with
  | none => exact ⟨none, rfl, rfl⟩
  | int i t => exact ⟨some (i, t), rfl, rfl⟩

end L2

namespace Att
open PySem PySem.W PySem.Calls PyProof.Rows

/-! ### the script -/
theorem ints_of_wellAll {P : Params} {h : Heap} : ∀ (ns : List Int) (vs : List Value), WellAll P h vs (ns.map WData.int) → IntsAre vs ns := by
  intro ns
  induction ns with
  | nil =>
    intro vs w
    rw [List.map_nil] at w
    cases w
    exact .nil
  | cons n ns ih =>
    intro vs w
    rw [List.map_cons] at w
    cases w with
    | cons a b =>
      cases a
      exact .cons _ _ (ih _ b)

theorem script_of {l : OpenLaw} {n : Nat} (hn : l.most = some n) {P : Params} {h : Heap} {args : List WData} {vals : List Value}
    (hpre : l.row.toRowW.claim.pre args = true) (hwl : WellAll P h vals args) :
    ∃ a vs ns, vals = [Value.ref a] ∧ args = [WData.list (ns.map WData.int)] ∧ h.get? a = some { cls := .type "list", data := .seq vs.toArray } ∧ IntsAre vs ns ∧ ns.length ≤ n := by
  have hsh : WShape.hasAll [] args [.list .int] = true := (pre_splitW hpre).1
  have hc : l.pre.holds [] { args := args } = true := (pre_splitW hpre).2
  obtain ⟨d, r, rfl, h1, h2⟩ := hasAllW_cons hsh
  obtain rfl := hasAllW_nil h2
  obtain ⟨xs, rfl, h3⟩ := hasW_list h1
  obtain ⟨ns, rfl⟩ := items_int h3
  have hlen : ns.length ≤ n := by
    unfold OpenLaw.pre at hc
    have h4 : (WTm.not (.lt (.lit (.int (n : Int))) (.len (.arg 0)))).holds [] { args := [.list (ns.map .int)] } = true := by
      have h4 := (holds_andW hc).1
      rw [hn] at h4
      exact h4
    have h5 := condW_of h4 (w_not (w_lt w_lit (w_len_list (w_arg rfl))))
    rw [List.length_map] at h5
    refine Nat.le_of_not_lt fun q => ?_
    have q' : (n : Int) < ((ns.length : Nat) : Int) := by omega
    first
      | (rw [decide_eq_true q'] at h5; exact absurd h5 (by decide))
      | (simp at h5; omega)
  cases hwl with
  | cons w1 w2 =>
    cases w2
    cases w1 with
    | list ho hall => exact ⟨_, _, ns, rfl, rfl, ho, ints_of_wellAll ns _ hall, hlen⟩

theorem post_true (l : OpenLaw) (args : List WData) : l.row.toRowW.claim.post args (.bool true) args = true :=
  postW_of (r := l.row.toRowW) (X := (true == true))
    (show WShape.has [] (.bool true) .bool = true by first | rfl | decide | simp [WShape.has, WShape.arms, WShape.armsAll])
    (show (WTm.eq .res (.lit (.bool true))).value [] { args := args, res := some (.bool true), after := args } = some (.bool (true == true)) from w_eq_bool (w_res rfl) w_lit) rfl

/-! ### the attachment: holds_open's last premise (the goal 'hc' behind k_head) from a wpAny of the law's body -/
/-- the same from a codeAny of the CALL (for a layer whose function contracts speak of calls) -/
theorem attach_call {l : OpenLaw} {n : Nat} {q : Program} {loose : List Str} {XP : (Str → Option Value) → Heap → Prop} {YP : World → Heap → Prop} {d : DefRec}
    (hn : l.most = some n) (hdf : d.params.defaults = [])
    (call : ∀ (w : World) (s₀ s₁ : Shared) (mg mb : Str → Option Value) (fa : Addr) (o : Obj) (pm cd doc : Value) (a : Addr) (vs : List Value) (ns : List Int),
      Ground q loose [] XP w s₀ mg mb s₁.heap → YP w s₁.heap →
      s₁.heap.get? fa = some o → o.data = .func (docDef d.name d.params d.body d.scope pm cd doc) → s₁.heap.CodeRec cd d.name → mg d.name = some (.ref fa) →
      s₁.heap.get? a = some { cls := .type "list", data := .seq vs.toArray } → IntsAre vs ns → ns.length ≤ n → s₁.gens = #[] →
      codeAny (model l.prog w) callerA (.call (.ref fa) ⟨[.ref a], []⟩) (fun r s' => r = .ok (.ret (.bool true)) ∧ OldK s₁.heap s'.heap ∧ s'.os = s₁.os ∧ AllBare s'.gens) s₁) :
    WalkO q loose XP YP l.row.toRowW d [] (fun f vs => PySem.call f vs) := by
  intro w s₀ s₁ mg mb G Y fa o pm cd doc dV kV ho hd hcd hD hmg hg args vals as hpre hlay hrd hwl hlo
  obtain rfl : dV = .none := Dflts.none hD hdf
  obtain rfl : kV = .none := Dflts.noKw hD
  obtain ⟨a, vs, ns, rfl, rfl, hobj, hints, hlen⟩ := script_of hn hpre hwl
  refine enter_call (codeAny_mono (call w s₀ s₁ mg mb fa o pm cd doc a vs ns G Y ho (fd_plain hd) hcd hmg hobj hints hlen hg) fun r s' hq => ?_)
  obtain ⟨rfl, h2, h3, h4⟩ := hq
  exact ⟨.inl ⟨.bool true, .bool true, [], rfl, fun _ => rfl, .bool true, post_true l _, fun _ => ⟨List.Pairwise.nil, fun _ hm => (nomatch hm)⟩⟩, h2, h3, h4⟩

/-! ### rules over ANY heap (no ledger) from facts about the written part K: the library's own take a ledger (News) for what they write -/
section
variable {prog : Program} {w : World} {A : Around} {E : Value → Shared → Prop} {s : Shared} {K : Frag}

/-! the whole heap as the ledger: makes every rule that writes through a ledger a rule over any heap -/
end
end Att

namespace L2
open PySem PySem.Spec PyProof.Rows

theorem vals_ints : ∀ {vs : List Value} {ns : List Int}, IntsAre vs ns → Vals (ns.map V.int) vs
  | _, _, .nil => .nil
  | _, _, .cons n t h => .cons ⟨t, rfl⟩ (vals_ints h)

/-- nothing is tracked but the script, known to the object (or it is an object of the module) -/
def Only (H : Hp) : Prop := ∀ b, H b = none ∨ ∃ o xs, H b = some (.frz o (.lst xs))

/-- THE HEAD: the law's promise, at the heap behind the top. F, the promise of the law's def, may use that base is part of the heap (so K.In base, base.Ns mainGlobals mg stand in Mod) -/
theorem law_call {P : Program} {w : World} {K : PySem.W.Frag} {mg mb : Str → Option Value} {CX : CXT} {k : Nat} {fa a : Addr} {fd : FuncData} {x : Str} {sp : Sp} {s₁ : Shared} {vs : List Value} {ns : List Int}
    (KX : K.In s₁.heap) (hns : s₁.heap.Ns mainGlobals mg) (hb : s₁.heap.Ns builtinsNs mb) (hbb : ∀ x : Str, x ≠ "__name__" → mb x = bootBuiltins x) (hlim : s₁.heap.NoLimit) (hg : s₁.gens = #[])
    (ha : s₁.heap.get? a = some { cls := .type "list", data := .seq vs.toArray }) (hi : IntsAre vs ns) (hl : ns.length ≤ sizeLine) (hr : Room k callerA)
    (F : ∀ base : Heap, K.In base → base.Ns mainGlobals mg → FnOk P w K mg base CX k fa fd [x] sp) (hbind : ∀ (s : Shared) (u : Value), BindsTo s fd ⟨[u], []⟩ [(x, u)])
    (hsp : ∀ H : Hp, Only H → SqL K H a (ns.map V.int) → sp [.ref a] H (fun v _ => v = .bl true) fun _ _ _ => False)
    (hCX : ∀ H e s', CX [] H s₁ (fun _ _ _ => False) e s' → False) :
    codeAny (model P w) callerA (.call (.ref fa) ⟨[.ref a], []⟩) (fun r s' => r = .ok (.ret (.bool true)) ∧ OldK s₁.heap s'.heap ∧ s'.os = s₁.os ∧ AllBare s'.gens) s₁ := by
  have rv := vals_ints hi
  have lenV := hi.length
  -- from an abstract heap in which nothing but the script may be tracked
  have core : ∀ H : Hp, Only H → SqL K H a (ns.map V.int) → HOk P w H s₁.heap → (∀ b, H b ≠ none → b = a) → (H a ≠ none → K.lookup a = none) →
      codeAny (model P w) callerA (.call (.ref fa) ⟨[.ref a], []⟩) (fun r s' => r = .ok (.ret (.bool true)) ∧ OldK s₁.heap s'.heap ∧ s'.os = s₁.os ∧ AllBare s'.gens) s₁ := by
    intro H hO hS hok hA hK
    have base_of : ∀ {b : Addr} {o : Obj}, s₁.heap.get? b = some o → H b = none → (hidT s₁.heap H).get? b = some o := fun e n => hidT_get e n
    have noA : ∀ {b : Addr} {o : Obj} {es : Array DictEntry} {ep : Nat}, s₁.heap.get? b = some o → o.data = .dict es ep → H b = none := fun {b o es ep} e d => by
      cases q : H b with
      | none => rfl
      | some u =>
        have e' : b = a := hA b (by rw [q]; simp)
        subst e'
        rw [ha] at e; cases e
        have d' : Data.seq vs.toArray _ = Data.dict es ep := d
        cases d'
    have nsK : ∀ {b : Addr} {m : Str → Option Value}, s₁.heap.Ns b m → (hidT s₁.heap H).Ns b m := fun {b m} ⟨o, es, ep, e, d, r⟩ => ⟨o, es, ep, base_of e (noA e d), d, r⟩
    have hKb : K.In (hidT s₁.heap H) := fun b o e => base_of (KX b o e) (by
      cases q : H b with
      | none => rfl
      | some u =>
        have e' : b = a := hA b (by rw [q]; simp)
        subst e'
        rw [hK (by rw [q]; simp)] at e; cases e)
    have hM : Mod K mg (hidT s₁.heap H) := ⟨hKb, nsK hns, ⟨mb, nsK hb, hbb⟩, let ⟨mc, h1, h2⟩ := hlim; ⟨mc, nsK h1, h2⟩⟩
    have e0 : Env0 P w K mg (hidT s₁.heap H) callerA [] s₁ H := ⟨rfl, hM, fun b o e => of_hidT e, Nat.le_of_eq (hidT_size _ _), trivial, fun b hb => absurd (show b ∈ ([] : List Addr) from hb) (by simp), hok, .of_eq hg⟩
    refine codeAny_mono ((F _ hKb (nsK hns)).run callerA [] s₁ H ⟨[.ref a], []⟩ [.ref a] [.ref a] _ _ hr e0 (hbind s₁ (.ref a)) (.cons rfl .nil) (hsp H hO hS)) fun r s' h => ?_
    cases r with
    | error e => exact (hCX H e s' h).elim
    | ok fl =>
      cases fl with
      | next => exact False.elim h
      | brk => exact False.elim h
      | cont => exact False.elim h
      | ret u =>
        obtain ⟨v, H', os, bare, un, hok', r', q⟩ := h
        have q' : v = .bl true := q
        subst q'
        obtain rfl : u = Value.bool true := r'
        refine ⟨rfl, OldK.of_keep fun b o e => ?_, os, bare⟩
        cases q : H b with
        | none => exact un.keep b o e q (by intro z; exact absurd (show b ∈ ([] : List Addr) from z) (by simp)) (by simp)
        | some u =>
          rcases hO b with z | ⟨ob, xs, z⟩
          · rw [q] at z; cases z
          · have z2 := un.frzs b ob _ z
            obtain ⟨e1, _⟩ := hok b _ z
            obtain ⟨e2, _⟩ := hok' b _ z2
            rw [e] at e1; cases e1
            exact e2
  cases hk : K.lookup a with
  | some o =>
    -- the script is one of the module's own objects
    have e := KX a o hk
    rw [ha] at e
    cases e
    refine core (fun _ => none) (fun _ => .inl rfl) (.inr ⟨_, vs.toArray, _, hk, rfl, rfl, rfl, by rw [List.size_toArray, lenV]; exact hl, by simpa using rv⟩) (fun b u z => by have z' : (none : Option HO) = some u := z; cases z') (fun b z => absurd rfl z) fun z => absurd rfl z
  | none =>
    refine core (fun b => if b = a then some (.frz { cls := .type "list", data := .seq vs.toArray } (.lst (ns.map V.int))) else none) (fun b => ?_) (.inl (.inr ⟨{ cls := .type "list", data := .seq vs.toArray }, if_pos rfl⟩)) (fun b u z => ?_) (fun b z => ?_) fun _ => hk
    · by_cases hb : b = a
      · exact .inr ⟨_, _, if_pos hb⟩
      · exact .inl (if_neg hb)
    · by_cases hb : b = a
      · have z' := (if_pos hb).symm.trans z
        cases z'
        subst hb
        exact ⟨ha, by rw [List.length_map]; exact hl, vs, _, rv, ha⟩
      · have z' := (if_neg hb).symm.trans z
        cases z'
    · by_cases hb : b = a
      · exact hb
      · exact absurd (if_neg hb) z
end L2

namespace L2
open PySem PySem.Spec PyProof.Rows

abbrev KOf {K : PySem.W.Frag} {h : Heap} (_ : K.In h) : PySem.W.Frag := K

/-- the goal that k_head leaves (case hc), from the law's promise. F gives the function object fd (K's own) once, then the promise over every base -/
theorem walk_of {l : PySem.W.OpenLaw} {n k : Nat} {q : Program} {loose : List Str} {XP : (Str → Option Value) → Heap → Prop} {YP : World → Heap → Prop} {d : DefRec} {K : Params → PySem.W.Frag} {CX : World → CXT} {sp : World → Sp} {x : Str}
    (hn : l.most = some n) (hn2 : n ≤ sizeLine) (hdf : d.params.defaults = []) (hr : Room k callerA)
    (hY : ∀ (w : World) (h : Heap), YP w h → (K w.params).In h)
    (F : ∀ (w : World) (mg : Str → Option Value) (fa : Addr) (h : Heap), (K w.params).In h → h.Ns mainGlobals mg → mg d.name = some (.ref fa) →
      ∃ fd : FuncData, (∀ (s : Shared) (u : Value), BindsTo s fd ⟨[u], []⟩ [(x, u)]) ∧
        ∀ base : Heap, (K w.params).In base → base.Ns mainGlobals mg → FnOk l.prog w (K w.params) mg base (CX w) k fa fd [x] (sp w))
    (hsp : ∀ (w : World) (H : Hp) (a : Addr) (ns : List Int), ns.length ≤ n → Only H → SqL (K w.params) H a (ns.map V.int) → sp w [.ref a] H (fun v _ => v = .bl true) fun _ _ _ => False)
    (hCX : ∀ (w : World) (H : Hp) (s : Shared) (e : Value) (s' : Shared), CX w [] H s (fun _ _ _ => False) e s' → False) :
    PySem.W.WalkO q loose XP YP l.row.toRowW d [] (fun f vs => PySem.call f vs) := by
  refine Att.attach_call hn hdf fun w s₀ s₁ mg mb fa o pm cd doc a vs ns G Y ho hd hcd hmg hobj hints hlen hg => ?_
  have KX := hY w _ Y
  obtain ⟨fd, hb, hF⟩ := F w mg fa _ KX G.T.g hmg
  exact law_call KX G.T.g G.T.b G.T.builtins G.T.nolimit hg hobj hints (Nat.le_trans hlen hn2) hr hF hb (fun H hO hS => hsp w H a ns hlen hO hS) fun H e s' => hCX w H s₁ e s'
end L2

/- THE LAST THEOREM (shape; LID, My.* are yours):
   My.Adr: a structure of the addresses that your layer names (classes, functions); My.Txt K t: a structure (Prop) of the equations over K;
   My.txt_mk : {K} {implicit addresses ..} (e1 : nsIn K mainGlobals "law" = some (some (.ref f))) (e2 : K.lookup f = some ⟨oc, od, .func (fnOf "law" "law" params body scope dV kV doc pm an cdv ct), sl⟩) (e3 : codeIn K cdv "law" = true) .. : ∃ t, My.Txt K t

set_option maxRecDepth 100000 in
set_option maxHeartbeats 0 in
theorem PySem.Challenge.cw_LID_holds : PySem.Challenge.rw_LID.Holds := by
  w_on; o_law; k_head; (case hw => w_witness2)
  k_fill
  refine L2.walk_of (l := PySem.Challenge.rw_LID) (n := 63) (k := 40) (x := "script") (CX := fun w => ..) (sp := fun _ => My.sp_law) rfl (by decide) rfl ⟨rfl, by decide, by decide⟩ (fun w h Y => PySem.W.kIn_of Y) ?F ?S ?C
  case F =>
    intro w mg fa h KX G hmg
    have T : ∃ t, My.Txt (L2.KOf KX) t := by
      dsimp only [L2.KOf]                          -- K must stand as «<heap const> w.params» for k_is
      refine' My.txt_mk ?e1 ?e2 ?e3 ..
      (case e1 => PySem.W.k_is)                    -- in the order: a name -> its address -> its object -> its parts
      (case e2 => PySem.W.k_is)
      ..
    obtain ⟨t, T⟩ := T
    have e0 := hmg.symm.trans (PySem.W.mg_of KX G T.law)
    cases e0                                       -- fa is the law's own address
    exact ⟨_, fun s u => .of_eq rfl, fun base kb nb => My.law_fn T kb nb⟩     -- if «.of_eq rfl» comes too early: refine' ⟨_, ?b, fun base kb nb => My.law_fn T kb nb⟩; exact fun s u => .of_eq rfl
  case S => exact fun w H a ns hl hO hS => ..
  case C => exact ..
(the tactic k_is has no namespace: write k_is) -/

/-! SHORT WORDS over the layer: a def of the text, its body, what a loop and a test want. -/
namespace L2
open PySem PySem.Spec PyProof.Rows

/-! ### the text by places -/
/-- the j-th statement of a class's body -/
def inClass (s : Stmt) (j : Nat) : Stmt := match s with
  | .ClassDef _ _ _ body _ _ _ _ _ _ _ => body.getD j (.Pass ⟨0, 0, 0, 0⟩)
  | _ => .Pass ⟨0, 0, 0, 0⟩
def defArgs (s : Stmt) : Arguments := match s with
  | .FunctionDef _ a _ _ _ _ _ _ _ _ => a
  | _ => { posonlyargs := [], args := [], vararg := none, kwonlyargs := [], kw_defaults := [], kwarg := none, defaults := [] }
def defBody (s : Stmt) : List Stmt := match s with
  | .FunctionDef _ _ b _ _ _ _ _ _ _ => b
  | _ => []
def defScope (s : Stmt) : Scope := match s with
  | .FunctionDef _ _ _ _ _ _ sc _ _ _ => sc
  | _ => { kind := .function, names := [], isGenerator := false, isCoroutine := false }

/-! ### no exception leaves a def -/
abbrev CX0 : CXT := fun _ _ _ _ _ _ => False
abbrev E0 : XK := fun _ _ _ => False
theorem pass0 {X : Cx} : Passes CX0 X E0 := fun _ _ _ _ _ _ _ h => h.elim

/-! ### a def (or method) of the text as it stands behind the top -/
structure Fun (K : PySem.W.Frag) (x qual : Str) (st : Stmt) (f : Addr) (fd : FuncData) : Prop where
  ex : ∃ (oc : Value) (od : Option Addr) (kV doc pm : Value) (an : Option Addr) (cdv ct : Value) (osl : Array (Option Value)),
    fd = PySem.W.fnOf x qual (defArgs st) (defBody st) (defScope st) .none kV doc pm an cdv ct ∧ K.lookup f = some ⟨oc, od, .func fd, osl⟩ ∧ PySem.W.codeIn K cdv qual = true
  kp : PySem.W.keepIn K (.ref f) = true
section
variable {P : Program} {w : World} {K : PySem.W.Frag} {mg : Str → Option Value} {base : Heap}
/-- THE RULE for a def: its body as a term of rules, and the reading of that term -/
theorem Fun.ok {x qual : Str} {st : Stmt} {f : Addr} {fd : FuncData} {N ps : List Str} {k : Nat} {sp : Sp} (F : Fun K x qual st f fd) (S : FnScope N ps (defScope st)) (len : ∀ vs H Q E, sp vs H Q E → vs.length = ps.length)
    (hbody : ∀ (cdv : Value) (A : Around) (outer : List Env) (s : Shared) (H : Hp) (vs : List V) (Q : VK) (E : XK), Room k (A.deeper (envOfC qual (defScope st) s.heap.objs.size f cdv)) → sp vs H Q E →
      ∃ t, PSs (cxOf CX0 P w K mg base N qual (defScope st) f cdv A outer s H E).nox (defBody st) t ∧ t { nx := fun _ H' => Q .non H', rt := Q } (start N vs) H) : FnOk P w K mg base CX0 (k + 1) f fd ps sp := by
  obtain ⟨oc, od, kV, doc, pm, an, cdv, ct, osl, rfl, lk, hcd⟩ := F.ex
  refine fn_of lk hcd S len fun A outer s H vs Q E hr hsp => ?_
  obtain ⟨t, h, q⟩ := hbody cdv A outer s H vs Q E hr hsp
  exact ⟨t, h.nox, q⟩
/-- how its arguments bind (no defaults): h is «fun _ _ _ _ _ _ us hl => match us, hl with | [_, _], _ => rfl», one _ a parameter -/
theorem Fun.binds {x qual : Str} {st : Stmt} {f : Addr} {fd : FuncData} {ps : List Str} (F : Fun K x qual st f fd)
    (h : ∀ (kV doc pm : Value) (an : Option Addr) (cdv ct : Value) (us : List Value), us.length = ps.length → bindArgs (PySem.W.fnOf x qual (defArgs st) (defBody st) (defScope st) .none kV doc pm an cdv ct) ⟨us, []⟩ = pure (ps.zip us)) : Binds K fd ps [] := by
  obtain ⟨oc, od, kV, doc, pm, an, cdv, ct, osl, rfl, lk, hcd⟩ := F.ex
  exact .all (h kV doc pm an cdv ct)
theorem fun_mk {x qual : Str} {st : Stmt} {f : Addr} {oc : Value} {od an : Option Addr} {osl : Array (Option Value)} {kV doc pm cdv ct : Value} (l : K.lookup f = some ⟨oc, od, .func (PySem.W.fnOf x qual (defArgs st) (defBody st) (defScope st) .none kV doc pm an cdv ct), osl⟩)
    (c : PySem.W.codeIn K cdv qual = true) (k : PySem.W.keepIn K (.ref f) = true) : Fun K x qual st f (PySem.W.fnOf x qual (defArgs st) (defBody st) (defScope st) .none kV doc pm an cdv ct) := ⟨⟨oc, od, kV, doc, pm, an, cdv, ct, osl, rfl, l, c⟩, k⟩
end
/-! ### expressions in short: the name that stands in the i-th slot -/
section
variable {X : Cx}
theorem pv (i : Nat) {x : Str} {pos : Pos} (hN : X.N[i]? = some x := by rfl) (hv : Vis X.env.scope x := by first | exact Or.inl rfl | exact Or.inr (Or.inl rfl) | exact Or.inr (Or.inr rfl)) (hd : (x == ("__debug__" : Str)) = false := by decide)
    (hcd : (x == ("__classdict__" : Str)) = false := by decide) : PE X (.Name x pos) (tVar i) := pe_var hN hv hd hcd
end

/-! ### tests -/
theorem iteF {A B : Prop} (h : B) : if false = true then A else B := by
  rw [if_neg Bool.false_ne_true]
  exact h
theorem iteT {A B : Prop} (h : A) : if true = true then A else B := by
  rw [if_pos rfl]
  exact h
theorem ite2 {c A B : Prop} [Decidable c] (h1 : c → A) (h2 : ¬ c → B) : if c then A else B := by
  by_cases h : c
  · rw [if_pos h]
    exact h1 h
  · rw [if_neg h]
    exact h2 h
/-! ### heaps -/
/-- all that was tracked is as it was -/
def Same (H H' : Hp) : Prop := ∀ b o, H b = some o → H' b = some o
theorem Same.refl (H : Hp) : Same H H := fun _ _ h => h
theorem Same.trans {H H1 H2 : Hp} (a : Same H H1) (b : Same H1 H2) : Same H H2 := fun c o h => b c o (a c o h)
theorem Same.free {H H' : Hp} (e : Same H H') {l : Addr} (h : H' l = Option.none) : H l = Option.none := by
  cases q : H l with
  | none => rfl
  | some o =>
    rw [e l o q] at h
    cases h
theorem Same.seq {K : PySem.W.Frag} {H H' : Hp} {a : Addr} {xs : List V} (e : Same H H') (h : SqL K H a xs) : SqL K H' a xs := by
  rcases h with (h | ⟨o, h⟩) | h
  · exact .inl (.inl (e _ _ h))
  · exact .inl (.inr ⟨o, e _ _ h⟩)
  · exact .inr h

/-! ### a dict's pairs: keys that differ -/
section
variable {κ : Type} [DecidableEq κ]
end
/-! ### lists -/
/-- a new instance and its __init__ leave all that was tracked as it was -/
theorem Same.made {H H1 : Hp} {x dx C : Addr} (nx : H x = Option.none) (nd : H dx = Option.none) (k : ∀ b o, (upd (upd H dx (.own x)) x (.ins C dx [])) b = some o → b ≠ x → H1 b = some o) : Same H H1 := fun b o e =>
  k b o (by rw [upd_ne (ne_of_none e nx), upd_ne (ne_of_none e nd)]; exact e) (ne_of_none e nx)
end L2


set_option Elab.async false
set_option linter.all false
set_option maxRecDepth 100000
/-! Exceptions over the layer: an own exception raised in a def, passing through callers, caught by except Name. -/
namespace L2
open PySem PySem.Spec PyProof.Rows

/-! ### an exception under way -/
/-- all that B holds stays; the exception at e, of class cls, is no part of B; the frames l are still to be left -/
def FlyA (B : Heap) (l : List Env) (e : Addr) (cls : Value) (h : Heap) : Prop :=
  B.StaysIn h ∧ B.get? e = none ∧ h.FunFrames B l ∧ ∃ a0 fl, h.TracedAtW B e cls a0 fl
theorem FlyA.of {B h : Heap} {l : List Env} {e : Addr} {cls a0 : Value} (x : Heap.FlyingW B l e cls a0 h) : FlyA B l e cls h :=
  ⟨x.1, x.2.1, x.2.2.1, a0, .none, x.2.2.2⟩
theorem FlyA.there {B h : Heap} {l : List Env} {e : Addr} {cls : Value} (x : FlyA B l e cls h) : ∃ ob, h.get? e = some ob ∧ ob.cls = cls := by
  obtain ⟨_, _, _, a0, fl, t⟩ := x
  exact t.there

section
variable {M : Model} {A : Around} {E : Value → Shared → Prop} {s : Shared}
theorem note_any {B : Heap} {env : Env} {outer : List Env} {L e : Addr} {cls : Value} {Q : Unit → Shared → Prop}
    (hfr : A.frames = some (env :: outer)) (hf : env.frame = some L) (x : FlyA B (env :: outer) e cls s.heap)
    (hQ : ∀ h' a0, Heap.HeldW B (env :: outer) e cls a0 L h' → s.heap.UpToSlots h' → Q () { s with heap := h' }) : wpAny M A (noteFrame (.ref e) env) Q E s := by
  obtain ⟨f1, f2, f3, a0, fl, t⟩ := x
  by_cases hL : fl = rawInt L
  · subst hL
    exact wpAny_noteFrame_againW hf t (hQ s.heap a0 ⟨f1, f2, f3, t⟩ (.refl _))
  · obtain ⟨oe, vs, T, oT, ts, he, ⟨hc, h0⟩, hd, h1, hnT, hTe, hT, hdT, h3⟩ := t
    subst hc
    unfold noteFrame
    simp only [hf]
    refine wpAny_bind (wpAny_field he hd h1 ?_)
    rw [if_pos (by simp : (Value.ref T != Value.none) = true)]
    refine wpAny_bind (wpAny_field hT hdT h3 ?_)
    rw [if_neg (fun z => hL (by simpa using z) : ¬ (fl == rawInt L) = true)]
    refine wpAny_bind (wpAny_setField hT hdT (Array.getElem?_eq_some_iff.mp h3).1 ?_)
    have oth : ∀ b, b ≠ T → (s.heap.update T (Obj.mapFields (·.setIfInBounds 3 Value.none))).get? b = s.heap.get? b :=
      fun b hb => Heap.get?_update_other _ _ (Ne.symm hb)
    have nrec : ∀ b o, s.heap.get? b = some o → (∀ vs, o.data ≠ .fields vs) → b ≠ T := by
      intro b o hb hn q
      rw [q, hT] at hb
      cases hb
      exact hn ts hdT
    refine wpAny_entryW hfr (f3.of_keeps fun b o hb hn => ⟨o, (oth b (nrec b o hb hn)).trans hb, rfl⟩) hf ((oth e (Ne.symm hTe)).trans he)
      (fun b o hbo => (oth b (by intro q; rw [q, hnT] at hbo; cases hbo)).trans (f1 b o hbo)) f2 hd
      (Array.getElem?_eq_some_iff.mp h1).1 h0 fun h' z => ?_
    obtain ⟨z1, z2, z3, z4⟩ := z
    exact hQ h' a0 ⟨z1, f2, z2, z3⟩ fun b o hb hn => z4 b o ((oth b (nrec b o hb hn)).trans hb) hn
theorem leave_any {B : Heap} {env : Env} {outer : List Env} {L e : Addr} {cls : Value} {Q : Unit → Shared → Prop}
    (hfr : A.frames = some (env :: outer)) (hf : env.frame = some L) (x : FlyA B (env :: outer) e cls s.heap)
    (hQ : ∀ h', FlyA B outer e cls h' → s.heap.UpToSlots h' → Q () { s with heap := h' }) : wpAny M A (leaving env (.ref e)) Q E s := by
  unfold leaving
  refine wpAny_bind (note_any hfr hf x fun h₁ a0 held up => ?_)
  refine wpAny_landsW held fun h₂ fl up2 => ?_
  obtain ⟨k1, k2, ⟨_, _, k3⟩, k4⟩ := fl
  exact hQ h₂ (FlyA.of ⟨k1, k2, k3, k4⟩) (up.trans up2)
theorem noteFrame_same {e : Value} {env env' : Env} (h : env.frame = env'.frame) : noteFrame e env = noteFrame e env' := by
  unfold noteFrame PySem.frameOf
  rw [h]
end

/-! ### how it lies behind a call -/
/-- ch: the records that may have turned besides -/
def CXG (P : Program) (w : World) (ch : List Addr) : CXT := fun outer H s E e s' =>
  ∃ (a : Addr) (cls : Value) (B : Heap) (H' : Hp), e = .ref a ∧ s'.os = s.os ∧ AllBare s'.gens ∧ Un (frs outer) ch H H' s.heap s'.heap ∧ HOk P w H' s'.heap ∧ FlyA B outer a cls s'.heap ∧
    (∀ b o, H' b ≠ none → s'.heap.get? b = some o → B.get? b = some o) ∧
    (∀ b o, s.heap.get? b = some o → H b = none → b ∉ frs outer → b ∉ ch → B.get? b = some o) ∧
    (∀ b o, s.heap.get? b = some o → b ∉ frs outer → b ∉ ch → ∃ o', B.get? b = some o') ∧ E cls none H'
abbrev CXF (P : Program) (w : World) : CXT := CXG P w []

theorem ObjOk.here {P : Program} {w : World} {H : Hp} {h : Heap} {a : Addr} {o : HO} (x : ObjOk P w H h a o) : ∃ ob, h.get? a = some ob := by
  cases o with
  | lst xs => obtain ⟨_, _, _, _, e⟩ := x; exact ⟨_, e⟩
  | tup xs => obtain ⟨_, _, _, ob, e, _⟩ := x; exact ⟨ob, e⟩
  | dK kvs => obtain ⟨_, _, _, _, ob, _, _, e, _⟩ := x; exact ⟨ob, e⟩
  | dT kvs => obtain ⟨_, _, _, _, ob, _, _, e, _⟩ := x; exact ⟨ob, e⟩
  | set S n => obtain ⟨ob, _, _, _, e, _⟩ := x; exact ⟨ob, e⟩
  | ins C dx fs => obtain ⟨_, _, _, e, _⟩ := x; exact ⟨_, e⟩
  | own y => exact x
  | xd fs => obtain ⟨_, ⟨ob, _, _, e, _⟩, _⟩ := x; exact ⟨ob, e⟩
  | rng lo hi => obtain ⟨_, _, _, e⟩ := x; exact ⟨_, e⟩
  | frz ob u => obtain ⟨e, _⟩ := x; exact ⟨_, e⟩
  | tbl ps => exact ⟨_, (show h.get? a = some _ from x)⟩
  | met f y => exact ⟨_, (show h.get? a = some _ from x)⟩
  | ext φ => obtain ⟨_, e, _⟩ := x; exact e
/-- what is tracked is part of B, so it stays -/
theorem HOk.fly {P : Program} {w : World} {H : Hp} {h h' B : Heap} (ok : HOk P w H h) (l1 : ∀ b o, H b ≠ none → h.get? b = some o → B.get? b = some o) (st : B.StaysIn h') : HOk P w H h' := fun b u e =>
  (ok b u e).stay (fun c v hc q => st c v (l1 c v (by
    rcases hc with rfl | hc
    · rw [e]; simp
    · rw [hc]; simp) q)) (fun _ q => q) fun _ _ q => q
theorem HOk.flyB {P : Program} {w : World} {H : Hp} {h h' B : Heap} (ok : HOk P w H h) (l1 : ∀ b o, H b ≠ none → h.get? b = some o → B.get? b = some o) (st : B.StaysIn h') :
    ∀ b o, H b ≠ none → h'.get? b = some o → B.get? b = some o := fun b o n e => by
  cases q : H b with
  | none => exact absurd q n
  | some u =>
    obtain ⟨ob, e1⟩ := (ok b u q).here
    have e2 := l1 b ob n e1
    rw [st b ob e2] at e
    cases e
    exact e2

/-- the records that a call may have turned -/
def ChOk (X : Cx) (pins : List (Addr × Obj)) (ch : List Addr) : Prop :=
  ∀ b ∈ ch, (b ∈ X.ex ∨ X.s₀.heap.objs.size ≤ b) ∧ b ≠ X.env.locals ∧ (∀ x c, X.env.cells.lookup x = some c → c ≠ b) ∧ ∀ p ∈ X.pn ++ pins, p.1 ≠ b
theorem ChOk.nil {X : Cx} {pins : List (Addr × Obj)} : ChOk X pins [] := fun _ z => nomatch z
/-- an exception of a callee reaches what this body wants of exceptions; Eb hangs on the names' values -/
def PassG (P : Program) (w : World) (X : Cx) (Eb : St → XK) : Prop :=
  ∀ (pins : List (Addr × Obj)) (σ : St) (H : Hp) (s : Shared) (ch : List Addr) (e : Value) (s' : Shared), Inv X pins σ H s → ChOk X pins ch → CXG P w ch X.stack H s (Eb σ) e s' → X.xe e s'
theorem PassG.passes {P : Program} {w : World} {X : Cx} {E : XK} (h : PassG P w X fun _ => E) : Passes (CXF P w) X E := fun pins σ H s e s' I q => h pins σ H s [] e s' I .nil q

section
variable {X : Cx} {pins : List (Addr × Obj)} {σ : St} {H H' : Hp} {s s' : Shared} {ch : List Addr}
theorem Inv.nstk (I : Inv X pins σ H s) {b : Addr} {o : Obj} (e : X.s₀.heap.get? b = some o) (hb : b ∉ X.fs) : b ∉ frs X.stack := fun z => by
  rcases List.mem_cons.mp (I.stkSub b z) with q | q
  · exact absurd (Nat.lt_of_lt_of_le (Heap.lt_size e) I.ok.above) (by rw [q]; exact Nat.lt_irrefl _)
  · exact hb q
theorem Inv.fsStk (I : Inv X pins σ H s) {b : Addr} (hb : b ∈ X.fs) : b ∈ frs X.stack := by
  rcases I.ok.stk with e | ⟨e, hf⟩
  · rw [e]; exact hb
  · rw [e]
    unfold frs
    rw [List.filterMap_cons, hf]
    exact List.mem_cons_of_mem _ hb
theorem ChOk.not (c : ChOk X pins ch) (hex : X.ex = []) {b : Addr} {o : Obj} (e : X.s₀.heap.get? b = some o) : b ∉ ch := fun z => by
  rcases (c b z).1 with q | q
  · rw [hex] at q; exact nomatch q
  · exact absurd (Nat.lt_of_lt_of_le (Heap.lt_size e) q) (Nat.lt_irrefl _)
/-- from the entry to where the exception lies now -/
theorem Inv.flyUn (I : Inv X pins σ H s) (hex : X.ex = []) (c : ChOk X pins ch) {B h' : Heap} {ex' : List Addr} (un : Un (frs X.stack) ch H H' s.heap s'.heap)
    (l2 : ∀ b o, s.heap.get? b = some o → H b = none → b ∉ frs X.stack → b ∉ ch → B.get? b = some o) (l3 : ∀ b o, s.heap.get? b = some o → b ∉ frs X.stack → b ∉ ch → ∃ o', B.get? b = some o')
    (st : B.StaysIn h') (up : ∀ b ∈ frs X.stack, ∀ o, s'.heap.get? b = some o → (∀ vs, o.data ≠ .fields vs) → ∃ sl, h'.get? b = some { o with slots := sl }) : Un X.fs ex' X.H₀ H' X.s₀.heap h' := by
  have nex : ∀ b, b ∉ X.ex := fun b z => by rw [hex] at z; exact nomatch z
  refine ⟨fun b o e n hb _ => ?_, fun b o e n hb _ => ?_, fun b o e n _ => ?_, fun b o e _ => ?_, fun b xs e => un.tups b xs (I.base.tups b xs e), fun b o u e => un.frzs b o u (I.base.frzs b o u e), fun b ps e => ?_⟩
  · exact st b o (l2 b o (I.base.keep b o e n hb (nex b)) (I.base.free b o e n (nex b)) (I.nstk e hb) (c.not hex e))
  · obtain ⟨sl, e1⟩ := I.base.slot b o e n hb (nex b)
    obtain ⟨sl2, e2⟩ := un.any e1 (I.base.free b o e n (nex b)) (c.not hex e)
    obtain ⟨_, o', e0, nf⟩ := I.ok.funs.mem hb
    rw [e] at e0
    cases e0
    obtain ⟨sl3, e3⟩ := up b (I.fsStk hb) _ e2 nf
    exact ⟨sl3, e3⟩
  · obtain ⟨o', e1⟩ := I.base.there b o e (nex b)
    exact un.free b o' e1 (I.base.free b o e n (nex b)) (c.not hex e)
  · obtain ⟨o', e1⟩ := I.base.there b o e (nex b)
    by_cases hb : b ∈ frs X.stack
    · obtain ⟨_, o2, e2, nf⟩ := I.stack.mem hb
      obtain ⟨sl, e3⟩ := un.any e2 (I.stkFree b hb) (c.not hex e)
      obtain ⟨sl2, e4⟩ := up b hb _ e3 nf
      exact ⟨_, e4⟩
    · obtain ⟨o2, e2⟩ := l3 b o' e1 hb (c.not hex e)
      exact ⟨o2, st b o2 e2⟩
  · obtain ⟨m1, e1⟩ := I.base.tbls b ps e
    obtain ⟨m2, e2⟩ := un.tbls b _ e1
    exact ⟨m1 ++ m2, by rw [e2, Array.append_assoc]⟩
/-- .. from the state ahead of the call -/
theorem un_fly (I : Inv X pins σ H s) {B h' : Heap} (un : Un (frs X.stack) ch H H' s.heap s'.heap)
    (l2 : ∀ b o, s.heap.get? b = some o → H b = none → b ∉ frs X.stack → b ∉ ch → B.get? b = some o) (l3 : ∀ b o, s.heap.get? b = some o → b ∉ frs X.stack → b ∉ ch → ∃ o', B.get? b = some o')
    (st : B.StaysIn h') (up : ∀ b ∈ frs X.stack, ∀ o, s'.heap.get? b = some o → (∀ vs, o.data ≠ .fields vs) → ∃ sl, h'.get? b = some { o with slots := sl }) : Un (frs X.stack) ch H H' s.heap h' := by
  refine ⟨fun b o e n hb hc => st b o (l2 b o e n hb hc), fun b o e n hb hc => ?_, un.free, fun b o e hc => ?_, un.tups, un.frzs, un.tbls⟩
  · obtain ⟨sl2, e2⟩ := un.slot b o e n hb hc
    obtain ⟨_, o', e0, nf⟩ := I.stack.mem hb
    rw [e] at e0
    cases e0
    obtain ⟨sl3, e3⟩ := up b hb _ e2 nf
    exact ⟨sl3, e3⟩
  · by_cases hb : b ∈ frs X.stack
    · obtain ⟨_, o2, e2, nf⟩ := I.stack.mem hb
      obtain ⟨sl, e3⟩ := un.any e2 (I.stkFree b hb) hc
      obtain ⟨sl2, e4⟩ := up b hb _ e3 nf
      exact ⟨_, e4⟩
    · obtain ⟨o2, e2⟩ := l3 b o e hb hc
      exact ⟨o2, st b o2 e2⟩
end

section
variable {P : Program} {w : World} {K : PySem.W.Frag} {mg : Str → Option Value} {base : Heap} {N : List Str} {qual : Str} {scope : Scope} {f : Addr} {cd : Value} {A : Around} {outer : List Env} {s : Shared} {H : Hp} {E : XK}
/-- THE PASS: through a def's frame -/
theorem pass_def : PassG P w (cxOf (CXF P w) P w K mg base N qual scope f cd A outer s H E) fun _ => E := by
  intro pins σ H1 s1 ch e s' I c q
  obtain ⟨a, cls, B, H', rfl, os, bare, un, hok, fl, l1, l2, l3, hE⟩ := q
  show wpAny _ _ (leaving _ (.ref a)) _ _ s'
  refine leave_any (L := s.heap.objs.size) I.ok.frames rfl fl fun h' fl' up => ?_
  exact ⟨a, cls, B, H', rfl, os.trans I.os, bare, I.flyUn rfl c un l2 l3 fl'.1 (fun b _ => up b), hok.fly l1 fl'.1, fl', hok.flyB l1 fl'.1,
    fun b o e n hb _ => l2 b o (I.base.keep b o e n hb (fun z => nomatch z)) (I.base.free b o e n (fun z => nomatch z)) (I.nstk e hb) (c.not rfl e),
    fun b o e hb _ => let ⟨o', e1⟩ := I.base.there b o e (fun z => nomatch z); l3 b o' e1 (I.nstk e hb) (c.not rfl e), hE⟩
/-- THE START: an exception made in a def's body -/
theorem made_def {pins : List (Addr × Obj)} {σ : St} {H1 : Hp} {s1 : Shared} {h' : Heap} {e : Addr} {cls : Value} {vs : List Value}
    (I : Inv (cxOf (CXF P w) P w K mg base N qual scope f cd A outer s H E) pins σ H1 s1) (hx : Heap.MadeExcOf s1.heap h' e cls vs) (hE : E cls none H1) :
    (cxOf (CXF P w) P w K mg base N qual scope f cd A outer s H E).xe (.ref e) { s1 with heap := h' } := by
  show wpAny _ _ (leaving _ (.ref e)) _ _ _
  have fin : ∀ env ∈ (cxOf (CXF P w) P w K mg base N qual scope f cd A outer s H E).stack, ∀ b, env.frame = some b → b ∈ frs (cxOf (CXF P w) P w K mg base N qual scope f cd A outer s H E).stack :=
    fun env he b hb => List.mem_filterMap.mpr ⟨env, he, hb⟩
  have hB : ∀ b o, s1.heap.get? b = some o → b ∉ frs (cxOf (CXF P w) P w K mg base N qual scope f cd A outer s H E).stack →
      (PySem.W.hideAll s1.heap (frs (cxOf (CXF P w) P w K mg base N qual scope f cd A outer s H E).stack)).get? b = some o := fun b o q n => PySem.W.hideAll_get _ q n
  have l1 : ∀ b o, H1 b ≠ none → s1.heap.get? b = some o → (PySem.W.hideAll s1.heap (frs (cxOf (CXF P w) P w K mg base N qual scope f cd A outer s H E).stack)).get? b = some o :=
    fun b o n q => hB b o q fun z => n (I.stkFree b z)
  refine wpAny_leaves_madeW (L := s.heap.objs.size) (base := PySem.W.hideAll s1.heap (frs (cxOf (CXF P w) P w K mg base N qual scope f cd A outer s H E).stack)) (h := s1.heap) I.ok.frames rfl
    (fun b o q => PySem.W.of_hideAll _ q) (PySem.W.funFrames_hide I.stack fin) hx fun h'' t fl _ _ up => ?_
  have up' : s1.heap.UpToSlots h'' := (Heap.UpToSlots.of_keeps hx.keeps).trans up
  refine ⟨e, cls, _, H1, rfl, I.os, I.bare, I.flyUn (s' := s1) rfl ChOk.nil Un.refl (fun b o q _ n _ => hB b o q n) (fun b o q n _ => ⟨o, hB b o q n⟩) fl.1 (fun b _ => up' b), I.hok.fly l1 fl.1, FlyA.of fl, I.hok.flyB l1 fl.1,
    fun b o q n hb _ => hB b o (I.base.keep b o q n hb (fun z => nomatch z)) (I.nstk q hb), fun b o q hb _ => ?_, hE⟩
  obtain ⟨o', e1⟩ := I.base.there b o q (fun z => nomatch z)
  exact ⟨o', hB b o' e1 (I.nstk q hb)⟩
end

/-! ### an own exception class -/
/-- class x(Exception): pass, as the top has made it -/
structure XCls (K : PySem.W.Frag) (mg : Str → Option Value) (x : Str) (C : Addr) : Prop where
  mgx : mg x = some (.ref C)
  exc : PySem.W.excIn K C [.type "Exception", .type "BaseException", .type "object"] "Exception.__new__" = true
theorem exc_obj {K : PySem.W.Frag} {h : Heap} {C : Addr} {bmB : List Value} {newId : String} (X : K.In h) (q : PySem.W.excIn K C bmB newId = true) :
    ∃ bm N nm qn bs hdct sn sub ab col dd k0 k1 k2 k3 k5 mN, h.get? C = some (excClassObj nm qn C N bs bm hdct sn sub ab col dd k0 k1 k2 k3 k5 newId) ∧ h.Ns N mN ∧ mN "__init__" = none ∧ OwnTail h bmB bm := by
  unfold PySem.W.excIn at q
  split at q
  case h_1 dd cd sl ho =>
    split at q
    case h_1 C' bm k0 k1 k2 k3 n k5 hm hs =>
      obtain ⟨nm, bs, mro, ns, qn, hd, sn, sub, ab, col, del⟩ := cd
      simp only [Bool.and_eq_true, beq_iff_eq, Bool.not_eq_true'] at q hm
      obtain ⟨⟨⟨⟨⟨q1, q2⟩, q3⟩, q4⟩, q5⟩, q6⟩ := q
      subst q1 q2 q3 hm
      obtain ⟨l⟩ := sl
      have hs' : l = [k0, k1, k2, k3, some (.builtin n), k5] := hs
      subst hs'
      exact ⟨bm, ns, nm, qn, bs, hd, sn, sub, ab, col, dd, k0, k1, k2, k3, k5, _, X _ _ ho, .of_isNs (PySem.W.isNs_of_in X q5), PySem.W.nsMap_none_of_in X q5 q6, PySem.W.tail_of_in X q4⟩
    case h_2 => cases q
  case h_2 => cases q

/-- raise x() in a def's body: E is wanted -/
def tRaise (C : Addr) (E : XK) : TS := fun _ _ H => E (.ref C) none H
/-- what is wanted where an exception is made here -/
def MadeG (X : Cx) (C : Addr) (Eb : St → XK) : Prop :=
  ∀ (pins : List (Addr × Obj)) (σ : St) (H : Hp) (s : Shared) (h' : Heap) (e : Addr), Inv X pins σ H s → Heap.MadeExcOf s.heap h' e (.ref C) [] → Eb σ (.ref C) none H → X.xe (.ref e) { s with heap := h' }
theorem ps_raise {X : Cx} {x : Str} {C : Addr} {E : XK} {np cpos pos : Pos} (T : XCls X.K X.mg x C) (hc : X.calm = true) (hg : Gl X x) (hm : MadeG X C fun _ => E) (hd : (x == ("__debug__" : Str)) = false := by decide) :
    PS X (.Raise (some (.Call (.Name x np) [] [] cpos)) none pos) (tRaise C E) := by
  intro pins s σ H D I h
  obtain ⟨bm, N, nm, qn, bs, hdct, sn, sub, ab, col, dd, k0, k1, k2, k3, k5, mN, hC, hN, hni, TL⟩ := exc_obj I.kIn T.exc
  refine wpAny_Raise_call_subT (C := C) (nm := nm) (q := qn) (N := N) (bs := bs) (bm := bm) (hdct := hdct) (sn := sn) (sub := sub) (ab := ab) (col := col) (dd := dd) (k0 := k0) (k1 := k1) (k2 := k2) (k3 := k3) (k5 := k5)
    PySem.F.excBase_Exception (mN := mN) (TL.hasType PySem.F.excBase_Exception.hasBase) (I.ok.hd hc) rfl hni (ld_glob I hg T.mgx ⟨rfl, ?_⟩ hd)
  exact evalArgs_empty ⟨rfl, Nat.zero_le _, hC, hN, TL, fun h' e hx => hm pins σ H s h' e I hx h⟩

/-! ### a def that may raise -/
section
variable {P : Program} {w : World} {K : PySem.W.Frag} {mg : Str → Option Value} {base : Heap}
/-- THE RULE for a def whose body may let an exception go -/
theorem Fun.okX {x qual : Str} {st : Stmt} {f : Addr} {fd : FuncData} {N ps : List Str} {k : Nat} {sp : Sp} (F : Fun K x qual st f fd) (S : FnScope N ps (defScope st)) (len : ∀ vs H Q E, sp vs H Q E → vs.length = ps.length)
    (hbody : ∀ (cdv : Value) (A : Around) (outer : List Env) (s : Shared) (H : Hp) (vs : List V) (Q : VK) (E : XK), Room k (A.deeper (envOfC qual (defScope st) s.heap.objs.size f cdv)) → sp vs H Q E →
      ∃ t, PSs (cxOf (CXF P w) P w K mg base N qual (defScope st) f cdv A outer s H E) (defBody st) t ∧ t { nx := fun _ H' => Q .non H', rt := Q } (start N vs) H) : FnOk P w K mg base (CXF P w) (k + 1) f fd ps sp := by
  obtain ⟨oc, od, kV, doc, pm, an, cdv, ct, osl, rfl, lk, hcd⟩ := F.ex
  exact fn_of lk hcd S len fun A outer s H vs Q E hr hsp => hbody cdv A outer s H vs Q E hr hsp
end
section
variable {P : Program} {w : World} {K : PySem.W.Frag} {mg : Str → Option Value} {base : Heap} {N : List Str} {qual : Str} {scope : Scope} {f : Addr} {cd : Value} {A : Around} {outer : List Env} {s : Shared} {H : Hp} {E : XK}
theorem passD : Passes (CXF P w) (cxOf (CXF P w) P w K mg base N qual scope f cd A outer s H E) E := pass_def.passes
theorem madeD {C : Addr} : MadeG (cxOf (CXF P w) P w K mg base N qual scope f cd A outer s H E) C fun _ => E := fun _ _ _ _ _ _ I hx hE => made_def I hx hE
theorem ownD : PassesOwn (model P w) (cxOf (CXF P w) P w K mg base N qual scope f cd A outer s H E).A (cxOf (CXF P w) P w K mg base N qual scope f cd A outer s H E).env (cxOf (CXF P w) P w K mg base N qual scope f cd A outer s H E).xe := PassesOwn.leaving
end
end L2

set_option Elab.async false
set_option linter.all false
set_option maxRecDepth 100000
/-! try: .. except Name: .., and calls in a try's body. -/
namespace L2
open PySem PySem.Spec PyProof.Rows

/-! ### calls whose exception is wanted by the names' values -/
def tCallS (sp : Sp) (dvs : List V) (Eb : St → XK) (t : TA) : TE := fun σ H Q => t σ H fun vs H1 => sp (vs ++ dvs) H1 Q (Eb σ)
def tMethS (C : Addr) (m : Str) (sp : Sp) (dvs : List V) (Eb : St → XK) (ta : TE) (t : TA) : TE := fun σ H Q => ta σ H fun x H1 => ∃ a dx fs, x = .ref a ∧ H1 a = some (.ins C dx fs) ∧ fs.lookup m = none ∧
  t σ H1 fun vs H2 => sp (x :: (vs ++ dvs)) H2 Q (Eb σ)
section
variable {X : Cx} {k : Nat} {f C : Addr} {fd : FuncData} {ps : List Str} {sp : Sp} {dvs : List V} {ds : List Value} {Eb : St → XK} {x m : Str} {p pos apos : Pos} {e o : Expr} {es : List Expr} {ta : TE} {t : TA}
theorem run_fnS {pins : List (Addr × Obj)} {σ : St} {H : Hp} {s : Shared} {Q : VK} {us : List Value} {vs : List V} (F : FnOk X.prog X.w X.K X.mg X.base (CXF X.prog X.w) k f fd ps sp) (hr : Room k X.A) (hb : Binds X.K fd ps ds) (hd : Vals dvs ds) (hx : PassG X.prog X.w X Eb)
    (I : Inv X pins σ H s) (r : Vals vs us) (h : sp (vs ++ dvs) H Q (Eb σ)) : wpAny (model X.prog X.w) X.A (call (.ref f) us) (EP X pins σ Q) X.xe s := by
  have r2 : Vals (vs ++ dvs) (us ++ ds) := r.append hd
  have hl : (us ++ ds).length = ps.length := by rw [← r2.length]; exact F.len _ _ _ _ h
  refine wpAny_call (codeAny_mono (F.run X.A X.stack s H ⟨us, []⟩ (us ++ ds) (vs ++ dvs) Q (Eb σ) hr I.env0 (hb s us I.kIn hl) r2 h) fun r s' hq => ?_)
  cases r with
  | error e => exact hx pins σ H s [] e s' I .nil hq
  | ok fl =>
    cases fl with
    | ret u => exact I.after hq
    | next => exact False.elim hq
    | brk => exact False.elim hq
    | cont => exact False.elim hq
theorem pe_callS (F : FnOk X.prog X.w X.K X.mg X.base (CXF X.prog X.w) k f fd ps sp) (hr : Room k X.A) (hg : Gl X x) (hm : X.mg x = some (.ref f)) (hk : PySem.W.keepIn X.K (.ref f) = true) (hb : Binds X.K fd ps ds) (hd : Vals dvs ds) (hx : PassG X.prog X.w X Eb)
    (ha : PA X (e :: es) t) (hdb : (x == ("__debug__" : Str)) = false := by decide) (he : starEach (e :: es) X.env = (false, eval e X.env) :: starEach es X.env := by rfl) (hpl : (backTo pos (starEach es X.env)).any (·.1) = false := by rfl) :
    PE X (.Call (.Name x p) (e :: es) [] pos) (tCallS sp dvs Eb t) := by
  intro pins s σ H Q I h
  refine wpAny_Call_Name_kw (ld_glob I hg hm ?_ hdb)
  refine PySem.W.callWith_K (h₀ := X.base) I.ok.mod.kin hk (thn (ha pos pins s σ H _ I h) fun us s1 ⟨vs, H1, I1, r, q⟩ => ⟨I1.kIn, ?_⟩) he hpl
  exact run_fnS F hr hb hd hx I1 r q
theorem pe_methS {pl : Sem Bool} (he : PE X o ta) (c : Cls X.K C) (hm : Meth X.K C m f) (F : FnOk X.prog X.w X.K X.mg X.base (CXF X.prog X.w) k f fd ps sp) (hr : Room k X.A) (hb : Binds X.K fd ps ds) (hd : Vals dvs ds) (hx : PassG X.prog X.w X Eb) (ha : PA X (e :: es) t)
    (hst : starEach (e :: es) X.env = (false, eval e X.env) :: starEach es X.env := by rfl) (hpl : (backTo pos (starEach es X.env)).any (·.1) = false := by rfl)
    (ht : eval (.Call (.Attribute o m apos) (e :: es) [] pos) X.env = (do
      let ov ← eval o X.env
      standAt apos.atName
      let (f, first) ← holding [ov] (getMethod ov m pl)
      callWith pos f first (backTo pos (starEach (e :: es) X.env)) (backToKw pos (keywordEach [] X.env))) := by rfl) :
    PE X (.Call (.Attribute o m apos) (e :: es) [] pos) (tMethS C m sp dvs Eb ta t) := by
  intro pins s σ H Q I h
  refine PySem.W.methodCall_KW (pl := pl) (thn (he pins s σ H _ I h) fun u s1 ⟨x, H1, I1, rx, a, dx, fs, ex, ea, l, q⟩ => ?_) ht
  subst ex
  obtain rfl : u = Value.ref a := rx
  refine getmeth_ok I1 ea c hm l ?_
  refine PySem.W.callWith_K (first := [.ref a]) (h₀ := X.base) I.ok.mod.kin hm.kp (thn (ha pos pins s1 σ H1 _ I1 q) fun us s2 ⟨vs, H2, I2, r, q2⟩ => ⟨I2.kIn, ?_⟩) hst hpl
  exact run_fnS (us := .ref a :: us) (vs := .ref a :: vs) F hr hb hd hx I2 (.cons rfl r) q2
theorem pe_meth0S {pl : Sem Bool} (he : PE X o ta) (c : Cls X.K C) (hm : Meth X.K C m f) (F : FnOk X.prog X.w X.K X.mg X.base (CXF X.prog X.w) k f fd ps sp) (hr : Room k X.A) (hb : Binds X.K fd ps ds) (hd : Vals dvs ds) (hx : PassG X.prog X.w X Eb)
    (ht : eval (.Call (.Attribute o m apos) [] [] pos) X.env = (do
      let ov ← eval o X.env
      standAt apos.atName
      let (f, first) ← holding [ov] (getMethod ov m pl)
      callWith pos f first (backTo pos (starEach [] X.env)) (backToKw pos (keywordEach [] X.env))) := by rfl) :
    PE X (.Call (.Attribute o m apos) [] [] pos) (tMethS C m sp dvs Eb ta tNil) := by
  intro pins s σ H Q I h
  refine PySem.W.methodCall_KW (pl := pl) (thn (he pins s σ H _ I h) fun u s1 ⟨x, H1, I1, rx, a, dx, fs, ex, ea, l, q⟩ => ?_) ht
  subst ex
  obtain rfl : u = Value.ref a := rx
  refine getmeth_ok I1 ea c hm l ?_
  exact PySem.W.callWith_K0 (first := [.ref a]) I1.kIn hm.kp (run_fnS (us := [.ref a]) (vs := [.ref a]) F hr hb hd hx I1 (.cons rfl .nil) q)
end

/-! ### the contexts of a try's body and of an except suite -/
abbrev Cx.tryX (X : Cx) (pn : List (Addr × Obj)) (xe : Value → Shared → Prop) : Cx := { X with pn := pn, xe := xe }
abbrev Cx.hand (X : Cx) (e : Addr) : Cx := { X with A := X.A.mark (some (.ref e)), calm := false, xe := fun _ _ => False }
section
variable {X : Cx} {pins pins' : List (Addr × Obj)} {σ : St} {H : Hp} {s : Shared} {xe : Value → Shared → Prop} {e : Addr}
theorem Inv.inTry (I : Inv X pins σ H s) (xe : Value → Shared → Prop) : Inv (X.tryX (X.pn ++ pins) xe) [] σ H s :=
  ⟨⟨I.ok.mod, I.ok.kind, I.ok.glob, I.ok.blt, I.ok.above, I.ok.inj, I.ok.has, I.ok.cab, I.ok.hd, I.ok.frames, I.ok.stk, I.ok.exf, I.ok.bs, I.ok.bsz, I.ok.noex, I.ok.exfs, I.ok.funs, I.ok.frf⟩,
    I.os, I.bare, I.base, I.loc, I.cell, I.free, I.freeC, fun p hp => I.pin p (by simpa using hp), I.hok, I.len⟩
theorem Inv.outTry (I : Inv (X.tryX (X.pn ++ pins) xe) pins' σ H s) : Inv X pins σ H s :=
  ⟨⟨I.ok.mod, I.ok.kind, I.ok.glob, I.ok.blt, I.ok.above, I.ok.inj, I.ok.has, I.ok.cab, I.ok.hd, I.ok.frames, I.ok.stk, I.ok.exf, I.ok.bs, I.ok.bsz, I.ok.noex, I.ok.exfs, I.ok.funs, I.ok.frf⟩,
    I.os, I.bare, I.base, I.loc, I.cell, I.free, I.freeC, fun p hp => I.pin p (List.mem_append_left _ hp), I.hok, I.len⟩
theorem Inv.inHand (I : Inv X pins σ H s) (e : Addr) : Inv (X.hand e) pins σ H s :=
  ⟨⟨I.ok.mod, I.ok.kind, I.ok.glob, I.ok.blt, I.ok.above, I.ok.inj, I.ok.has, I.ok.cab, (fun z => nomatch z), I.ok.frames, I.ok.stk, I.ok.exf, I.ok.bs, I.ok.bsz, I.ok.noex, I.ok.exfs, I.ok.funs, I.ok.frf⟩,
    I.os, I.bare, I.base, I.loc, I.cell, I.free, I.freeC, I.pin, I.hok, I.len⟩
theorem Inv.outHand (ok : X.Ok) (I : Inv (X.hand e) pins σ H s) : Inv X pins σ H s :=
  ⟨ok, I.os, I.bare, I.base, I.loc, I.cell, I.free, I.freeC, I.pin, I.hok, I.len⟩
theorem SP.outTry {D : Ends} {f : Flow} (h : SP (X.tryX (X.pn ++ pins) xe) pins' D f s) : SP X pins D f s := by
  cases f with
  | next => obtain ⟨σ', H', I, q⟩ := h; exact ⟨σ', H', I.outTry, q⟩
  | brk => obtain ⟨σ', H', I, q⟩ := h; exact ⟨σ', H', I.outTry, q⟩
  | cont => obtain ⟨σ', H', I, q⟩ := h; exact ⟨σ', H', I.outTry, q⟩
  | ret u => obtain ⟨v, σ', H', I, r, q⟩ := h; exact ⟨v, σ', H', I.outTry, r, q⟩
theorem SP.outHand {D : Ends} {f : Flow} (ok : X.Ok) (h : SP (X.hand e) pins D f s) : SP X pins D f s := by
  cases f with
  | next => obtain ⟨σ', H', I, q⟩ := h; exact ⟨σ', H', I.outHand ok, q⟩
  | brk => obtain ⟨σ', H', I, q⟩ := h; exact ⟨σ', H', I.outHand ok, q⟩
  | cont => obtain ⟨σ', H', I, q⟩ := h; exact ⟨σ', H', I.outHand ok, q⟩
  | ret u => obtain ⟨v, σ', H', I, r, q⟩ := h; exact ⟨v, σ', H', I.outHand ok, r, q⟩
end

/-- try: body; except x: suite. th: the suite's reading, from where the exception came -/
def tTry (C : Addr) (tb : (St → XK) → TS) (th : TS) : TS := fun D σ H => tb (fun σ' cls _ H' => cls = .ref C ∧ th D σ' H') D σ H
theorem ps_try {X : Cx} {x : Str} {C : Addr} {body suite : List Stmt} {b₀ : Stmt} {np hpos pos : Pos} {tb : (St → XK) → TS} {th : TS} (T : XCls X.K X.mg x C) (hex : X.ex = []) (hst : X.stack = X.env :: X.outer) (hf : X.env.frame = some X.env.locals) (hg : Gl X x)
    (hb : ∀ (pn : List (Addr × Obj)) (xe : Value → Shared → Prop) (Eb : St → XK), PassG X.prog X.w (X.tryX pn xe) Eb → PSs (X.tryX pn xe) body (tb Eb)) (hh : ∀ e, PSs (X.hand e) (b₀ :: suite) th) (hd : (x == ("__debug__" : Str)) = false := by decide) :
    PS X (.Try body [.ExceptHandler (some (.Name x np)) none (b₀ :: suite) hpos] [] [] pos) (tTry C tb th) := by
  intro pins s σ H D I h
  refine wpAny_Try_except ?_
  refine wpAny_mono (hb (X.pn ++ pins) (fun e s₁ => wpAny (model X.prog X.w) X.A (noteFrame e X.env) (fun _ s₂ => wpAny (model X.prog X.w) X.A (setFlight e none) (fun _ s₃ =>
      wpAny (model X.prog X.w) X.A (handleBy e X.env [.ExceptHandler (some (.Name x np)) none (b₀ :: suite) hpos]) (SP X pins D) X.xe s₃) X.xe s₂) X.xe s₁)
    (fun σ' cls _ H' => cls = .ref C ∧ th D σ' H') ?pass [] s σ H D (I.inTry _) h) (fun f s1 hs => ?_) (fun e s1 hs => hs)
  · intro pins' σ' H1 s1 ch e s' I1 c q
    obtain ⟨a, cls, B, H', rfl, os, bare, un, hok, fl, l1, l2, l3, rfl, hth⟩ := q
    show wpAny _ X.A (noteFrame (.ref a) X.env) _ _ s'
    have fl0 : FlyA B (X.env :: X.outer) a (.ref C) s'.heap := by rw [← hst]; exact fl
    refine note_any (by rw [← hst]; exact I.ok.frames) hf fl0 fun h₄ a0 held up4 => ?_
    refine wpAny_landsW held fun h₅ fl5 up5 => ?_
    have up45 := up4.trans up5
    have un5 : Un (frs X.stack) ch H1 H' s1.heap h₅ := un_fly I1 un l2 l3 fl5.1 fun b _ => up45 b
    have I5 : Inv X pins σ' H' { s' with heap := h₅ } := (I1.call' (s' := { s' with heap := h₅ }) os un5 (hok.fly l1 fl5.1) bare c).outTry
    refine wpAny_handleBy_cons (codeAny_handlers_test (ld_glob (X := X.hand a) (I5.inHand a) hg T.mgx ?_ hd)) (by intro z; cases z)
    obtain ⟨bm, N, nm, qn, bs, hdct, sn, sub, ab, col, dd, k0, k1, k2, k3, k5, mN, hC, hN, hni, TL⟩ := exc_obj I5.kIn T.exc
    obtain ⟨ob, hob, hobc⟩ := fl5.there
    refine wpAny_excMatches_sub_self hC hob hobc (TL.hasType PySem.F.excBase_Exception.hasBase) (codeAny_handlers_suite ?_)
    refine lands_againW fl5 fun h₆ fl6 up6 => ?_
    have up46 := up45.trans up6
    have un6 : Un (frs X.stack) ch H1 H' s1.heap h₆ := un_fly I1 un l2 l3 fl6.1 fun b _ => up46 b
    have I6 : Inv X pins σ' H' { s' with heap := h₆ } := (I1.call' (s' := { s' with heap := h₆ }) os un6 (hok.fly l1 fl6.1) bare c).outTry
    exact wpAny_mono (hh a pins _ σ' H' D (I6.inHand a) hth) (fun f s2 hs => SP.outHand I.ok hs) fun _ _ z => False.elim z
  · cases f with
    | next => exact wpAny_execs_nil (SP.outTry hs)
    | brk => exact SP.outTry hs
    | cont => exact SP.outTry hs
    | ret u => exact SP.outTry hs
end L2

set_option Elab.async false
set_option linter.all false
set_option maxRecDepth 100000
/-! A list comprehension whose element may raise. -/
namespace L2
open PySem PySem.Spec PyProof.Rows

/-- how an exception lies where it leaves a comprehension's block that began at s, H -/
def blkXe (X : Cx) (s : Shared) (H : Hp) (ce : Env) (fp : List Addr) (E : XK) : Value → Shared → Prop := fun e s' =>
  CXG X.prog X.w fp X.stack H s (fun cls d H' => E cls d H' ∧ H' ce.locals = none) e s' ∧ ∃ m, s'.heap.Ns ce.locals m
theorem pass_blk {X : Cx} {s : Shared} {H : Hp} {scope : Scope} {ce : Env} {fp : List Addr} {E : XK} : Passes (CXF X.prog X.w) ((X.blk s H scope ce fp).wish (blkXe X s H ce fp E)) E := by
  intro pins σ H1 s1 e s' I q
  obtain ⟨a, cls, B, H', rfl, os, bare, un, hok, fl, l1, l2, l3, hE⟩ := q
  have I0 : Inv (X.blk s H scope ce fp) pins σ H1 s1 := I.unwish
  have hb : Un (frs X.stack) fp H H1 s.heap s1.heap := I0.base
  obtain ⟨m, ⟨o, es, ep, ho, r⟩, _⟩ := I0.loc
  have hfree : H1 ce.locals = none := I0.free
  refine ⟨⟨a, cls, B, H', rfl, os.trans I0.os, bare, hb.trans (un.mono (fun b z => z) (fun b z => nomatch z)), hok, fl, l1,
    fun b o e n hf hp => l2 b o (hb.keep b o e n hf hp) (hb.free b o e n hp) hf (fun z => nomatch z),
    fun b o e hf hp => let ⟨o', e1⟩ := hb.there b o e hp; l3 b o' e1 hf (fun z => nomatch z), hE, un.free _ o ho hfree (fun z => nomatch z)⟩, ?_⟩
  obtain ⟨sl, e1⟩ := un.any ho hfree (fun z => nomatch z)
  exact ⟨m, _, es, ep, e1, r⟩

theorem frames_to {h h' B B' : Heap} : ∀ {l : List Env}, h.FunFrames B l → (∀ b ∈ frs l, ∀ o, h.get? b = some o → (∀ vs, o.data ≠ .fields vs) → ∃ o', h'.get? b = some o' ∧ o'.data = o.data) → (∀ b ∈ frs l, B'.get? b = none) → h'.FunFrames B' l
  | [], _, _, _ => trivial
  | env :: r, ⟨hk, ⟨L, o, hf, hn, ho, hd⟩, hr⟩, k, n => by
    have hL : L ∈ frs (env :: r) := by unfold frs; rw [List.filterMap_cons, hf]; exact List.mem_cons_self
    have sub : ∀ b ∈ frs r, b ∈ frs (env :: r) := fun b hb => by unfold frs; rw [List.filterMap_cons, hf]; exact List.mem_cons_of_mem _ hb
    obtain ⟨o', e1, e2⟩ := k L hL o ho hd
    exact ⟨hk, ⟨L, o', hf, n L hL, e1, fun vs => by rw [e2]; exact hd vs⟩, frames_to hr (fun b hb => k b (sub b hb)) fun b hb => n b (sub b hb)⟩

theorem blk_err {X : Cx} {pins : List (Addr × Obj)} {σ : St} {H3 : Hp} {s3 s' : Shared} {ce : Env} {fp : List Addr} {E : XK} {e acc : Value} {use : Option (Value → Sem Unit)} {Qf : Value → Shared → Prop}
    (hst : X.stack = X.env :: X.outer) (hfr : X.env.frame = some X.env.locals) (I3 : Inv X pins σ H3 s3) (fpo : ChOk X pins fp) (hP : PassG X.prog X.w X fun _ => E) (cF : ce.frame = X.env.frame) (cL : ce.locals = s3.heap.objs.size)
    (q : blkXe X s3 H3 ce fp E e s') : notedBy (model X.prog X.w) X.A ce (fun e s' => compPost (model X.prog X.w) X.A X.xe use Qf acc s3.heap.objs.size (.error e) s') e s' := by
  obtain ⟨⟨a, cls, B, H', rfl, os, bare, un, hok, fl, l1, l2, l3, hE, hCn⟩, m, hn⟩ := q
  unfold notedBy
  rw [noteFrame_same cF]
  have fl0 : FlyA B (X.env :: X.outer) a cls s'.heap := by rw [← hst]; exact fl
  refine note_any (by rw [← hst]; exact I3.ok.frames) hfr fl0 fun h₄ a0 held up => ?_
  rw [cL] at hn hCn
  have hn4 : h₄.Ns s3.heap.objs.size m := up.ns hn
  refine ⟨m, hn4, fun h' sb cenv _ => ?_⟩
  obtain ⟨g1, g2, g3, oe, vs, T, oT, ts, he, hcl, hd, h1, hnT, hTe, hT, hdT, h3⟩ := held
  obtain ⟨oC, esC, epC, hoC, hdC, _⟩ := hn4
  have neE : a ≠ s3.heap.objs.size := fun z => by
    rw [z, hoC] at he; cases he; rw [hdC] at hd; cases hd
  have neT : T ≠ s3.heap.objs.size := fun z => by
    rw [z, hoC] at hT; cases hT; rw [hdC] at hdT; cases hdT
  have he' : h'.get? a = some oe := (sb.2 a neE).trans he
  have hT' : h'.get? T = some oT := (sb.2 T neT).trans hT
  have hsz : 3 < ts.size := (Array.getElem?_eq_some_iff.mp h3).1
  unfold PySem.passOn
  refine wpAny_bind (wpAny_field he' hd h1 ?_)
  rw [if_neg (by simp : ¬ (Value.ref T == Value.none) = true)]
  unfold setFlight
  refine wpAny_bind (wpAny_bind (wpAny_field he' hd h1 ?_))
  rw [if_pos (by simp : (Value.ref T != Value.none) = true)]
  refine wpAny_setField hT' hdT hsz (wpAny_throw ?_)
  generalize hv : (cenv.frame.elim Value.none fun f => rawInt f) = v
  have other : ∀ b o, b ≠ s3.heap.objs.size → b ≠ T → h₄.get? b = some o → (h'.update T (Obj.mapFields (·.setIfInBounds 3 v))).get? b = some o :=
    fun b o n1 n2 q => (Heap.get?_update_other _ _ (Ne.symm n2)).trans ((sb.2 b n1).trans q)
  have inB : ∀ b o, B.get? b = some o → b ≠ s3.heap.objs.size → (PySem.W.hideAll B [s3.heap.objs.size]).get? b = some o :=
    fun b o q n => PySem.W.hideAll_get _ q fun z => n (List.mem_singleton.mp z)
  have st : (PySem.W.hideAll B [s3.heap.objs.size]).StaysIn (h'.update T (Obj.mapFields (·.setIfInBounds 3 v))) := fun b o q => by
    have q1 : B.get? b = some o := PySem.W.of_hideAll _ q
    refine other b o (fun z => ?_) (fun z => ?_) (g1 b o q1)
    · rw [z, PySem.W.hideAll_none _ (List.mem_singleton.mpr rfl)] at q; cases q
    · rw [z, hnT] at q1; cases q1
  have old : ∀ b o, s3.heap.get? b = some o → b ≠ s3.heap.objs.size := fun b o q => Nat.ne_of_lt (Heap.lt_size q)
  have frO : ∀ b ∈ frs X.stack, b ≠ s3.heap.objs.size := fun b hb => let ⟨_, o, q, _⟩ := I3.stack.mem hb; old b o q
  have nfT : ∀ b o, h₄.get? b = some o → (∀ vs, o.data ≠ .fields vs) → b ≠ T := fun b o q nf z => by
    rw [z, hT] at q; cases q; exact nf ts hdT
  have up' : ∀ b ∈ frs X.stack, ∀ o, s'.heap.get? b = some o → (∀ vs, o.data ≠ .fields vs) → ∃ sl, (h'.update T (Obj.mapFields (·.setIfInBounds 3 v))).get? b = some { o with slots := sl } := fun b hb o q nf => by
    obtain ⟨sl, q4⟩ := up b o q nf
    exact ⟨sl, other b _ (frO b hb) (nfT b _ q4 nf) q4⟩
  have l1' : ∀ b o, H' b ≠ none → s'.heap.get? b = some o → (PySem.W.hideAll B [s3.heap.objs.size]).get? b = some o := fun b o n q => inB b o (l1 b o n q) fun z => n (by rw [z]; exact hCn)
  have l2' : ∀ b o, s3.heap.get? b = some o → H3 b = none → b ∉ frs X.stack → b ∉ fp → (PySem.W.hideAll B [s3.heap.objs.size]).get? b = some o := fun b o q n hb hp => inB b o (l2 b o q n hb hp) (old b o q)
  have l3' : ∀ b o, s3.heap.get? b = some o → b ∉ frs X.stack → b ∉ fp → ∃ o', (PySem.W.hideAll B [s3.heap.objs.size]).get? b = some o' := fun b o q hb hp => let ⟨o', e1⟩ := l3 b o q hb hp; ⟨o', inB b o' e1 (old b o q)⟩
  have hidN : ∀ b, B.get? b = none → (PySem.W.hideAll B [s3.heap.objs.size]).get? b = none := fun b z => by
    cases q : (PySem.W.hideAll B [s3.heap.objs.size]).get? b with
    | none => rfl
    | some o => rw [PySem.W.of_hideAll _ q] at z; cases z
  refine hP pins σ H3 s3 fp (.ref a) _ I3 fpo ⟨a, cls, PySem.W.hideAll B [s3.heap.objs.size], H', rfl, os, bare, un_fly I3 un l2' l3' st up', hok.fly l1' st, ⟨st, hidN a g2, ?_, a0, v, ?_⟩, hok.flyB l1' st, l2', l3', hE⟩
  · rw [hst]
    refine frames_to g3 (fun b hb o q nf => ⟨o, other b o (frO b (by rw [hst]; exact hb)) (nfT b o q nf) q, rfl⟩) fun b hb => hidN b (g3.mem hb).1
  · refine ⟨oe, vs, T, oT.mapFields (·.setIfInBounds 3 v), ts.setIfInBounds 3 v, ?_, hcl, hd, h1, hidN T hnT, hTe, ?_, ?_, ?_⟩
    · exact (Heap.get?_update_other _ _ hTe).trans he'
    · exact Heap.get?_update_self _ hT' (Obj.isFreed_of_fields (Obj.data_mapFields hdT _))
    · exact Obj.data_mapFields hdT _
    · simp [hsz]

section
variable {X : Cx}
theorem lc_coreX {E : XK} {pins : List (Addr × Obj)} {s : Shared} {σ : St} {H : Hp} {Q : VK} {elt tg iter : Expr} {ifs : List Expr} {scope : Scope} {own : List (Str × Nat)} {pos pos' : Pos} {wi : TI} {g : TG} {tt : TT} {te : TE} {use : Option (Value → Sem Unit)} {Qf : Value → Shared → Prop}
    (hP : PassG X.prog X.w X fun _ => E) (hst : X.stack = X.env :: X.outer) (hfr : X.env.frame = some X.env.locals) (hc : X.calm = true) (hN : X.N.Nodup) (I : Inv X pins σ H s) (hi : PI X tg iter wi) (ok : BlkOk X.N X.env.scope scope own)
    (hg : ∀ (s : Shared) (H : Hp) (C : Addr) (cl : List (Str × Addr)) (fp : List Addr), PG (X.blk s H scope (compEnvC scope cl C X.env) fp) tg g) (ht : ∀ (s : Shared) (H : Hp) (C : Addr) (cl : List (Str × Addr)) (fp : List Addr), PTs (X.blk s H scope (compEnvC scope cl C X.env) fp) ifs tt)
    (he : ∀ (s : Shared) (H : Hp) (C : Addr) (cl : List (Str × Addr)) (fp : List Addr), PE ((X.blk s H scope (compEnvC scope cl C X.env) fp).wish (blkXe X s H (compEnvC scope cl C X.env) fp E)) elt te) (hs : ∀ x, foldedSetIterable iter X.env x = pure x)
    (h : tLc wi g tt te (own.map (·.2)) σ H Q)
    (hRR : ∀ D C s' m H', Inv X pins σ H' s' → Q (.ref D) H' → s'.heap.Ns C m → FpOk X pins H' C → compPost (model X.prog X.w) X.A X.xe use Qf (.ref D) C (.ok .next) s') :
    wpAny (model X.prog X.w) X.A (comprehension (.ListComp elt [⟨tg, iter, ifs, 0⟩] scope pos) scope X.env pos' (newList []) false (eval iter X.env) use) Qf X.xe s := by
  have hfree : ∀ y ∈ scope.names, y.2 = .free → ∃ c, X.env.cells.lookup y.1 = some c := fun y hy e => by
    rcases ok.free y hy e with k | k
    · exact I.ok.has _ (.inl k)
    · exact I.ok.has _ (.inr k)
  refine wpAny_comprehension_free (use := use) rfl hs (closure_ok hfree) ok.kind (fun y hy e => by rw [ok.uniq y hy, e])
    (thn (hi pins s σ H _ I h) fun xv s1 hx => thn hx fun itv s2 h2 => ?_)
  obtain ⟨it, fp, tn, J, H2, e, I2, T, st2, f2, q⟩ := h2
  subst e
  refine wpAny_newObj_type (newEnv_comp ?_) (by show 0 ≤ sizeLine; decide)
  generalize hD : s2.heap.objs.size = D
  have hDn : H2 D = none := I2.hok.fresh (Nat.le_of_eq hD)
  obtain ⟨W, ⟨m0, w0⟩, turn⟩ := q D hDn
  -- the new list
  generalize hs3 : ({ s2 with heap := s2.heap.push { cls := .type "list", data := .seq ([] : List Value).toArray } } : Shared) = s3
  have I3 : Inv X pins σ (upd H2 D (.lst [])) s3 := by
    rw [← hs3]
    refine I2.laid (t' := s2.toks) (fun b o e => Heap.get?_push_of_some _ e) (Nat.le_of_eq hD) ⟨Nat.zero_le _, [], 0, .nil, ?_⟩
    rw [← hD]
    exact Heap.get?_push_size _ rfl
  have h3 : s3.heap = s2.heap.push { cls := .type "list", data := .seq ([] : List Value).toArray } := by rw [← hs3]
  have sz : ∀ b ∈ fp, b < s2.heap.objs.size := fun b hb => by
    obtain ⟨o, e, _⟩ := T.obj _ _ st2 b hb
    exact Heap.lt_size e
  have f3 : ∀ b ∈ fp, FpOk X pins (upd H2 D (.lst [])) b ∧ b < s3.heap.objs.size := fun b hb => by
    have hlt := sz b hb
    refine ⟨⟨?_, (f2 b hb).2⟩, by rw [h3, Heap.size_push]; exact Nat.lt_succ_of_lt hlt⟩
    rw [upd_ne (by rw [← hD]; exact Nat.ne_of_lt hlt)]
    exact (f2 b hb).1
  have st3 : tn 0 s3.heap := T.keep _ _ _ st2 fun b _ o e => by rw [h3]; exact Heap.get?_push_of_some _ e
  have I4 := block_start I3 ok hN f3
  have pg := hg s3 (upd H2 D (.lst [])) s3.heap.objs.size (cellsFrom (s3.heap.objs.size + 1) scope.names (cloFrom X.env.cells scope.names [])) fp
  have pt := ht s3 (upd H2 D (.lst [])) s3.heap.objs.size (cellsFrom (s3.heap.objs.size + 1) scope.names (cloFrom X.env.cells scope.names [])) fp
  have pe := he s3 (upd H2 D (.lst [])) s3.heap.objs.size (cellsFrom (s3.heap.objs.size + 1) scope.names (cloFrom X.env.cells scope.names [])) fp
  show codeAny _ _ (.compStart (.ListComp elt [⟨tg, iter, ifs, 0⟩] scope pos) 0 (.ref it) (.ref D) (compEnvC scope (cellsFrom (s3.heap.objs.size + 1) scope.names (cloFrom X.env.cells scope.names [])) s3.heap.objs.size X.env)) (compPost (model X.prog X.w) X.A X.xe use Qf (.ref D) s3.heap.objs.size) { s3 with heap := pushCells (s3.heap.push { cls := .type "dict", data := .dict #[] }) scope.names }
  have nfp : ∀ b ∈ fp, (upd H2 D (.lst [])) b = none := fun b hb => (f3 b hb).1.1
  generalize hce : compEnvC scope (cellsFrom (s3.heap.objs.size + 1) scope.names (cloFrom X.env.cells scope.names [])) s3.heap.objs.size X.env = ce at I4 pg pt pe ⊢
  have cL : ce.locals = s3.heap.objs.size := by subst hce; rfl
  have cF : ce.frame = X.env.frame := by subst hce; rfl
  generalize hH3 : upd H2 D (.lst []) = H3 at I3 I4 pg pt pe w0 nfp f3
  generalize hs4 : ({ s3 with heap := pushCells (s3.heap.push { cls := .type "dict", data := .dict #[] }) scope.names } : Shared) = s4 at I4 ⊢
  have st4 : tn 0 s4.heap := T.keep _ _ _ st3 fun b _ o e => by rw [← hs4]; exact pushCells_keeps _ _ _ _ (Heap.get?_push_of_some _ e)
  have f3c : ChOk X pins fp := fun b hb => ⟨(f3 b hb).1.2.2.2.1, (f3 b hb).1.2.1, (f3 b hb).1.2.2.2.2.1, (f3 b hb).1.2.2.2.2.2⟩
  have stat : ∀ {σ' : St} {H' : Hp} {s' : Shared}, Inv (X.blk s3 H3 scope ce fp) [] σ' H' s' → (∀ b ∈ fp, H' b = none) → ∀ b ∈ fp, FpOk (X.blk s3 H3 scope ce fp) [] H' b := fun {σ' H' s'} I' hn b hb =>
    ⟨hn b hb, (I'.ok.exf b hb).1, I'.ok.exfs b hb, .inl hb, fun x c e => (I'.ok.exf b hb).2 x c e, fun p hp => absurd (show p ∈ ([] : List (Addr × Obj)) ++ [] from hp) (by simp)⟩
  have loop : codeAny (model X.prog X.w) X.A (.compLoop (.ListComp elt [⟨tg, iter, ifs, 0⟩] scope pos) 0 (.ref it) (.ref D) ce) (compPost (model X.prog X.w) X.A X.xe use Qf (.ref D) s3.heap.objs.size) s4 := by
    refine compLoop_any (fun n s' => ∃ i H', Inv (X.blk s3 H3 scope ce fp) [] (wipe σ (own.map (·.2))) H' s' ∧ tn i s'.heap ∧ (∀ b ∈ fp, H' b = none) ∧ W i n H') ?_ m0 ⟨0, H3, I4, st4, nfp, w0⟩
    rintro n s5 ⟨i, H5, I5, st5, n5, w5⟩
    rcases turn i n H5 w5 with ⟨stop, qq⟩ | ⟨go, Nx, hNx, step⟩
    · have td := T.done (X.blk s3 H3 scope ce fp) rfl rfl rfl hc i [] s5 _ H5 (fun _ _ => False) I5 (stat I5 n5) st5 stop
      refine thnF td fun r s6 ⟨hr, I6⟩ => ?_
      subst hr
      -- back in the def's context
      have I7 : Inv X pins σ H5 s6 := I3.call' (ch := fp) I6.os I6.base I6.hok I6.bare fun b hb => ⟨(f3 b hb).1.2.2.2.1, (f3 b hb).1.2.1, (f3 b hb).1.2.2.2.2.1, (f3 b hb).1.2.2.2.2.2⟩
      have nC : H5 s3.heap.objs.size = none := by
        have z : H5 ce.locals = none := I6.free
        rw [cL] at z
        exact z
      obtain ⟨m, hn, _⟩ := I6.loc
      have hn : s6.heap.Ns ce.locals m := hn
      rw [cL] at hn
      exact hRR D s3.heap.objs.size s6 m H5 I7 qq hn (I3.fpOk (Nat.le_refl _) nC)
    · have ti := T.item (X.blk s3 H3 scope ce fp) rfl rfl rfl hc i [] s5 _ H5 (fun _ _ => False) I5 (stat I5 n5) st5 go
      refine thnF ti fun r s6 ⟨u, hr, h6⟩ => ?_
      subst hr
      refine thnF h6 fun _ s7 ⟨x, H7, I7, r7, y7, st7, n7⟩ => ?_
      have I7' := I7.pinned (stat I7 n7) (T.obj _ _ st7)
      refine thnF (pg _ s7 _ H7 x u _ I7' r7 (step x H7 y7)) fun _ s8 ⟨σ8, H8, I8, hw8, q8⟩ => ?_
      refine thnF (pt _ s8 σ8 H8 _ I8 q8) fun b s9 ⟨H9, I9, q9⟩ => ?_
      -- the turn's end
      have fin : ∀ {s' : Shared} {H' : Hp}, Inv (X.blk s3 H3 scope ce fp) ([] ++ pinsAt fp s7.heap) σ8 H' s' → Nx H' → ∃ m, m < n ∧ ∃ i H', Inv (X.blk s3 H3 scope ce fp) [] (wipe σ (own.map (·.2))) H' s' ∧ tn i s'.heap ∧ (∀ b ∈ fp, H' b = none) ∧ W i m H' := fun {s' H'} I' nx => by
        obtain ⟨m', hm, w'⟩ := hNx H' nx
        have pin' : ∀ b ∈ fp, ∀ o, s7.heap.get? b = some o → s'.heap.get? b = some o ∧ H' b = none := fun b hb o e =>
          let z := I'.pin (b, o) (List.mem_append_right _ (List.mem_append_right _ (mem_pinsAt hb e)))
          ⟨z.1, z.2.1⟩
        have hl : (wipe σ (own.map (·.2))).length = σ8.length := by rw [← hw8, wipe_length]
        refine ⟨m', hm, i + 1, H', (I'.unpinned (pins := [])).weak hl (fun j v e => ?_), T.keep _ _ _ st7 fun b hb o e => (pin' b hb o e).1, fun b hb => ?_, w'⟩
        · rw [← hw8] at e
          exact (wipe_some e).1
        · obtain ⟨o, e, _⟩ := T.obj _ _ st7 b hb
          exact (pin' b hb o e).2
      cases b with
      | false =>
        simp only [Bool.false_eq_true, if_false] at q9 ⊢
        exact fin I9 q9
      | true =>
        simp only [if_true] at q9 ⊢
        refine wpAny_mono (pe _ s9 σ8 H9 _ (I9.wish _) q9) (fun z s10 ⟨yv, H10, I10, r10, acc, hD10, hz10, nx⟩ => ?_) fun e s10 hx => blk_err hst hfr I3 f3c hP cF cL hx
        exact app_ok (X := X.blk s3 H3 scope ce fp) I10.unwish hD10 hz10 r10 fun s11 I11 => fin I11 nx
  exact codeAny_compStart_list loop (T.self X.A 0 _ _ _ st4 loop)
/-- as a value -/
theorem pe_lcX {E : XK} {elt tg iter : Expr} {ifs : List Expr} {scope : Scope} {own : List (Str × Nat)} {pos : Pos} {wi : TI} {g : TG} {tt : TT} {te : TE} (hP : PassG X.prog X.w X fun _ => E) (hst : X.stack = X.env :: X.outer) (hfr : X.env.frame = some X.env.locals) (hc : X.calm = true) (hN : X.N.Nodup) (hi : PI X tg iter wi) (ok : BlkOk X.N X.env.scope scope own)
    (hg : ∀ (s : Shared) (H : Hp) (C : Addr) (cl : List (Str × Addr)) (fp : List Addr), PG (X.blk s H scope (compEnvC scope cl C X.env) fp) tg g) (ht : ∀ (s : Shared) (H : Hp) (C : Addr) (cl : List (Str × Addr)) (fp : List Addr), PTs (X.blk s H scope (compEnvC scope cl C X.env) fp) ifs tt)
    (he : ∀ (s : Shared) (H : Hp) (C : Addr) (cl : List (Str × Addr)) (fp : List Addr), PE ((X.blk s H scope (compEnvC scope cl C X.env) fp).wish (blkXe X s H (compEnvC scope cl C X.env) fp E)) elt te) (hs : ∀ x, foldedSetIterable iter X.env x = pure x := by intro _; rfl) :
    PE X (.ListComp elt [⟨tg, iter, ifs, 0⟩] scope pos) (tLc wi g tt te (own.map (·.2))) := by
  intro pins s σ H Q I h
  rw [eval_ListComp]
  refine lc_coreX hP hst hfr hc hN I hi ok hg ht he hs h fun D C s' m H' I' q hn f => ⟨m, hn, fun h'' sb => ?_⟩
  obtain ⟨f0, f1, f2, f3, f4, f5⟩ := f
  exact ⟨.ref D, H', I'.turned (t' := s'.toks) (fun b o hb e => (sb.2 b hb).trans e) f0 f1 f3 f4 f5, rfl, q⟩
/-- name = [..] on one line -/
theorem ps_setLcX {E : XK} {i : Nat} {y : Str} {py : Pos} {elt tg iter : Expr} {ifs : List Expr} {scope : Scope} {own : List (Str × Nat)} {pos spos : Pos} {wi : TI} {g : TG} {tt : TT} {te : TE} (hP : PassG X.prog X.w X fun _ => E) (hst : X.stack = X.env :: X.outer) (hfr : X.env.frame = some X.env.locals) (hc : X.calm = true) (hN : X.N.Nodup) (hy : X.N[i]? = some y) (hyl : X.env.scope.names.lookup y = some .local)
    (hsw : swapsWith (.ListComp elt [⟨tg, iter, ifs, 0⟩] scope pos) (some (.Name y py)) spos.line X.env = pure true) (hi : PI X tg iter wi) (ok : BlkOk X.N X.env.scope scope own)
    (hg : ∀ (s : Shared) (H : Hp) (C : Addr) (cl : List (Str × Addr)) (fp : List Addr), PG (X.blk s H scope (compEnvC scope cl C X.env) fp) tg g) (ht : ∀ (s : Shared) (H : Hp) (C : Addr) (cl : List (Str × Addr)) (fp : List Addr), PTs (X.blk s H scope (compEnvC scope cl C X.env) fp) ifs tt)
    (he : ∀ (s : Shared) (H : Hp) (C : Addr) (cl : List (Str × Addr)) (fp : List Addr), PE ((X.blk s H scope (compEnvC scope cl C X.env) fp).wish (blkXe X s H (compEnvC scope cl C X.env) fp E)) elt te) (hs : ∀ x, foldedSetIterable iter X.env x = pure x := by intro _; rfl) :
    PS X (.Assign [.Name y py] (.ListComp elt [⟨tg, iter, ifs, 0⟩] scope pos) spos) (tAsg (tLc wi g tt te (own.map (·.2))) (gName i)) := by
  intro pins s σ H D I h
  rw [exec_Assign_Name_used _ _ _ _ hsw]
  refine wpAny_bind (wpAny_standAt (wpAny_bind ?_))
  show wpAny _ X.A (do let _ ← comprehension (.ListComp elt [⟨tg, iter, ifs, 0⟩] scope pos) scope X.env (firstIterPos [⟨tg, iter, ifs, 0⟩] pos) (newList []) false (eval iter X.env) (some (assign (.Name y py) X.env))) _ _ s
  have h : tLc wi g tt te (own.map (·.2)) σ H (fun x H1 => gName i x σ H1 D.nx) := h
  refine wpAny_bind (thn (lc_coreX (Qf := fun _ s' => SP X pins D .next s') hP hst hfr hc hN I hi ok hg ht he hs h fun L C s' m H' I' q hn f => ?_) fun _ s' hq => wpAny_pure (wpAny_pure hq))
  show wpAny _ _ (assign (.Name y py) X.env (.ref L)) _ _ _
  refine wpAny_assign_Name (store_ok2 (v := V.ref L) I' hN hy (.inl hyl) rfl (fun s2 I2 ⟨a, sb, ha⟩ => ?_) (.inr hyl))
  obtain ⟨f0, f1, f2, f3, f4, f5⟩ := f
  have haC : C ≠ a := by
    rcases ha with z | z
    · rw [z]; exact f1
    · exact fun e => f4 y a z e.symm
  refine ⟨m, hn.sameBut sb haC, fun h3 sb3 => ?_⟩
  exact ⟨_, H', I2.turned (t' := s2.toks) (fun b o hb e => (sb3.2 b hb).trans e) f0 f1 f3 f4 f5, q⟩end
end L2

set_option Elab.async false
set_option linter.all false
set_option maxRecDepth 100000
/-! The head of a program against a specification, for the layer: some lists of whole numbers and some whole numbers are handed in, a list of whole numbers comes back. -/
namespace L2
open PySem PySem.Spec PyProof.Rows

theorem intsAre_one : ∀ {vs : List Value} {ns ms : List Int}, IntsAre vs ns → IntsAre vs ms → ns = ms
  | _, _, _, .nil, .nil => rfl
  | _, _, _, .cons n t h, .cons _ _ h' => by rw [intsAre_one h h']
theorem reads_ints {R : PySem.W.WRecords} {cl : Str → Option Addr} {h : Heap} : ∀ {ns : List Int} {us : List Value}, Vals (ns.map V.int) us → PySem.W.ReadsAllW R cl h us (ns.map PySem.W.WData.int) []
  | [], _, .nil => .nil
  | n :: ns, _, .cons r t => by
    obtain ⟨tk, rfl⟩ := r
    exact .cons (.int n tk) (reads_ints t)

/-- the lists that are handed in: where, their values, their whole numbers -/
abbrev Ls := List (Addr × List Value × List Int)
def LOk (h : Heap) (L : Ls) : Prop := ∀ p ∈ L, h.get? p.1 = some { cls := .type "list", data := .seq p.2.1.toArray } ∧ IntsAre p.2.1 p.2.2 ∧ p.2.2.length ≤ sizeLine
def argH (K : PySem.W.Frag) (L : Ls) : Hp := fun b => match L.find? fun p => decide (p.1 = b) with
  | some p => if (K.lookup b).isSome = true then none else some (.frz { cls := .type "list", data := .seq p.2.1.toArray } (.lst (p.2.2.map V.int)))
  | none => none
theorem argH_find {h : Heap} {L : Ls} (LO : LOk h L) {p : Addr × List Value × List Int} (hp : p ∈ L) : L.find? (fun q => decide (q.1 = p.1)) = some p := by
  cases e : L.find? (fun q => decide (q.1 = p.1)) with
  | none => exact absurd (List.find?_eq_none.mp e p hp) (by simp)
  | some q =>
    have hq := List.mem_of_find?_eq_some e
    have e1 : q.1 = p.1 := by have := List.find?_some e; simpa using this
    obtain ⟨a1, b1, _⟩ := LO p hp
    obtain ⟨a2, b2, _⟩ := LO q hq
    obtain ⟨pa, pv, pn⟩ := p
    obtain ⟨qa, qv, qn⟩ := q
    dsimp only at e1 a1 a2 b1 b2
    subst e1
    rw [a1] at a2
    have e2 : pv = qv := by
      have := congrArg (fun o => match o with | some (o : Obj) => (match o.data with | .seq xs _ => xs.toList | _ => []) | none => []) a2
      simpa using this
    subst e2
    rw [intsAre_one b1 b2]
theorem argH_sq {K : PySem.W.Frag} {h : Heap} {L : Ls} (KX : K.In h) (LO : LOk h L) {p : Addr × List Value × List Int} (hp : p ∈ L) : SqL K (argH K L) p.1 (p.2.2.map V.int) := by
  obtain ⟨a1, b1, c1⟩ := LO p hp
  cases hk : K.lookup p.1 with
  | some o =>
    have e := KX p.1 o hk
    rw [a1] at e
    cases e
    exact .inr ⟨_, p.2.1.toArray, _, hk, rfl, rfl, rfl, by rw [List.size_toArray, b1.length]; exact c1, by simpa using vals_ints b1⟩
  | none =>
    refine .inl (.inr ⟨{ cls := .type "list", data := .seq p.2.1.toArray }, ?_⟩)
    unfold argH
    rw [argH_find LO hp]
    dsimp only
    rw [if_neg (by rw [hk]; simp)]
theorem argH_some {K : PySem.W.Frag} {L : Ls} {b : Addr} {u : HO} (e : argH K L b = some u) : ∃ p ∈ L, p.1 = b ∧ K.lookup b = none ∧ u = .frz { cls := .type "list", data := .seq p.2.1.toArray } (.lst (p.2.2.map V.int)) := by
  unfold argH at e
  split at e
  · rename_i p hp
    split at e
    · cases e
    · rename_i hk
      cases e
      refine ⟨p, List.mem_of_find?_eq_some hp, by have := List.find?_some hp; simpa using this, ?_, rfl⟩
      cases q : K.lookup b with
      | none => rfl
      | some o => exact absurd (by rw [q]; rfl) hk
  · cases e

theorem spec_call {P : Program} {w : World} {K : PySem.W.Frag} {mg mb : Str → Option Value} {CX : CXT} {k : Nat} {fa : Addr} {fd : FuncData} {ps : List Str} {sp : Sp} {s₁ : Shared} {L : Ls} {us : List Value} {vs : List V} {out : List Int}
    (KX : K.In s₁.heap) (hns : s₁.heap.Ns mainGlobals mg) (hb : s₁.heap.Ns builtinsNs mb) (hbb : ∀ x : Str, x ≠ "__name__" → mb x = bootBuiltins x) (hlim : s₁.heap.NoLimit) (hg : s₁.gens = #[]) (LO : LOk s₁.heap L) (hr : Room k callerA)
    (F : ∀ base : Heap, K.In base → base.Ns mainGlobals mg → FnOk P w K mg base CX k fa fd ps sp) (hbind : BindsTo s₁ fd ⟨us, []⟩ (ps.zip us)) (hv : Vals vs us)
    (hsp : ∀ H : Hp, (∀ p ∈ L, SqL K H p.1 (p.2.2.map V.int)) → sp vs H (fun v H' => ∃ l, v = .ref l ∧ SqL K H' l (out.map V.int)) fun _ _ _ => False)
    (hCX : ∀ H e s', CX [] H s₁ (fun _ _ _ => False) e s' → False) :
    codeAny (model P w) callerA (.call (.ref fa) ⟨us, []⟩) (fun r s' => (∃ l o its n, r = .ok (.ret (.ref l)) ∧ s'.heap.get? l = some o ∧ o.cls = .type "list" ∧ o.data = .seq its n ∧ Vals (out.map V.int) its.toList) ∧
      OldK s₁.heap s'.heap ∧ s'.os = s₁.os ∧ AllBare s'.gens) s₁ := by
  have hok : HOk P w (argH K L) s₁.heap := fun b u e => by
    obtain ⟨p, hp, rfl, _, rfl⟩ := argH_some e
    obtain ⟨a1, b1, c1⟩ := LO p hp
    exact ⟨a1, by rw [List.length_map]; exact c1, _, _, vals_ints b1, a1⟩
  have noD : ∀ {b : Addr} {o : Obj} {es : Array DictEntry} {ep : Nat}, s₁.heap.get? b = some o → o.data = .dict es ep → argH K L b = none := fun {b o es ep} e d => by
    cases q : argH K L b with
    | none => rfl
    | some u =>
      obtain ⟨p, hp, rfl, _, _⟩ := argH_some q
      obtain ⟨a1, _, _⟩ := LO p hp
      rw [e] at a1
      cases a1
      cases d
  have nsK : ∀ {b : Addr} {m : Str → Option Value}, s₁.heap.Ns b m → (hidT s₁.heap (argH K L)).Ns b m := fun {b m} ⟨o, es, ep, e, d, r⟩ => ⟨o, es, ep, hidT_get e (noD e d), d, r⟩
  have hKb : K.In (hidT s₁.heap (argH K L)) := fun b o e => hidT_get (KX b o e) (by
    cases q : argH K L b with
    | none => rfl
    | some u =>
      obtain ⟨p, hp, _, hk, _⟩ := argH_some q
      rw [hk] at e
      cases e)
  have hM : Mod K mg (hidT s₁.heap (argH K L)) := ⟨hKb, nsK hns, ⟨mb, nsK hb, hbb⟩, let ⟨mc, h1, h2⟩ := hlim; ⟨mc, nsK h1, h2⟩⟩
  have e0 : Env0 P w K mg (hidT s₁.heap (argH K L)) callerA [] s₁ (argH K L) :=
    ⟨rfl, hM, fun b o e => of_hidT e, Nat.le_of_eq (hidT_size _ _), trivial, fun b hb => absurd (show b ∈ ([] : List Addr) from hb) (by simp), hok, .of_eq hg⟩
  refine codeAny_mono ((F _ hKb (nsK hns)).run callerA [] s₁ (argH K L) ⟨us, []⟩ us vs _ _ hr e0 hbind hv (hsp _ fun p hp => argH_sq KX LO hp)) fun r s' h => ?_
  cases r with
  | error e => exact (hCX _ e s' h).elim
  | ok fl =>
    cases fl with
    | next => exact False.elim h
    | brk => exact False.elim h
    | cont => exact False.elim h
    | ret u =>
      obtain ⟨v, H', os, bare, un, hok', rv, l, rfl, sq⟩ := h
      obtain rfl : u = Value.ref l := rv
      have keep : ∀ b o, s₁.heap.get? b = some o → s'.heap.get? b = some o := fun b o e => by
        cases q : argH K L b with
        | none => exact un.keep b o e q (by intro z; exact absurd (show b ∈ ([] : List Addr) from z) (by simp)) (by simp)
        | some u =>
          obtain ⟨p, hp, rfl, _, rfl⟩ := argH_some q
          obtain ⟨a1, _, _⟩ := LO p hp
          obtain ⟨e2, _⟩ := hok' _ _ (un.frzs _ _ _ q)
          rw [a1] at e
          cases e
          exact e2
      refine ⟨?_, OldK.of_keep keep, os, bare⟩
      have lst : ∀ xs, ObjOk P w H' s'.heap l (.lst xs) → xs = out.map V.int → ∃ l' o its n, (Except.ok (Flow.ret (Value.ref l)) : Result) = .ok (.ret (.ref l')) ∧ s'.heap.get? l' = some o ∧ o.cls = .type "list" ∧ o.data = .seq its n ∧ Vals (out.map V.int) its.toList := by
        rintro xs ⟨_, its, n, rv, e⟩ rfl
        exact ⟨l, _, its.toArray, n, rfl, e, rfl, rfl, by simpa using rv⟩
      rcases sq with rd | ⟨o, its, n, hk, h1, _, h3, _, h5⟩
      · exact lst _ (rd.ok hok') rfl
      · exact ⟨l, o, its, n, rfl, keep _ _ (KX _ _ hk), h1, h3, h5⟩

theorem noX {P : Program} {w : World} {H : Hp} {s : Shared} {e : Value} {s' : Shared} (h : CXF P w [] H s (fun _ _ _ => False) e s') : False := by
  obtain ⟨_, _, _, _, _, _, _, _, _, _, _, _, _, z⟩ := h
  exact z

/-- the goal that k_headS leaves (case hc), from the def's promise -/
theorem walk_spec {r : PySem.W.OpenSpec} {q : Program} {loose : List Str} {XP : (Str → Option Value) → Heap → Prop} {YP : World → Heap → Prop} {d : DefRec} {K : Params → PySem.W.Frag} {k : Nat} {ps : List Str} {sp : PySem.W.Frag → Sp}
    (hdf : d.params.defaults = []) (hr : Room k callerA) (hY : ∀ (w : World) (h : Heap), YP w h → (K w.params).In h)
    (F : ∀ (w : World) (mg : Str → Option Value) (fa : Addr) (h : Heap), (K w.params).In h → h.Ns mainGlobals mg → mg d.name = some (.ref fa) →
      ∃ fd : FuncData, (∀ (s : Shared) (us : List Value), us.length = ps.length → BindsTo s fd ⟨us, []⟩ (ps.zip us)) ∧
        ∀ base : Heap, (K w.params).In base → base.Ns mainGlobals mg → FnOk r.prog w (K w.params) mg base (CXF r.prog w) k fa fd ps (sp (K w.params)))
    (go : ∀ (P : Params) (h : Heap) (args : List PySem.W.WData) (vals : List Value), r.pre args = true → PySem.W.WellAll P h vals args →
      ∃ (L : Ls) (vs : List V) (out : List Int), LOk h L ∧ Vals vs vals ∧ vals.length = ps.length ∧ r.post args (.list (out.map PySem.W.WData.int)) = true ∧
        ∀ (K : PySem.W.Frag) (H : Hp), (∀ p ∈ L, SqL K H p.1 (p.2.2.map V.int)) → sp K vs H (fun v H' => ∃ l, v = .ref l ∧ SqL K H' l (out.map V.int)) fun _ _ _ => False) :
    PySem.W.WalkOS q loose XP YP r d [] (fun f vs => PySem.call f vs) := by
  intro w s₀ s₁ mg mb G Y fa o pm cd doc dV kV ho hd hcd hD hmg hg args vals as hpre hlay hrd hwl hlo
  have KX := hY w _ Y
  obtain ⟨fd, hb, hF⟩ := F w mg fa _ KX G.T.g hmg
  obtain ⟨L, vs, out, LO, hv, hl, hpost, hsp⟩ := go w.params s₁.heap args vals hpre hwl
  refine PySem.W.enter_call (codeAny_mono (spec_call (out := out) KX G.T.g G.T.b G.T.builtins G.T.nolimit hg LO hr hF (hb s₁ vals hl) hv (hsp (K w.params)) fun H e s' => noX) fun res s' hq => ?_)
  obtain ⟨⟨l, ob, its, n, rfl, h1, h2, h3, h4⟩, h5, h6, h7⟩ := hq
  exact ⟨.inl ⟨.ref l, .list (out.map PySem.W.WData.int), [l], rfl, PySem.W.osNone, .list h1 h2 h3 (reads_ints h4), PySem.W.osPost hpost, fun z => absurd z Bool.false_ne_true⟩, h5, h6, h7⟩
end L2

set_option Elab.async false
set_option linter.all false
set_option maxRecDepth 100000
/-! Small rules of one's own: a datum not in a tuple of two data. -/
namespace L2
open PySem PySem.Spec PyProof.Rows
section
variable {X : Cx}
def rNotIn2 (K : PySem.W.Frag) : R2 := fun x y H Q => ∃ p a1 a2 d d1 d2, y = .ref p ∧ SqT K H p [.ref a1, .ref a2] ∧ a1 ≠ a2 ∧ Dp K H x d ∧ Dp K H (.ref a1) d1 ∧ Dp K H (.ref a2) d2 ∧
  SeqAt.shaped d = true ∧ SeqAt.shaped d1 = true ∧ SeqAt.shaped d2 = true ∧ Q (.bl (!(PyData.eqv d1 d || PyData.eqv d2 d))) H
theorem op_notIn2 (hu : X.A.units + 80 < cLine) : OpR X (compareOp .NotIn) (rNotIn2 X.K) := by
  intro pins s σ H x y v u Q I rx ry h
  obtain ⟨p, a1, a2, d, d1, d2, rfl, hp, ne, hd, h1, h2, sd, s1, s2, q⟩ := h
  cases ry
  obtain ⟨as, r0⟩ := Dp.reads I d x v hd rx
  obtain ⟨as1, r1⟩ := Dp.reads I d1 _ _ h1 (rfl : RelV (.ref a1) (.ref a1))
  obtain ⟨as2, r2⟩ := Dp.reads I d2 _ _ h2 (rfl : RelV (.ref a2) (.ref a2))
  obtain ⟨its, r, pl, hz⟩ := I.tuple hp
  have hits : its = [Value.ref a1, Value.ref a2] := by
    cases r with
    | cons q1 r =>
      cases r with
      | cons q2 r =>
        cases r
        cases q1
        cases q2
        rfl
  subst hits
  have hu1 : X.A.in1.units + 64 < cLine := by show X.A.units + 1 + 64 < cLine; omega
  refine SeqAt.notIn_tupleAt (fun z => if z = Value.ref a1 then PyData.eqv d1 d else PyData.eqv d2 d) pl (fun z hz => ?_) ⟨.bl _, H, I, rfl, ?_⟩
  · have hz' : z = Value.ref a1 ∨ z = Value.ref a2 := by simpa using hz
    rcases hz' with rfl | rfl
    · rw [if_pos rfl]
      exact SeqAt.eqAt_reads d1 d _ _ _ _ _ _ r1 r0 (SeqAt.canLay_of_shaped s1) (SeqAt.canLay_of_shaped sd) (SeqAt.room_of_shaped s1 hu1)
    · rw [if_neg (fun e => ne (by injection e with e; exact e.symm))]
      exact SeqAt.eqAt_reads d2 d _ _ _ _ _ _ r2 r0 (SeqAt.canLay_of_shaped s2) (SeqAt.canLay_of_shaped sd) (SeqAt.room_of_shaped s2 hu1)
  · have e2 : (Value.ref a2 = Value.ref a1) = False := by
      apply propext
      exact ⟨fun e => ne (by injection e with e; exact e.symm), False.elim⟩
    have e : ([Value.ref a1, Value.ref a2].toArray.any fun z => if z = Value.ref a1 then PyData.eqv d1 d else PyData.eqv d2 d) = (PyData.eqv d1 d || PyData.eqv d2 d) := by
      simp [e2]
    rw [e]
    exact q
end
/-- whole numbers as data -/
theorem dp_ints {K : PySem.W.Frag} {H : Hp} : ∀ (ns : List Int), DpAll K H (ns.map V.int) (ns.map PyData.int)
  | [] => .nil
  | n :: ns => .cons (.int n) (dp_ints ns)
theorem eqv_ints : ∀ (xs ys : List Int), PyData.eqvAll (xs.map PyData.int) (ys.map PyData.int) = decide (xs = ys)
  | [], [] => by simp [PyData.eqvAll]
  | [], y :: ys => by simp [PyData.eqvAll]
  | x :: xs, [] => by simp [PyData.eqvAll]
  | x :: xs, y :: ys => by
    rw [List.map_cons, List.map_cons, PyData.eqvAll, eqv_ints xs ys]
    show ((x == y) && decide (xs = ys)) = _
    by_cases h : x = y <;> by_cases h2 : xs = ys <;> simp [h, h2]
end L2

set_option Elab.async false
set_option linter.all false
set_option maxRecDepth 100000
/-! Heaps with some addresses set aside; fields by their keys; a try with two except clauses; list(range(..)). -/
namespace L2
open PySem PySem.Spec PyProof.Rows

/-! ### some addresses set aside -/
def hid (S : List Addr) (H : Hp) : Hp := fun b => if b ∈ S then none else H b
/-- all but S is as it was -/
def Kp (S : List Addr) (H H' : Hp) : Prop := ∀ b o, H b = some o → b ∉ S → H' b = some o
section
variable {S T : List Addr} {H H' H1 H2 : Hp} {a b : Addr} {o : HO}
theorem hid_of (h : H b = some o) (n : b ∉ S) : hid S H b = some o := by unfold hid; rw [if_neg n]; exact h
theorem of_hid (h : hid S H b = some o) : H b = some o ∧ b ∉ S := by
  unfold hid at h
  by_cases n : b ∈ S
  · rw [if_pos n] at h; cases h
  · rw [if_neg n] at h; exact ⟨h, n⟩
theorem hid_same : Same (hid S H) H := fun b o h => (of_hid h).1
theorem hid_less (h : ∀ b ∈ T, b ∈ S) : Same (hid S H) (hid T H) := fun b o e => hid_of (of_hid e).1 fun z => (of_hid e).2 (h b z)
theorem Kp.hid (k : Kp S H H') (h : ∀ b ∈ S, b ∈ T) : Same (hid T H) (hid T H') := fun b o e => hid_of (k b o (of_hid e).1 fun z => (of_hid e).2 (h b z)) (of_hid e).2
theorem Kp.hid0 (k : Kp S H H') : Same (L2.hid S H) (L2.hid S H') := k.hid fun _ z => z
theorem Kp.refl : Kp S H H := fun _ _ e _ => e
theorem Kp.trans (a : Kp S H H1) (b : Kp S H1 H2) : Kp S H H2 := fun c o e n => b c o (a c o e n) n
theorem Kp.mono (k : Kp S H H') (h : ∀ b ∈ S, b ∈ T) : Kp T H H' := fun b o e n => k b o e fun z => n (h b z)
theorem Kp.same (k : Kp S H H1) (e : Same H1 H2) : Kp S H H2 := fun b o q n => e b o (k b o q n)
theorem Same.kp (e : Same H H') : Kp S H H' := fun b o q _ => e b o q
theorem Same.kp2 (e : Same H H1) (k : Kp S H1 H2) : Kp S H H2 := fun b o q n => k b o (e b o q) n
theorem Kp.upd : Kp [a] H (upd H a o) := fun b u e n => by rw [upd_ne (fun z => n (by rw [z]; exact List.mem_singleton.mpr rfl))]; exact e
theorem Kp.write (k : Kp S H H1) (h : a ∈ S) : Kp S H (L2.upd H1 a o) := fun b u e n => by rw [upd_ne (fun z => n (by rw [z]; exact h))]; exact k b u e n
/-- a write where nothing was -/
theorem Kp.writeN (k : Kp S H H1) (h : H a = none) : Kp S H (L2.upd H1 a o) := fun b u e n => by rw [upd_ne (ne_of_none e h)]; exact k b u e n
theorem Same.writeN (k : Same H H1) (h : H a = none) : Same H (L2.upd H1 a o) := fun b u e => by rw [upd_ne (ne_of_none e h)]; exact k b u e
theorem Same.new (h : H a = none) : Same H (L2.upd H a o) := fun b u e => by rw [upd_ne (ne_of_none e h)]; exact e
theorem Kp.nil (k : Kp [] H H') : Same H H' := fun b o e => k b o e (fun z => nomatch z)
/-- what was free ahead, but for S -/
theorem Kp.free (k : Kp S H H') (h : H' a = none) (n : a ∉ S) : H a = none := by
  cases q : H a with
  | none => rfl
  | some o => rw [k a o q n] at h; cases h
theorem hid_new (h : H a = none) : Same (hid S H) (hid (a :: S) (upd H a o)) := fun b u e => by
  have ne : b ≠ a := ne_of_none (of_hid e).1 h
  refine hid_of (by rw [upd_ne ne]; exact (of_hid e).1) fun z => ?_
  rcases List.mem_cons.mp z with q | q
  · exact ne q
  · exact (of_hid e).2 q
theorem hid_upd (h : a ∈ S) : Same (hid S H) (hid S (upd H a o)) := fun b u e => by
  have n := (of_hid e).2
  exact hid_of (by rw [upd_ne (fun z => n (by rw [z]; exact h))]; exact (of_hid e).1) n
theorem hid_fresh (h : H a = none) : Same (hid S H) (hid S (upd H a o)) := fun b u e => hid_of (by rw [upd_ne (ne_of_none (of_hid e).1 h)]; exact (of_hid e).1) (of_hid e).2
end

/-! ### fields -/
section
variable {f g : Str} {v : V} {fs : List (Str × V)} {o : Option V}
theorem lk0 : (putF f v fs).lookup f = some v := by rw [lookup_putF, if_pos rfl]
theorem lk1 (h : fs.lookup g = o) (n : ¬ g = f := by decide +kernel) : (putF f v fs).lookup g = o := by rw [lookup_putF, if_neg n]; exact h
theorem keys_in : ∀ {fs : List (Str × V)}, f ∈ fs.map (·.1) → (putF f v fs).map (·.1) = fs.map (·.1)
  | [], h => by simp at h
  | (g, x) :: r, h => by
    unfold putF
    by_cases e : g = f
    · rw [if_pos e, e]
      rfl
    · rw [if_neg e]
      have h' : f ∈ r.map (·.1) := by
        rcases List.mem_cons.mp h with q | q
        · exact absurd q.symm e
        · exact q
      rw [List.map_cons, keys_in h']
      rfl
theorem keys_new : ∀ {fs : List (Str × V)}, ¬ f ∈ fs.map (·.1) → (putF f v fs).map (·.1) = fs.map (·.1) ++ [f]
  | [], _ => rfl
  | (g, x) :: r, h => by
    unfold putF
    have e : ¬ g = f := fun e => h (by rw [List.map_cons, e]; exact List.mem_cons_self)
    rw [if_neg e, List.map_cons, keys_new fun z => h (List.mem_cons_of_mem _ z)]
    rfl
theorem no_key : ∀ {fs : List (Str × V)}, ¬ f ∈ fs.map (·.1) → fs.lookup f = none
  | [], _ => rfl
  | (g, x) :: r, h => by
    have e : ¬ f = g := fun e => h (by rw [List.map_cons, e]; exact List.mem_cons_self)
    have e' : (f == g) = false := by simpa using e
    rw [List.lookup_cons, e']
    exact no_key fun z => h (List.mem_cons_of_mem _ z)
theorem keys_to {fs : List (Str × V)} {ks : List Str} (h : fs.map (·.1) = ks) (n : f ∈ ks := by decide +kernel) : (putF f v fs).map (·.1) = ks := by
  rw [keys_in (by rw [h]; exact n), h]
theorem keys_add {fs : List (Str × V)} {ks : List Str} (h : fs.map (·.1) = ks) (n : ¬ f ∈ ks := by decide +kernel) : (putF f v fs).map (·.1) = ks ++ [f] := by
  rw [keys_new (by rw [h]; exact n), h]
theorem key_no {fs : List (Str × V)} {ks : List Str} (h : fs.map (·.1) = ks) (n : ¬ f ∈ ks := by decide +kernel) : fs.lookup f = none := no_key (by rw [h]; exact n)
theorem keys_len {fs : List (Str × V)} {ks : List Str} (h : fs.map (·.1) = ks) (n : ks.length < 1000 := by decide) : fs.length < 1000 := by
  have := congrArg List.length h
  rw [List.length_map] at this
  omega
end

/-! ### >>= -/
theorem in_shr {X : Cx} : InOp X .RShift (rI (fun _ j => 0 ≤ j) fun i j => .int (i / 2 ^ j.toNat)) := fun pins s σ H x y u v Q I rx ry h => iop_shr pins s σ H x y u v Q I rx ry h

/-! ### try with two except clauses, own classes both -/
def tTry2 (C1 C2 : Addr) (tb : (St → XK) → TS) (th1 th2 : TS) : TS := fun D σ H => tb (fun σ' cls _ H' => (cls = .ref C1 ∧ th1 D σ' H') ∨ (cls = .ref C2 ∧ th2 D σ' H')) D σ H
theorem ps_try2 {X : Cx} {x y : Str} {C1 C2 : Addr} {body suite suite2 : List Stmt} {b₀ c₀ : Stmt} {np hpos np2 hpos2 pos : Pos} {tb : (St → XK) → TS} {th1 th2 : TS} (T : XCls X.K X.mg x C1) (T2 : XCls X.K X.mg y C2)
    (h12 : PySem.W.exmOne X.K (.ref C2) (.ref C1) = some false) (hex : X.ex = []) (hst : X.stack = X.env :: X.outer) (hf : X.env.frame = some X.env.locals) (hg : Gl X x) (hg2 : Gl X y)
    (hb : ∀ (pn : List (Addr × Obj)) (xe : Value → Shared → Prop) (Eb : St → XK), PassG X.prog X.w (X.tryX pn xe) Eb → PSs (X.tryX pn xe) body (tb Eb)) (hh : ∀ e, PSs (X.hand e) (b₀ :: suite) th1) (hh2 : ∀ e, PSs (X.hand e) (c₀ :: suite2) th2)
    (hd : (x == ("__debug__" : Str)) = false := by decide) (hd2 : (y == ("__debug__" : Str)) = false := by decide) :
    PS X (.Try body [.ExceptHandler (some (.Name x np)) none (b₀ :: suite) hpos, .ExceptHandler (some (.Name y np2)) none (c₀ :: suite2) hpos2] [] [] pos) (tTry2 C1 C2 tb th1 th2) := by
  intro pins s σ H D I h
  refine wpAny_Try_except ?_
  refine wpAny_mono (hb (X.pn ++ pins) (fun e s₁ => wpAny (model X.prog X.w) X.A (noteFrame e X.env) (fun _ s₂ => wpAny (model X.prog X.w) X.A (setFlight e none) (fun _ s₃ =>
      wpAny (model X.prog X.w) X.A (handleBy e X.env [.ExceptHandler (some (.Name x np)) none (b₀ :: suite) hpos, .ExceptHandler (some (.Name y np2)) none (c₀ :: suite2) hpos2]) (SP X pins D) X.xe s₃) X.xe s₂) X.xe s₁)
    (fun σ' cls _ H' => (cls = .ref C1 ∧ th1 D σ' H') ∨ (cls = .ref C2 ∧ th2 D σ' H')) ?pass [] s σ H D (I.inTry _) h) (fun f s1 hs => ?_) (fun e s1 hs => hs)
  · intro pins' σ' H1 s1 ch e s' I1 c q
    obtain ⟨a, cls, B, H', rfl, os, bare, un, hok, fl, l1, l2, l3, hE⟩ := q
    show wpAny _ X.A (noteFrame (.ref a) X.env) _ _ s'
    have fl0 : FlyA B (X.env :: X.outer) a cls s'.heap := by rw [← hst]; exact fl
    refine note_any (by rw [← hst]; exact I.ok.frames) hf fl0 fun h₄ a0 held up4 => ?_
    refine wpAny_landsW held fun h₅ fl5 up5 => ?_
    have up45 := up4.trans up5
    have un5 : Un (frs X.stack) ch H1 H' s1.heap h₅ := un_fly I1 un l2 l3 fl5.1 fun b _ => up45 b
    have I5 : Inv X pins σ' H' { s' with heap := h₅ } := (I1.call' (s' := { s' with heap := h₅ }) os un5 (hok.fly l1 fl5.1) bare c).outTry
    obtain ⟨ob, hob, hobc⟩ := fl5.there
    rcases hE with ⟨rfl, hth⟩ | ⟨rfl, hth⟩
    · refine wpAny_handleBy_cons (codeAny_handlers_test (ld_glob (X := X.hand a) (I5.inHand a) hg T.mgx ?_ hd)) (by intro z; cases z)
      obtain ⟨bm, N, nm, qn, bs, hdct, sn, sub, ab, col, dd, k0, k1, k2, k3, k5, mN, hC, hN, hni, TL⟩ := exc_obj I5.kIn T.exc
      refine wpAny_excMatches_sub_self hC hob hobc (TL.hasType PySem.F.excBase_Exception.hasBase) (codeAny_handlers_suite ?_)
      refine lands_againW fl5 fun h₆ fl6 up6 => ?_
      have up46 := up45.trans up6
      have un6 : Un (frs X.stack) ch H1 H' s1.heap h₆ := un_fly I1 un l2 l3 fl6.1 fun b _ => up46 b
      have I6 : Inv X pins σ' H' { s' with heap := h₆ } := (I1.call' (s' := { s' with heap := h₆ }) os un6 (hok.fly l1 fl6.1) bare c).outTry
      exact wpAny_mono (hh a pins _ σ' H' D (I6.inHand a) hth) (fun f s2 hs => SP.outHand I.ok hs) fun _ _ z => False.elim z
    · refine wpAny_handleBy_cons (codeAny_handlers_test (ld_glob (X := X.hand a) (I5.inHand a) hg T.mgx ?_ hd)) (by intro z; cases z)
      have LT : PySem.W.Looks (model X.prog X.w) h₅ (typeOf (.ref a)) (.ref C2) := by
        have z : PySem.W.Looks (model X.prog X.w) h₅ (typeOf (.ref a)) ob.cls := (PySem.W.Looks.ld hob).andThen .now
        rw [hobc] at z
        exact z
      refine (PySem.W.exm_one I5.kIn LT h12).here ?_
      refine wpAny_handleBy_cons (codeAny_handlers_test (ld_glob (X := X.hand a) (I5.inHand a) hg2 T2.mgx ?_ hd2)) (by intro z; cases z)
      obtain ⟨bm, N, nm, qn, bs, hdct, sn, sub, ab, col, dd, k0, k1, k2, k3, k5, mN, hC, hN, hni, TL⟩ := exc_obj I5.kIn T2.exc
      refine wpAny_excMatches_sub_self hC hob hobc (TL.hasType PySem.F.excBase_Exception.hasBase) (codeAny_handlers_suite ?_)
      refine lands_againW fl5 fun h₆ fl6 up6 => ?_
      have up46 := up45.trans up6
      have un6 : Un (frs X.stack) ch H1 H' s1.heap h₆ := un_fly I1 un l2 l3 fl6.1 fun b _ => up46 b
      have I6 : Inv X pins σ' H' { s' with heap := h₆ } := (I1.call' (s' := { s' with heap := h₆ }) os un6 (hok.fly l1 fl6.1) bare c).outTry
      exact wpAny_mono (hh2 a pins _ σ' H' D (I6.inHand a) hth) (fun f s2 hs => SP.outHand I.ok hs) fun _ _ z => False.elim z
  · cases f with
    | next => exact wpAny_execs_nil (SP.outTry hs)
    | brk => exact SP.outTry hs
    | cont => exact SP.outTry hs
    | ret u => exact SP.outTry hs

/-! ### a new object whose making may raise into a try; a new object in a try's body that never raises -/
theorem pass0' {X : Cx} {E : XK} : Passes CX0 X E := fun _ _ _ _ _ _ _ h => h.elim

/-! ### list(range(..)) -/
def RngO (p : Addr) (i j c : Int) : HO := .ext fun h => ∃ t u v, IsRange h p i j c t u v
section
variable {X : Cx}
theorem rng_ok {P : Program} {w : World} {H : Hp} {h : Heap} {p : Addr} {i j c : Int} {t u v : Tok} (e : IsRange h p i j c t u v) : ObjOk P w H h p (RngO p i j c) :=
  ⟨⟨t, u, v, e⟩, ⟨_, e⟩, fun h1 h2 ⟨t, u, v, q⟩ k => ⟨t, u, v, k _ q⟩⟩
def rRng1 : List V → Hp → VK → Prop := fun vs H Q => ∃ j : Int, vs = [.int j] ∧ ∀ p, H p = none → Q (.ref p) (upd H p (RngO p 0 j 1))
theorem call_rng1 : CallR X (.type "range") rRng1 := by
  intro pins s σ H xs us Q I r h
  obtain ⟨j, rfl, q⟩ := h
  obtain ⟨u, rfl, t, rfl⟩ := vals1 r
  refine call_range_1 ?_
  exact ⟨.ref s.heap.objs.size, _, I.laid (fun b o e => Heap.get?_push_of_some _ e) (Nat.le_refl _) (rng_ok (IsRange.new ..)), rfl, q _ (I.hok.fresh (Nat.le_refl _))⟩
def rRng3 : List V → Hp → VK → Prop := fun vs H Q => ∃ i j c : Int, vs = [.int i, .int j, .int c] ∧ c ≠ 0 ∧ c.natAbs < 1073741824 ∧ ∀ p, H p = none → Q (.ref p) (upd H p (RngO p i j c))
theorem call_rng3 : CallR X (.type "range") rRng3 := by
  intro pins s σ H xs us Q I r h
  obtain ⟨i, j, c, rfl, c0, c1, q⟩ := h
  cases r with
  | cons r rr =>
    cases rr with
    | cons r' rr =>
      cases rr with
      | cons r'' rr =>
        cases rr
        obtain ⟨t, rfl⟩ := r
        obtain ⟨t', rfl⟩ := r'
        obtain ⟨t'', rfl⟩ := r''
        refine call_range_3 c0 ?_ (.inl (PyProof.noPylong_small c1))
        exact ⟨.ref s.heap.objs.size, _, I.laid (t' := s.toks) (fun b o e => Heap.get?_push_of_some _ e) (Nat.le_refl _) (rng_ok (IsRange.new ..)), rfl, q _ (I.hok.fresh (Nat.le_refl _))⟩
theorem vals_items {a c : Int} : ∀ (n : Nat) (acc : List Value), acc.length = n → (∀ (j : Nat) v, acc[j]? = some v → ∃ t, v = .int (a + j * c) t) → Vals ((List.range n).map fun k : Nat => V.int (a + k * c)) acc
  | 0, acc, h, _ => by
    have : acc = [] := List.length_eq_zero_iff.mp h
    subst this
    exact .nil
  | n + 1, acc, h, hv => by
    have e : acc = acc.take n ++ [acc[n]] := by
      rw [List.take_append_getElem]
      exact (List.take_of_length_le (by omega)).symm
    rw [e, List.range_succ, List.map_append]
    refine Vals.append (vals_items n _ (by rw [List.length_take]; omega) fun j v q => ?_) (.cons ?_ .nil)
    · refine hv j v ?_
      rw [List.getElem?_take] at q
      split at q
      · exact q
      · cases q
    · exact hv n _ (List.getElem?_eq_getElem _)
def rLstRng : List V → Hp → VK → Prop := fun vs H Q => ∃ (p : Addr) (i j c : Int) (n : Nat), vs = [.ref p] ∧ H p = some (RngO p i j c) ∧ RgC i j c n ∧ n ≤ sizeLine ∧ ∀ l, H l = none → Q (.ref l) (upd H l (.lst ((List.range n).map fun k : Nat => V.int (i + k * c))))
theorem call_lstRng (hc : X.calm = true) : CallR X (.type "list") rLstRng := by
  intro pins s σ H xs us Q I r h
  obtain ⟨p, i, j, c, n, rfl, hp, ⟨c0, c1, c2, c3⟩, hn, q⟩ := h
  obtain ⟨u, rfl, ru⟩ := vals1 r
  cases ru
  obtain ⟨⟨t, u, v, hr⟩, _, _⟩ := I.hok p _ hp
  refine call_list_range (I.ok.hd hc) hr c2 c3 (by rw [sizeLine_eq] at hn; exact hn) fun h' tk acc c' hk hD hI => ?_
  obtain ⟨hs, hi⟩ := hI
  refine ⟨.ref s.heap.objs.size, _, I.laid (t' := tk) hk (Nat.le_refl _) (show ObjOk X.prog X.w _ h' _ (.lst _) from ⟨by simpa using hn, acc.toList, c', vals_items n acc.toList (by simpa using hs) (fun j v e => hi j v (by simpa using e)), by simpa using hD⟩), rfl, q _ (I.hok.fresh (Nat.le_refl _))⟩
end
end L2

set_option Elab.async false
set_option linter.all false
set_option maxRecDepth 100000
/-! A new object made within an except suite: a def that runs while an exception is handled. -/
namespace L2
open PySem PySem.Spec PyProof.Rows
structure RoomH (k : Nat) (A : Around) : Prop where
  dp : A.depth + 3 * k + 5 < recursionLimit
  un : A.units + 16 * k + 200 < cLine
theorem Room.h {k : Nat} {A : Around} (r : Room k A) : RoomH k A := ⟨r.dp, r.un⟩
theorem RoomH.mark {k : Nat} {A : Around} {e : Option Value} (r : RoomH k A) : RoomH k (A.mark e) := ⟨r.dp, r.un⟩
theorem RoomH.deeper {k : Nat} {A : Around} (r : RoomH (k + 1) A) (env : Env) : RoomH k (A.deeper env) :=
  ⟨by have := r.dp; show A.depth + 1 + 3 * k + 5 < _; omega, by have := r.un; show A.units + 3 + 16 * k + 200 < _; omega⟩
theorem RoomH.make {k : Nat} {A : Around} (r : RoomH (k + 1) A) (C : Addr) (us : List Value) (kw : List (Str × Value)) : RoomH k (A.under (.builtin "type.__call__" ⟨.ref C :: us, kw⟩)) :=
  ⟨by have := r.dp; rw [make_depth]; omega, by have := r.un; rw [make_units]; omega⟩
theorem RoomH.depth {k : Nat} {A : Around} (r : RoomH k A) : A.depth < recursionLimit := by have := r.dp; omega
abbrev cxH (P : Program) (w : World) (K : PySem.W.Frag) (mg : Str → Option Value) (base : Heap) (N : List Str) (qual : Str) (scope : Scope) (f : Addr) (cd : Value) (A : Around) (outer : List Env) (s : Shared) (H : Hp) : Cx :=
  { cxOf CX0 P w K mg base N qual scope f cd A outer s H E0 with calm := false, xe := fun _ _ => False }
structure FnOkH (P : Program) (w : World) (K : PySem.W.Frag) (mg : Str → Option Value) (base : Heap) (k : Nat) (f : Addr) (fd : FuncData) (ps : List Str) (sp : Sp) : Prop where
  len : ∀ vs H Q E, sp vs H Q E → vs.length = ps.length
  run : ∀ (A : Around) (outer : List Env) (s : Shared) (H : Hp) (args : Args) (us : List Value) (vs : List V) (Q : VK), RoomH k A → Env0 P w K mg base A outer s H → BindsTo s fd args (ps.zip us) → Vals vs us → sp vs H Q E0 →
    codeAny (model P w) A (.call (.ref f) args) (CR CX0 outer P w H s Q E0) s
theorem inv_startH {P : Program} {w : World} {K : PySem.W.Frag} {mg : Str → Option Value} {base : Heap} {N ps : List Str} {qual : Str} {scope : Scope} {f : Addr} {cd : Value} {A : Around} {outer : List Env} {s s1 : Shared} {H : Hp} {us : List Value} {vs : List V}
    (S : FnScope N ps scope) (e0 : Env0 P w K mg base A outer s H) (hl : vs.length = ps.length) (r : Vals vs us)
    (x : InCallC s s.heap.objs.size (bindL (envOfC qual scope s.heap.objs.size f cd).kindOf (ps.zip us) fun _ => none) (cellsFrom (s.heap.objs.size + 1) scope.names []) (bindC (envOfC qual scope s.heap.objs.size f cd).kindOf (ps.zip us) fun _ => none) s1) :
    Inv (cxH P w K mg base N qual scope f cd A outer s H) [] (start N vs) H s1 := by
  have e0' : Env0 P w K mg base { A with handled := none } outer s H := ⟨e0.frames, e0.mod, e0.bs, e0.bsz, e0.funs, e0.frf, e0.hok, e0.bare⟩
  have I := inv_start (CX := CX0) (E := E0) (f := f) (cd := cd) (qual := qual) (N := N) S (A := { A with handled := none }) rfl e0' hl r x
  exact ⟨⟨I.ok.mod, I.ok.kind, I.ok.glob, I.ok.blt, I.ok.above, I.ok.inj, I.ok.has, I.ok.cab, (fun z => nomatch z), Around.frames_deeper e0.frames, I.ok.stk, I.ok.exf, I.ok.bs, I.ok.bsz, I.ok.noex, I.ok.exfs, I.ok.funs, I.ok.frf⟩,
    I.os, I.bare, I.base, I.loc, I.cell, I.free, I.freeC, I.pin, I.hok, I.len⟩
theorem Fun.okH {P : Program} {w : World} {K : PySem.W.Frag} {mg : Str → Option Value} {base : Heap} {x qual : Str} {st : Stmt} {f : Addr} {fd : FuncData} {N ps : List Str} {k : Nat} {sp : Sp} (F : Fun K x qual st f fd) (S : FnScope N ps (defScope st)) (len : ∀ vs H Q E, sp vs H Q E → vs.length = ps.length)
    (hbody : ∀ (cdv : Value) (A : Around) (outer : List Env) (s : Shared) (H : Hp) (vs : List V) (Q : VK), RoomH k (A.deeper (envOfC qual (defScope st) s.heap.objs.size f cdv)) → sp vs H Q E0 →
      ∃ t, PSs (cxH P w K mg base N qual (defScope st) f cdv A outer s H) (defBody st) t ∧ t { nx := fun _ H' => Q .non H', rt := Q } (start N vs) H) : FnOkH P w K mg base (k + 1) f fd ps sp := by
  obtain ⟨oc, od, kV, doc, pm, an, cdv, ct, osl, rfl, lk, hcd⟩ := F.ex
  refine ⟨len, fun A outer s H args us vs Q hr e0 hb r hsp => ?_⟩
  have hl := len _ _ _ _ hsp
  have KX : K.In s.heap := e0.mod.kin.keeps fun b o e => (e0.bs b o e).1
  have lim : s.heap.NoLimit := e0.mod.nolimit.keeps fun b o e => (e0.bs b o e).1
  have hkind : ∀ y ∈ ps.zip us, (defScope st).names.lookup y.1 = some .local ∨ ((defScope st).names.lookup y.1 = some .cell ∧ ((cellsFrom (s.heap.objs.size + 1) (defScope st).names []).lookup y.1).isSome = true) := fun ⟨n, v⟩ hy => by
    rcases S.par n (List.of_mem_zip hy).1 with q | q
    · exact .inl q
    · exact .inr ⟨q, PySem.W.cellsFrom_some _ _ _ (.inl q)⟩
  refine codeAny_call_function hr.depth (KX _ _ lk) rfl S.co S.gen rfl (PySem.W.codeRec_of KX hcd) (hb _ _ _ _ ?_)
  refine wpAny_newFunctionEnv_cells S.kind hkind fun env he s1 x => ?_
  subst he
  refine ⟨lim.keeps x.toInCall.keep, codeAny_func ?_⟩
  obtain ⟨t, ht, hq⟩ := hbody cdv A outer s H vs Q (hr.deeper _) hsp
  have I : Inv (cxH P w K mg base N qual (defScope st) f cdv A outer s H) [] (start N vs) H s1 := inv_startH S e0 hl r x
  refine wpAny_mono (ht [] s1 (start N vs) H _ I hq) (fun fl s' hs => ?_) fun e s' hs => False.elim hs
  have fin : ∀ {σ' : St} {H' : Hp} {v : V} {u : Value}, Inv (cxH P w K mg base N qual (defScope st) f cdv A outer s H) [] σ' H' s' → RelV v u → Q v H' → CE outer P w H s Q u s' :=
    fun {σ' H' v u} J rv q => ⟨v, H', J.os, J.bare, J.base, J.hok, rv, q⟩
  cases fl with
  | ret u =>
    obtain ⟨v, σ', H', J, rv, q⟩ := hs
    exact fin J rv q
  | next =>
    obtain ⟨σ', H', J, q⟩ := hs
    exact fin (v := V.non) (u := Value.none) J rfl q
  | brk =>
    obtain ⟨_, _, _, q⟩ := hs
    exact False.elim q
  | cont =>
    obtain ⟨_, _, _, q⟩ := hs
    exact False.elim q
section
variable {X : Cx} {k : Nat} {f C : Addr} {fd : FuncData} {ps : List Str} {sp : Sp} {x : Str} {p pos : Pos} {e : Expr} {es : List Expr} {t : TA}
theorem run_makeH {pins : List (Addr × Obj)} {σ : St} {H : Hp} {s : Shared} {Q : VK} {us : List Value} {vs : List V} (M : Mk X.K C f) (F : FnOkH X.prog X.w X.K X.mg X.base k f fd ps sp) (hr : RoomH (k + 1) X.A) (hb : Binds X.K fd ps [])
    (I : Inv X pins σ H s) (r : Vals vs us)
    (h : ∀ x dx, H x = none → H dx = none → dx ≠ x → sp (.ref x :: vs) (upd (upd H dx (.own x)) x (.ins C dx [])) (fun v H2 => v = .non ∧ Q (.ref x) H2) E0) :
    wpAny (model X.prog X.w) X.A (call (.ref C) us) (EP X pins σ Q) X.xe s := by
  have hq := h (s.heap.objs.size + 1) s.heap.objs.size (I.hok.fresh (Nat.le_succ _)) (I.hok.fresh (Nat.le_refl _)) (Nat.ne_of_lt (Nat.lt_succ_self _))
  have I2 := Inv.made (C := C) I
  have r2 : Vals (V.ref (s.heap.objs.size + 1) :: vs) (Value.ref (s.heap.objs.size + 1) :: us) := .cons rfl r
  have hl : ((Value.ref (s.heap.objs.size + 1) :: us) ++ []).length = ps.length := by
    have e := r2.length
    rw [F.len _ _ _ _ hq] at e
    rw [List.append_nil]
    exact e.symm
  have hbt := hb _ (Value.ref (s.heap.objs.size + 1) :: us) I2.kIn hl
  rw [List.append_nil] at hbt
  refine wpAny_call (make_map (f := f) I.kIn M.makes M.init (beq_iff_eq.mp M.fn) (codeAny_mono (F.run _ X.stack _ _ ⟨Value.ref (s.heap.objs.size + 1) :: us, []⟩ (Value.ref (s.heap.objs.size + 1) :: us) _ _ (hr.make C us [])
    (I2.env0.make C us []) hbt r2 hq) fun r s' hq' => ?_))
  cases r with
  | error e => exact False.elim hq'
  | ok fl =>
    cases fl with
    | ret u =>
      obtain ⟨v, H', I3, rv, ev, q3⟩ := I2.after hq'
      subst ev
      exact ⟨rv, ⟨V.ref (s.heap.objs.size + 1), H', I3, rfl, q3⟩⟩
    | next => exact False.elim hq'
    | brk => exact False.elim hq'
    | cont => exact False.elim hq'
def tMakeH (C : Addr) (sp : Sp) (t : TA) : TE := fun σ H Q => t σ H fun vs H1 => ∀ x dx, H1 x = none → H1 dx = none → dx ≠ x →
  sp (.ref x :: vs) (upd (upd H1 dx (.own x)) x (.ins C dx [])) (fun v H2 => v = .non ∧ Q (.ref x) H2) E0
theorem pe_makeH (M : Mk X.K C f) (F : FnOkH X.prog X.w X.K X.mg X.base k f fd ps sp) (hr : RoomH (k + 1) X.A) (hg : Gl X x) (hm : X.mg x = some (.ref C)) (hb : Binds X.K fd ps [])
    (ha : PA X (e :: es) t) (hdb : (x == ("__debug__" : Str)) = false := by decide) (he : starEach (e :: es) X.env = (false, eval e X.env) :: starEach es X.env := by rfl) (hpl : (backTo pos (starEach es X.env)).any (·.1) = false := by rfl) :
    PE X (.Call (.Name x p) (e :: es) [] pos) (tMakeH C sp t) := by
  intro pins s σ H Q I h
  refine wpAny_Call_Name_kw (ld_glob I hg hm ?_ hdb)
  refine PySem.W.callWith_K (h₀ := X.base) I.ok.mod.kin M.kp (thn (ha pos pins s σ H _ I h) fun us s1 ⟨vs, H1, I1, r, q⟩ => ⟨I1.kIn, ?_⟩) he hpl
  exact run_makeH M F hr hb I1 r q
end
end L2

set_option Elab.async false
set_option linter.all false
set_option maxRecDepth 100000
/-! enumerate over a tuple, and over a list or a tuple. -/
namespace L2
open PySem PySem.Spec PyProof.Rows
section
variable {prog : Program} {w : World} {A : Around} {E : Value → Shared → Prop} {s : Shared}
/-- the step of a tuple's iterator, as enumerate asks for it -/
theorem nx_tup {it t : Addr} {i : Nat} {items : Array Value} {x : Value} {Q : Value → Shared → Prop} (hit : s.heap.IsTupleIter it t i) (ht : s.heap.IsTuple t items) (hx : items[i]? = some x)
    (hQ : ∀ h', h'.IsTupleIter it t (i + 1) → Heap.SameBut it s.heap h' → Q x { s with heap := h' }) : wpAny (model prog w) A (Builtin.SmallTypes.nextOf (.ref it)) Q E s := by
  obtain ⟨⟨o, ho, hc, hd⟩, ol, hol, _, nl, hdl⟩ := And.intro hit ht
  unfold Builtin.SmallTypes.nextOf
  refine wpAny_bind (wpAny_callSpecial?_slot (name := Str.ofString "__next__") hit.typeIs F.slot_tuple_iterator_next (wpAny_call_entry F.slot_tuple_iterator_next hit.typeIs F.entry_tuple_iterator_next ?_ (F.args_tuple_iterator_next_1 _)))
  show wpAny _ _ (field (.ref it) 0 >>= _) _ _ s; refine wpAny_bind (wpAny_field ho hd (x := .ref t) rfl ?_)
  show wpAny _ _ (if (Value.ref t == Value.none) = true then _ else _) _ _ s; rw [if_neg (by exact Bool.false_ne_true)]
  show wpAny _ _ (field (.ref it) 1 >>= _) _ _ s; refine wpAny_bind (wpAny_field ho hd (x := .int i 0) rfl ?_)
  show wpAny _ _ (seqItems? (.ref t) >>= _) _ _ s; refine wpAny_bind (wpAny_seqItems hol hdl ?_); simp only [Int.toNat_natCast, hx]
  refine wpAny_bind (wpAny_setField ho hd (by simp) (wpAny_pure ⟨x, rfl, wpAny_pure (hQ _ ⟨_, Heap.get?_update_self _ ho (Obj.isFreed_of_fields (Obj.data_mapFields hd _)), (Obj.cls_mapFields ..).trans hc, ?_⟩ (Heap.SameBut.update ..))⟩))
  rw [Obj.data_mapFields hd]; simp [rawInt]
theorem nx_tup_end {it t : Addr} {i : Nat} {items : Array Value} {Q : Value → Shared → Prop} (hh : A.handled = none) (hit : s.heap.IsTupleIter it t i) (ht : s.heap.IsTuple t items) (hx : items[i]? = none)
    (hE : ∀ h' e, Heap.ExtBut it s.heap h' → (∃ o, h'.get? e = some o ∧ o.cls = .type "StopIteration") → E (.ref e) { s with heap := h' }) : wpAny (model prog w) A (Builtin.SmallTypes.nextOf (.ref it)) Q E s := by
  obtain ⟨⟨o, ho, hc, hd⟩, ol, hol, _, nl, hdl⟩ := And.intro hit ht
  unfold Builtin.SmallTypes.nextOf
  refine wpAny_bind (wpAny_callSpecial?_slot (name := Str.ofString "__next__") hit.typeIs F.slot_tuple_iterator_next (wpAny_call_entry F.slot_tuple_iterator_next hit.typeIs F.entry_tuple_iterator_next ?_ (F.args_tuple_iterator_next_1 _)))
  show wpAny _ _ (field (.ref it) 0 >>= _) _ _ s; refine wpAny_bind (wpAny_field ho hd (x := .ref t) rfl ?_)
  show wpAny _ _ (if (Value.ref t == Value.none) = true then _ else _) _ _ s; rw [if_neg (by exact Bool.false_ne_true)]
  show wpAny _ _ (field (.ref it) 1 >>= _) _ _ s; refine wpAny_bind (wpAny_field ho hd (x := .int i 0) rfl ?_)
  show wpAny _ _ (seqItems? (.ref t) >>= _) _ _ s; refine wpAny_bind (wpAny_seqItems hol hdl ?_); simp only [Int.toNat_natCast, hx]
  refine wpAny_bind (wpAny_rule (wpAny_bind (wpAny_setField ho hd (by simp) ?_))); show wpAny _ _ (newExc (.type "StopIteration") [] >>= _) _ _ _
  refine wpAny_bind ?_; simp only [newExc, newTuple]; refine wpAny_bind (wpAny_newObj_type ?_ (by size_fits))
  refine wpAny_bind (m := firstArgMember _ _) (wpAny_of_eq (a := Value.none) (by first | rfl | (simp only [firstArgMember]; rfl)) (wpAny_newObj_type ?_ (by size_fits)))
  simp only [raiseNew]; refine wpAny_bind (wpAny_handled ?_); first | rw [show A.in1.handled = none from hh] | rw [hh]
  exact wpAny_bind (wpAny_pure (wpAny_throw (hE _ _ (((Heap.SameBut.update ..).extBut.push _).push _) ⟨_, Heap.get?_push_size _ rfl, rfl⟩)))
end
theorem drawsT {prog : Program} {w : World} {A : Around} (hh : A.handled = none) (it t : Addr) (hne : t ≠ it) (items : Array Value) : Draws prog w A it [it, t] items.size (fun i v => items[i]? = some v) (fun i h => h.IsTupleIter it t i ∧ h.IsTuple t items) where
  live := fun _ _ st => let ⟨o, ho, _⟩ := st.1; ⟨o, ho⟩
  frame := fun _ _ _ st hk => ⟨st.1.at fun o e => hk it (by simp) o e, let ⟨o, ho, r⟩ := st.2; ⟨o, hk t (by simp) o ho, r⟩⟩
  item := fun i s Q E hi st hQ => nx_tup st.1 st.2 (x := items[i]) (by simp [hi]) fun h' hit' hs' => hQ _ h' s.toks (by simp [hi]) ⟨hit', st.2.extBut hs'.extBut hne⟩ hs'
  done := fun s Q E st hE => nx_tup_end hh st.1 st.2 (by simp) hE
/-- the making of it -/
theorem enum_newT (l : Addr) (items : Array Value) (n : Nat) (dct : Option Addr) (sl : Array (Option Value)) :
    Meets (Builtin.«enumerate.__new__» ⟨[.type "enumerate", .ref l], []⟩) (fun _ R s => s.heap.get? l = some { cls := .type "tuple", dict := dct, data := .seq items n, slots := sl } ∧
      R (.ok (.ret (.ref (s.heap.push { cls := .type "tuple_iterator", data := .fields #[.ref l, .int 0 0] }).objs.size)))
        { s with heap := (s.heap.push { cls := .type "tuple_iterator", data := .fields #[.ref l, .int 0 0] }).push { cls := .type "enumerate", data := .fields #[.none, .bool false, .ref s.heap.objs.size, rawInt 0, .none, .none] } }) :=
  .of_wp fun prog w A R ⟨hp, g, d, tk, os⟩ ⟨hl, h⟩ => by
    have hsub := sub_enumerate; have hT : Heap.IsTuple (Shared.heap ⟨hp, g, d, tk, os⟩) l items := ⟨_, hl, rfl, n, rfl⟩
    wp_walk using AutoSeq1.wpAny_loadPart' hl
    refine wpAny_stack_any fun st => wpAny_pure ?_; split
    · rename_i ty _ _ _ _ _
      cases (ty == Value.type "enumerate") <;> (wp_walk using AutoSeq1.wpAny_loadPart' hl, wpAny_pyIter_tuple hT; exact ⟨_, rfl, h⟩)
    · wp_walk using AutoSeq1.wpAny_loadPart' hl, wpAny_pyIter_tuple hT; exact ⟨_, rfl, h⟩
theorem call_enumT {prog : Program} {w : World} {A : Around} {E : Value → Shared → Prop} {s : Shared} {l : Addr} {items : Array Value} {Q : Value → Shared → Prop} (hT : s.heap.IsTuple l items)
    (h : ∀ h', IsEnum h' (s.heap.objs.size + 1) s.heap.objs.size 0 .none → h'.IsTupleIter s.heap.objs.size l 0 → (∀ b o, s.heap.get? b = some o → h'.get? b = some o) → Q (.ref (s.heap.objs.size + 1)) { s with heap := h' }) :
    wpAny (model prog w) A (call (.type "enumerate") [.ref l]) Q E s := by
  obtain ⟨⟨ty, dct, dt, sl⟩, hl, hc, n, hd⟩ := hT
  obtain ⟨rfl, rfl⟩ : ty = .type "tuple" ∧ dt = .seq items n := ⟨hc, hd⟩
  refine callType_new F.called_enumerate (by decide) (F.typeCall_enumerate_1 _) (F.newCall_enumerate_1 _) (fun obj => F.args_object_init_2 obj _) F.entry_enumerate_new (enum_newT l items n dct sl) ⟨hl, ?_⟩
  have hz : (s.heap.push { cls := .type "tuple_iterator", data := .fields #[.ref l, .int 0 0] }).objs.size = s.heap.objs.size + 1 := Heap.size_push ..
  show _ ∧ _; rw [hz]
  have he := Heap.get?_push_size (s.heap.push { cls := .type "tuple_iterator", data := .fields #[.ref l, .int 0 0] }) (o := { cls := .type "enumerate", data := .fields #[.none, .bool false, .ref s.heap.objs.size, rawInt 0, .none, .none] }) rfl
  rw [hz] at he
  exact ⟨⟨_, he, rfl⟩, h _ he ⟨_, Heap.get?_push_of_some _ (Heap.get?_push_size _ rfl), rfl, rfl⟩ fun b o x => Heap.get?_push_of_some _ (Heap.get?_push_of_some _ x)⟩
/-- the tuple at a, each item in a new pair -/
def IteT (K : PySem.W.Frag) (a : Addr) : It :=
  ⟨fun i H => ∃ (xs : List V) (x : V), SqT K H a xs ∧ xs[i]? = some x, fun i H v H' => ∃ T x, v = .ref T ∧ H T = none ∧ H' = upd H T (.tup [.int (i : Nat), x]) ∧ ∀ xs, SqT K H a xs → xs[i]? = some x, fun i H => ∃ xs : List V, SqT K H a xs ∧ xs.length = i⟩
theorem turn_enumT {P : Program} {w : World} {K : PySem.W.Frag} {elts : List Expr} {kk : Nat} {tpos : Pos} (a e it : Addr) :
    Turn P w K (.Tuple elts kk tpos) (IteT K a) [e, it] e (fun i h => (∃ old, IsEnum h e it ((i : Nat) : Int) old) ∧ h.IsTupleIter it a i ∧ e ≠ it ∧ a ≠ it ∧ a ≠ e) where
  mem := by simp
  obj := fun i h st b hb => by
    obtain ⟨⟨old, he⟩, ⟨o, ho, hc, hd⟩, _⟩ := st
    rcases (show b = e ∨ b = it by simpa using hb) with z | z
    · rw [z]; exact ⟨_, he, fun v q => nomatch q⟩
    · rw [z]; exact ⟨o, ho, fun v q => by rw [hd] at q; cases q⟩
  keep := fun i h h' st k => let ⟨⟨old, he⟩, hi, hne⟩ := st; ⟨⟨old, k e (by simp) _ he⟩, hi.at fun o q => k it (by simp) o q, hne⟩
  item := by
    intro X hP hw hK hc i pins s σ H E I hf st hg
    subst hP hw hK
    obtain ⟨⟨old, he⟩, hit, hne, hai, hae⟩ := st
    obtain ⟨xs, x, hq, hx⟩ := hg
    obtain ⟨its, rv, p, hz⟩ := I.tuple hq
    have hil : it < s.heap.objs.size := by obtain ⟨_, q, _⟩ := hit; exact Heap.lt_size q
    have hlt : i < its.toArray.size := by
      rw [List.size_toArray, ← rv.length]
      exact (List.getElem?_eq_some_iff.mp hx).1
    have D := drawsT (prog := X.prog) (w := X.w) (A := X.A.in1) (by exact I.ok.hd hc) it a hai its.toArray
    refine wpAny_pyNext_enum_itemD D he ⟨hit, p⟩ hlt hne (fun z => ?_) fun u h' tk hu ho st' hT hsz hk => ?_
    · rcases (show e = it ∨ e = a by simpa using z) with q | q
      · exact hne q
      · exact hae q.symm
    obtain ⟨x', hx', ru⟩ : ∃ x', xs[i]? = some x' ∧ RelV x' u := by
      obtain ⟨u', e1, e2⟩ := rv.get hx
      have e3 : its[i]? = some u := by simpa using hu
      rw [e1] at e3
      cases e3
      exact ⟨x, hx, e2⟩
    rw [hx] at hx'
    cases hx'
    refine ⟨_, rfl, wpAny_letOwnedTupleGo_enum (s := { s with heap := h', toks := tk + 1 }) ho fun h'' he' sb => ?_⟩
    have hel : e < s.heap.objs.size := Heap.lt_size he
    have hT2 : h''.get? s.heap.objs.size = some { cls := .type "tuple", data := .seq #[.int i tk, u] } := (sb.2 _ (Nat.ne_of_gt hel)).trans hT
    have new : ObjOk X.prog X.w (upd H s.heap.objs.size (.tup [.int (i : Nat), x])) h'' s.heap.objs.size (.tup [.int (i : Nat), x]) :=
      ⟨by show 2 ≤ sizeLine; decide, [.int i tk, u], .cons ⟨_, rfl⟩ (.cons ru .nil), ⟨_, hT2, rfl, _, rfl⟩⟩
    have I1 : Inv X pins σ (upd H s.heap.objs.size (.tup [.int (i : Nat), x])) { s with heap := h'', toks := tk + 1 } :=
      I.turnedNew (ch := [e, it]) (fun b ob hb q => (sb.2 b (fun z => hb (by simp [z]))).trans (hk b ob (fun z => hb (by simp [z])) (fun z => hb (by simp [z])) q)) hf (Nat.le_refl _) new
    refine ⟨.ref s.heap.objs.size, _, I1, rfl, ⟨_, x, rfl, I.hok.fresh (Nat.le_refl _), rfl, fun ys hy => by rw [I.tuple_inj hy hq]; exact hx⟩, ⟨⟨u, ?_⟩, st'.1.at fun o q => (sb.2 it (Ne.symm hne)).trans q, hne, hai, hae⟩, fun b hb => ?_⟩
    · have e1 : ((i + 1 : Nat) : Int) = (i : Int) + 1 := by omega
      rw [e1]; exact he'
    · have hb' : b < s.heap.objs.size := by
        rcases (show b = e ∨ b = it by simpa using hb) with z | z
        · rw [z]; exact hel
        · rw [z]; exact hil
      rw [upd_ne (Nat.ne_of_lt hb')]
      exact (hf b hb).1
  done := by
    intro X hP hw hK hc i pins s σ H E I hf st hg
    subst hP hw hK
    obtain ⟨⟨old, he⟩, hit, hne, hai, hae⟩ := st
    obtain ⟨xs, hq, hx⟩ := hg
    obtain ⟨its, rv, p, hz⟩ := I.tuple hq
    obtain ⟨f0, f1, f2, f3, f4, f5⟩ := hf it (by simp)
    have D := drawsT (prog := X.prog) (w := X.w) (A := X.A.in1) (by exact I.ok.hd hc) it a hai its.toArray
    have hn : its.toArray.size = i := by rw [List.size_toArray, ← rv.length]; exact hx
    refine wpAny_pyNext_enum_endD D he (by rw [hn]; exact ⟨hit, p⟩) fun h' eb => ⟨rfl, I.turned (t' := s.toks) (fun b o hb q => eb b o hb q) f0 f1 f3 f4 f5⟩
  self := fun A i s Q E st h => let ⟨⟨_, he⟩, _⟩ := st; wpAny_pyIter_enum he h
def iEnumT (K : PySem.W.Frag) (ta : TA) : TI := fun σ H R => ta σ H fun vs H1 => ∃ a xs, vs = [.ref a] ∧ SqT K H1 a xs ∧ R (IteT K a) H1
theorem pi_enumT {X : Cx} {e : Expr} {ta : TA} {p pos tpos : Pos} {elts : List Expr} {kk : Nat} (hg : Gl X "enumerate") (hm : X.mg "enumerate" = none) (ha : PA X [e] ta) (hs : starEach [e] X.env = [(false, eval e X.env)] := by rfl) :
    PI X (.Tuple elts kk tpos) (.Call (.Name "enumerate" p) [e] [] pos) (iEnumT X.K ta) := by
  intro pins s σ H R I h
  refine Call_ (ld_blt I hg hm boot_enumerate (PyProof.Rows.callWith_type1 (thn (ha pos pins s σ H _ I h) fun us s1 ⟨vs, H1, I1, r1, q1⟩ => ?_) hs rfl))
  obtain ⟨a, xs, ex, hq, q⟩ := q1
  subst ex
  cases r1 with
  | cons r rr =>
    cases rr
    cases r
    obtain ⟨its, rv, p', hz⟩ := I1.tuple hq
    have hal : a < s1.heap.objs.size := by obtain ⟨_, q, _⟩ := p'; exact Heap.lt_size q
    refine call_enumT p' fun h' he hit hk => wpAny_pyIter_enum he ?_
    have I2 : Inv X pins σ H1 { s1 with heap := h' } := I1.kept (t' := s1.toks) hk
    refine ⟨s1.heap.objs.size + 1, [s1.heap.objs.size + 1, s1.heap.objs.size], _, _, H1, rfl, I2, turn_enumT a (s1.heap.objs.size + 1) s1.heap.objs.size, ⟨⟨.none, he⟩, hit, Nat.succ_ne_self _, Nat.ne_of_lt hal, Nat.ne_of_lt (Nat.lt_succ_of_lt hal)⟩, fun b hb => ?_, q⟩
    have hle : s1.heap.objs.size ≤ b := by
      rcases (show b = s1.heap.objs.size + 1 ∨ b = s1.heap.objs.size by simpa using hb) with z | z
      · rw [z]; exact Nat.le_add_right _ _
      · rw [z]; exact Nat.le_refl _
    exact I1.fpOk hle (I1.hok.fresh hle)
theorem PI.or {X : Cx} {tg iter : Expr} {wi wi' : TI} (h : PI X tg iter wi) (h' : PI X tg iter wi') : PI X tg iter (fun σ H R => wi σ H R ∨ wi' σ H R) := fun pins s σ H R I q => by
  rcases q with q | q
  · exact h pins s σ H R I q
  · exact h' pins s σ H R I q
/-- the turns, over a list and over a tuple that the body leaves as it is -/
theorem for_enumL {K : PySem.W.Frag} {a : Addr} {xs : List V} {g : TG} {tb : TS} {D : Ends} {σ : St} {H : Hp} (Pv : Nat → St → Hp → Prop) (h0 : Pv 0 σ H) (hl : ∀ i σ H, i ≤ xs.length → Pv i σ H → SqL K H a xs)
    (hs : ∀ i x σ H T, xs[i]? = some x → Pv i σ H → H T = none → g (.ref T) σ (upd H T (.tup [.int (i : Nat), x])) fun σ2 H2 => tb { D with nx := Pv (i + 1), ct := Pv (i + 1), bk := D.nx } σ2 H2) (hd : ∀ σ H, Pv xs.length σ H → D.nx σ H) :
    ∃ W : Nat → Nat → St → Hp → Prop, (∃ m, W 0 m σ H) ∧ ∀ i m σ H, W i m σ H →
      ((Ite K a).stop i H ∧ D.nx σ H) ∨ ((Ite K a).go i H ∧ ∃ N : St → Hp → Prop, (∀ σ' H', N σ' H' → ∃ m', m' < m ∧ W (i + 1) m' σ' H') ∧ ∀ x H', (Ite K a).yld i H x H' → g x σ H' fun σ2 H2 => tb { D with nx := N, ct := N, bk := D.nx } σ2 H2) := by
  refine ⟨fun i m σ H => m = xs.length - i ∧ i ≤ xs.length ∧ Pv i σ H, ⟨xs.length, by simp, Nat.zero_le _, h0⟩, ?_⟩
  rintro i m σ H ⟨rfl, hi, p⟩
  have q := hl i σ H hi p
  by_cases hlt : i < xs.length
  · refine .inr ⟨⟨xs, xs[i], q, by simp [hlt]⟩, Pv (i + 1), fun σ' H' p' => ⟨xs.length - (i + 1), by omega, rfl, hlt, p'⟩, fun x H' y => ?_⟩
    obtain ⟨T, x', rfl, hT, rfl, y⟩ := y
    exact hs i x' σ H T (y xs q) p hT
  · obtain rfl : i = xs.length := by omega
    exact .inl ⟨⟨xs, q, Nat.le_refl _⟩, hd σ H p⟩
theorem for_enumT {K : PySem.W.Frag} {a : Addr} {xs : List V} {g : TG} {tb : TS} {D : Ends} {σ : St} {H : Hp} (Pv : Nat → St → Hp → Prop) (h0 : Pv 0 σ H) (hl : ∀ i σ H, i ≤ xs.length → Pv i σ H → SqT K H a xs)
    (hs : ∀ i x σ H T, xs[i]? = some x → Pv i σ H → H T = none → g (.ref T) σ (upd H T (.tup [.int (i : Nat), x])) fun σ2 H2 => tb { D with nx := Pv (i + 1), ct := Pv (i + 1), bk := D.nx } σ2 H2) (hd : ∀ σ H, Pv xs.length σ H → D.nx σ H) :
    ∃ W : Nat → Nat → St → Hp → Prop, (∃ m, W 0 m σ H) ∧ ∀ i m σ H, W i m σ H →
      ((IteT K a).stop i H ∧ D.nx σ H) ∨ ((IteT K a).go i H ∧ ∃ N : St → Hp → Prop, (∀ σ' H', N σ' H' → ∃ m', m' < m ∧ W (i + 1) m' σ' H') ∧ ∀ x H', (IteT K a).yld i H x H' → g x σ H' fun σ2 H2 => tb { D with nx := N, ct := N, bk := D.nx } σ2 H2) := by
  refine ⟨fun i m σ H => m = xs.length - i ∧ i ≤ xs.length ∧ Pv i σ H, ⟨xs.length, by simp, Nat.zero_le _, h0⟩, ?_⟩
  rintro i m σ H ⟨rfl, hi, p⟩
  have q := hl i σ H hi p
  by_cases hlt : i < xs.length
  · refine .inr ⟨⟨xs, xs[i], q, by simp [hlt]⟩, Pv (i + 1), fun σ' H' p' => ⟨xs.length - (i + 1), by omega, rfl, hlt, p'⟩, fun x H' y => ?_⟩
    obtain ⟨T, x', rfl, hT, rfl, y⟩ := y
    exact hs i x' σ H T (y xs q) p hT
  · obtain rfl : i = xs.length := by omega
    exact .inl ⟨⟨xs, q, rfl⟩, hd σ H p⟩
end L2

namespace Gif
open Sw22

/-! ### front -/
theorem front_some {n : Nat} {l : Bytes} (h : n ≤ l.length) : front n l = some (l.take n, l.drop n) := if_pos h
theorem front_none {n : Nat} {l : Bytes} (h : l.length < n) : front n l = none := if_neg (Nat.not_le_of_lt h)
theorem front_len {n : Nat} {l : Bytes} {x : Bytes × Bytes} (h : front n l = some x) : x.1.length = n ∧ x.2.length + n = l.length ∧ x.1 = l.take n ∧ x.2 = l.drop n := by
  unfold front at h
  split at h
  · rename_i q
    cases h
    refine ⟨?_, ?_, rfl, rfl⟩
    · rw [List.length_take]; omega
    · rw [List.length_drop]; omega
  · cases h

/-! ### blocks -/
theorem blocks_len : ∀ (f : Nat) (l : Bytes) (y : List Bytes × Bytes), blocks f l = some y → y.2.length < l.length
  | 0, _, _, h => by simp [blocks] at h
  | f + 1, [], _, h => by simp [blocks] at h
  | f + 1, n :: r, y, h => by
    rw [blocks] at h
    split at h
    · cases h; simp
    · cases q : front n r with
      | none => rw [q] at h; simp at h
      | some x =>
        rw [q] at h
        simp only [Option.bind_some, Option.map_eq_some_iff] at h
        obtain ⟨z, hz, rfl⟩ := h
        have := blocks_len f x.2 z hz
        have := (front_len q).2.1
        simp only [List.length_cons]; omega
theorem blocks_fuel : ∀ (f g : Nat) (l : Bytes), l.length < f → l.length < g → blocks f l = blocks g l
  | 0, _, _, h, _ => absurd h (Nat.not_lt_zero _)
  | _ + 1, 0, _, _, h => absurd h (Nat.not_lt_zero _)
  | f + 1, g + 1, [], _, _ => by simp [blocks]
  | f + 1, g + 1, n :: r, h1, h2 => by
    rw [blocks, blocks]
    split
    · rfl
    · cases q : front n r with
      | none => rfl
      | some x =>
        have := (front_len q).2.1
        simp only [List.length_cons] at h1 h2
        simp only [Option.bind_some]
        rw [blocks_fuel f g x.2 (by omega) (by omega)]
/-- blocks, without the number that sees to an end -/
def blk (l : Bytes) : Option (List Bytes × Bytes) := blocks (l.length + 1) l
theorem blk_nil : blk [] = none := by simp [blk, blocks]
theorem blk_zero (r : Bytes) : blk (0 :: r) = some ([], r) := by simp [blk, blocks]
theorem blk_cons {n : Nat} {r : Bytes} (hn : n ≠ 0) : blk (n :: r) = (front n r).bind fun x => (blk x.2).map fun y => (x.1 :: y.1, y.2) := by
  unfold blk
  rw [blocks]
  rw [if_neg hn]
  cases q : front n r with
  | none => rfl
  | some x =>
    have := (front_len q).2.1
    simp only [Option.bind_some]
    rw [blocks_fuel (n :: r).length (x.2.length + 1) x.2 (by simp only [List.length_cons]; omega) (by omega)]
theorem blk_of (f : Nat) (l : Bytes) (h : l.length < f) : blocks f l = blk l := blocks_fuel f _ l h (Nat.lt_succ_self _)
theorem blk_len {l : Bytes} {y : List Bytes × Bytes} (h : blk l = some y) : y.2.length < l.length := blocks_len _ _ _ h

/-! ### a table, a picture -/
theorem table_len {f : Nat} {l : Bytes} {t : Option Bytes × Bytes} (h : table f l = some t) : t.2.length ≤ l.length := by
  unfold table at h
  split at h
  · simp only [Option.map_eq_some_iff] at h
    obtain ⟨x, hx, rfl⟩ := h
    have := (front_len hx).2.1
    show x.2.length ≤ _
    omega
  · cases h; exact Nat.le_refl _
theorem picture_len {w h : Nat} {g : Option Bytes} {nt : Note} {l : Bytes} {p : Picture × Bytes} (q : picture w h g nt l = some p) : p.2.length < l.length := by
  unfold picture at q
  simp only [Option.bind_eq_some_iff] at q
  obtain ⟨x, hx, t, ht, q⟩ := q
  have h1 := (front_len hx).2.1
  have h2 := table_len ht
  split at q
  · cases q
  · simp only [Option.bind_eq_some_iff] at q
    obtain ⟨c, _, q⟩ := q
    split at q
    · rename_i s r hr
      split at q
      · simp only [Option.map_eq_some_iff] at q
        obtain ⟨b, hb, rfl⟩ := q
        have h3 := blk_len (l := r) hb
        rw [hr] at h2
        simp only [List.length_cons] at h2
        show b.2.length < _
        omega
      · cases q
    · cases q

/-! ### parts -/
theorem parts_cons {w h : Nat} {gl : Option Bytes} {f c : Nat} {nt : Note} {r : Bytes} : parts w h gl (f + 1) nt (c :: r) =
    if c = 0x3B then some ([], r)
    else if c = 0x21 then (match r with
      | kind :: s => (blocks (s.length + 1) s).bind fun b =>
        if kind = 0xF9 then (match b.1 with
          | [x] => if x.length = 4 then parts w h gl f (x.getD 0 0, two (x.drop 1), x.getD 3 0) b.2 else none
          | _ => none)
        else parts w h gl f nt b.2
      | [] => none)
    else if c = 0x2C then (picture w h gl nt r).bind fun p => (parts w h gl f (0, 0, 0) p.2).map fun y => (p.1 :: y.1, y.2)
    else none := by rw [parts.eq_def]; rfl
theorem parts_fuel {w h : Nat} {gl : Option Bytes} : ∀ (f g : Nat) (nt : Note) (l : Bytes), l.length < f → l.length < g → parts w h gl f nt l = parts w h gl g nt l
  | 0, _, _, _, h, _ => absurd h (Nat.not_lt_zero _)
  | _ + 1, 0, _, _, _, h => absurd h (Nat.not_lt_zero _)
  | f + 1, g + 1, nt, [], _, _ => by simp [parts]
  | f + 1, g + 1, nt, c :: r, h1, h2 => by
    simp only [List.length_cons] at h1 h2
    rw [parts_cons, parts_cons]
    split
    · rfl
    · split
      · cases r with
        | nil => rfl
        | cons kind s =>
          dsimp only
          simp only [List.length_cons] at h1 h2
          cases q : blocks (s.length + 1) s with
          | none => rfl
          | some b =>
            have := blocks_len _ _ _ q
            simp only [Option.bind_some]
            split
            · split
              · split
                · rw [parts_fuel f g _ b.2 (by omega) (by omega)]
                · rfl
              · rfl
            · rw [parts_fuel f g _ b.2 (by omega) (by omega)]
      · split
        · cases q : picture w h gl nt r with
          | none => rfl
          | some p =>
            have := picture_len q
            simp only [Option.bind_some]
            rw [parts_fuel f g _ p.2 (by omega) (by omega)]
        · rfl
/-- parts, without the number that sees to an end -/
def prt (w h : Nat) (gl : Option Bytes) (nt : Note) (l : Bytes) : Option (List Picture × Bytes) := parts w h gl (l.length + 1) nt l
theorem prt_of {w h : Nat} {gl : Option Bytes} {nt : Note} (f : Nat) (l : Bytes) (q : l.length < f) : parts w h gl f nt l = prt w h gl nt l := parts_fuel f _ nt l q (Nat.lt_succ_self _)
section
variable {w h : Nat} {gl : Option Bytes} {nt : Note}
theorem prt_nil : prt w h gl nt [] = none := by simp [prt, parts]
theorem prt_last (r : Bytes) : prt w h gl nt (0x3B :: r) = some ([], r) := by simp [prt, parts]
theorem prt_note0 : prt w h gl nt [0x21] = none := by simp [prt, parts]
/-- what a note makes of what is known for the next picture -/
def noteOf (kind : Nat) (bs : List Bytes) (nt : Note) : Option Note :=
  if kind = 0xF9 then (match bs with
    | [x] => if x.length = 4 then some (x.getD 0 0, two (x.drop 1), x.getD 3 0) else none
    | _ => none)
  else some nt
theorem prt_note (kind : Nat) (s : Bytes) : prt w h gl nt (0x21 :: kind :: s) = (blk s).bind fun b => (noteOf kind b.1 nt).bind fun nt' => prt w h gl nt' b.2 := by
  unfold prt
  rw [parts_cons]
  rw [if_neg (by decide), if_pos rfl]
  show (blk s).bind _ = _
  cases q : blk s with
  | none => rfl
  | some b =>
    have := blk_len q
    simp only [Option.bind_some]
    unfold noteOf
    split
    · split
      · split
        · simp only [Option.bind_some, List.length_cons]
          exact parts_fuel _ _ _ _ (by omega) (by omega)
        · rfl
      · rfl
    · simp only [Option.bind_some, List.length_cons]
      exact parts_fuel _ _ _ _ (by omega) (by omega)
theorem prt_picture (r : Bytes) : prt w h gl nt (0x2C :: r) = (picture w h gl nt r).bind fun p => (prt w h gl (0, 0, 0) p.2).map fun y => (p.1 :: y.1, y.2) := by
  unfold prt
  rw [parts_cons]
  rw [if_neg (by decide), if_neg (by decide), if_pos rfl]
  cases q : picture w h gl nt r with
  | none => rfl
  | some p =>
    have := picture_len q
    simp only [Option.bind_some, List.length_cons]
    rw [parts_fuel (r.length + 1) (p.2.length + 1) _ p.2 (by omega) (by omega)]
theorem prt_other {c : Nat} {r : Bytes} (h1 : c ≠ 0x3B) (h2 : c ≠ 0x21) (h3 : c ≠ 0x2C) : prt w h gl nt (c :: r) = none := by
  unfold prt
  rw [parts_cons]
  rw [if_neg h1, if_neg h2, if_neg h3]
end
end Gif

namespace Gif
open Sw22

/-! ### the reader's steps over what is left of the bytes -/
def byte : Bytes → Option (Nat × Bytes)
  | [] => none
  | b :: r => some (b, r)
def pair : Bytes → Option (Nat × Bytes)
  | b :: c :: r => some (b + 256 * c, r)
  | _ => none
def skip (n : Nat) (l : Bytes) : Option Bytes := if n ≤ l.length then some (l.drop n) else none
def skipTable (f : Nat) (l : Bytes) : Option Bytes := if 128 ≤ f then skip (3 * (2 * 2 ^ (f % 8))) l else some l
theorem pair_byte (l : Bytes) : pair l = (byte l).bind fun x => (byte x.2).bind fun y => some (x.1 + 256 * y.1, y.2) := by
  rcases l with _ | ⟨b, _ | ⟨c, r⟩⟩ <;> rfl
theorem skip_front (n : Nat) (l : Bytes) : skip n l = (front n l).map (·.2) := by
  unfold skip front
  split <;> rfl
theorem skipTable_table (f : Nat) (l : Bytes) : skipTable f l = (table f l).map (·.2) := by
  have e : 3 * (2 * 2 ^ (f % 8)) = 3 * 2 ^ (1 + f % 8) := by rw [Nat.pow_add, Nat.pow_one]
  unfold skipTable table
  split
  · rw [skip_front, e, Option.map_map]
    rfl
  · rfl
theorem table_isSome {f : Nat} {l : Bytes} {t : Option Bytes × Bytes} (h : table f l = some t) : t.1.isSome = decide (128 ≤ f) := by
  unfold table at h
  split at h
  · rename_i q
    simp only [Option.map_eq_some_iff] at h
    obtain ⟨x, _, rfl⟩ := h
    simp [q]
  · rename_i q
    cases h
    simp [q]
/-- one way along the screen -/
def edge (s e room : Nat) : Bool := decide (1 ≤ e) && decide (s + e ≤ room)

/-- a picture behind its first byte: what is left behind it -/
def mPicture (W H : Nat) (has : Bool) (l : Bytes) : Option Bytes :=
  (pair l).bind fun a => (pair a.2).bind fun b => (pair b.2).bind fun c => if edge a.1 c.1 W = true then (pair c.2).bind fun d => if edge b.1 d.1 H = true then
    (byte d.2).bind fun q => if (decide (128 ≤ q.1) || has) = true then (skipTable q.1 q.2).bind fun t => (byte t).bind fun s => if 2 ≤ s.1 ∧ s.1 ≤ 8 then (blk s.2).map (·.2) else none else none
    else none else none
theorem short9 {l : Bytes} {W H : Nat} {gl : Option Bytes} {nt : Note} (h : l.length < 9) : picture W H gl nt l = none := by
  unfold picture
  rw [front_none h]
  rfl
theorem front9 (b0 b1 b2 b3 b4 b5 b6 b7 b8 : Nat) (r : Bytes) : front 9 (b0 :: b1 :: b2 :: b3 :: b4 :: b5 :: b6 :: b7 :: b8 :: r) = some ([b0, b1, b2, b3, b4, b5, b6, b7, b8], r) := by
  rw [front_some (by simp only [List.length_cons]; omega)]
  rfl
theorem edge_iff (a b c d W H : Nat) : (edge a c W = true ∧ edge b d H = true) ↔ ¬ (c = 0 ∨ d = 0 ∨ W < a + c ∨ H < b + d) := by
  unfold edge
  simp only [Bool.and_eq_true, decide_eq_true_eq]
  omega
theorem mPicture_eq (W H : Nat) (gl : Option Bytes) (nt : Note) (l : Bytes) : mPicture W H gl.isSome l = (picture W H gl nt l).map (·.2) := by
  rcases l with _ | ⟨b0, _ | ⟨b1, _ | ⟨b2, _ | ⟨b3, _ | ⟨b4, _ | ⟨b5, _ | ⟨b6, _ | ⟨b7, _ | ⟨b8, r⟩⟩⟩⟩⟩⟩⟩⟩⟩
  case cons.cons.cons.cons.cons.cons.cons.cons.cons =>
    have two0 : two [b0, b1, b2, b3, b4, b5, b6, b7, b8] = b0 + 256 * b1 := rfl
    have two2 : two ([b0, b1, b2, b3, b4, b5, b6, b7, b8].drop 2) = b2 + 256 * b3 := rfl
    have two4 : two ([b0, b1, b2, b3, b4, b5, b6, b7, b8].drop 4) = b4 + 256 * b5 := rfl
    have two6 : two ([b0, b1, b2, b3, b4, b5, b6, b7, b8].drop 6) = b6 + 256 * b7 := rfl
    have get8 : [b0, b1, b2, b3, b4, b5, b6, b7, b8].getD 8 0 = b8 := rfl
    unfold picture
    rw [front9]
    simp only [Option.bind_some, two0, two2, two4, two6, get8]
    unfold mPicture
    simp only [pair, byte, Option.bind_some, skipTable_table]
    have ed := edge_iff (b0 + 256 * b1) (b2 + 256 * b3) (b4 + 256 * b5) (b6 + 256 * b7) W H
    by_cases h1 : edge (b0 + 256 * b1) (b4 + 256 * b5) W = true
    · rw [if_pos h1]
      by_cases h2 : edge (b2 + 256 * b3) (b6 + 256 * b7) H = true
      · rw [if_pos h2]
        have ng := ed.mp ⟨h1, h2⟩
        cases ht : table b8 r with
        | none =>
          simp only [Option.map_none, Option.bind_none]
          split <;> rfl
        | some t =>
          have hs := table_isSome ht
          simp only [Option.map_some, Option.bind_some]
          rw [if_neg ng]
          obtain ⟨t1, t2⟩ := t
          dsimp only at hs ⊢
          rw [← hs]
          clear hs ht
          have sub : ∀ (P : List Bytes × Bytes → Picture) (r2 : Bytes), (blk r2).map (·.2) = Option.map (fun x : Picture × Bytes => x.2) ((blocks (r2.length + 1) r2).map fun b => (P b, b.2)) := by
            intro P r2
            show (blk r2).map _ = Option.map _ ((blk r2).map _)
            rw [Option.map_map]
            rfl
          cases t1 with
          | some c =>
            simp only [Option.isSome_some, Bool.true_or, if_true, Option.bind_some]
            cases t2 with
            | nil => rfl
            | cons s r2 =>
              simp only [Option.bind_some]
              split
              · exact sub _ r2
              · rfl
          | none =>
            cases gl with
            | none => simp
            | some c =>
              simp only [Option.isSome_some, Bool.or_true, if_true, Option.bind_some]
              cases t2 with
              | nil => rfl
              | cons s r2 =>
                simp only [Option.bind_some]
                split
                · exact sub _ r2
                · rfl
      · rw [if_neg h2]
        have ng : (b4 + 256 * b5 = 0 ∨ b6 + 256 * b7 = 0 ∨ W < b0 + 256 * b1 + (b4 + 256 * b5) ∨ H < b2 + 256 * b3 + (b6 + 256 * b7)) := Decidable.byContradiction fun q => h2 (ed.mpr q).2
        cases ht : table b8 r with
        | none => rfl
        | some t =>
          simp only [Option.bind_some]
          rw [if_pos ng]
          rfl
    · rw [if_neg h1]
      have ng : (b4 + 256 * b5 = 0 ∨ b6 + 256 * b7 = 0 ∨ W < b0 + 256 * b1 + (b4 + 256 * b5) ∨ H < b2 + 256 * b3 + (b6 + 256 * b7)) := Decidable.byContradiction fun q => h1 (ed.mpr q).1
      cases ht : table b8 r with
      | none => rfl
      | some t =>
        simp only [Option.bind_some]
        rw [if_pos ng]
        rfl
  all_goals
    rw [short9 (by simp)]
    unfold mPicture
    simp only [pair, byte, Option.bind_some, Option.bind_none, Option.map_none]
    try (repeat' split) <;> rfl

/-! ### the parts: how many pictures, what is left -/
def count (W H : Nat) (gl : Option Bytes) (nt : Note) (l : Bytes) : Option (Nat × Bytes) := (prt W H gl nt l).map fun y => (y.1.length, y.2)
section
variable {W H : Nat} {gl : Option Bytes} {nt : Note}
theorem count_nil : count W H gl nt [] = none := by unfold count; rw [prt_nil]; rfl
theorem count_last (r : Bytes) : count W H gl nt (0x3B :: r) = some (0, r) := by unfold count; rw [prt_last]; rfl
theorem count_other {c : Nat} {r : Bytes} (h1 : c ≠ 0x3B) (h2 : c ≠ 0x21) (h3 : c ≠ 0x2C) : count W H gl nt (c :: r) = none := by unfold count; rw [prt_other h1 h2 h3]; rfl
theorem count_note0 : count W H gl nt [0x21] = none := by unfold count; rw [prt_note0]; rfl
theorem count_note (kind : Nat) (s : Bytes) : count W H gl nt (0x21 :: kind :: s) = (blk s).bind fun b => (noteOf kind b.1 nt).bind fun nt' => count W H gl nt' b.2 := by
  unfold count
  rw [prt_note]
  cases blk s with
  | none => rfl
  | some b =>
    simp only [Option.bind_some]
    cases noteOf kind b.1 nt <;> rfl
theorem count_picture (r : Bytes) : count W H gl nt (0x2C :: r) = (mPicture W H gl.isSome r).bind fun r' => (count W H gl (0, 0, 0) r').map fun y => (1 + y.1, y.2) := by
  unfold count
  rw [prt_picture, mPicture_eq W H gl nt]
  cases picture W H gl nt r with
  | none => rfl
  | some p =>
    simp only [Option.map_some, Option.bind_some]
    cases prt W H gl (0, 0, 0) p.2 with
    | none => rfl
    | some y => simp only [Option.map_some, List.length_cons]; rw [Nat.add_comm]
end
theorem noteOf_some (kind : Nat) (bs : List Bytes) (nt : Note) : (noteOf kind bs nt).isSome = !(decide (kind = 0xF9) && decide (bs.map List.length ≠ [4])) := by
  unfold noteOf
  split
  · rename_i q
    rcases bs with _ | ⟨x, _ | ⟨y, r⟩⟩
    · simp [q]
    · dsimp only
      split
      · rename_i h4
        simp [q, h4]
      · rename_i h4
        simp [q, h4]
    · simp [q]
  · rename_i q
    simp [q]

/-! ### the whole -/
def heads : List Bytes := [[71, 73, 70, 56, 55, 97], [71, 73, 70, 56, 57, 97]]
/-- screen: width, height, whether there is a table, what is left -/
def mScreen (l : Bytes) : Option ((Nat × Nat × Bool) × Bytes) :=
  (pair l).bind fun w => (pair w.2).bind fun h => if w.1 < 1 ∨ h.1 < 1 ∨ 1048576 < w.1 * h.1 then none else
    (byte h.2).bind fun f => (skip 2 f.2).bind fun r => (skipTable f.1 r).map fun t => ((w.1, h.1, decide (128 ≤ f.1)), t)
def mLook (l : Bytes) : Option (Nat × Nat × Nat × Nat) :=
  (front 6 l).bind fun x => if x.1 ∈ heads then (mScreen x.2).bind fun s =>
    (count s.1.1 s.1.2.1 (if s.1.2.2 = true then some [] else none) (0, 0, 0) s.2).bind fun y => if y.1 < 1 ∨ 4096 < y.1 then none else some (s.1.1, s.1.2.1, y.1, l.length - y.2.length) else none
/-- how many, and what is left, hangs on whether there is a table alone -/
theorem count_has {W H : Nat} {g g' : Option Bytes} (e : g.isSome = g'.isSome) : ∀ (n : Nat) (l : Bytes) (nt nt' : Note), l.length < n → count W H g nt l = count W H g' nt' l
  | 0, _, _, _, h => absurd h (Nat.not_lt_zero _)
  | n + 1, [], _, _, _ => by rw [count_nil, count_nil]
  | n + 1, c :: r, nt, nt', h => by
    simp only [List.length_cons] at h
    by_cases h1 : c = 0x3B
    · subst h1; rw [count_last, count_last]
    · by_cases h2 : c = 0x21
      · subst h2
        cases r with
        | nil => rw [count_note0, count_note0]
        | cons kind s =>
          rw [count_note, count_note]
          cases q : blk s with
          | none => rfl
          | some b =>
            have := blk_len q
            simp only [Option.bind_some, List.length_cons] at h ⊢
            have e1 := noteOf_some kind b.1 nt
            have e2 := noteOf_some kind b.1 nt'
            rw [← e2] at e1
            cases q1 : noteOf kind b.1 nt with
            | none =>
              rw [q1] at e1
              cases q2 : noteOf kind b.1 nt' with
              | none => rfl
              | some z => rw [q2] at e1; simp at e1
            | some y =>
              rw [q1] at e1
              cases q2 : noteOf kind b.1 nt' with
              | none => rw [q2] at e1; simp at e1
              | some z =>
                simp only [Option.bind_some]
                exact count_has e n b.2 y z (by omega)
      · by_cases h3 : c = 0x2C
        · subst h3
          rw [count_picture, count_picture, ← e]
          have e3 := mPicture_eq W H g nt r
          cases q : picture W H g nt r with
          | none => rw [e3, q]; rfl
          | some p =>
            have := picture_len q
            rw [e3, q]
            simp only [Option.map_some, Option.bind_some]
            rw [count_has e n p.2 (0, 0, 0) (0, 0, 0) (by omega)]
        · rw [count_other h1 h2 h3, count_other h1 h2 h3]
end Gif

namespace Gif
open Sw22
theorem text87 : text "GIF87a" = [71, 73, 70, 56, 55, 97] := by decide
theorem text89 : text "GIF89a" = [71, 73, 70, 56, 57, 97] := by decide
theorem read_short {l : Bytes} (h : l.length < 13)   : Sw22.read l = none := by
  unfold Sw22.read
  rw [front_none h]
  rfl
theorem front13 (b0 b1 b2 b3 b4 b5 b6 b7 b8 b9 b10 b11 b12 : Nat) (r : Bytes) : front 13 (b0 :: b1 :: b2 :: b3 :: b4 :: b5 :: b6 :: b7 :: b8 :: b9 :: b10 :: b11 :: b12 :: r) = some ([b0, b1, b2, b3, b4, b5, b6, b7, b8, b9, b10, b11, b12], r) := by
  rw [front_some (by simp only [List.length_cons]; omega)]
  rfl
theorem front6 (b0 b1 b2 b3 b4 b5 : Nat) (r : Bytes) : front 6 (b0 :: b1 :: b2 :: b3 :: b4 :: b5 :: r) = some ([b0, b1, b2, b3, b4, b5], r) := by
  rw [front_some (by simp only [List.length_cons]; omega)]
  rfl
theorem mScreen_short {l : Bytes} (h : l.length < 7) : mScreen l = none := by
  rcases l with _ | ⟨b0, _ | ⟨b1, _ | ⟨b2, _ | ⟨b3, _ | ⟨b4, _ | ⟨b5, _ | ⟨b6, r⟩⟩⟩⟩⟩⟩⟩
  case cons.cons.cons.cons.cons.cons.cons => simp only [List.length_cons] at h; omega
  all_goals
    unfold mScreen
    simp only [pair, byte, Option.bind_some, Option.bind_none]
    try (unfold skip; simp only [List.length_cons, List.length_nil])
    try split
    all_goals simp
theorem mLook_short {l : Bytes} (h : l.length < 13) : mLook l = none := by
  unfold mLook
  cases q : front 6 l with
  | none => rfl
  | some x =>
    simp only [Option.bind_some]
    rw [mScreen_short (by have := (front_len q).2.1; omega)]
    split <;> rfl
theorem mLook_eq (l : Bytes) : mLook l = (Sw22.read l).map fun f => (f.width, f.height, f.pictures.length, f.length) := by
  rcases l with _ | ⟨b0, _ | ⟨b1, _ | ⟨b2, _ | ⟨b3, _ | ⟨b4, _ | ⟨b5, _ | ⟨b6, _ | ⟨b7, _ | ⟨b8, _ | ⟨b9, _ | ⟨b10, _ | ⟨b11, _ | ⟨b12, r⟩⟩⟩⟩⟩⟩⟩⟩⟩⟩⟩⟩⟩
  case cons.cons.cons.cons.cons.cons.cons.cons.cons.cons.cons.cons.cons =>
    have e6 : two ([b0, b1, b2, b3, b4, b5, b6, b7, b8, b9, b10, b11, b12].drop 6) = b6 + 256 * b7 := rfl
    have e8 : two ([b0, b1, b2, b3, b4, b5, b6, b7, b8, b9, b10, b11, b12].drop 8) = b8 + 256 * b9 := rfl
    have e10 : [b0, b1, b2, b3, b4, b5, b6, b7, b8, b9, b10, b11, b12].getD 10 0 = b10 := rfl
    have et : [b0, b1, b2, b3, b4, b5, b6, b7, b8, b9, b10, b11, b12].take 6 = [b0, b1, b2, b3, b4, b5] := rfl
    have ea : ∀ r : Bytes, skip 2 (b11 :: b12 :: r) = some r := fun r => by
      unfold skip
      rw [if_pos (by simp only [List.length_cons]; omega)]
      rfl
    unfold Sw22.read mLook
    rw [front13, front6]
    simp only [Option.bind_some, e6, e8, e10, et, text87, text89]
    unfold mScreen
    simp only [pair, byte, Option.bind_some, ea, skipTable_table]
    generalize hW : b6 + 256 * b7 = W
    generalize hH : b8 + 256 * b9 = H
    by_cases hh : [b0, b1, b2, b3, b4, b5] ∈ heads
    · rw [if_pos hh]
      have hh' : [b0, b1, b2, b3, b4, b5] = [71, 73, 70, 56, 55, 97] ∨ [b0, b1, b2, b3, b4, b5] = [71, 73, 70, 56, 57, 97] := by
        unfold heads at hh
        rcases List.mem_cons.mp hh with q | q
        · exact .inl q
        · exact .inr (List.mem_singleton.mp q)
      by_cases hd : W < 1 ∨ H < 1 ∨ 1048576 < W * H
      · rw [if_pos hd, if_neg (fun z => by omega)]
        rfl
      · rw [if_neg hd, if_pos (⟨hh', by omega, by omega, by omega⟩)]
        cases ht : table b10 r with
        | none => rfl
        | some t =>
          have hs := table_isSome ht
          simp only [Option.map_some, Option.bind_some]
          have eg : ((if decide (128 ≤ b10) = true then some ([] : Bytes) else none) : Option Bytes).isSome = t.1.isSome := by
            rw [hs]
            by_cases q : 128 ≤ b10 <;> simp [q]
          rw [count_has (g' := t.1) eg (t.2.length + 1) t.2 (0, 0, 0) (0, 0, 0) (Nat.lt_succ_self _)]
          unfold count prt
          cases parts W H t.1 (t.2.length + 1) (0, 0, 0) t.2 with
          | none => rfl
          | some y =>
            simp only [Option.map_some, Option.bind_some]
            by_cases q : y.1.length < 1 ∨ 4096 < y.1.length
            · rw [if_pos q, if_neg (by omega)]
              rfl
            · rw [if_neg q, if_pos (by omega)]
              rfl
    · rw [if_neg hh, if_neg]
      · rfl
      · rintro ⟨q, _⟩
        refine hh ?_
        unfold heads
        rcases q with q | q
        · rw [q]; exact .head _
        · rw [q]; exact .tail _ (.head _)
  all_goals exact (mLook_short (Nat.le_of_ble_eq_true rfl)).trans (congrArg (Option.map _) (read_short (Nat.le_of_ble_eq_true rfl)).symm)
/-- what look is due -/
theorem look_due (file : List Int) (hl : file.length ≤ 100000) : PySw22.look file = match mLook (Sw22Neutral.nats file) with
    | none => [-1]
    | some y => [0, (y.1 : Int), (y.2.1 : Int), (y.2.2.1 : Int), (y.2.2.2 : Int)] := by
  have hw : Sw22.within (file.length : Int) MOST = true := by
    unfold Sw22.within MOST
    simp only [Bool.and_eq_true, decide_eq_true_eq]
    omega
  rw [mLook_eq]
  have ea : answer (.look (Sw22Neutral.nats file) (file.length : Int)) = match Sw22.read (Sw22Neutral.nats file) with
      | none => says (-1)
      | some f => tells [(f.width : Int), (f.height : Int), (f.pictures.length : Int), (f.length : Int)] := by
    show (if Sw22.within (file.length : Int) MOST = false then _ else _) = _
    rw [hw, if_neg (by simp)]
    rfl
  show (let y := answer (.look (Sw22Neutral.nats file) (file.length : Int)); y.code :: (y.nums ++ (Sw22Neutral.ints y.canvas.flatten ++ (Sw22Neutral.ints y.saved.flatten ++ Sw22Neutral.ints y.out)))) = _
  rw [ea]
  cases Sw22.read (Sw22Neutral.nats file) with
  | none => rfl
  | some f => rfl
end Gif

namespace Gif
open Sw22
/-! ### bits -/
theorem valueOf_cons (b : Bool) (l : List Bool) : valueOf (b :: l) = b.toNat + 2 * valueOf l := rfl
theorem valueOf_append : ∀ x y : List Bool, valueOf (x ++ y) = valueOf x + 2 ^ x.length * valueOf y
  | [], y => by simp [valueOf]
  | b :: x, y => by
    rw [List.cons_append, valueOf_cons, valueOf_cons, valueOf_append x y, List.length_cons, Nat.pow_succ, Nat.mul_add, Nat.add_assoc, ← Nat.mul_assoc, Nat.mul_comm 2 (2 ^ x.length)]
theorem valueOf_lt : ∀ x : List Bool, valueOf x < 2 ^ x.length
  | [] => by simp [valueOf]
  | b :: x => by
    have := valueOf_lt x
    rw [valueOf_cons, List.length_cons, Nat.pow_succ]
    cases b <;> simp <;> omega
theorem valueOf_take {w : Nat} {l : List Bool} (h : w ≤ l.length) : valueOf (l.take w) = valueOf l % 2 ^ w := by
  have e := valueOf_append (l.take w) (l.drop w)
  have hl : (l.take w).length = w := by rw [List.length_take]; omega
  rw [List.take_append_drop, hl] at e
  have lt := valueOf_lt (l.take w)
  rw [hl] at lt
  rw [e, Nat.add_mul_mod_self_left, Nat.mod_eq_of_lt lt]
theorem valueOf_drop {w : Nat} {l : List Bool} (h : w ≤ l.length) : valueOf (l.drop w) = valueOf l / 2 ^ w := by
  have e := valueOf_append (l.take w) (l.drop w)
  have hl : (l.take w).length = w := by rw [List.length_take]; omega
  rw [List.take_append_drop, hl] at e
  have lt := valueOf_lt (l.take w)
  rw [hl] at lt
  rw [e, Nat.add_mul_div_left _ _ (Nat.two_pow_pos w), Nat.div_eq_of_lt lt, Nat.zero_add]
theorem valueOf_byte {c : Nat} (h : c < 256) : valueOf ((List.range 8).map c.testBit) = c := by
  have : ∀ c : Fin 256, valueOf ((List.range 8).map c.val.testBit) = c.val := by decide +kernel
  exact this ⟨c, h⟩
theorem bitsOf_nil : bitsOf [] = [] := rfl
theorem bitsOf_cons (c : Nat) (l : Bytes) : bitsOf (c :: l) = (List.range 8).map c.testBit ++ bitsOf l := by
  unfold bitsOf
  rw [List.flatMap_cons]
theorem bitsOf_append (l m : Bytes) : bitsOf (l ++ m) = bitsOf l ++ bitsOf m := by
  unfold bitsOf
  rw [List.flatMap_append]
theorem bitsOf_length : ∀ l : Bytes, (bitsOf l).length = 8 * l.length
  | [] => rfl
  | c :: l => by
    rw [bitsOf_cons, List.length_append, bitsOf_length l, List.length_map, List.length_range, List.length_cons]
    omega
/-! ### codes, without the number that sees to an end -/
theorem add_width (t : Table) (r : Bytes) : t.width ≤ (t.add r).width := by
  unfold Table.add
  split
  · dsimp only
    split <;> omega
  · exact Nat.le_refl _
theorem code_width {s c : Nat} {t : Table} {x : Bytes × Table} (h : t.code s c = some x) : t.width ≤ x.2.width := by
  unfold Table.code at h
  split at h
  · split at h
    · cases h; exact Nat.le_refl _
    · cases h
  · dsimp only at h
    split at h
    · cases h
      exact add_width t _
    · split at h
      · cases h
        exact add_width t _
      · cases h
theorem codes_fuel (s : Nat) : ∀ (f g want : Nat) (t : Table) (l : List Bool), 1 ≤ t.width → l.length < f → l.length < g → codes s f want t l = codes s g want t l
  | 0, _, _, _, _, _, h, _ => absurd h (Nat.not_lt_zero _)
  | _ + 1, 0, _, _, _, _, _, h => absurd h (Nat.not_lt_zero _)
  | f + 1, g + 1, want, t, l, hw, h1, h2 => by
    rw [codes, codes]
    split
    · rfl
    · split
      · rfl
      · rename_i hl
        have hd : (l.drop t.width).length < l.length := by rw [List.length_drop]; omega
        dsimp only
        split
        · exact codes_fuel s f g want (fresh s) _ (by show 1 ≤ s + 1; omega) (by omega) (by omega)
        · split
          · rfl
          · cases q : t.code s (valueOf (l.take t.width)) with
            | none => rfl
            | some x =>
              dsimp only
              rw [codes_fuel s f g (want - x.1.length) x.2 _ (Nat.le_trans hw (code_width q)) (by omega) (by omega)]
def cds (s want : Nat) (t : Table) (l : List Bool) : Bytes × How := codes s (l.length + 1) want t l
theorem cds_of {s f want : Nat} {t : Table} {l : List Bool} (hw : 1 ≤ t.width) (h : l.length < f) : codes s f want t l = cds s want t l := codes_fuel s f _ want t l hw h (Nat.lt_succ_self _)
theorem cds_zero (s : Nat) (t : Table) (l : List Bool) : cds s 0 t l = ([], .enough) := by
  unfold cds
  rw [codes, if_pos rfl]
theorem cds_short {s want : Nat} {t : Table} {l : List Bool} (hw : want ≠ 0) (h : l.length < t.width) : cds s want t l = ([], .wrong) := by
  unfold cds
  rw [codes, if_neg hw, if_pos h]
theorem cds_clear {s want : Nat} {t : Table} {l : List Bool} (hw : want ≠ 0) (h : ¬ l.length < t.width) (h1 : 1 ≤ t.width) (hc : valueOf (l.take t.width) = 2 ^ s) : cds s want t l = cds s want (fresh s) (l.drop t.width) := by
  unfold cds
  rw [codes, if_neg hw, if_neg h]
  dsimp only
  rw [if_pos hc]
  exact codes_fuel s _ _ want (fresh s) _ (by show 1 ≤ s + 1; omega) (by rw [List.length_drop]; omega) (by omega)
theorem cds_end {s want : Nat} {t : Table} {l : List Bool} (hw : want ≠ 0) (h : ¬ l.length < t.width) (hc : valueOf (l.take t.width) = 2 ^ s + 1) : cds s want t l = ([], .ended) := by
  unfold cds
  rw [codes, if_neg hw, if_neg h]
  dsimp only
  rw [if_neg (by omega), if_pos hc]
theorem cds_wrong {s want : Nat} {t : Table} {l : List Bool} (hw : want ≠ 0) (h : ¬ l.length < t.width) (h0 : valueOf (l.take t.width) ≠ 2 ^ s) (h1 : valueOf (l.take t.width) ≠ 2 ^ s + 1) (hc : t.code s (valueOf (l.take t.width)) = none) : cds s want t l = ([], .wrong) := by
  unfold cds
  rw [codes, if_neg hw, if_neg h]
  dsimp only
  rw [if_neg h0, if_neg h1, hc]
theorem cds_code {s want : Nat} {t : Table} {l : List Bool} {x : Bytes × Table} (hw : want ≠ 0) (h : ¬ l.length < t.width) (hw1 : 1 ≤ t.width) (h0 : valueOf (l.take t.width) ≠ 2 ^ s) (h1 : valueOf (l.take t.width) ≠ 2 ^ s + 1)
    (hc : t.code s (valueOf (l.take t.width)) = some x) : cds s want t l = (x.1.take want ++ (cds s (want - x.1.length) x.2 (l.drop t.width)).1, (cds s (want - x.1.length) x.2 (l.drop t.width)).2) := by
  unfold cds
  rw [codes, if_neg hw, if_neg h]
  dsimp only
  rw [if_neg h0, if_neg h1, hc]
  dsimp only
  rw [codes_fuel s l.length ((l.drop t.width).length + 1) _ x.2 _ (Nat.le_trans hw1 (code_width hc)) (by rw [List.length_drop]; omega) (by omega)]
theorem decode_cds (s : Nat) (data : Bytes) (want : Nat) : decode s data want = cds s want (fresh s) (bitsOf data) := by
  unfold decode
  exact cds_of (by show 1 ≤ s + 1; omega) (by rw [bitsOf_length]; omega)
/-! ### what a table keeps -/
structure TOk (s : Nat) (t : Table) : Prop where
  lo : s + 1 ≤ t.width
  hi : t.width ≤ 12
  base : 2 ^ s + 2 ≤ t.rows.length
  most : t.rows.length ≤ 4096
  room : t.rows.length < 2 ^ t.width ∨ t.width = 12
  last : ∀ c, t.last = some c → c < t.rows.length ∧ c ≠ 2 ^ s ∧ c ≠ 2 ^ s + 1
  rows : ∀ c r, t.rows[c]? = some r → c ≠ 2 ^ s → c ≠ 2 ^ s + 1 → r ≠ []
theorem fresh_len (s : Nat) : (fresh s).rows.length = 2 ^ s + 2 := by
  unfold fresh
  simp
theorem fresh_get {s c : Nat} (h : c < 2 ^ s) : (fresh s).rows[c]? = some [c] := by
  unfold fresh
  dsimp only
  rw [List.getElem?_append_left (by simpa using h), List.getElem?_map, List.getElem?_range h]
  rfl
theorem fresh_ok {s : Nat} (h : 2 ≤ s) (h2 : s ≤ 8) : TOk s (fresh s) := by
  have p : 2 ^ (s + 1) = 2 * 2 ^ s := by rw [Nat.pow_succ]; omega
  have p4 : 4 ≤ 2 ^ s := by
    have := Nat.pow_le_pow_right (show 1 ≤ 2 by omega) h
    simpa using this
  have p8 : 2 ^ s ≤ 256 := by
    have := Nat.pow_le_pow_right (show 1 ≤ 2 by omega) h2
    simpa using this
  refine ⟨Nat.le_refl _, by show s + 1 ≤ 12; omega, by rw [fresh_len]; omega, by rw [fresh_len]; omega, .inl ?_, (fun c e => by cases e), fun c r e h0 h1 => ?_⟩
  · rw [fresh_len]
    show 2 ^ s + 2 < 2 ^ (s + 1)
    omega
  · have hc : c < 2 ^ s + 2 := by
      have := (List.getElem?_eq_some_iff.mp e).1
      rw [fresh_len] at this
      exact this
    rw [fresh_get (by omega)] at e
    cases e
    simp
end Gif

namespace Gif
open Sw22
/-! ### a canvas as one row of bytes -/
theorem fours_flat : ∀ (n : Nat) (l : List Nat), l.length = 4 * n → (Sw22Neutral.fours l).flatten = l
  | 0, l, h => by
    have : l = [] := List.length_eq_zero_iff.mp (by omega)
    subst this
    rfl
  | n + 1, a :: b :: c :: d :: r, h => by
    simp only [List.length_cons] at h
    show ([a, b, c, d] :: Sw22Neutral.fours r).flatten = _
    rw [List.flatten_cons, fours_flat n r (by omega)]
    rfl
  | n + 1, [], h => by simp at h
  | n + 1, [_], h => by simp at h; omega
  | n + 1, [_, _], h => by simp at h; omega
  | n + 1, [_, _, _], h => by simp at h; omega
theorem fours_len : ∀ (n : Nat) (l : List Nat), l.length = 4 * n → (Sw22Neutral.fours l).length = n
  | 0, l, h => by
    have : l = [] := List.length_eq_zero_iff.mp (by omega)
    subst this
    rfl
  | n + 1, a :: b :: c :: d :: r, h => by
    simp only [List.length_cons] at h
    show ([a, b, c, d] :: Sw22Neutral.fours r).length = _
    rw [List.length_cons, fours_len n r (by omega)]
  | n + 1, [], h => by simp at h
  | n + 1, [_], h => by simp at h; omega
  | n + 1, [_, _], h => by simp at h; omega
  | n + 1, [_, _, _], h => by simp at h; omega
theorem fours_each : ∀ (n : Nat) (l : List Nat), l.length = 4 * n → ∀ x ∈ Sw22Neutral.fours l, x.length = 4
  | 0, l, h => by
    have : l = [] := List.length_eq_zero_iff.mp (by omega)
    subst this
    intro x hx
    cases hx
  | n + 1, a :: b :: c :: d :: r, h => by
    simp only [List.length_cons] at h
    intro x hx
    rcases List.mem_cons.mp (show x ∈ [a, b, c, d] :: Sw22Neutral.fours r from hx) with rfl | hx
    · rfl
    · exact fours_each n r (by omega) x hx
  | n + 1, [], h => by simp at h
  | n + 1, [_], h => by simp at h; omega
  | n + 1, [_, _], h => by simp at h; omega
  | n + 1, [_, _, _], h => by simp at h; omega
/-- four bytes at a place of a flat canvas -/
def put4 (l : List Nat) (i : Nat) (v : Bytes) : List Nat := (((l.set (4 * i) (v.getD 0 0)).set (4 * i + 1) (v.getD 1 0)).set (4 * i + 2) (v.getD 2 0)).set (4 * i + 3) (v.getD 3 0)
theorem set_app_right {α : Type} (x y : List α) (i : Nat) (v : α) : (x ++ y).set (x.length + i) v = x ++ y.set i v := by
  rw [List.set_append_right _ _ (by omega)]
  congr 2
  omega
theorem flat_set : ∀ (c : Canvas) (i : Nat) (v : Bytes), (∀ x ∈ c, x.length = 4) → v.length = 4 → (c.set i v).flatten = put4 c.flatten i v
  | [], i, v, _, _ => by simp [put4]
  | x :: c, 0, v, h, hv => by
    have hx := h x (List.mem_cons_self)
    rcases x with _ | ⟨x0, _ | ⟨x1, _ | ⟨x2, _ | ⟨x3, _ | ⟨x4, r⟩⟩⟩⟩⟩ <;> simp at hx
    rcases v with _ | ⟨v0, _ | ⟨v1, _ | ⟨v2, _ | ⟨v3, _ | ⟨v4, r⟩⟩⟩⟩⟩ <;> simp at hv
    rfl
  | x :: c, i + 1, v, h, hv => by
    have hx := h x (List.mem_cons_self)
    have ih := flat_set c i v (fun y hy => h y (List.mem_cons_of_mem _ hy)) hv
    rw [List.set_cons_succ, List.flatten_cons, ih, List.flatten_cons]
    unfold put4
    have e : ∀ k, 4 * (i + 1) + k = x.length + (4 * i + k) := fun k => by rw [hx]; omega
    rw [show 4 * (i + 1) = x.length + 4 * i from by rw [hx]; omega, show x.length + 4 * i + 1 = x.length + (4 * i + 1) from by omega, show x.length + 4 * i + 2 = x.length + (4 * i + 2) from by omega, show x.length + 4 * i + 3 = x.length + (4 * i + 3) from by omega,
      set_app_right, set_app_right, set_app_right, set_app_right]
theorem put4_len (l : List Nat) (i : Nat) (v : Bytes) : (put4 l i v).length = l.length := by
  unfold put4
  simp
/-! ### rows in four passes -/
theorem filter_step (a n : Nat) (ha : a < n) : ∀ h : Nat, (List.range h).filter (fun y => y % n == a) = (List.range ((h + (n - 1) - a) / n)).map fun k => a + n * k
  | 0 => by
    have : (0 + (n - 1) - a) / n = 0 := Nat.div_eq_of_lt (by omega)
    rw [this]
    rfl
  | h + 1 => by
    rw [List.range_succ, List.filter_append, filter_step a n ha h]
    have hn : 0 < n := by omega
    by_cases q : h % n = a
    · -- h = a + n * (h / n)
      have e := Nat.div_add_mod h n
      rw [q] at e
      have d1 : (h + (n - 1) - a) / n = h / n := by
        have : h + (n - 1) - a = n * (h / n) + (n - 1) := by omega
        rw [this, Nat.mul_add_div hn, Nat.div_eq_of_lt (show n - 1 < n by omega), Nat.add_zero]
      have d2 : (h + 1 + (n - 1) - a) / n = h / n + 1 := by
        have : h + 1 + (n - 1) - a = n * (h / n + 1) := by rw [Nat.mul_add]; omega
        rw [this, Nat.mul_div_cancel_left _ hn]
      rw [d1, d2, List.range_succ, List.map_append]
      congr 1
      simp [q]
      omega
    · have d : (h + 1 + (n - 1) - a) / n = (h + (n - 1) - a) / n := by
        have e := Nat.div_add_mod h n
        have lt := Nat.mod_lt h hn
        generalize hr : h % n = r at e lt q
        generalize h / n = m at e
        subst e
        by_cases ra : r < a
        · have e1 : n * m + r + (n - 1) - a = n * m + (r + (n - 1) - a) := by omega
          have e2 : n * m + r + 1 + (n - 1) - a = n * m + (r + n - a) := by omega
          rw [e1, e2, Nat.mul_add_div hn, Nat.mul_add_div hn, Nat.div_eq_of_lt (show r + (n - 1) - a < n by omega), Nat.div_eq_of_lt (show r + n - a < n by omega)]
        · have e1 : n * m + r + (n - 1) - a = n * (m + 1) + (r - 1 - a) := by rw [Nat.mul_add]; omega
          have e2 : n * m + r + 1 + (n - 1) - a = n * (m + 1) + (r - a) := by rw [Nat.mul_add]; omega
          rw [e1, e2, Nat.mul_add_div hn, Nat.mul_add_div hn, Nat.div_eq_of_lt (show r - 1 - a < n by omega), Nat.div_eq_of_lt (show r - a < n by omega)]
      rw [d]
      simp [q]
end Gif

namespace Gif
open Sw22
/-! ### drawing over one row of bytes -/
def paintF (p : Picture) (l : List Nat) (x : Nat × Nat) : List Nat := match colour p x.2 with
  | some v => put4 l x.1 v
  | none => l
theorem colour_len {p : Picture} {n : Nat} {v : Bytes} (h : colour p n = some v) : v.length = 4 := by
  unfold colour at h
  split at h
  · cases h
  · rename_i q
    cases h
    rw [List.length_append, List.length_take, List.length_drop]
    have : ¬ p.colours.length < 3 * n + 3 := fun z => q (.inr z)
    show min 3 (p.colours.length - 3 * n) + 1 = 4
    omega
theorem paint_each {p : Picture} {c : Canvas} {x : Nat × Nat} (h : ∀ y ∈ c, y.length = 4) : ∀ y ∈ paint p c x, y.length = 4 := by
  unfold paint
  split
  · rename_i v hv
    intro y hy
    rcases List.mem_or_eq_of_mem_set hy with q | q
    · exact h y q
    · rw [q]; exact colour_len hv
  · exact h
theorem paint_flat {p : Picture} {c : Canvas} {x : Nat × Nat} (h : ∀ y ∈ c, y.length = 4) : (paint p c x).flatten = paintF p c.flatten x := by
  unfold paint paintF
  split
  · rename_i v hv
    rw [hv]
    exact flat_set c x.1 v h (colour_len hv)
  · rename_i hv
    rw [hv]
theorem paints_flat (p : Picture) : ∀ (xs : List (Nat × Nat)) (c : Canvas), (∀ y ∈ c, y.length = 4) → (xs.foldl (paint p) c).flatten = xs.foldl (paintF p) c.flatten
  | [], _, _ => rfl
  | x :: xs, c, h => by
    rw [List.foldl_cons, List.foldl_cons, paints_flat p xs _ (paint_each h), paint_flat h]
def clears (l : List Nat) (is : List Nat) : List Nat := is.foldl (fun l i => put4 l i NOTHING) l
theorem set_each {c : Canvas} {i : Nat} {v : Bytes} (h : ∀ y ∈ c, y.length = 4) (hv : v.length = 4) : ∀ y ∈ c.set i v, y.length = 4 := by
  intro y hy
  rcases List.mem_or_eq_of_mem_set hy with q | q
  · exact h y q
  · rw [q]; exact hv
theorem clears_flat : ∀ (is : List Nat) (c : Canvas), (∀ y ∈ c, y.length = 4) → (is.foldl (fun c i => c.set i NOTHING) c).flatten = clears c.flatten is
  | [], _, _ => rfl
  | i :: is, c, h => by
    rw [List.foldl_cons, clears_flat is _ (set_each h rfl), flat_set c i NOTHING h rfl]
    rfl
theorem clears_each : ∀ (is : List Nat) (c : Canvas), (∀ y ∈ c, y.length = 4) → ∀ y ∈ is.foldl (fun c i => c.set i NOTHING) c, y.length = 4
  | [], _, h => h
  | i :: is, c, h => by
    rw [List.foldl_cons]
    exact clears_each is _ (set_each h rfl)
/-! ### what is due -/
theorem within_len {n : Nat} (h : n ≤ 100000) : Sw22.within (n : Int) MOST = true := by
  unfold Sw22.within MOST
  simp only [Bool.and_eq_true, decide_eq_true_eq]
  omega
theorem tell_due (k : Int) (file : List Int) (hl : file.length ≤ 100000) : PySw22.tell k file = match (Sw22.read (Sw22Neutral.nats file)).bind fun f => f.at_ k with
    | none => [-1]
    | some p => [0, (p.left : Int), (p.top : Int), (p.width : Int), (p.height : Int), (p.time : Int), (p.after : Int), match p.clearAt with
      | some c => (c : Int)
      | none => -1] := by
  have ea : answer (.tell (Sw22Neutral.nats file) (file.length : Int) k) = match (Sw22.read (Sw22Neutral.nats file)).bind fun f => f.at_ k with
      | none => says (-1)
      | some p => tells [(p.left : Int), (p.top : Int), (p.width : Int), (p.height : Int), (p.time : Int), (p.after : Int), match p.clearAt with
        | some c => (c : Int)
        | none => -1] := by
    show (if Sw22.within (file.length : Int) MOST = false then _ else _) = _
    rw [within_len hl, if_neg (by simp)]
    rfl
  show (let y := answer (.tell (Sw22Neutral.nats file) (file.length : Int) k); y.code :: (y.nums ++ (Sw22Neutral.ints y.canvas.flatten ++ (Sw22Neutral.ints y.saved.flatten ++ Sw22Neutral.ints y.out)))) = _
  rw [ea]
  cases (Sw22.read (Sw22Neutral.nats file)).bind fun f => f.at_ k with
  | none => rfl
  | some p => rfl
theorem codes_due (size most : Int) (data : List Int) (hl : data.length ≤ 100000) : PySw22.codes size most data =
    if 2 ≤ size ∧ size ≤ 8 ∧ 0 ≤ most ∧ most ≤ 1048576 then (if (decode size.toNat (Sw22Neutral.nats data) most.toNat).2 = .wrong then -1 else ((decode size.toNat (Sw22Neutral.nats data) most.toNat).1.length : Int)) :: Sw22Neutral.ints (decode size.toNat (Sw22Neutral.nats data) most.toNat).1
    else [-2] := by
  show (let y := answer (.codes size (Sw22Neutral.nats data) (data.length : Int) most); y.code :: (y.nums ++ (Sw22Neutral.ints y.canvas.flatten ++ (Sw22Neutral.ints y.saved.flatten ++ Sw22Neutral.ints y.out)))) = _
  have e : answer (.codes size (Sw22Neutral.nats data) (data.length : Int) most) = if (Sw22.within (data.length : Int) MOST && (Sw22.within most MOST && (decide (2 ≤ size) && decide (size ≤ 8)))) = false then says (-2) else
      ⟨if (decode size.toNat (Sw22Neutral.nats data) most.toNat).2 = .wrong then -1 else ((decode size.toNat (Sw22Neutral.nats data) most.toNat).1.length : Int), [], [], [], (decode size.toNat (Sw22Neutral.nats data) most.toNat).1⟩ := rfl
  rw [e, within_len hl]
  by_cases h : 2 ≤ size ∧ size ≤ 8 ∧ 0 ≤ most ∧ most ≤ 1048576
  · have q : (true && (Sw22.within most MOST && (decide (2 ≤ size) && decide (size ≤ 8)))) = true := by
      unfold Sw22.within MOST
      simp only [Bool.true_and, Bool.and_eq_true, decide_eq_true_eq]
      omega
    rw [if_pos h, q, if_neg (by simp)]
    rfl
  · have q : (true && (Sw22.within most MOST && (decide (2 ≤ size) && decide (size ≤ 8)))) = false := by
      cases z : (true && (Sw22.within most MOST && (decide (2 ≤ size) && decide (size ≤ 8)))) with
      | false => rfl
      | true =>
        exfalso
        unfold Sw22.within MOST at z
        simp only [Bool.true_and, Bool.and_eq_true, decide_eq_true_eq] at z
        omega
    rw [if_neg h, q, if_pos rfl]
    rfl
/-- the canvas ahead of drawing picture k -/
def ahead (f : File) (k : Int) (canvas saved : List Nat) : List Nat :=
  if k = 0 then List.replicate (4 * (f.width * f.height)) 0 else match f.at_ (k - 1) with
    | some q => if q.after = 2 then clears canvas (placesOf f.width q) else if q.after = 3 then saved else canvas
    | none => canvas
theorem zeros_flat : ∀ n : Nat, (List.replicate n NOTHING).flatten = List.replicate (4 * n) 0
  | 0 => rfl
  | n + 1 => by
    rw [List.replicate_succ, List.flatten_cons, zeros_flat n, show 4 * (n + 1) = 4 * n + 1 + 1 + 1 + 1 from by omega, List.replicate_succ, List.replicate_succ, List.replicate_succ, List.replicate_succ]
    rfl
theorem draw_due (k : Int) (file canvas saved : List Int) (hl : file.length ≤ 100000) (hc : canvas.length = 4 * Sw22Neutral.places file) (hs : saved.length = 4 * Sw22Neutral.places file) :
    PySw22.draw k file canvas saved = match Sw22.read (Sw22Neutral.nats file) with
      | none => [-1]
      | some f => match f.at_ k with
        | none => [-1]
        | some p =>
          (if (decode p.size p.data (p.width * p.height)).2 = .enough then 0 else -3) ::
            (Sw22Neutral.ints (((placesOf f.width p).zip (decode p.size p.data (p.width * p.height)).1).foldl (paintF p) (ahead f k (Sw22Neutral.nats canvas) (Sw22Neutral.nats saved))) ++
              Sw22Neutral.ints (if p.after = 3 then ahead f k (Sw22Neutral.nats canvas) (Sw22Neutral.nats saved) else Sw22Neutral.nats saved)) := by
  have hc' : (Sw22Neutral.nats canvas).length = 4 * Sw22Neutral.places file := by unfold Sw22Neutral.nats; rw [List.length_map]; exact hc
  have hs' : (Sw22Neutral.nats saved).length = 4 * Sw22Neutral.places file := by unfold Sw22Neutral.nats; rw [List.length_map]; exact hs
  have fc := fours_flat _ _ hc'
  have ec := fours_each _ _ hc'
  have fs := fours_flat _ _ hs'
  have es := fours_each _ _ hs'
  show (let y := answer (.draw (Sw22Neutral.nats file) (file.length : Int) k (Sw22Neutral.fours (Sw22Neutral.nats canvas)) (Sw22Neutral.fours (Sw22Neutral.nats saved))); y.code :: (y.nums ++ (Sw22Neutral.ints y.canvas.flatten ++ (Sw22Neutral.ints y.saved.flatten ++ Sw22Neutral.ints y.out)))) = _
  generalize Sw22Neutral.fours (Sw22Neutral.nats canvas) = C at fc ec ⊢
  generalize Sw22Neutral.fours (Sw22Neutral.nats saved) = S at fs es ⊢
  rw [← fc, ← fs]
  have ea : answer (.draw (Sw22Neutral.nats file) (file.length : Int) k C S) = match Sw22.read (Sw22Neutral.nats file) with
      | none => says (-1)
      | some f => match f.at_ k with
        | none => says (-1)
        | some p =>
          let c := if k = 0 then List.replicate (f.width * f.height) NOTHING else match f.at_ (k - 1) with
            | some q => undo f.width q C S
            | none => C
          ⟨if (draw f.width p c).2 = true then 0 else -3, [], (draw f.width p c).1, if p.after = 3 then c else S, []⟩ := by
    show (if Sw22.within (file.length : Int) MOST = false then _ else _) = _
    rw [within_len hl, if_neg (by simp)]
    rfl
  rw [ea]
  cases Sw22.read (Sw22Neutral.nats file) with
  | none => rfl
  | some f =>
    dsimp only
    cases f.at_ k with
    | none => rfl
    | some p =>
      dsimp only
      have hA : ∀ c : Canvas, c = (if k = 0 then List.replicate (f.width * f.height) NOTHING else match f.at_ (k - 1) with
            | some q => undo f.width q C S
            | none => C) → (∀ y ∈ c, y.length = 4) ∧ c.flatten = ahead f k C.flatten S.flatten := by
        rintro c rfl
        unfold ahead
        split
        · refine ⟨fun y hy => ?_, zeros_flat _⟩
          rw [List.eq_of_mem_replicate hy]
          rfl
        · cases f.at_ (k - 1) with
          | none => exact ⟨ec, rfl⟩
          | some q =>
            dsimp only
            unfold undo
            split
            · exact ⟨clears_each _ _ ec, clears_flat _ _ ec⟩
            · split
              · exact ⟨es, rfl⟩
              · exact ⟨ec, rfl⟩
      generalize hcc : (if k = 0 then List.replicate (f.width * f.height) NOTHING else match f.at_ (k - 1) with
            | some q => undo f.width q C S
            | none => C) = c at hA ⊢
      obtain ⟨h1, h2⟩ := hA c rfl
      rw [← h2, ← paints_flat p _ c h1]
      have e3 : (draw f.width p c).2 = decide ((decode p.size p.data (p.width * p.height)).2 = .enough) := rfl
      have e4 : (draw f.width p c).1 = ((placesOf f.width p).zip (decode p.size p.data (p.width * p.height)).1).foldl (paint p) c := rfl
      rw [e3, e4]
      congr 1
      · simp only [decide_eq_true_eq]
      · simp only [List.nil_append]
        congr 1
        by_cases h3 : p.after = 3
        · rw [if_pos h3, if_pos h3]
          show _ ++ Sw22Neutral.ints [] = _
          simp [Sw22Neutral.ints]
        · rw [if_neg h3, if_neg h3]
          show _ ++ Sw22Neutral.ints [] = _
          simp [Sw22Neutral.ints]
end Gif

namespace Gif
open Sw22
/-! ### the reader's steps in the program's order, with all that they tell -/
def mArea (W H : Nat) (l : Bytes) : Option ((Nat × Nat × Nat × Nat) × Bytes) :=
  (pair l).bind fun a => (pair a.2).bind fun b => (pair b.2).bind fun c => (pair c.2).bind fun d => if edge a.1 c.1 W = true then (if edge b.1 d.1 H = true then some ((a.1, b.1, c.1, d.1), d.2) else none) else none
def mkPic (a : Nat × Nat × Nat × Nat) (q : Nat) (c : Bytes) (s : Nat) (nt : Note) (data : Bytes) : Picture :=
  { left := a.1, top := a.2.1, width := a.2.2.1, height := a.2.2.2, passes := decide (64 ≤ q % 128), colours := c, size := s, data := data, time := nt.2.1, after := nt.1 / 4 % 8, clearAt := if nt.1 % 2 = 1 then some nt.2.2 else none }
def orElse (a b : Option Bytes) : Option Bytes := match a with
  | some c => some c
  | none => b
def mPic (W H : Nat) (gl : Option Bytes) (nt : Note) (l : Bytes) : Option (Picture × Bytes) :=
  (mArea W H l).bind fun a => (byte a.2).bind fun q => (table q.1 q.2).bind fun t => (orElse t.1 gl).bind fun c => (byte t.2).bind fun s =>
    if 2 ≤ s.1 ∧ s.1 ≤ 8 then (blk s.2).map fun b => (mkPic a.1 q.1 c s.1 nt b.1.flatten, b.2) else none
theorem mPic_eq (W H : Nat) (gl : Option Bytes) (nt : Note) (l : Bytes) : mPic W H gl nt l = picture W H gl nt l := by
  rcases l with _ | ⟨b0, _ | ⟨b1, _ | ⟨b2, _ | ⟨b3, _ | ⟨b4, _ | ⟨b5, _ | ⟨b6, _ | ⟨b7, _ | ⟨b8, r⟩⟩⟩⟩⟩⟩⟩⟩⟩
  case cons.cons.cons.cons.cons.cons.cons.cons.cons =>
    have two0 : two [b0, b1, b2, b3, b4, b5, b6, b7, b8] = b0 + 256 * b1 := rfl
    have two2 : two ([b0, b1, b2, b3, b4, b5, b6, b7, b8].drop 2) = b2 + 256 * b3 := rfl
    have two4 : two ([b0, b1, b2, b3, b4, b5, b6, b7, b8].drop 4) = b4 + 256 * b5 := rfl
    have two6 : two ([b0, b1, b2, b3, b4, b5, b6, b7, b8].drop 6) = b6 + 256 * b7 := rfl
    have get8 : [b0, b1, b2, b3, b4, b5, b6, b7, b8].getD 8 0 = b8 := rfl
    unfold picture
    rw [front9]
    simp only [Option.bind_some, two0, two2, two4, two6, get8]
    unfold mPic mArea
    simp only [pair, byte, Option.bind_some]
    have ed := edge_iff (b0 + 256 * b1) (b2 + 256 * b3) (b4 + 256 * b5) (b6 + 256 * b7) W H
    by_cases h1 : edge (b0 + 256 * b1) (b4 + 256 * b5) W = true
    · rw [if_pos h1]
      by_cases h2 : edge (b2 + 256 * b3) (b6 + 256 * b7) H = true
      · rw [if_pos h2]
        have ng := ed.mp ⟨h1, h2⟩
        simp only [Option.bind_some]
        cases ht : table b8 r with
        | none => rfl
        | some t =>
          simp only [Option.bind_some]
          rw [if_neg ng]
          obtain ⟨t1, t2⟩ := t
          cases t1 with
          | some c => cases t2 <;> rfl
          | none =>
            cases gl with
            | none => rfl
            | some c => cases t2 <;> rfl
      · rw [if_neg h2]
        have ng : (b4 + 256 * b5 = 0 ∨ b6 + 256 * b7 = 0 ∨ W < b0 + 256 * b1 + (b4 + 256 * b5) ∨ H < b2 + 256 * b3 + (b6 + 256 * b7)) := Decidable.byContradiction fun q => h2 (ed.mpr q).2
        cases ht : table b8 r with
        | none => rfl
        | some t =>
          simp only [Option.bind_some]
          rw [if_pos ng]
          rfl
    · rw [if_neg h1]
      have ng : (b4 + 256 * b5 = 0 ∨ b6 + 256 * b7 = 0 ∨ W < b0 + 256 * b1 + (b4 + 256 * b5) ∨ H < b2 + 256 * b3 + (b6 + 256 * b7)) := Decidable.byContradiction fun q => h1 (ed.mpr q).1
      cases ht : table b8 r with
      | none => rfl
      | some t =>
        simp only [Option.bind_some]
        rw [if_pos ng]
        rfl
  all_goals
    rw [short9 (by simp)]
    unfold mPic mArea
    simp only [pair, byte, Option.bind_some, Option.bind_none]
    try (repeat' split) <;> rfl
theorem prt_pic {w h : Nat} {gl : Option Bytes} {nt : Note} (r : Bytes) : prt w h gl nt (0x2C :: r) = (mPic w h gl nt r).bind fun p => (prt w h gl (0, 0, 0) p.2).map fun y => (p.1 :: y.1, y.2) := by
  rw [prt_picture, mPic_eq]
theorem mPic_len {w h : Nat} {gl : Option Bytes} {nt : Note} {l : Bytes} {p : Picture × Bytes} (q : mPic w h gl nt l = some p) : p.2.length < l.length := by
  rw [mPic_eq] at q
  exact picture_len q
/-- the screen: width, height, its table, what is left -/
def mScr (l : Bytes) : Option ((Nat × Nat × Option Bytes) × Bytes) :=
  (pair l).bind fun w => (pair w.2).bind fun h => if w.1 < 1 ∨ h.1 < 1 ∨ 1048576 < w.1 * h.1 then none else
    (byte h.2).bind fun f => (skip 2 f.2).bind fun r => (table f.1 r).map fun t => ((w.1, h.1, t.1), t.2)
def mHd (l : Bytes) : Option Bytes := (front 6 l).bind fun x => if x.1 ∈ heads then some x.2 else none
def mRead (l : Bytes) : Option File := (mHd l).bind fun l1 => (mScr l1).bind fun s => (prt s.1.1 s.1.2.1 s.1.2.2 (0, 0, 0) s.2).bind fun y =>
  if y.1.length < 1 ∨ 4096 < y.1.length then none else some ⟨s.1.1, s.1.2.1, y.1, l.length - y.2.length⟩
theorem mScr_short {l : Bytes} (h : l.length < 7) : mScr l = none := by
  rcases l with _ | ⟨b0, _ | ⟨b1, _ | ⟨b2, _ | ⟨b3, _ | ⟨b4, _ | ⟨b5, _ | ⟨b6, r⟩⟩⟩⟩⟩⟩⟩
  case cons.cons.cons.cons.cons.cons.cons => simp only [List.length_cons] at h; omega
  all_goals
    unfold mScr
    simp only [pair, byte, Option.bind_some, Option.bind_none]
    try (unfold skip; simp only [List.length_cons, List.length_nil])
    try split
    all_goals simp
theorem mRead_short {l : Bytes} (h : l.length < 13) : mRead l = none := by
  unfold mRead mHd
  cases q : front 6 l with
  | none => rfl
  | some x =>
    simp only [Option.bind_some]
    by_cases hx : x.1 ∈ heads
    · rw [if_pos hx]
      simp only [Option.bind_some]
      rw [mScr_short (by have := (front_len q).2.1; omega)]
      rfl
    · rw [if_neg hx]
      rfl
theorem mRead_eq (l : Bytes) : mRead l = Sw22.read l := by
  rcases l with _ | ⟨b0, _ | ⟨b1, _ | ⟨b2, _ | ⟨b3, _ | ⟨b4, _ | ⟨b5, _ | ⟨b6, _ | ⟨b7, _ | ⟨b8, _ | ⟨b9, _ | ⟨b10, _ | ⟨b11, _ | ⟨b12, r⟩⟩⟩⟩⟩⟩⟩⟩⟩⟩⟩⟩⟩
  case cons.cons.cons.cons.cons.cons.cons.cons.cons.cons.cons.cons.cons =>
    have e6 : two ([b0, b1, b2, b3, b4, b5, b6, b7, b8, b9, b10, b11, b12].drop 6) = b6 + 256 * b7 := rfl
    have e8 : two ([b0, b1, b2, b3, b4, b5, b6, b7, b8, b9, b10, b11, b12].drop 8) = b8 + 256 * b9 := rfl
    have e10 : [b0, b1, b2, b3, b4, b5, b6, b7, b8, b9, b10, b11, b12].getD 10 0 = b10 := rfl
    have et : [b0, b1, b2, b3, b4, b5, b6, b7, b8, b9, b10, b11, b12].take 6 = [b0, b1, b2, b3, b4, b5] := rfl
    have ea : ∀ r : Bytes, skip 2 (b11 :: b12 :: r) = some r := fun r => by
      unfold skip
      rw [if_pos (by simp only [List.length_cons]; omega)]
      rfl
    unfold Sw22.read mRead mHd
    rw [front13, front6]
    simp only [Option.bind_some, e6, e8, e10, et, text87, text89]
    unfold mScr
    generalize hW : b6 + 256 * b7 = W
    generalize hH : b8 + 256 * b9 = H
    by_cases hh : [b0, b1, b2, b3, b4, b5] ∈ heads
    · rw [if_pos hh]
      simp only [pair, byte, Option.bind_some, ea, hW, hH]
      have hh' : [b0, b1, b2, b3, b4, b5] = [71, 73, 70, 56, 55, 97] ∨ [b0, b1, b2, b3, b4, b5] = [71, 73, 70, 56, 57, 97] := by
        unfold heads at hh
        rcases List.mem_cons.mp hh with q | q
        · exact .inl q
        · exact .inr (List.mem_singleton.mp q)
      by_cases hd : W < 1 ∨ H < 1 ∨ 1048576 < W * H
      · rw [if_pos hd, if_neg (fun z => by omega)]
        rfl
      · rw [if_neg hd, if_pos (⟨hh', by omega, by omega, by omega⟩)]
        cases ht : table b10 r with
        | none => rfl
        | some t =>
          simp only [Option.map_some, Option.bind_some]
          unfold prt
          cases parts W H t.1 (t.2.length + 1) (0, 0, 0) t.2 with
          | none => rfl
          | some y =>
            simp only [Option.bind_some]
            by_cases q : y.1.length < 1 ∨ 4096 < y.1.length
            · rw [if_pos q, if_neg (by omega)]
            · rw [if_neg q, if_pos (by omega)]
    · rw [if_neg hh, if_neg]
      · rfl
      · rintro ⟨q, _⟩
        refine hh ?_
        unfold heads
        rcases q with q | q
        · rw [q]; exact .head _
        · rw [q]; exact .tail _ (.head _)
  all_goals exact (mRead_short (Nat.le_of_ble_eq_true rfl)).trans (read_short (Nat.le_of_ble_eq_true rfl)).symm
theorem look_due' (file : List Int) (hl : file.length ≤ 100000) : PySw22.look file = match Sw22.read (Sw22Neutral.nats file) with
    | none => [-1]
    | some f => [0, (f.width : Int), (f.height : Int), (f.pictures.length : Int), (f.length : Int)] := by
  rw [look_due file hl, mLook_eq]
  cases Sw22.read (Sw22Neutral.nats file) <;> rfl
/-! ### tables of colours as rows of three -/
def threes (c : Bytes) : List Bytes := (List.range (c.length / 3)).map fun i => (c.drop (3 * i)).take 3
def tbl : Option Bytes → List Bytes
  | none => []
  | some c => threes c
theorem threes_len (c : Bytes) : (threes c).length = c.length / 3 := by unfold threes; simp
theorem threes_get {c : Bytes} {i : Nat} (h : i < c.length / 3) : (threes c)[i]? = some ((c.drop (3 * i)).take 3) := by
  unfold threes
  rw [List.getElem?_map, List.getElem?_range h]
  rfl
theorem threes_take {l : Bytes} {m : Nat} (h : 3 * m ≤ l.length) : threes (l.take (3 * m)) = (List.range m).map fun i => (l.drop (3 * i)).take 3 := by
  unfold threes
  have e : (l.take (3 * m)).length / 3 = m := by rw [List.length_take]; omega
  rw [e]
  refine List.map_congr_left fun i hi => ?_
  have hi' : i < m := List.mem_range.mp hi
  rw [List.drop_take, List.take_take, Nat.min_eq_left (by omega)]
/-- a table has rows of three, two of them at least -/
def TabOk (o : Option Bytes) : Prop := ∀ c, o = some c → ∃ m, c.length = 3 * m ∧ 2 ≤ m ∧ m ≤ 256
theorem pow_le8 {f : Nat} : 1 ≤ 2 ^ (f % 8) ∧ 2 ^ (f % 8) ≤ 128 := by
  refine ⟨Nat.one_le_two_pow, ?_⟩
  have := Nat.pow_le_pow_right (show 1 ≤ 2 by omega) (show f % 8 ≤ 7 by omega)
  simpa using this
theorem table_eq (f : Nat) (l : Bytes) : table f l = if 128 ≤ f then (if 3 * (2 * 2 ^ (f % 8)) ≤ l.length then some (some (l.take (3 * (2 * 2 ^ (f % 8)))), l.drop (3 * (2 * 2 ^ (f % 8)))) else none) else some (none, l) := by
  have e : 2 ^ (1 + f % 8) = 2 * 2 ^ (f % 8) := by rw [Nat.pow_add, Nat.pow_one]
  unfold table front
  rw [e]
  split
  · split <;> rfl
  · rfl
theorem table_ok {f : Nat} {l : Bytes} {t : Option Bytes × Bytes} (h : table f l = some t) : TabOk t.1 := by
  rw [table_eq] at h
  have p := @pow_le8 f
  split at h
  · split at h
    · rename_i q
      cases h
      intro c hc
      cases hc
      refine ⟨2 * 2 ^ (f % 8), ?_, by omega, by omega⟩
      rw [List.length_take]
      omega
    · cases h
  · cases h
    intro c hc
    cases hc
theorem tbl_len {o : Option Bytes} (h : TabOk o) : ((tbl o).length = 0 ↔ o = none) := by
  cases o with
  | none => simp [tbl]
  | some c =>
    obtain ⟨m, h1, h2, _⟩ := h c rfl
    have : (threes c).length = m := by rw [threes_len, h1]; omega
    show (threes c).length = 0 ↔ _
    rw [this]
    constructor
    · intro z; omega
    · intro z; cases z
/-! ### what a picture keeps -/
structure Fit (W H : Nat) (p : Picture) : Prop where
  w1 : 1 ≤ p.width
  h1 : 1 ≤ p.height
  ww : p.left + p.width ≤ W
  hh : p.top + p.height ≤ H
  s2 : 2 ≤ p.size
  s8 : p.size ≤ 8
  cs : ∃ m, p.colours.length = 3 * m ∧ 2 ≤ m ∧ m ≤ 256
theorem mPic_fit {W H : Nat} {gl : Option Bytes} {nt : Note} {l : Bytes} {p : Picture × Bytes} (hg : TabOk gl) (q : mPic W H gl nt l = some p) : Fit W H p.1 := by
  unfold mPic at q
  simp only [Option.bind_eq_some_iff] at q
  obtain ⟨a, ha, q1, hq, t, ht, c, hc, s, hs, q⟩ := q
  split at q
  · rename_i h8
    simp only [Option.map_eq_some_iff] at q
    obtain ⟨b, hb, rfl⟩ := q
    unfold mArea at ha
    simp only [Option.bind_eq_some_iff] at ha
    obtain ⟨a1, _, a2, _, a3, _, a4, _, ha⟩ := ha
    split at ha
    · rename_i e1
      split at ha
      · rename_i e2
        cases ha
        unfold edge at e1 e2
        simp only [Bool.and_eq_true, decide_eq_true_eq] at e1 e2
        refine ⟨e1.1, e2.1, e1.2, e2.2, h8.1, h8.2, ?_⟩
        show ∃ m, c.length = 3 * m ∧ _
        have tk := table_ok ht
        cases h1 : t.1 with
        | some c' =>
          rw [h1] at hc
          cases hc
          exact tk c h1
        | none =>
          rw [h1] at hc
          exact hg c hc
      · cases ha
    · cases ha
  · cases q
theorem prt_fit {W H : Nat} {gl : Option Bytes} (hg : TabOk gl) : ∀ (n : Nat) (nt : Note) (l : Bytes) (y : List Picture × Bytes), l.length < n → prt W H gl nt l = some y → ∀ p ∈ y.1, Fit W H p
  | 0, _, _, _, h, _ => absurd h (Nat.not_lt_zero _)
  | n + 1, nt, [], y, _, q => by rw [prt_nil] at q; cases q
  | n + 1, nt, c :: r, y, h, q => by
    simp only [List.length_cons] at h
    by_cases h1 : c = 0x3B
    · subst h1
      rw [prt_last] at q
      cases q
      intro p hp
      cases hp
    · by_cases h2 : c = 0x21
      · subst h2
        cases r with
        | nil => rw [prt_note0] at q; cases q
        | cons kind s =>
          rw [prt_note] at q
          simp only [Option.bind_eq_some_iff] at q
          obtain ⟨b, hb, nt', _, q⟩ := q
          have := blk_len hb
          simp only [List.length_cons] at h
          exact prt_fit hg n nt' b.2 y (by omega) q
      · by_cases h3 : c = 0x2C
        · subst h3
          rw [prt_pic] at q
          simp only [Option.bind_eq_some_iff, Option.map_eq_some_iff] at q
          obtain ⟨p, hp, z, hz, rfl⟩ := q
          have := mPic_len hp
          intro p' hp'
          rcases List.mem_cons.mp hp' with rfl | hp'
          · exact mPic_fit hg hp
          · exact prt_fit hg n (0, 0, 0) p.2 z (by omega) hz p' hp'
        · rw [prt_other h1 h2 h3] at q
          cases q
theorem mScr_tab {l : Bytes} {s : (Nat × Nat × Option Bytes) × Bytes} (h : mScr l = some s) : TabOk s.1.2.2 := by
  unfold mScr at h
  simp only [Option.bind_eq_some_iff] at h
  obtain ⟨a, _, b, _, h⟩ := h
  split at h
  · cases h
  · simp only [Option.bind_eq_some_iff, Option.map_eq_some_iff] at h
    obtain ⟨f, _, r, _, t, ht, rfl⟩ := h
    exact table_ok ht
theorem read_fit {l : Bytes} {f : File} (h : Sw22.read l = some f) : (∀ p ∈ f.pictures, Fit f.width f.height p) ∧ f.width * f.height ≤ 1048576 ∧ f.pictures.length ≤ 4096 := by
  rw [← mRead_eq] at h
  unfold mRead at h
  simp only [Option.bind_eq_some_iff] at h
  obtain ⟨l1, _, s, hs, y, hy, h⟩ := h
  split at h
  · cases h
  · rename_i q
    cases h
    refine ⟨fun p hp => prt_fit (mScr_tab hs) (s.2.length + 1) _ s.2 y (Nat.lt_succ_self _) hy p hp, ?_, by show y.1.length ≤ 4096; omega⟩
    show s.1.1 * s.1.2.1 ≤ 1048576
    unfold mScr at hs
    simp only [Option.bind_eq_some_iff] at hs
    obtain ⟨a, _, b, _, hs⟩ := hs
    split at hs
    · cases hs
    · rename_i z
      simp only [Option.bind_eq_some_iff, Option.map_eq_some_iff] at hs
      obtain ⟨f, _, r, _, t, ht, rfl⟩ := hs
      show a.1 * b.1 ≤ 1048576
      omega
end Gif

namespace Gif
open Sw22
/-! ### a table by the program's steps -/
def lastRow (t : Table) : Bytes := match t.last with
  | none => []
  | some l => t.rows.getD l []
structure TB (s : Nat) (t : Table) : Prop where
  tok : TOk s t
  base : ∀ c : Nat, c < 2 ^ s → t.rows[c]? = some [c]
  no : t.last = none → t.rows.length = 2 ^ s + 2
  long : ∀ (c : Nat) (r : Bytes), t.rows[c]? = some r → r.length ≤ t.rows.length
def findRow (s : Nat) (t : Table) (c : Nat) : Option Bytes :=
  if c < 2 ^ s then some [c] else if c < t.rows.length then t.rows[c]? else if lastRow t ≠ [] ∧ c = t.rows.length then some (lastRow t ++ (lastRow t).take 1) else none
def grow (t : Table) (r : Bytes) : Table := if lastRow t ≠ [] ∧ t.rows.length < 4096 then t.add (lastRow t ++ r.take 1) else t
def takeRow (t : Table) (c : Nat) (r : Bytes) : Table := { grow t r with last := some c }
theorem getD_some {α : Type} {l : List α} {i : Nat} {x d : α} (h : l[i]? = some x) : l.getD i d = x := by
  rw [List.getD_eq_getElem?_getD, h]
  rfl
theorem lastRow_none {t : Table} (h : t.last = none) : lastRow t = [] := by unfold lastRow; rw [h]
theorem lastRow_some {s : Nat} {t : Table} {l : Nat} (T : TB s t) (h : t.last = some l) : lastRow t = t.rows.getD l [] ∧ lastRow t ≠ [] ∧ (lastRow t).length ≤ t.rows.length := by
  have e : lastRow t = t.rows.getD l [] := by unfold lastRow; rw [h]
  obtain ⟨h1, h2, h3⟩ := T.tok.last l h
  have hr : t.rows[l]? = some (t.rows[l]) := List.getElem?_eq_getElem h1
  rw [e, getD_some hr]
  exact ⟨rfl, T.tok.rows l _ hr h2 h3, T.long l _ hr⟩
theorem lastRow_len {s : Nat} {t : Table} (T : TB s t) : (lastRow t).length ≤ t.rows.length := by
  cases h : t.last with
  | none => rw [lastRow_none h]; exact Nat.zero_le _
  | some l => exact (lastRow_some T h).2.2
theorem add_full {t : Table} {r : Bytes} (h : ¬ t.rows.length < 4096) : t.add r = t := by unfold Table.add; rw [if_neg h]
theorem pow12 {w : Nat} (h : w ≤ 12) : 2 ^ w ≤ 4096 := by
  have := Nat.pow_le_pow_right (show 1 ≤ 2 by omega) h
  simpa using this
theorem take1_app {a b : Bytes} (h : a ≠ []) : (a ++ b).take 1 = a.take 1 := by
  cases a with
  | nil => exact absurd rfl h
  | cons x r => rfl
theorem grow_pos {t : Table} {r : Bytes} (h : lastRow t ≠ [] ∧ t.rows.length < 4096) : grow t r = t.add (lastRow t ++ r.take 1) := by unfold grow; rw [if_pos h]
theorem grow_neg {t : Table} {r : Bytes} (h : ¬ (lastRow t ≠ [] ∧ t.rows.length < 4096)) : grow t r = t := by unfold grow; rw [if_neg h]
theorem code_find {s c : Nat} {t : Table} (T : TB s t) (h0 : c ≠ 2 ^ s) (h1 : c ≠ 2 ^ s + 1) (hw : c < 2 ^ t.width) : t.code s c = (findRow s t c).map fun r => (r, takeRow t c r) := by
  have hb := T.tok.base
  have c4 : c < 4096 := Nat.lt_of_lt_of_le hw (pow12 T.tok.hi)
  unfold Table.code
  cases hl : t.last with
  | none =>
    have el := lastRow_none hl
    have en := T.no hl
    dsimp only
    unfold findRow
    rw [el]
    by_cases hc : c < 2 ^ s
    · rw [if_pos hc, if_pos hc]
      show _ = some ([c], takeRow t c [c])
      unfold takeRow
      rw [grow_neg (fun z => z.1 el)]
    · rw [if_neg hc, if_neg hc, if_neg (by omega), if_neg (fun z => z.1 rfl)]
      rfl
  | some l =>
    obtain ⟨el, ne, _⟩ := lastRow_some T hl
    dsimp only
    rw [← el]
    by_cases hc : c < t.rows.length
    · rw [if_pos hc]
      have hr : t.rows[c]? = some (t.rows[c]) := List.getElem?_eq_getElem hc
      have ef : findRow s t c = some (t.rows[c]) := by
        unfold findRow
        by_cases h2 : c < 2 ^ s
        · rw [if_pos h2, ← T.base c h2, hr]
        · rw [if_neg h2, if_pos hc, hr]
      rw [ef, getD_some hr]
      show _ = some (t.rows[c], takeRow t c (t.rows[c]))
      unfold takeRow
      by_cases hf : t.rows.length < 4096
      · rw [grow_pos ⟨ne, hf⟩]
      · rw [grow_neg (fun z => hf z.2), add_full hf]
    · rw [if_neg hc]
      by_cases h2 : c = t.rows.length
      · rw [if_pos ⟨h2, by omega⟩]
        have ef : findRow s t c = some (lastRow t ++ (lastRow t).take 1) := by
          unfold findRow
          rw [if_neg (by omega), if_neg hc, if_pos ⟨ne, h2⟩]
        rw [ef]
        show _ = some (lastRow t ++ (lastRow t).take 1, takeRow t c (lastRow t ++ (lastRow t).take 1))
        unfold takeRow
        rw [grow_pos ⟨ne, by omega⟩, take1_app ne]
      · rw [if_neg (fun z => h2 z.1)]
        have ef : findRow s t c = none := by
          unfold findRow
          rw [if_neg (by omega), if_neg hc, if_neg (fun z => h2 z.2)]
        rw [ef]
        rfl
theorem add_rows {t : Table} {r : Bytes} (h : t.rows.length < 4096) : (t.add r).rows = t.rows ++ [r] ∧ (t.add r).width = (if t.rows.length + 1 = 2 ^ t.width ∧ t.width < 12 then t.width + 1 else t.width) ∧ (t.add r).last = t.last := by
  unfold Table.add
  rw [if_pos h]
  refine ⟨rfl, ?_, rfl⟩
  show (if (t.rows ++ [r]).length = _ ∧ _ then _ else _) = _
  rw [List.length_append]
  rfl
theorem grow_rows (t : Table) (r : Bytes) : (grow t r).rows = t.rows ∨ ((grow t r).rows = t.rows ++ [lastRow t ++ r.take 1] ∧ lastRow t ≠ [] ∧ t.rows.length < 4096) := by
  unfold grow
  by_cases h : lastRow t ≠ [] ∧ t.rows.length < 4096
  · rw [if_pos h]
    exact .inr ⟨(add_rows h.2).1, h.1, h.2⟩
  · rw [if_neg h]
    exact .inl rfl
theorem find_len {s c : Nat} {t : Table} {r : Bytes} (T : TB s t) (h : findRow s t c = some r) : r.length ≤ t.rows.length + 1 ∧ (c < t.rows.length → t.rows[c]? = some r) ∧ c ≤ t.rows.length ∧ (c = t.rows.length → lastRow t ≠ [] ∧ r = lastRow t ++ (lastRow t).take 1) := by
  have hb := T.tok.base
  have hl := lastRow_len T
  unfold findRow at h
  split at h
  · rename_i hc
    cases h
    exact ⟨by simp, fun _ => T.base c hc, by omega, fun z => by omega⟩
  · split at h
    · rename_i hc
      refine ⟨Nat.le_succ_of_le (T.long c r h), fun _ => h, by omega, fun z => by omega⟩
    · split at h
      · rename_i hc
        cases h
        refine ⟨?_, fun z => by omega, by omega, fun _ => ⟨hc.1, rfl⟩⟩
        rw [List.length_append, List.length_take]
        omega
      · cases h
theorem find_ne {s c : Nat} {t : Table} {r : Bytes} (T : TB s t) (h0 : c ≠ 2 ^ s) (h1 : c ≠ 2 ^ s + 1) (h : findRow s t c = some r) : r ≠ [] := by
  obtain ⟨_, h2, h3, h4⟩ := find_len T h
  by_cases hc : c < t.rows.length
  · exact T.tok.rows c r (h2 hc) h0 h1
  · obtain ⟨ne, e⟩ := h4 (by omega)
    rw [e]
    intro z
    exact ne (List.append_eq_nil_iff.mp z).1
theorem takeRow_last {s c : Nat} {t : Table} {r : Bytes} (T : TB s t) (hw : c < 2 ^ t.width) (h : findRow s t c = some r) : lastRow (takeRow t c r) = r := by
  have c4 : c < 4096 := Nat.lt_of_lt_of_le hw (pow12 T.tok.hi)
  obtain ⟨_, h2, h3, h4⟩ := find_len T h
  show (grow t r).rows.getD c [] = r
  by_cases hc : c < t.rows.length
  · rcases grow_rows t r with e | ⟨e, _, _⟩
    · rw [e, getD_some (h2 hc)]
    · rw [e, getD_some (x := r)]
      rw [List.getElem?_append_left hc]
      exact h2 hc
  · have hc' : c = t.rows.length := by omega
    obtain ⟨ne, er⟩ := h4 hc'
    have e : (grow t r).rows = t.rows ++ [lastRow t ++ r.take 1] := by
      unfold grow
      rw [if_pos ⟨ne, by omega⟩]
      exact (add_rows (by omega)).1
    rw [e, getD_some (x := lastRow t ++ r.take 1)]
    · rw [er, take1_app ne]
    · rw [hc']
      simp
theorem takeRow_ok {s c : Nat} {t : Table} {r : Bytes} (T : TB s t) (h0 : c ≠ 2 ^ s) (h1 : c ≠ 2 ^ s + 1) (hw : c < 2 ^ t.width) (h : findRow s t c = some r) : TB s (takeRow t c r) := by
  have c4 : c < 4096 := Nat.lt_of_lt_of_le hw (pow12 T.tok.hi)
  obtain ⟨hl, h2, h3, h4⟩ := find_len T h
  have hb := T.tok.base
  have hlr := lastRow_len T
  by_cases hg : lastRow t ≠ [] ∧ t.rows.length < 4096
  · obtain ⟨a1, a2, a3⟩ := add_rows (t := t) (r := lastRow t ++ r.take 1) hg.2
    have eg : grow t r = t.add (lastRow t ++ r.take 1) := by unfold grow; rw [if_pos hg]
    have er : (takeRow t c r).rows = t.rows ++ [lastRow t ++ r.take 1] := by
      show (grow t r).rows = _
      rw [eg, a1]
    have ew : (takeRow t c r).width = (if t.rows.length + 1 = 2 ^ t.width ∧ t.width < 12 then t.width + 1 else t.width) := by
      show (grow t r).width = _
      rw [eg, a2]
    have el : (takeRow t c r).rows.length = t.rows.length + 1 := by rw [er, List.length_append]; rfl
    refine ⟨⟨?_, ?_, by rw [el]; omega, by rw [el]; omega, ?_, ?_, ?_⟩, ?_, ?_, ?_⟩
    · rw [ew]
      have := T.tok.lo
      split <;> omega
    · rw [ew]
      have := T.tok.hi
      split <;> omega
    · rw [ew, el]
      by_cases q : t.rows.length + 1 = 2 ^ t.width ∧ t.width < 12
      · rw [if_pos q, q.1]
        refine .inl ?_
        rw [Nat.pow_succ]
        have := Nat.two_pow_pos t.width
        omega
      · rw [if_neg q]
        rcases T.tok.room with z | z
        · by_cases q1 : t.rows.length + 1 = 2 ^ t.width
          · have := T.tok.hi
            exact .inr (by omega)
          · exact .inl (by omega)
        · exact .inr z
    · intro c' e
      have e' : some c = some c' := e
      cases e'
      rw [el]
      exact ⟨by omega, h0, h1⟩
    · intro c' r' e n0 n1
      rw [er] at e
      by_cases hc : c' < t.rows.length
      · rw [List.getElem?_append_left hc] at e
        exact T.tok.rows c' r' e n0 n1
      · have hc2 := (List.getElem?_eq_some_iff.mp e).1
        rw [List.length_append] at hc2
        have : c' = t.rows.length := by simp at hc2; omega
        subst this
        simp at e
        subst e
        intro z
        exact hg.1 (List.append_eq_nil_iff.mp z).1
    · intro c' hc
      rw [er, List.getElem?_append_left (by omega)]
      exact T.base c' hc
    · intro z
      cases z
    · intro c' r' e
      rw [el]
      rw [er] at e
      by_cases hc : c' < t.rows.length
      · rw [List.getElem?_append_left hc] at e
        exact Nat.le_succ_of_le (T.long c' r' e)
      · have hc2 := (List.getElem?_eq_some_iff.mp e).1
        rw [List.length_append] at hc2
        have : c' = t.rows.length := by simp at hc2; omega
        subst this
        simp at e
        subst e
        rw [List.length_append, List.length_take]
        omega
  · have eg : grow t r = t := by unfold grow; rw [if_neg hg]
    have er : (takeRow t c r).rows = t.rows := by
      show (grow t r).rows = _
      rw [eg]
    have ew : (takeRow t c r).width = t.width := by
      show (grow t r).width = _
      rw [eg]
    have hc : c < t.rows.length := by
      by_cases hc : c < t.rows.length
      · exact hc
      · exact absurd ⟨(h4 (by omega)).1, by omega⟩ hg
    refine ⟨⟨by rw [ew]; exact T.tok.lo, by rw [ew]; exact T.tok.hi, by rw [er]; exact T.tok.base, by rw [er]; exact T.tok.most, by rw [er, ew]; exact T.tok.room, ?_, by rw [er]; exact T.tok.rows⟩, by rw [er]; exact T.base, (fun z => by cases z), by rw [er]; exact T.long⟩
    intro c' e
    have e' : some c = some c' := e
    cases e'
    rw [er]
    exact ⟨hc, h0, h1⟩
theorem fresh_tb {s : Nat} (h : 2 ≤ s) (h2 : s ≤ 8) : TB s (fresh s) := by
  refine ⟨fresh_ok h h2, fun c hc => fresh_get hc, fun _ => fresh_len s, fun c r e => ?_⟩
  rw [fresh_len]
  have hc := (List.getElem?_eq_some_iff.mp e).1
  rw [fresh_len] at hc
  by_cases hc1 : c < 2 ^ s
  · rw [fresh_get hc1] at e
    cases e
    simp
  · unfold fresh at e
    dsimp only at e
    rw [List.getElem?_append_right (by simpa using hc1)] at e
    have : r ∈ [([] : Bytes), []] := List.mem_of_getElem? e
    have hr : r = [] := by simpa using this
    rw [hr]
    simp
theorem fresh_drop (s : Nat) : (fresh s).rows.drop (2 ^ s + 2) = [] := by
  refine List.drop_eq_nil_of_le ?_
  rw [fresh_len]
  exact Nat.le_refl _
/-! ### how many numbers come -/
theorem cds_len {s : Nat} : ∀ (n want : Nat) (t : Table) (l : List Bool), l.length < n → 1 ≤ t.width → ((cds s want t l).2 = .enough → (cds s want t l).1.length = want) ∧ ((cds s want t l).2 ≠ .enough → (cds s want t l).1.length < want)
  | 0, _, _, _, h, _ => absurd h (Nat.not_lt_zero _)
  | n + 1, want, t, l, h, hw => by
    by_cases h0 : want = 0
    · subst h0
      rw [cds_zero]
      exact ⟨fun _ => rfl, fun z => absurd rfl z⟩
    · have pos : 0 < want := by omega
      by_cases h1 : l.length < t.width
      · rw [cds_short h0 h1]
        exact ⟨fun z => by (cases z), fun _ => pos⟩
      · have hd : (l.drop t.width).length < n := by rw [List.length_drop]; omega
        by_cases h2 : valueOf (l.take t.width) = 2 ^ s
        · rw [cds_clear h0 h1 hw h2]
          exact cds_len n want (fresh s) _ hd (by show 1 ≤ s + 1; omega)
        · by_cases h3 : valueOf (l.take t.width) = 2 ^ s + 1
          · rw [cds_end h0 h1 h3]
            exact ⟨fun z => by (cases z), fun _ => pos⟩
          · cases q : t.code s (valueOf (l.take t.width)) with
            | none =>
              rw [cds_wrong h0 h1 h2 h3 q]
              exact ⟨fun z => by (cases z), fun _ => pos⟩
            | some x =>
              rw [cds_code h0 h1 hw h2 h3 q]
              have ih := cds_len (s := s) n (want - x.1.length) x.2 (l.drop t.width) hd (Nat.le_trans hw (code_width q))
              refine ⟨fun z => ?_, fun z => ?_⟩
              · have := ih.1 z
                dsimp only
                rw [List.length_append, List.length_take]
                omega
              · have := ih.2 z
                dsimp only
                rw [List.length_append, List.length_take]
                omega
theorem decode_len (s : Nat) (data : Bytes) (want : Nat) : ((decode s data want).2 = .enough ↔ (decode s data want).1.length = want) ∧ (decode s data want).1.length ≤ want := by
  rw [decode_cds]
  obtain ⟨h1, h2⟩ := cds_len (s := s) ((bitsOf data).length + 1) want (fresh s) (bitsOf data) (Nat.lt_succ_self _) (by show 1 ≤ s + 1; omega)
  by_cases e : (cds s want (fresh s) (bitsOf data)).2 = .enough
  · exact ⟨⟨fun _ => h1 e, fun _ => e⟩, Nat.le_of_eq (h1 e)⟩
  · have := h2 e
    exact ⟨⟨fun z => absurd z e, fun z => by omega⟩, by omega⟩
end Gif

namespace Gif
open Sw22
/-! ### rows and places in their order -/
theorem rows_count : ∀ l : List Nat, (l.filter (fun y => y % 8 == 0)).length + ((l.filter (fun y => y % 8 == 4)).length + ((l.filter (fun y => y % 4 == 2)).length + (l.filter fun y => y % 2 == 1).length)) = l.length
  | [] => rfl
  | y :: l => by
    have ih := rows_count l
    simp only [List.filter_cons, List.length_cons]
    have h8 : y % 8 < 8 := Nat.mod_lt _ (by decide)
    have e4 : y % 4 = y % 8 % 4 := by omega
    have e2 : y % 2 = y % 8 % 2 := by omega
    rw [e4, e2]
    generalize y % 8 = z at h8
    have hz : z = 0 ∨ z = 1 ∨ z = 2 ∨ z = 3 ∨ z = 4 ∨ z = 5 ∨ z = 6 ∨ z = 7 := by omega
    rcases hz with rfl | rfl | rfl | rfl | rfl | rfl | rfl | rfl <;> simp <;> omega
theorem rowsOf_len (p : Picture) : (rowsOf p).length = p.height := by
  unfold rowsOf
  dsimp only
  split
  · rw [List.length_append, List.length_append, List.length_append, rows_count, List.length_range]
  · exact List.length_range
theorem rowsOf_mem (p : Picture) (y : Nat) : y ∈ rowsOf p ↔ y < p.height := by
  unfold rowsOf
  dsimp only
  split
  · simp only [List.mem_append, List.mem_filter, List.mem_range, beq_iff_eq]
    constructor
    · rintro (h | h | h | h) <;> exact h.1
    · intro h
      have e : y % 8 = 0 ∨ y % 8 = 4 ∨ y % 4 = 2 ∨ y % 2 = 1 := by omega
      rcases e with e | e | e | e
      · exact .inl ⟨h, e⟩
      · exact .inr (.inl ⟨h, e⟩)
      · exact .inr (.inr (.inl ⟨h, e⟩))
      · exact .inr (.inr (.inr ⟨h, e⟩))
  · exact List.mem_range
def stepped (a n h : Nat) : List Nat := (List.range ((h + (n - 1) - a) / n)).map fun k => a + n * k
theorem rowsOf_passes {p : Picture} (h : p.passes = true) : rowsOf p = stepped 0 8 p.height ++ stepped 4 8 p.height ++ stepped 2 4 p.height ++ stepped 1 2 p.height := by
  unfold rowsOf
  dsimp only
  rw [if_pos h, filter_step 0 8 (by decide), filter_step 4 8 (by decide), filter_step 2 4 (by decide), filter_step 1 2 (by decide)]
  unfold stepped
  simp only [List.append_assoc]
theorem rowsOf_plain {p : Picture} (h : p.passes = false) : rowsOf p = List.range p.height := by
  unfold rowsOf
  dsimp only
  rw [if_neg (by rw [h]; exact Bool.false_ne_true)]
theorem flat_get {n : Nat} (hn : 0 < n) (f : Nat → Nat → Nat) : ∀ (rows : List Nat) (i : Nat), (rows.flatMap fun y => (List.range n).map (f y))[i]? = (rows[i / n]?).map fun y => f y (i % n)
  | [], i => by simp
  | y :: rows, i => by
    rw [List.flatMap_cons]
    have hl : ((List.range n).map (f y)).length = n := by simp
    by_cases h : i < n
    · rw [List.getElem?_append_left (by rw [hl]; exact h), Nat.div_eq_of_lt h, Nat.mod_eq_of_lt h, List.getElem?_map, List.getElem?_range h]
      rfl
    · rw [List.getElem?_append_right (by rw [hl]; omega), hl, flat_get hn f rows (i - n)]
      have e1 : i / n = (i - n) / n + 1 := by
        rw [Nat.div_eq_sub_div hn (by omega)]
      have e2 : i % n = (i - n) % n := by
        rw [Nat.mod_eq_sub_mod (by omega)]
      rw [e1, e2, List.getElem?_cons_succ]
theorem places_get {w i y : Nat} {p : Picture} (h1 : 1 ≤ p.width) (hy : (rowsOf p)[i / p.width]? = some y) : (placesOf w p)[i]? = some ((p.top + y) * w + p.left + i % p.width) := by
  unfold placesOf
  rw [flat_get h1 (fun y x => (p.top + y) * w + p.left + x), hy]
  rfl
theorem flat_len {n : Nat} (f : Nat → Nat → Nat) : ∀ rows : List Nat, (rows.flatMap fun y => (List.range n).map (f y)).length = rows.length * n
  | [] => by simp
  | y :: rows => by
    rw [List.flatMap_cons, List.length_append, flat_len f rows, List.length_map, List.length_range, List.length_cons, Nat.succ_mul, Nat.add_comm]
theorem places_len (w : Nat) (p : Picture) : (placesOf w p).length = p.height * p.width := by
  unfold placesOf
  rw [flat_len (fun y x => (p.top + y) * w + p.left + x), rowsOf_len]
theorem row_at {p : Picture} {i : Nat} (h1 : 1 ≤ p.width) (hi : i < p.width * p.height) : ∃ y, (rowsOf p)[i / p.width]? = some y ∧ y < p.height := by
  have hlt : i / p.width < (rowsOf p).length := by
    rw [rowsOf_len]
    exact Nat.div_lt_of_lt_mul hi
  refine ⟨(rowsOf p)[i / p.width], List.getElem?_eq_getElem hlt, (rowsOf_mem p _).mp (List.getElem_mem hlt)⟩
theorem place_lt {W H : Nat} {p : Picture} (F : Fit W H p) {y x : Nat} (hy : y < p.height) (hx : x < p.width) : (p.top + y) * W + p.left + x < W * H := by
  have h1 := F.ww
  have h2 := F.hh
  have e : (p.top + y) * W + W ≤ W * H := by
    have : (p.top + y + 1) * W ≤ H * W := Nat.mul_le_mul_right W (by omega)
    rw [Nat.add_mul, Nat.one_mul, Nat.mul_comm H W] at this
    exact this
  omega
/-! ### four bytes, one by one -/
def puts (l : List Nat) (i : Nat) (v : Bytes) : Nat → List Nat
  | 0 => l
  | j + 1 => (puts l i v j).set (4 * i + j) (v.getD j 0)
theorem puts4 (l : List Nat) (i : Nat) (v : Bytes) : puts l i v 4 = put4 l i v := rfl
theorem puts_len (l : List Nat) (i : Nat) (v : Bytes) : ∀ j, (puts l i v j).length = l.length
  | 0 => rfl
  | j + 1 => by
    show ((puts l i v j).set _ _).length = _
    rw [List.length_set, puts_len l i v j]
/-! ### clearing, in whatever order -/
theorem clears_app (l : List Nat) (a b : List Nat) : clears l (a ++ b) = clears (clears l a) b := by
  unfold clears
  rw [List.foldl_append]
theorem put4_nothing (l : List Nat) (i j : Nat) : (put4 l i NOTHING)[j]? = if j / 4 = i ∧ j < l.length then some 0 else l[j]? := by
  have e : put4 l i NOTHING = (((l.set (4 * i) 0).set (4 * i + 1) 0).set (4 * i + 2) 0).set (4 * i + 3) 0 := rfl
  rw [e]
  simp only [List.getElem?_set, List.length_set]
  by_cases h3 : 4 * i + 3 = j
  · by_cases hj : j < l.length
    · rw [if_pos h3, if_pos (by omega), if_pos ⟨by omega, hj⟩]
    · rw [if_pos h3, if_neg (by omega), if_neg (fun z => hj z.2)]
      exact (List.getElem?_eq_none_iff.mpr (by omega)).symm
  · rw [if_neg h3]
    by_cases h2 : 4 * i + 2 = j
    · by_cases hj : j < l.length
      · rw [if_pos h2, if_pos (by omega), if_pos ⟨by omega, hj⟩]
      · rw [if_pos h2, if_neg (by omega), if_neg (fun z => hj z.2)]
        exact (List.getElem?_eq_none_iff.mpr (by omega)).symm
    · rw [if_neg h2]
      by_cases h1 : 4 * i + 1 = j
      · by_cases hj : j < l.length
        · rw [if_pos h1, if_pos (by omega), if_pos ⟨by omega, hj⟩]
        · rw [if_pos h1, if_neg (by omega), if_neg (fun z => hj z.2)]
          exact (List.getElem?_eq_none_iff.mpr (by omega)).symm
      · rw [if_neg h1]
        by_cases h0 : 4 * i = j
        · by_cases hj : j < l.length
          · rw [if_pos h0, if_pos (by omega), if_pos ⟨by omega, hj⟩]
          · rw [if_pos h0, if_neg (by omega), if_neg (fun z => hj z.2)]
            exact (List.getElem?_eq_none_iff.mpr (by omega)).symm
        · rw [if_neg h0, if_neg (by omega)]
theorem clears_len : ∀ (is : List Nat) (l : List Nat), (clears l is).length = l.length
  | [], _ => rfl
  | i :: is, l => by
    show (clears (put4 l i NOTHING) is).length = _
    rw [clears_len is, put4_len]
theorem clears_get : ∀ (is : List Nat) (l : List Nat) (j : Nat), (clears l is)[j]? = if j / 4 ∈ is ∧ j < l.length then some 0 else l[j]?
  | [], l, j => by
    rw [if_neg (fun z => nomatch z.1)]
    rfl
  | i :: is, l, j => by
    show (clears (put4 l i NOTHING) is)[j]? = _
    rw [clears_get is, put4_len, put4_nothing]
    by_cases h : j / 4 ∈ is ∧ j < l.length
    · rw [if_pos h, if_pos ⟨List.mem_cons_of_mem _ h.1, h.2⟩]
    · rw [if_neg h]
      by_cases h2 : j / 4 = i ∧ j < l.length
      · rw [if_pos h2, if_pos ⟨by rw [h2.1]; exact List.mem_cons_self, h2.2⟩]
      · rw [if_neg h2, if_neg]
        rintro ⟨z1, z2⟩
        rcases List.mem_cons.mp z1 with q | q
        · exact h2 ⟨q, z2⟩
        · exact h ⟨q, z2⟩
theorem clears_same {l a b : List Nat} (h : ∀ i, i ∈ a ↔ i ∈ b) : clears l a = clears l b := by
  refine List.ext_getElem? fun j => ?_
  rw [clears_get, clears_get]
  by_cases q : j / 4 ∈ a ∧ j < l.length
  · rw [if_pos q, if_pos ⟨(h _).mp q.1, q.2⟩]
  · rw [if_neg q, if_neg fun z => q ⟨(h _).mpr z.1, z.2⟩]
def rowPlaces (w : Nat) (p : Picture) (y n : Nat) : List Nat := (List.range n).map fun x => (p.top + y) * w + p.left + x
def plainPlaces (w : Nat) (p : Picture) (n : Nat) : List Nat := (List.range n).flatMap fun y => rowPlaces w p y p.width
theorem plain_succ (w : Nat) (p : Picture) (n : Nat) : plainPlaces w p (n + 1) = plainPlaces w p n ++ rowPlaces w p n p.width := by
  unfold plainPlaces
  rw [List.range_succ, List.flatMap_append]
  simp
theorem row_succ (w : Nat) (p : Picture) (y n : Nat) : rowPlaces w p y (n + 1) = rowPlaces w p y n ++ [(p.top + y) * w + p.left + n] := by
  unfold rowPlaces
  rw [List.range_succ, List.map_append]
  rfl
theorem clears_plain (l : List Nat) (w : Nat) (p : Picture) : clears l (placesOf w p) = clears l (plainPlaces w p p.height) := by
  refine clears_same fun i => ?_
  unfold placesOf plainPlaces rowPlaces
  simp only [List.mem_flatMap, rowsOf_mem, List.mem_range]
/-! ### one number drawn -/
def clearInt (p : Picture) : Int := match p.clearAt with
  | some c => (c : Int)
  | none => -1
theorem colour_eq {W H : Nat} {p : Picture} (F : Fit W H p) (n : Nat) : colour p n = if (n : Int) ≠ clearInt p ∧ n < (threes p.colours).length then some ((threes p.colours).getD n [] ++ [255]) else none := by
  obtain ⟨m, hm, h2, _⟩ := F.cs
  have hl : (threes p.colours).length = m := by rw [threes_len, hm]; omega
  have hc : p.clearAt = some n ↔ ¬ ((n : Int) ≠ clearInt p) := by
    unfold clearInt
    cases p.clearAt with
    | none => simp
    | some c => simp; omega
  unfold colour
  by_cases h : (n : Int) ≠ clearInt p ∧ n < (threes p.colours).length
  · rw [if_pos h, if_neg]
    · rw [getD_some (threes_get (by rw [hm]; omega))]
    · rintro (z | z)
      · exact hc.mp z h.1
      · rw [hl] at h
        omega
  · rw [if_neg h, if_pos]
    by_cases z : p.clearAt = some n
    · exact .inl z
    · refine .inr ?_
      have : ¬ n < (threes p.colours).length := fun q => h ⟨fun y => z (hc.mpr fun x => x y), q⟩
      omega
theorem fold_step {α β : Type} (f : β → α → β) (b : β) (l : List α) (i : Nat) (x : α) (h : l[i]? = some x) : (l.take (i + 1)).foldl f b = f ((l.take i).foldl f b) x := by
  rw [List.take_add_one, h, List.foldl_append]
  rfl
theorem paintF_len (p : Picture) (l : List Nat) (x : Nat × Nat) : (paintF p l x).length = l.length := by
  unfold paintF
  split
  · exact put4_len _ _ _
  · rfl
theorem paints_len (p : Picture) : ∀ (xs : List (Nat × Nat)) (l : List Nat), (xs.foldl (paintF p) l).length = l.length
  | [], _ => rfl
  | x :: xs, l => by
    rw [List.foldl_cons, paints_len p xs, paintF_len]
theorem ahead_len {f : File} {k : Int} {canvas saved : List Nat} (hc : canvas.length = 4 * (f.width * f.height)) (hs : saved.length = 4 * (f.width * f.height)) : (ahead f k canvas saved).length = 4 * (f.width * f.height) := by
  unfold ahead
  split
  · simp
  · cases f.at_ (k - 1) with
    | none => exact hc
    | some q =>
      dsimp only
      split
      · rw [clears_len]; exact hc
      · split
        · exact hs
        · exact hc
theorem at_iff (f : File) (k : Int) : f.at_ k = if k < 0 then none else f.pictures[k.toNat]? := rfl
theorem places_of {file : List Int} {f : File} (h : Sw22.read (Sw22Neutral.nats file) = some f) : Sw22Neutral.places file = f.width * f.height := by
  unfold Sw22Neutral.places
  rw [h]
theorem places_no {file : List Int} (h : Sw22.read (Sw22Neutral.nats file) = none) : Sw22Neutral.places file = 0 := by
  unfold Sw22Neutral.places
  rw [h]
end Gif

namespace Gif
open Sw22
theorem blk_mem : ∀ (n : Nat) (l : Bytes) (y : List Bytes × Bytes), l.length < n → blk l = some y → (∀ b ∈ y.1, ∀ x ∈ b, x ∈ l) ∧ y.1.flatten.length ≤ l.length ∧ y.1.length ≤ l.length
  | 0, _, _, h, _ => absurd h (Nat.not_lt_zero _)
  | n + 1, [], y, _, q => by rw [blk_nil] at q; cases q
  | n + 1, c :: r, y, h, q => by
    simp only [List.length_cons] at h
    by_cases h0 : c = 0
    · subst h0
      rw [blk_zero] at q
      cases q
      exact ⟨(fun b hb => nomatch hb), Nat.zero_le _, Nat.zero_le _⟩
    · rw [blk_cons h0] at q
      simp only [Option.bind_eq_some_iff, Option.map_eq_some_iff] at q
      obtain ⟨x, hx, z, hz, rfl⟩ := q
      obtain ⟨f1, f2, f3, f4⟩ := front_len hx
      obtain ⟨i1, i2, i3⟩ := blk_mem n x.2 z (by omega) hz
      refine ⟨fun b hb v hv => ?_, ?_, ?_⟩
      · rcases List.mem_cons.mp hb with rfl | hb
        · rw [f3] at hv
          exact List.mem_cons_of_mem _ (List.mem_of_mem_take hv)
        · have := i1 b hb v hv
          rw [f4] at this
          exact List.mem_cons_of_mem _ (List.mem_of_mem_drop this)
      · rw [List.flatten_cons, List.length_append, List.length_cons]
        omega
      · simp only [List.length_cons]
        omega
theorem blk_in {l : Bytes} {y : List Bytes × Bytes} (h : blk l = some y) : (∀ b ∈ y.1, ∀ x ∈ b, x ∈ l) ∧ y.1.flatten.length ≤ l.length ∧ y.1.length ≤ l.length := blk_mem (l.length + 1) l y (Nat.lt_succ_self _) h
def mNt (nt : Note) (l : Bytes) : Option (Note × Bytes) := (byte l).bind fun kind => (blk kind.2).bind fun b => (noteOf kind.1 b.1 nt).map fun n => (n, b.2)
theorem prt_nt {w h : Nat} {gl : Option Bytes} {nt : Note} (l : Bytes) : prt w h gl nt (0x21 :: l) = (mNt nt l).bind fun x => prt w h gl x.1 x.2 := by
  cases l with
  | nil => rw [prt_note0]; rfl
  | cons k s =>
    rw [prt_note]
    unfold mNt
    simp only [byte, Option.bind_some]
    cases blk s with
    | none => rfl
    | some b =>
      simp only [Option.bind_some]
      cases noteOf k b.1 nt <;> rfl
theorem mNt_len {nt : Note} {l : Bytes} {x : Note × Bytes} (h : mNt nt l = some x) : x.2.length ≤ l.length := by
  unfold mNt at h
  simp only [Option.bind_eq_some_iff, Option.map_eq_some_iff] at h
  obtain ⟨k, hk, b, hb, n, _, rfl⟩ := h
  have hl := blk_len hb
  cases l with
  | nil => cases hk
  | cons c r =>
    cases hk
    have hl : b.2.length < r.length := hl
    show b.2.length ≤ (c :: r).length
    simp only [List.length_cons]
    omega
theorem prt_count {w h : Nat} {gl : Option Bytes} : ∀ (n : Nat) (nt : Note) (l : Bytes) (y : List Picture × Bytes), l.length < n → prt w h gl nt l = some y → y.1.length ≤ l.length
  | 0, _, _, _, h, _ => absurd h (Nat.not_lt_zero _)
  | n + 1, nt, [], y, _, q => by rw [prt_nil] at q; cases q
  | n + 1, nt, c :: r, y, h, q => by
    simp only [List.length_cons] at h ⊢
    by_cases h1 : c = 0x3B
    · subst h1
      rw [prt_last] at q
      cases q
      exact Nat.zero_le _
    · by_cases h2 : c = 0x21
      · subst h2
        rw [prt_nt] at q
        simp only [Option.bind_eq_some_iff] at q
        obtain ⟨x, hx, q⟩ := q
        have := mNt_len hx
        have := prt_count n x.1 x.2 y (by omega) q
        omega
      · by_cases h3 : c = 0x2C
        · subst h3
          rw [prt_pic] at q
          simp only [Option.bind_eq_some_iff, Option.map_eq_some_iff] at q
          obtain ⟨p, hp, z, hz, rfl⟩ := q
          have := mPic_len hp
          have := prt_count n (0, 0, 0) p.2 z (by omega) hz
          simp only [List.length_cons]
          omega
        · rw [prt_other h1 h2 h3] at q
          cases q
end Gif

set_option Elab.async false
set_option linter.all false
set_option maxRecDepth 100000
namespace Tf
open PySem L2
/-! ### data on the heap -/
/-- numbers as values -/
def bv (bs : List Nat) : List V := bs.map fun (n : Nat) => V.int (n : Int)
theorem bv_len (bs : List Nat) : (bv bs).length = bs.length := by unfold bv; rw [List.length_map]
theorem bv_app (a b : List Nat) : bv (a ++ b) = bv a ++ bv b := by unfold bv; rw [List.map_append]
theorem bv_get {bs : List Nat} {i n : Nat} (h : bs[i]? = some n) : (bv bs)[i]? = some (.int (n : Int)) := by unfold bv; rw [List.getElem?_map, h]; rfl
theorem bv_cut (bs : List Nat) (p n : Nat) (h : p + n ≤ bs.length) : cutV (bv bs) (some (p : Int)) (some ((p + n : Nat) : Int)) = bv ((bs.drop p).take n) := by
  unfold cutV
  rw [HT.sIx_nat, HT.sIx_nat, bv_len, Nat.min_eq_left h, Nat.min_eq_left (show p ≤ bs.length by omega), Nat.add_sub_cancel_left]
  unfold bv
  rw [List.map_take, List.map_drop]
theorem bv_cut0 (bs : List Nat) (n : Nat) : cutV (bv bs) none (some (n : Int)) = bv (bs.take n) := by
  unfold cutV
  rw [HT.sIx_nat, HT.sIx_none, bv_len, Nat.sub_zero, List.drop_zero]
  unfold bv
  rw [List.map_take]
  by_cases h : n ≤ bs.length
  · rw [Nat.min_eq_left h]
  · rw [Nat.min_eq_right (by omega), List.take_of_length_le (by simp), List.take_of_length_le (by simp; omega)]
theorem pmap {α β : Type} {F G : α → β → Prop} {l₁ : List α} {l₂ : List β} (h : Paired F l₁ l₂) (f : ∀ a b, F a b → G a b) : Paired G l₁ l₂ := L2.Paired.mapP h f
/-- a list of lists of numbers -/
def BLs (H : Hp) (a : Addr) (ls : List (List Nat)) : Prop := ∃ as : List Addr, H a = some (.lst (as.map V.ref)) ∧ Paired (fun b l => H b = some (.lst (bv l))) as ls
theorem BLs.same {H H' : Hp} {a : Addr} {ls : List (List Nat)} (h : BLs H a ls) (e : Same H H') : BLs H' a ls := by
  obtain ⟨as, h1, h2⟩ := h
  exact ⟨as, e _ _ h1, pmap h2 fun b l q => e _ _ q⟩
theorem paired_len {α β : Type} {F : α → β → Prop} : ∀ {l₁ : List α} {l₂ : List β}, Paired F l₁ l₂ → l₁.length = l₂.length := fun h => Paired.length h
theorem paired_at {α β : Type} {F : α → β → Prop} : ∀ {l₁ : List α} {l₂ : List β} {i : Nat} {y : β}, Paired F l₁ l₂ → l₂[i]? = some y → ∃ x, l₁[i]? = some x ∧ F x y
  | _, _, _, _, .nil, h => by simp at h
  | _, _, 0, _, .cons r _, h => by simp at h; subst h; exact ⟨_, rfl, r⟩
  | _, _, i + 1, y, .cons _ t, h => by
    obtain ⟨x, h1, h2⟩ := paired_at (i := i) (y := y) t (by simpa using h)
    exact ⟨x, by simpa using h1, h2⟩
theorem paired_snoc {α β : Type} {F : α → β → Prop} {x : α} {y : β} (r : F x y) : ∀ {l₁ : List α} {l₂ : List β}, Paired F l₁ l₂ → Paired F (l₁ ++ [x]) (l₂ ++ [y])
  | _, _, .nil => .cons r .nil
  | _, _, .cons q t => .cons q (paired_snoc r t)
/-! ### a new record -/
theorem made_same {H H' : Hp} {x dx C : Addr} (hx : H x = none) (hdx : H dx = none) (k : Kp [x] (upd (upd H dx (.own x)) x (.ins C dx [])) H') : Same H H' := fun b o e =>
  k b o (by rw [upd_ne (ne_of_none e hx), upd_ne (ne_of_none e hdx)]; exact e) fun z => ne_of_none e hx (List.mem_singleton.mp z)

theorem bootT : bootBuiltins "tuple" = some (.type "tuple") := by decide +kernel
theorem bootL : bootBuiltins "list" = some (.type "list") := by decide +kernel
theorem bootR : bootBuiltins "range" = some (.type "range") := by decide +kernel
theorem bv_ints (l : List Nat) : bv l = (l.map fun (n : Nat) => (n : Int)).map V.int := by unfold bv; rw [List.map_map]; rfl
theorem nats_bv (ns : List Int) (h : ∀ x ∈ ns, 0 ≤ x ∧ x ≤ 255) : ns.map V.int = bv (Sw22Neutral.nats ns) := by
  unfold bv Sw22Neutral.nats
  rw [List.map_map]
  refine List.map_congr_left fun x hx => ?_
  show V.int x = V.int ((x.toNat : Nat) : Int)
  rw [Int.toNat_of_nonneg (h x hx).1]
theorem nats_lt (ns : List Int) (h : ∀ x ∈ ns, 0 ≤ x ∧ x ≤ 255) : ∀ x ∈ Sw22Neutral.nats ns, x < 256 := by
  intro x hx
  obtain ⟨y, hy, rfl⟩ := List.mem_map.mp hx
  have := h y hy
  omega
theorem nats_len (ns : List Int) : (Sw22Neutral.nats ns).length = ns.length := by unfold Sw22Neutral.nats; rw [List.length_map]
theorem ints_bv (l : List Nat) : (Sw22Neutral.ints l).map V.int = bv l := by unfold Sw22Neutral.ints bv; rw [List.map_map]; rfl
theorem vals_ints6 {t0 t1 t2 t3 t4 t5 : Tok} (a b c d e f : Int) : Vals ([a, b, c, d, e, f].map V.int) [.int a t0, .int b t1, .int c t2, .int d t3, .int e t4, .int f t5] :=
  .cons ⟨_, rfl⟩ (.cons ⟨_, rfl⟩ (.cons ⟨_, rfl⟩ (.cons ⟨_, rfl⟩ (.cons ⟨_, rfl⟩ (.cons ⟨_, rfl⟩ .nil)))))
end Tf

namespace Tf
open PySem L2
def top (i : Nat) : Stmt := PySem.Challenge.pw_tintfile_s03_draw.main.body.getD i (.Pass ⟨0, 0, 0, 0⟩)
abbrev rd0 : Nat := 19
abbrev cd0 : Nat := 0
end Tf

set_option Elab.async false
set_option linter.all false
set_option maxRecDepth 100000
namespace Tf
open PySem L2
/-! ### the text by places -/
abbrev sInit : Stmt := inClass (top (rd0 + 9)) 0
abbrev sByte : Stmt := inClass (top (rd0 + 9)) 1
abbrev sPair : Stmt := inClass (top (rd0 + 9)) 2
abbrev sBytes : Stmt := inClass (top (rd0 + 9)) 3
abbrev sSkip : Stmt := inClass (top (rd0 + 9)) 4
abbrev sScr : Stmt := inClass (top (rd0 + 10)) 0
abbrev sMan : Stmt := inClass (top (rd0 + 11)) 0
abbrev sAre : Stmt := inClass (top (rd0 + 12)) 0
abbrev sPic : Stmt := inClass (top (rd0 + 13)) 0
abbrev sOut : Stmt := inClass (top (rd0 + 14)) 0
abbrev sOutline : Stmt := top (rd0 + 15)
abbrev sHead : Stmt := top (rd0 + 16)
abbrev sScreen : Stmt := top (rd0 + 17)
abbrev sTable : Stmt := top (rd0 + 18)
abbrev sPictures : Stmt := top (rd0 + 19)
abbrev sPlain : Stmt := top (rd0 + 20)
abbrev sNote : Stmt := top (rd0 + 21)
abbrev sManner : Stmt := top (rd0 + 22)
abbrev sBlocks : Stmt := top (rd0 + 23)
abbrev sPicture : Stmt := top (rd0 + 24)
abbrev sJoin : Stmt := top (rd0 + 25)
abbrev sArea : Stmt := top (rd0 + 26)
abbrev sEdge : Stmt := top (rd0 + 27)
/-! ### what the top has made for reading -/
structure Cs where
  C : Addr
  CS : Addr
  CM : Addr
  CA : Addr
  CP : Addr
  CO : Addr
  X : Addr
structure Txt (K : PySem.W.Frag) (mg : Str → Option Value) (c : Cs) : Prop where
  cl : Cls K c.C
  nC_file : NoAttr K c.C "file"
  nC_place : NoAttr K c.C "place"
  mgC : mg "Reader" = some (.ref c.C)
  cs : Cls K c.CS
  nCS_width : NoAttr K c.CS "width"
  nCS_height : NoAttr K c.CS "height"
  nCS_colours : NoAttr K c.CS "colours"
  mgS : mg "Screen" = some (.ref c.CS)
  cm : Cls K c.CM
  nCM_time : NoAttr K c.CM "time"
  nCM_after : NoAttr K c.CM "after"
  nCM_transparent : NoAttr K c.CM "transparent"
  mgM : mg "Manner" = some (.ref c.CM)
  ca : Cls K c.CA
  nCA_left : NoAttr K c.CA "left"
  nCA_top : NoAttr K c.CA "top"
  nCA_width : NoAttr K c.CA "width"
  nCA_height : NoAttr K c.CA "height"
  mgA : mg "Area" = some (.ref c.CA)
  cp : Cls K c.CP
  nCP_area : NoAttr K c.CP "area"
  nCP_manner : NoAttr K c.CP "manner"
  nCP_colours : NoAttr K c.CP "colours"
  nCP_in_passes : NoAttr K c.CP "in_passes"
  nCP_size : NoAttr K c.CP "size"
  nCP_data : NoAttr K c.CP "data"
  mgP : mg "Picture" = some (.ref c.CP)
  co : Cls K c.CO
  nCO_screen : NoAttr K c.CO "screen"
  nCO_pictures : NoAttr K c.CO "pictures"
  nCO_length : NoAttr K c.CO "length"
  mgO : mg "Outline" = some (.ref c.CO)
  xc : XCls K mg "NoFile" c.X
  len : mg "len" = none
  range : mg "range" = none
  tuple : mg "tuple" = none
  note : ∃ t, mg "NOTE" = some (.int 33 t)
  pict : ∃ t, mg "PICTURE" = some (.int 44 t)
  last : ∃ t, mg "LAST" = some (.int 59 t)
  pnote : ∃ t, mg "PICTURE_NOTE" = some (.int 249 t)
  mplaces : ∃ t, mg "MOST_PLACES" = some (.int 1048576 t)
  mpict : ∃ t, mg "MOST_PICTURES" = some (.int 4096 t)
  mbytes : ∃ t, mg "MOST_BYTES" = some (.int 1048576 t)
  heads : ∃ (a a1 a2 : Addr), mg "HEADS" = some (.ref a) ∧ a1 ≠ a2 ∧ ∀ H, SqT K H a [.ref a1, .ref a2] ∧ SqT K H a1 ([71, 73, 70, 56, 55, 97].map V.int) ∧ SqT K H a2 ([71, 73, 70, 56, 57, 97].map V.int)
/-! ### data on the heap -/
def ManAt (c : Cs) (H : Hp) (x : Addr) (time after : Nat) (tr : Int) : Prop := ∃ dx fs, H x = some (.ins c.CM dx fs) ∧ fs.lookup ("time" : Str) = some (.int (time : Int)) ∧ fs.lookup ("after" : Str) = some (.int (after : Int)) ∧ fs.lookup ("transparent" : Str) = some (.int tr)
theorem ManAt.same {c : Cs} {H H' : Hp} {x : Addr} {time after : Nat} {tr : Int} (h : ManAt c H x time after tr) (e : Same H H') : ManAt c H' x time after tr := let ⟨dx, fs, h1, h2⟩ := h; ⟨dx, fs, e _ _ h1, h2⟩
def transp (nt : Sw22.Note) : Int := match (if nt.1 % 2 = 1 then some nt.2.2 else none : Option Nat) with
  | some c => (c : Int)
  | none => -1
def NoteAt (c : Cs) (H : Hp) (x : Addr) (nt : Sw22.Note) : Prop := ManAt c H x nt.2.1 (nt.1 / 4 % 8) (transp nt)
theorem NoteAt.same {c : Cs} {H H' : Hp} {x : Addr} {nt : Sw22.Note} (h : NoteAt c H x nt) (e : Same H H') : NoteAt c H' x nt := ManAt.same h e
def AreAt (c : Cs) (H : Hp) (x : Addr) (a : Nat × Nat × Nat × Nat) : Prop := ∃ dx fs, H x = some (.ins c.CA dx fs) ∧ fs.lookup ("left" : Str) = some (.int (a.1 : Int)) ∧ fs.lookup ("top" : Str) = some (.int (a.2.1 : Int)) ∧ fs.lookup ("width" : Str) = some (.int (a.2.2.1 : Int)) ∧ fs.lookup ("height" : Str) = some (.int (a.2.2.2 : Int))
theorem AreAt.same {c : Cs} {H H' : Hp} {x : Addr} {a : Nat × Nat × Nat × Nat} (h : AreAt c H x a) (e : Same H H') : AreAt c H' x a := let ⟨dx, fs, h1, h2⟩ := h; ⟨dx, fs, e _ _ h1, h2⟩
def ScrAt (c : Cs) (H : Hp) (x : Addr) (W Hh : Nat) (gl : Option Sw22.Bytes) : Prop := ∃ dx fs ca, H x = some (.ins c.CS dx fs) ∧ fs.lookup ("width" : Str) = some (.int (W : Int)) ∧ fs.lookup ("height" : Str) = some (.int (Hh : Int)) ∧ fs.lookup ("colours" : Str) = some (.ref ca) ∧ BLs H ca (Gif.tbl gl)
theorem ScrAt.same {c : Cs} {H H' : Hp} {x : Addr} {W Hh : Nat} {gl : Option Sw22.Bytes} (h : ScrAt c H x W Hh gl) (e : Same H H') : ScrAt c H' x W Hh gl := let ⟨dx, fs, ca, h1, h2, h3, h4, h5⟩ := h; ⟨dx, fs, ca, e _ _ h1, h2, h3, h4, h5.same e⟩
structure PicAt (c : Cs) (H : Hp) (x : Addr) (p : Sw22.Picture) : Prop where
  ex : ∃ (dx : Addr) (fs : List (Str × V)) (ar mn ca dt : Addr), H x = some (.ins c.CP dx fs) ∧ fs.lookup ("area" : Str) = some (.ref ar) ∧ fs.lookup ("manner" : Str) = some (.ref mn) ∧ fs.lookup ("colours" : Str) = some (.ref ca) ∧
    fs.lookup ("in_passes" : Str) = some (.bl p.passes) ∧ fs.lookup ("size" : Str) = some (.int (p.size : Int)) ∧ fs.lookup ("data" : Str) = some (.ref dt) ∧
    AreAt c H ar (p.left, p.top, p.width, p.height) ∧ ManAt c H mn p.time p.after (Gif.clearInt p) ∧ BLs H ca (Gif.threes p.colours) ∧ H dt = some (.lst (bv p.data))
  by_ : ∀ x ∈ p.data, x < 256
  few : p.data.length ≤ 100000
theorem PicAt.same {c : Cs} {H H' : Hp} {x : Addr} {p : Sw22.Picture} (h : PicAt c H x p) (e : Same H H') : PicAt c H' x p := by
  obtain ⟨dx, fs, ar, mn, ca, dt, h1, h2, h3, h4, h5, h6, h7, h8, h9, h10, h11⟩ := h.ex
  exact ⟨⟨dx, fs, ar, mn, ca, dt, e _ _ h1, h2, h3, h4, h5, h6, h7, h8.same e, h9.same e, h10.same e, e _ _ h11⟩, h.by_, h.few⟩
def PicsAt (c : Cs) (H : Hp) (a : Addr) (ps : List Sw22.Picture) : Prop := ∃ as : List Addr, H a = some (.lst (as.map V.ref)) ∧ Paired (fun b p => PicAt c H b p) as ps
theorem PicsAt.same {c : Cs} {H H' : Hp} {a : Addr} {ps : List Sw22.Picture} (h : PicsAt c H a ps) (e : Same H H') : PicsAt c H' a ps := by
  obtain ⟨as, h1, h2⟩ := h
  exact ⟨as, e _ _ h1, pmap h2 fun b p q => q.same e⟩
def OutAt (c : Cs) (H : Hp) (o : Addr) (f : Sw22.File) : Prop := ∃ dx fs sc pl gl, H o = some (.ins c.CO dx fs) ∧ fs.lookup ("screen" : Str) = some (.ref sc) ∧ fs.lookup ("pictures" : Str) = some (.ref pl) ∧ fs.lookup ("length" : Str) = some (.int (f.length : Int)) ∧
  ScrAt c H sc f.width f.height gl ∧ PicsAt c H pl f.pictures
theorem OutAt.same {c : Cs} {H H' : Hp} {o : Addr} {f : Sw22.File} (h : OutAt c H o f) (e : Same H H') : OutAt c H' o f := by
  obtain ⟨dx, fs, sc, pl, gl, h1, h2, h3, h4, h5, h6⟩ := h
  exact ⟨dx, fs, sc, pl, gl, e _ _ h1, h2, h3, h4, h5.same e, h6.same e⟩
/-! ### a reader -/
abbrev rkeys : List Str := ["file", "place"]
/-- a Reader at r over the list at a whose bytes are bs, l being left; S: what may be written meanwhile -/
structure RdS (K : PySem.W.Frag) (c : Cs) (S : List Addr) (H : Hp) (r a : Addr) (bs l : List Nat) : Prop where
  sq : SqL K (hid (r :: S) H) a (bv bs)
  ob : ∃ (dx : Addr) (fs : List (Str × V)) (p : Nat), H r = some (.ins c.C dx fs) ∧ fs.map (·.1) = rkeys ∧ fs.lookup ("file" : Str) = some (.ref a) ∧ fs.lookup ("place" : Str) = some (.int (p : Int)) ∧ p ≤ bs.length ∧ l = bs.drop p
  by_ : ∀ x ∈ bs, x < 256
  few : bs.length ≤ 100000
  nr : r ∉ S
  live : ∀ x ∈ S, H x ≠ none
section
variable {K : PySem.W.Frag} {c : Cs} {S T : List Addr} {H H' : Hp} {r a : Addr} {bs l : List Nat}
theorem RdS.seq (R : RdS K c S H r a bs l) : SqL K H a (bv bs) := hid_same.seq R.sq
/-- a new address is none of those set aside -/
theorem RdS.out (R : RdS K c S H r a bs l) {x : Addr} (h : H x = none) : x ∉ r :: S := fun z => by
  rcases List.mem_cons.mp z with q | q
  · obtain ⟨dx, fs, p, h1, _⟩ := R.ob
    rw [q, h1] at h
    cases h
  · exact R.live x q h
theorem RdS.same (R : RdS K c S H r a bs l) (e : Same H H') : RdS K c S H' r a bs l := by
  obtain ⟨dx, fs, p, h1, h2⟩ := R.ob
  refine ⟨(Same.kp (S := []) e |>.hid fun b z => nomatch z).seq R.sq, ⟨dx, fs, p, e _ _ h1, h2⟩, R.by_, R.few, R.nr, fun x hx z => R.live x hx (e.free z)⟩
theorem RdS.upd {d : Addr} {o : HO} (R : RdS K c S H r a bs l) (h : d ∈ S) : RdS K c S (upd H d o) r a bs l := by
  obtain ⟨dx, fs, p, h1, h2⟩ := R.ob
  have ne : r ≠ d := fun z => R.nr (by rw [z]; exact h)
  refine ⟨(hid_upd (List.mem_cons_of_mem _ h)).seq R.sq, ⟨dx, fs, p, by rw [upd_ne ne]; exact h1, h2⟩, R.by_, R.few, R.nr, fun x hx z => ?_⟩
  by_cases q : x = d
  · rw [q, upd_same] at z
    cases z
  · rw [upd_ne q] at z
    exact R.live x hx z
theorem RdS.new {d : Addr} {o : HO} (R : RdS K c S H r a bs l) (hd : H d = none) : RdS K c (d :: S) (L2.upd H d o) r a bs l := by
  obtain ⟨dx, fs, p, h1, h2⟩ := R.ob
  have ne : r ≠ d := ne_of_none h1 hd
  refine ⟨?_, ⟨dx, fs, p, by rw [upd_ne ne]; exact h1, h2⟩, R.by_, R.few, fun z => ?_, fun x hx z => ?_⟩
  · refine Same.seq (fun b u e => ?_) R.sq
    have e1 := of_hid e
    have nb : b ≠ d := ne_of_none e1.1 hd
    refine hid_of (by rw [upd_ne nb]; exact e1.1) fun z => ?_
    rcases List.mem_cons.mp z with q | q
    · exact e1.2 (by rw [q]; exact List.mem_cons_self)
    · rcases List.mem_cons.mp q with q | q
      · exact nb q
      · exact e1.2 (List.mem_cons_of_mem _ q)
  · rcases List.mem_cons.mp z with q | q
    · exact ne q
    · exact R.nr q
  · by_cases q : x = d
    · rw [q, upd_same] at z
      cases z
    · rw [upd_ne q] at z
      rcases List.mem_cons.mp hx with q' | q'
      · exact q q'
      · exact R.live x q' z
theorem RdS.less (R : RdS K c S H r a bs l) (h : ∀ b ∈ T, b ∈ S) : RdS K c T H r a bs l :=
  ⟨(hid_less fun b z => by
    rcases List.mem_cons.mp z with q | q
    · rw [q]; exact List.mem_cons_self
    · exact List.mem_cons_of_mem _ (h b q)).seq R.sq, R.ob, R.by_, R.few, fun z => R.nr (h _ z), fun x hx => R.live x (h x hx)⟩
theorem RdS.left (R : RdS K c S H r a bs l) : ∀ x ∈ l, x < 256 := by
  obtain ⟨_, _, p, _, _, _, _, _, e⟩ := R.ob
  intro x hx
  rw [e] at hx
  exact R.by_ x (List.mem_of_mem_drop hx)
theorem RdS.len (R : RdS K c S H r a bs l) : l.length ≤ bs.length := by
  obtain ⟨_, _, p, _, _, _, _, _, e⟩ := R.ob
  rw [e, List.length_drop]
  omega
/-- .. by its place -/
theorem RdS.placed {dx : Addr} {fs : List (Str × V)} {n : Nat} (R : RdS K c S H r a bs l) (k : Kp [r] H H') (h1 : H' r = some (.ins c.C dx fs)) (h2 : fs.map (·.1) = rkeys) (h3 : fs.lookup ("file" : Str) = some (.ref a)) (h4 : fs.lookup ("place" : Str) = some (.int (n : Int))) (h5 : n ≤ bs.length) :
    RdS K c S H' r a bs (bs.drop n) :=
  ⟨(k.hid fun b z => by rw [List.mem_singleton.mp z]; exact List.mem_cons_self).seq R.sq, ⟨dx, fs, n, h1, h2, h3, h4, h5, rfl⟩, R.by_, R.few, R.nr, fun x hx z =>
    R.live x hx (k.free z fun q => R.nr (by rw [← List.mem_singleton.mp q]; exact hx))⟩
/-- what a step of the reader leaves of the rest -/
theorem kp_hid (k : Kp [r] H H') : Same (hid (r :: S) H) (hid (r :: S) H') := k.hid fun b z => by rw [List.mem_singleton.mp z]; exact List.mem_cons_self
theorem hid_tail {d : Addr} : Same (hid (r :: d :: S) H) (hid (r :: S) H) := hid_less fun b z => by
  rcases List.mem_cons.mp z with q | q
  · rw [q]; exact List.mem_cons_self
  · exact List.mem_cons_of_mem _ (List.mem_cons_of_mem _ q)
/-- a new list is set aside, too -/
theorem hid_more {d : Addr} {o : HO} (hd : H d = none) : Same (hid (r :: S) H) (hid (r :: d :: S) (L2.upd H d o)) := fun b u e => by
  have e1 := of_hid e
  have nb : b ≠ d := ne_of_none e1.1 hd
  refine hid_of (by rw [upd_ne nb]; exact e1.1) fun z => ?_
  rcases List.mem_cons.mp z with q | q
  · exact e1.2 (by rw [q]; exact List.mem_cons_self)
  · rcases List.mem_cons.mp q with q | q
    · exact nb q
    · exact e1.2 (List.mem_cons_of_mem _ q)
end
/-- what a step of the reader may end in -/
def Then (K : PySem.W.Frag) (c : Cs) (S : List Addr) (r a : Addr) (bs : List Nat) (H : Hp) (Q : VK) (E : XK) : Option (V × List Nat) → Prop
  | none => ∀ H', E (.ref c.X) none H'
  | some (v, l') => ∀ H', RdS K c S H' r a bs l' → Kp [r] H H' → Q v H'
def spInit (c : Cs) : Sp := fun vs H Q _ => ∃ (r a dx : Addr), vs = [.ref r, .ref a] ∧ H r = some (.ins c.C dx []) ∧ ∀ H' fs, H' r = some (.ins c.C dx fs) → fs.map (·.1) = rkeys → fs.lookup ("file" : Str) = some (.ref a) → fs.lookup ("place" : Str) = some (.int 0) → Kp [r] H H' → Q .non H'
def spSkip (K : PySem.W.Frag) (c : Cs) : Sp := fun vs H Q E => ∃ (S : List Addr) (r a : Addr) (bs l : List Nat) (n : Nat), vs = [.ref r, .int (n : Int)] ∧ RdS K c S H r a bs l ∧ Then K c S r a bs H Q E ((Gif.skip n l).map fun l' => (.non, l'))
def spByte (K : PySem.W.Frag) (c : Cs) : Sp := fun vs H Q E => ∃ (S : List Addr) (r a : Addr) (bs l : List Nat), vs = [.ref r] ∧ RdS K c S H r a bs l ∧ Then K c S r a bs H Q E ((Gif.byte l).map fun x => (.int (x.1 : Int), x.2))
def spPair (K : PySem.W.Frag) (c : Cs) : Sp := fun vs H Q E => ∃ (S : List Addr) (r a : Addr) (bs l : List Nat), vs = [.ref r] ∧ RdS K c S H r a bs l ∧ Then K c S r a bs H Q E ((Gif.pair l).map fun x => (.int (x.1 : Int), x.2))
def spBytes (K : PySem.W.Frag) (c : Cs) : Sp := fun vs H Q E => ∃ (S : List Addr) (r a : Addr) (bs l : List Nat) (n : Nat), vs = [.ref r, .int (n : Int)] ∧ RdS K c S H r a bs l ∧ match Sw22.front n l with
  | none => ∀ H', E (.ref c.X) none H'
  | some x => ∀ H' p, RdS K c S H' r a bs x.2 → hid (r :: S) H' p = some (.lst (bv x.1)) → Kp [r] H H' → Q (.ref p) H'
section
variable {P : Program} {w : World} {K : PySem.W.Frag} {mg : Str → Option Value} {base : Heap} {c : Cs}
theorem scI : FnScope ["self", "file"] ["self", "file"] (defScope sInit) := ⟨rfl, rfl, rfl, by decide +kernel, rfl, by decide +kernel, by decide +kernel⟩
theorem ok_init {f : Addr} {fd : FuncData} (F : Fun K "__init__" "Reader.__init__" sInit f fd) (T : Txt K mg c) : FnOk P w K mg base CX0 1 f fd ["self", "file"] (spInit c) := by
  refine F.ok scI (fun vs H Q E h => ?_) (fun cdv A outer s H vs Q E hr h => ?_)
  · obtain ⟨r, a, dx, rfl, _⟩ := h
    rfl
  · obtain ⟨r, a, dx, rfl, hr', k⟩ := h
    refine ⟨_, pss_cons (ps_fld (pv 0) (pv 1) rfl) (pss_one (ps_fld (pv 0) pe_int rfl)), ?_⟩
    have k1 : (putF "file" (.ref a) ([] : List (Str × V))).map (·.1) = (["file"] : List Str) := keys_add (rfl : ([] : List (Str × V)).map (·.1) = ([] : List Str))
    have k2 : (putF "place" (.int 0) (putF "file" (.ref a) ([] : List (Str × V)))).map (·.1) = rkeys := keys_add k1
    exact ⟨_, rfl, _, rfl, r, c.C, dx, _, rfl, hr', T.cl, T.nC_file, (by show 0 < 1000; decide), _, rfl, r, c.C, dx, _, rfl, upd_same, T.cl, T.nC_place, keys_len k1, k _ _ upd_same k2 (lk1 lk0) lk0 (Kp.write Kp.upd (List.mem_singleton.mpr rfl))⟩
theorem scS : FnScope ["self", "many"] ["self", "many"] (defScope sSkip) := ⟨rfl, rfl, rfl, by decide +kernel, rfl, by decide +kernel, by decide +kernel⟩
theorem ok_skip {f : Addr} {fd : FuncData} (F : Fun K "skip" "Reader.skip" sSkip f fd) (T : Txt K mg c) : FnOk P w K mg base (CXF P w) 1 f fd ["self", "many"] (spSkip K c) := by
  refine F.okX scS (fun vs H Q E h => ?_) (fun cdv A outer s H vs Q E hr h => ?_)
  · obtain ⟨S, r, a, bs, l, n, rfl, _⟩ := h
    rfl
  · obtain ⟨S, r, a, bs, l, n, rfl, R, k⟩ := h
    obtain ⟨dx, fs, p, hp, hk, hf, hpl, hple, rfl⟩ := id R.ob
    refine ⟨_, pss_cons (ps_if (pt_cmpR op_gt (pe_op op_add (pe_fld (pv 0) rfl) (pv 1)) (pe_callB call_len_seq (by rfl) T.len PySem.boot_len (pa_cons (pe_fld (pv 0) rfl) pa_nil)) (nomark _))
        (pss_one (ps_raise T.xc rfl rfl madeD)) pss_nil)
      (pss_one (ps_fldaug (pv 0) (pv 1) in_add)), ?_⟩
    refine ⟨_, rfl, r, c.C, dx, _, _, rfl, hp, T.cl, T.nC_place, hpl, _, rfl, _, _, rfl, rfl, _, rfl, r, c.C, dx, _, _, rfl, hp, T.cl, T.nC_file, hf, a, _, rfl, .inl R.seq, _, _, rfl, rfl, _, rfl, ?_⟩
    have hlen : (bv bs).length = bs.length := bv_len bs
    refine ite2 (fun z => ?_) (fun z => ?_)
    · have z' : (bs.length : Int) < (p : Int) + (n : Int) := by rw [← hlen]; simpa using z
      have e : Gif.skip n (bs.drop p) = none := by
        unfold Gif.skip
        rw [if_neg (by rw [List.length_drop]; omega)]
      rw [e] at k
      exact k _
    · have z' : (p : Int) + (n : Int) ≤ (bs.length : Int) := by
        rw [← hlen]
        have := z
        simp at this
        omega
      have e : Gif.skip n (bs.drop p) = some (bs.drop (p + n)) := by
        unfold Gif.skip
        rw [if_pos (by rw [List.length_drop]; omega), List.drop_drop]
      rw [e] at k
      refine ⟨_, rfl, r, c.C, dx, _, _, rfl, hp, T.cl, T.nC_place, hpl, _, rfl, _, _, rfl, rfl, dx, _, hp, keys_len hk, ?_⟩
      exact k _ (R.placed (n := p + n) Kp.upd upd_same (keys_to hk) (lk1 hf) lk0 (by omega)) Kp.upd
theorem scB : FnScope ["self", "start"] ["self"] (defScope sByte) := ⟨rfl, rfl, rfl, by decide +kernel, rfl, by decide +kernel, by decide +kernel⟩
theorem ok_byte {f fS : Addr} {fd fdS : FuncData} (F : Fun K "take_byte" "Reader.take_byte" sByte f fd) (T : Txt K mg c) (GS : FnOk P w K mg base (CXF P w) 1 fS fdS ["self", "many"] (spSkip K c)) (bS : Binds K fdS ["self", "many"] []) (mS : Meth K c.C "skip" fS) :
    FnOk P w K mg base (CXF P w) 2 f fd ["self"] (spByte K c) := by
  refine F.okX scB (fun vs H Q E h => ?_) (fun cdv A outer s H vs Q E hr h => ?_)
  · obtain ⟨S, r, a, bs, l, rfl, _⟩ := h
    rfl
  · obtain ⟨S, r, a, bs, l, rfl, R, k⟩ := h
    obtain ⟨dx, fs, p, hp, hk, hf, hpl, hple, el⟩ := id R.ob
    refine ⟨_, pss_cons (ps_set (i := 1) scB.nd rfl (Or.inl rfl) (pe_fld (pv 0) rfl))
      (pss_cons (ps_expr (pe_meth (pv 0) T.cl mS GS hr bS .nil passD (pa_cons pe_int pa_nil)))
      (pss_one (ps_ret (pe_ix ix_list (pe_fld (pv 0) rfl) (pv 1) (fun _ _ => rfl))))), ?_⟩
    refine ⟨_, rfl, r, c.C, dx, _, _, rfl, hp, T.cl, T.nC_place, hpl, _, rfl, r, dx, _, rfl, hp, key_no hk, S, r, a, bs, l, 1, rfl, R, ?_⟩
    cases l with
    | nil => exact k
    | cons b l' =>
      show ∀ H', RdS K c S H' r a bs (List.drop 1 (b :: l')) → Kp [r] H H' → _
      intro H1 R1 kp
      obtain ⟨dx1, fs1, p1, hp1, hk1, hf1, _⟩ := id R1.ob
      refine ⟨_, rfl, r, c.C, dx1, _, _, rfl, hp1, T.cl, T.nC_file, hf1, _, rfl, a, _, _, _, rfl, rfl, R1.seq, atI_nat (j := p) (v := V.int (b : Int)) ?_, k H1 R1 kp⟩
      refine bv_get ?_
      have := congrArg (fun l : List Nat => l[0]?) el
      simpa using this.symm
theorem scP : FnScope ["self", "lower_byte"] ["self"] (defScope sPair) := ⟨rfl, rfl, rfl, by decide +kernel, rfl, by decide +kernel, by decide +kernel⟩
theorem ok_pair {f fB : Addr} {fd fdB : FuncData} (F : Fun K "take_pair" "Reader.take_pair" sPair f fd) (T : Txt K mg c) (GB : FnOk P w K mg base (CXF P w) 2 fB fdB ["self"] (spByte K c)) (bB : Binds K fdB ["self"] []) (mB : Meth K c.C "take_byte" fB) :
    FnOk P w K mg base (CXF P w) 3 f fd ["self"] (spPair K c) := by
  refine F.okX scP (fun vs H Q E h => ?_) (fun cdv A outer s H vs Q E hr h => ?_)
  · obtain ⟨S, r, a, bs, l, rfl, _⟩ := h
    rfl
  · obtain ⟨S, r, a, bs, l, rfl, R, k⟩ := h
    obtain ⟨dx, fs, p, hp, hk, _⟩ := id R.ob
    refine ⟨_, pss_cons (ps_set (i := 1) scP.nd rfl (Or.inl rfl) (pe_meth0 (pv 0) T.cl mB GB hr bB .nil passD))
      (pss_one (ps_ret (pe_op op_add (pv 1) (pe_op op_mul pe_int (pe_meth0 (pv 0) T.cl mB GB hr bB .nil passD))))), ?_⟩
    refine ⟨_, rfl, r, dx, _, rfl, hp, key_no hk, S, r, a, bs, l, rfl, R, ?_⟩
    cases l with
    | nil => exact k
    | cons b l' =>
      show ∀ H', RdS K c S H' r a bs l' → Kp [r] H H' → _
      intro H1 R1 kp1
      obtain ⟨dx1, fs1, p1, hp1, hk1, _⟩ := id R1.ob
      refine ⟨_, rfl, _, rfl, r, dx1, _, rfl, hp1, key_no hk1, S, r, a, bs, l', rfl, R1, ?_⟩
      cases l' with
      | nil => exact k
      | cons d l2 =>
        show ∀ H', RdS K c S H' r a bs l2 → Kp [r] H1 H' → _
        intro H2 R2 kp2
        refine ⟨_, _, rfl, rfl, .inl ⟨by decide, by decide⟩, _, _, rfl, rfl, ?_⟩
        have k' : ∀ H', RdS K c S H' r a bs l2 → Kp [r] H H' → Q (.int ((b + 256 * d : Nat) : Int)) H' := k
        have e : (b : Int) + 256 * (d : Int) = ((b + 256 * d : Nat) : Int) := by omega
        show Q (.int ((b : Int) + 256 * (d : Int))) H2
        rw [e]
        exact k' H2 R2 (kp1.trans kp2)
theorem scBs : FnScope ["self", "many", "start"] ["self", "many"] (defScope sBytes) := ⟨rfl, rfl, rfl, by decide +kernel, rfl, by decide +kernel, by decide +kernel⟩
theorem ok_bytes {f fS : Addr} {fd fdS : FuncData} (F : Fun K "take_bytes" "Reader.take_bytes" sBytes f fd) (T : Txt K mg c) (GS : FnOk P w K mg base (CXF P w) 1 fS fdS ["self", "many"] (spSkip K c)) (bS : Binds K fdS ["self", "many"] []) (mS : Meth K c.C "skip" fS) :
    FnOk P w K mg base (CXF P w) 2 f fd ["self", "many"] (spBytes K c) := by
  refine F.okX scBs (fun vs H Q E h => ?_) (fun cdv A outer s H vs Q E hr h => ?_)
  · obtain ⟨S, r, a, bs, l, n, rfl, _⟩ := h
    rfl
  · obtain ⟨S, r, a, bs, l, n, rfl, R, k⟩ := h
    obtain ⟨dx, fs, p, hp, hk, hf, hpl, hple, el⟩ := id R.ob
    refine ⟨_, pss_cons (ps_set (i := 2) scBs.nd rfl (Or.inl rfl) (pe_fld (pv 0) rfl))
      (pss_cons (ps_expr (pe_meth (pv 0) T.cl mS GS hr bS .nil passD (pa_cons (pv 1) pa_nil)))
      (pss_one (ps_ret (pe_slice sl_list (pe_fld (pv 0) rfl) (po_some (pv 2)) (po_some (pe_fld (pv 0) rfl)))))), ?_⟩
    refine ⟨_, rfl, r, c.C, dx, _, _, rfl, hp, T.cl, T.nC_place, hpl, _, rfl, r, dx, _, rfl, hp, key_no hk, _, rfl, S, r, a, bs, l, n, rfl, R, ?_⟩
    by_cases hn : n ≤ l.length
    · rw [Gif.front_some hn] at k
      have e1 : Gif.skip n l = some (l.drop n) := by unfold Gif.skip; rw [if_pos hn]
      rw [e1]
      show ∀ H', RdS K c S H' r a bs (l.drop n) → Kp [r] H H' → _
      intro H1 R1 kp
      obtain ⟨dx1, fs1, p1, hp1, hk1, hf1, hpl1, hple1, el1⟩ := id R1.ob
      have hl : l.length = bs.length - p := by rw [el, List.length_drop]
      have ep : p1 = p + n := by
        have := congrArg List.length el1
        rw [List.length_drop, List.length_drop, hl] at this
        omega
      refine ⟨_, rfl, r, c.C, dx1, _, _, rfl, hp1, T.cl, T.nC_file, hf1, _, rfl, _, rfl, _, rfl, r, c.C, dx1, _, _, rfl, hp1, T.cl, T.nC_place, hpl1, _, rfl, a, _, rfl, R1.seq, fun q hq => ?_⟩
      refine k _ q (R1.same (Same.new hq)) (hid_of ?_ (R1.out hq)) (kp.same (Same.new hq))
      rw [upd_same, ep, bv_cut bs p n (by omega), ← el]
    · rw [Gif.front_none (by omega)] at k
      have e1 : Gif.skip n l = none := by unfold Gif.skip; rw [if_neg hn]
      rw [e1]
      exact k
def spIScr (c : Cs) : Sp := fun vs H Q _ => ∃ (x dx : Addr) (v0 v1 v2 : V), vs = [.ref x, v0, v1, v2] ∧ H x = some (.ins c.CS dx []) ∧ ∀ H' fs, H' x = some (.ins c.CS dx fs) → (fs.lookup ("width" : Str) = some v0 ∧ fs.lookup ("height" : Str) = some v1 ∧ fs.lookup ("colours" : Str) = some v2) → fs.map (·.1) = (["width", "height", "colours"] : List Str) → Kp [x] H H' → Q .non H'
theorem scIScr : FnScope ["self", "width", "height", "colours"] ["self", "width", "height", "colours"] (defScope sScr) := ⟨rfl, rfl, rfl, by decide +kernel, rfl, by decide +kernel, by decide +kernel⟩
theorem ok_iScr {f : Addr} {fd : FuncData} (F : Fun K "__init__" "Screen.__init__" sScr f fd) (T : Txt K mg c) : FnOk P w K mg base CX0 1 f fd ["self", "width", "height", "colours"] (spIScr c) := by
  refine F.ok scIScr (fun vs H Q E h => ?_) (fun cdv A outer s H vs Q E hr h => ?_)
  · obtain ⟨x, dx, v0, v1, v2, rfl, _⟩ := h
    rfl
  · obtain ⟨x, dx, v0, v1, v2, rfl, hx, k⟩ := h
    refine ⟨_, pss_cons (ps_fld (pv 0) (pv 1) rfl) (pss_cons (ps_fld (pv 0) (pv 2) rfl) (pss_one (ps_fld (pv 0) (pv 3) rfl))), ?_⟩
    have k1 : (putF "width" v0 ([] : List (Str × V))).map (·.1) = (["width"] : List Str) := keys_add (rfl : ([] : List (Str × V)).map (·.1) = ([] : List Str))
    have k2 : (putF "height" v1 (putF "width" v0 ([] : List (Str × V)))).map (·.1) = (["width", "height"] : List Str) := keys_add k1
    have k3 : (putF "colours" v2 (putF "height" v1 (putF "width" v0 ([] : List (Str × V))))).map (·.1) = (["width", "height", "colours"] : List Str) := keys_add k2
    exact ⟨_, rfl, _, rfl, x, c.CS, dx, _, rfl, hx, T.cs, T.nCS_width, keys_len (rfl : ([] : List (Str × V)).map (·.1) = []), _, rfl, _, rfl, x, c.CS, dx, _, rfl, upd_same, T.cs, T.nCS_height, keys_len k1, _, rfl, _, rfl, x, c.CS, dx, _, rfl, upd_same, T.cs, T.nCS_colours, keys_len k2, k _ _ upd_same ⟨lk1 (lk1 lk0), lk1 lk0, lk0⟩ k3 (Kp.write (Kp.write (Kp.upd) (List.mem_singleton.mpr rfl)) (List.mem_singleton.mpr rfl))⟩
def spIMan (c : Cs) : Sp := fun vs H Q _ => ∃ (x dx : Addr) (v0 v1 v2 : V), vs = [.ref x, v0, v1, v2] ∧ H x = some (.ins c.CM dx []) ∧ ∀ H' fs, H' x = some (.ins c.CM dx fs) → (fs.lookup ("time" : Str) = some v0 ∧ fs.lookup ("after" : Str) = some v1 ∧ fs.lookup ("transparent" : Str) = some v2) → fs.map (·.1) = (["time", "after", "transparent"] : List Str) → Kp [x] H H' → Q .non H'
theorem scIMan : FnScope ["self", "time", "after", "transparent"] ["self", "time", "after", "transparent"] (defScope sMan) := ⟨rfl, rfl, rfl, by decide +kernel, rfl, by decide +kernel, by decide +kernel⟩
theorem ok_iMan {f : Addr} {fd : FuncData} (F : Fun K "__init__" "Manner.__init__" sMan f fd) (T : Txt K mg c) : FnOk P w K mg base CX0 1 f fd ["self", "time", "after", "transparent"] (spIMan c) := by
  refine F.ok scIMan (fun vs H Q E h => ?_) (fun cdv A outer s H vs Q E hr h => ?_)
  · obtain ⟨x, dx, v0, v1, v2, rfl, _⟩ := h
    rfl
  · obtain ⟨x, dx, v0, v1, v2, rfl, hx, k⟩ := h
    refine ⟨_, pss_cons (ps_fld (pv 0) (pv 1) rfl) (pss_cons (ps_fld (pv 0) (pv 2) rfl) (pss_one (ps_fld (pv 0) (pv 3) rfl))), ?_⟩
    have k1 : (putF "time" v0 ([] : List (Str × V))).map (·.1) = (["time"] : List Str) := keys_add (rfl : ([] : List (Str × V)).map (·.1) = ([] : List Str))
    have k2 : (putF "after" v1 (putF "time" v0 ([] : List (Str × V)))).map (·.1) = (["time", "after"] : List Str) := keys_add k1
    have k3 : (putF "transparent" v2 (putF "after" v1 (putF "time" v0 ([] : List (Str × V))))).map (·.1) = (["time", "after", "transparent"] : List Str) := keys_add k2
    exact ⟨_, rfl, _, rfl, x, c.CM, dx, _, rfl, hx, T.cm, T.nCM_time, keys_len (rfl : ([] : List (Str × V)).map (·.1) = []), _, rfl, _, rfl, x, c.CM, dx, _, rfl, upd_same, T.cm, T.nCM_after, keys_len k1, _, rfl, _, rfl, x, c.CM, dx, _, rfl, upd_same, T.cm, T.nCM_transparent, keys_len k2, k _ _ upd_same ⟨lk1 (lk1 lk0), lk1 lk0, lk0⟩ k3 (Kp.write (Kp.write (Kp.upd) (List.mem_singleton.mpr rfl)) (List.mem_singleton.mpr rfl))⟩
def spIAre (c : Cs) : Sp := fun vs H Q _ => ∃ (x dx : Addr) (v0 v1 v2 v3 : V), vs = [.ref x, v0, v1, v2, v3] ∧ H x = some (.ins c.CA dx []) ∧ ∀ H' fs, H' x = some (.ins c.CA dx fs) → (fs.lookup ("left" : Str) = some v0 ∧ fs.lookup ("top" : Str) = some v1 ∧ fs.lookup ("width" : Str) = some v2 ∧ fs.lookup ("height" : Str) = some v3) → fs.map (·.1) = (["left", "top", "width", "height"] : List Str) → Kp [x] H H' → Q .non H'
theorem scIAre : FnScope ["self", "left", "top", "width", "height"] ["self", "left", "top", "width", "height"] (defScope sAre) := ⟨rfl, rfl, rfl, by decide +kernel, rfl, by decide +kernel, by decide +kernel⟩
theorem ok_iAre {f : Addr} {fd : FuncData} (F : Fun K "__init__" "Area.__init__" sAre f fd) (T : Txt K mg c) : FnOk P w K mg base CX0 1 f fd ["self", "left", "top", "width", "height"] (spIAre c) := by
  refine F.ok scIAre (fun vs H Q E h => ?_) (fun cdv A outer s H vs Q E hr h => ?_)
  · obtain ⟨x, dx, v0, v1, v2, v3, rfl, _⟩ := h
    rfl
  · obtain ⟨x, dx, v0, v1, v2, v3, rfl, hx, k⟩ := h
    refine ⟨_, pss_cons (ps_fld (pv 0) (pv 1) rfl) (pss_cons (ps_fld (pv 0) (pv 2) rfl) (pss_cons (ps_fld (pv 0) (pv 3) rfl) (pss_one (ps_fld (pv 0) (pv 4) rfl)))), ?_⟩
    have k1 : (putF "left" v0 ([] : List (Str × V))).map (·.1) = (["left"] : List Str) := keys_add (rfl : ([] : List (Str × V)).map (·.1) = ([] : List Str))
    have k2 : (putF "top" v1 (putF "left" v0 ([] : List (Str × V)))).map (·.1) = (["left", "top"] : List Str) := keys_add k1
    have k3 : (putF "width" v2 (putF "top" v1 (putF "left" v0 ([] : List (Str × V))))).map (·.1) = (["left", "top", "width"] : List Str) := keys_add k2
    have k4 : (putF "height" v3 (putF "width" v2 (putF "top" v1 (putF "left" v0 ([] : List (Str × V)))))).map (·.1) = (["left", "top", "width", "height"] : List Str) := keys_add k3
    exact ⟨_, rfl, _, rfl, x, c.CA, dx, _, rfl, hx, T.ca, T.nCA_left, keys_len (rfl : ([] : List (Str × V)).map (·.1) = []), _, rfl, _, rfl, x, c.CA, dx, _, rfl, upd_same, T.ca, T.nCA_top, keys_len k1, _, rfl, _, rfl, x, c.CA, dx, _, rfl, upd_same, T.ca, T.nCA_width, keys_len k2, _, rfl, _, rfl, x, c.CA, dx, _, rfl, upd_same, T.ca, T.nCA_height, keys_len k3, k _ _ upd_same ⟨lk1 (lk1 (lk1 lk0)), lk1 (lk1 lk0), lk1 lk0, lk0⟩ k4 (Kp.write (Kp.write (Kp.write (Kp.upd) (List.mem_singleton.mpr rfl)) (List.mem_singleton.mpr rfl)) (List.mem_singleton.mpr rfl))⟩
def spIPic (c : Cs) : Sp := fun vs H Q _ => ∃ (x dx : Addr) (v0 v1 v2 v3 v4 v5 : V), vs = [.ref x, v0, v1, v2, v3, v4, v5] ∧ H x = some (.ins c.CP dx []) ∧ ∀ H' fs, H' x = some (.ins c.CP dx fs) → (fs.lookup ("area" : Str) = some v0 ∧ fs.lookup ("manner" : Str) = some v1 ∧ fs.lookup ("colours" : Str) = some v2 ∧ fs.lookup ("in_passes" : Str) = some v3 ∧ fs.lookup ("size" : Str) = some v4 ∧ fs.lookup ("data" : Str) = some v5) → fs.map (·.1) = (["area", "manner", "colours", "in_passes", "size", "data"] : List Str) → Kp [x] H H' → Q .non H'
theorem scIPic : FnScope ["self", "area", "manner", "colours", "in_passes", "size", "data"] ["self", "area", "manner", "colours", "in_passes", "size", "data"] (defScope sPic) := ⟨rfl, rfl, rfl, by decide +kernel, rfl, by decide +kernel, by decide +kernel⟩
theorem ok_iPic {f : Addr} {fd : FuncData} (F : Fun K "__init__" "Picture.__init__" sPic f fd) (T : Txt K mg c) : FnOk P w K mg base CX0 1 f fd ["self", "area", "manner", "colours", "in_passes", "size", "data"] (spIPic c) := by
  refine F.ok scIPic (fun vs H Q E h => ?_) (fun cdv A outer s H vs Q E hr h => ?_)
  · obtain ⟨x, dx, v0, v1, v2, v3, v4, v5, rfl, _⟩ := h
    rfl
  · obtain ⟨x, dx, v0, v1, v2, v3, v4, v5, rfl, hx, k⟩ := h
    refine ⟨_, pss_cons (ps_fld (pv 0) (pv 1) rfl) (pss_cons (ps_fld (pv 0) (pv 2) rfl) (pss_cons (ps_fld (pv 0) (pv 3) rfl) (pss_cons (ps_fld (pv 0) (pv 4) rfl) (pss_cons (ps_fld (pv 0) (pv 5) rfl) (pss_one (ps_fld (pv 0) (pv 6) rfl)))))), ?_⟩
    have k1 : (putF "area" v0 ([] : List (Str × V))).map (·.1) = (["area"] : List Str) := keys_add (rfl : ([] : List (Str × V)).map (·.1) = ([] : List Str))
    have k2 : (putF "manner" v1 (putF "area" v0 ([] : List (Str × V)))).map (·.1) = (["area", "manner"] : List Str) := keys_add k1
    have k3 : (putF "colours" v2 (putF "manner" v1 (putF "area" v0 ([] : List (Str × V))))).map (·.1) = (["area", "manner", "colours"] : List Str) := keys_add k2
    have k4 : (putF "in_passes" v3 (putF "colours" v2 (putF "manner" v1 (putF "area" v0 ([] : List (Str × V)))))).map (·.1) = (["area", "manner", "colours", "in_passes"] : List Str) := keys_add k3
    have k5 : (putF "size" v4 (putF "in_passes" v3 (putF "colours" v2 (putF "manner" v1 (putF "area" v0 ([] : List (Str × V))))))).map (·.1) = (["area", "manner", "colours", "in_passes", "size"] : List Str) := keys_add k4
    have k6 : (putF "data" v5 (putF "size" v4 (putF "in_passes" v3 (putF "colours" v2 (putF "manner" v1 (putF "area" v0 ([] : List (Str × V)))))))).map (·.1) = (["area", "manner", "colours", "in_passes", "size", "data"] : List Str) := keys_add k5
    exact ⟨_, rfl, _, rfl, x, c.CP, dx, _, rfl, hx, T.cp, T.nCP_area, keys_len (rfl : ([] : List (Str × V)).map (·.1) = []), _, rfl, _, rfl, x, c.CP, dx, _, rfl, upd_same, T.cp, T.nCP_manner, keys_len k1, _, rfl, _, rfl, x, c.CP, dx, _, rfl, upd_same, T.cp, T.nCP_colours, keys_len k2, _, rfl, _, rfl, x, c.CP, dx, _, rfl, upd_same, T.cp, T.nCP_in_passes, keys_len k3, _, rfl, _, rfl, x, c.CP, dx, _, rfl, upd_same, T.cp, T.nCP_size, keys_len k4, _, rfl, _, rfl, x, c.CP, dx, _, rfl, upd_same, T.cp, T.nCP_data, keys_len k5, k _ _ upd_same ⟨lk1 (lk1 (lk1 (lk1 (lk1 lk0)))), lk1 (lk1 (lk1 (lk1 lk0))), lk1 (lk1 (lk1 lk0)), lk1 (lk1 lk0), lk1 lk0, lk0⟩ k6 (Kp.write (Kp.write (Kp.write (Kp.write (Kp.write (Kp.upd) (List.mem_singleton.mpr rfl)) (List.mem_singleton.mpr rfl)) (List.mem_singleton.mpr rfl)) (List.mem_singleton.mpr rfl)) (List.mem_singleton.mpr rfl))⟩
def spIOut (c : Cs) : Sp := fun vs H Q _ => ∃ (x dx : Addr) (v0 v1 v2 : V), vs = [.ref x, v0, v1, v2] ∧ H x = some (.ins c.CO dx []) ∧ ∀ H' fs, H' x = some (.ins c.CO dx fs) → (fs.lookup ("screen" : Str) = some v0 ∧ fs.lookup ("pictures" : Str) = some v1 ∧ fs.lookup ("length" : Str) = some v2) → fs.map (·.1) = (["screen", "pictures", "length"] : List Str) → Kp [x] H H' → Q .non H'
theorem scIOut : FnScope ["self", "screen", "pictures", "length"] ["self", "screen", "pictures", "length"] (defScope sOut) := ⟨rfl, rfl, rfl, by decide +kernel, rfl, by decide +kernel, by decide +kernel⟩
theorem ok_iOut {f : Addr} {fd : FuncData} (F : Fun K "__init__" "Outline.__init__" sOut f fd) (T : Txt K mg c) : FnOk P w K mg base CX0 1 f fd ["self", "screen", "pictures", "length"] (spIOut c) := by
  refine F.ok scIOut (fun vs H Q E h => ?_) (fun cdv A outer s H vs Q E hr h => ?_)
  · obtain ⟨x, dx, v0, v1, v2, rfl, _⟩ := h
    rfl
  · obtain ⟨x, dx, v0, v1, v2, rfl, hx, k⟩ := h
    refine ⟨_, pss_cons (ps_fld (pv 0) (pv 1) rfl) (pss_cons (ps_fld (pv 0) (pv 2) rfl) (pss_one (ps_fld (pv 0) (pv 3) rfl))), ?_⟩
    have k1 : (putF "screen" v0 ([] : List (Str × V))).map (·.1) = (["screen"] : List Str) := keys_add (rfl : ([] : List (Str × V)).map (·.1) = ([] : List Str))
    have k2 : (putF "pictures" v1 (putF "screen" v0 ([] : List (Str × V)))).map (·.1) = (["screen", "pictures"] : List Str) := keys_add k1
    have k3 : (putF "length" v2 (putF "pictures" v1 (putF "screen" v0 ([] : List (Str × V))))).map (·.1) = (["screen", "pictures", "length"] : List Str) := keys_add k2
    exact ⟨_, rfl, _, rfl, x, c.CO, dx, _, rfl, hx, T.co, T.nCO_screen, keys_len (rfl : ([] : List (Str × V)).map (·.1) = []), _, rfl, _, rfl, x, c.CO, dx, _, rfl, upd_same, T.co, T.nCO_pictures, keys_len k1, _, rfl, _, rfl, x, c.CO, dx, _, rfl, upd_same, T.co, T.nCO_length, keys_len k2, k _ _ upd_same ⟨lk1 (lk1 lk0), lk1 lk0, lk0⟩ k3 (Kp.write (Kp.write (Kp.upd) (List.mem_singleton.mpr rfl)) (List.mem_singleton.mpr rfl))⟩
end
end Tf

set_option Elab.async false
set_option linter.all false
set_option maxRecDepth 100000
namespace Tf
open PySem L2
def spEdge (c : Cs) : Sp := fun vs H Q E => ∃ (s e m : Nat), vs = [.int (s : Int), .int (e : Int), .int (m : Int)] ∧ if Gif.edge s e m = true then Q .non H else ∀ H', E (.ref c.X) none H'
def spArea (K : PySem.W.Frag) (c : Cs) : Sp := fun vs H Q E => ∃ (S : List Addr) (r a sc : Addr) (bs l : List Nat) (W Hh : Nat) (gl : Option Sw22.Bytes), vs = [.ref r, .ref sc] ∧ RdS K c S H r a bs l ∧ ScrAt c (hid (r :: S) H) sc W Hh gl ∧ match Gif.mArea W Hh l with
  | none => ∀ H', E (.ref c.X) none H'
  | some y => ∀ H' x, RdS K c S H' r a bs y.2 → AreAt c (hid (r :: S) H') x y.1 → Kp [r] H H' → Q (.ref x) H'
def spTable (K : PySem.W.Frag) (c : Cs) : Sp := fun vs H Q E => ∃ (S : List Addr) (r a : Addr) (bs l : List Nat) (n : Nat), vs = [.ref r, .int (n : Int)] ∧ RdS K c S H r a bs l ∧ match Sw22.table n l with
  | none => ∀ H', E (.ref c.X) none H'
  | some t => ∀ H' x, RdS K c S H' r a bs t.2 → BLs (hid (r :: S) H') x (Gif.tbl t.1) → Kp [r] H H' → Q (.ref x) H'
def spBlocks (K : PySem.W.Frag) (c : Cs) : Sp := fun vs H Q E => ∃ (S : List Addr) (r a : Addr) (bs l : List Nat), vs = [.ref r] ∧ RdS K c S H r a bs l ∧ match Gif.blk l with
  | none => ∀ H', E (.ref c.X) none H'
  | some y => ∀ H' d, RdS K c S H' r a bs y.2 → BLs (hid (r :: S) H') d y.1 → Kp [r] H H' → Q (.ref d) H'
def spJoin : Sp := fun vs H Q _ => ∃ (d : Addr) (ls : List (List Nat)), vs = [.ref d] ∧ BLs H d ls ∧ ls.flatten.length ≤ 100000 ∧ ∀ H' p, H' p = some (.lst (bv ls.flatten)) → H p = none → Same H H' → Q (.ref p) H'
def spPlain (c : Cs) : Sp := fun vs H Q _ => vs = [] ∧ ∀ H' x, NoteAt c H' x (0, 0, 0) → H x = none → Same H H' → Q (.ref x) H'
def spManner (c : Cs) : Sp := fun vs H Q _ => ∃ (b : Addr) (x : List Nat), vs = [.ref b] ∧ H b = some (.lst (bv x)) ∧ x.length = 4 ∧ (∀ y ∈ x, y < 256) ∧ ∀ H' m, NoteAt c H' m (x.getD 0 0, Sw22.two (x.drop 1), x.getD 3 0) → H m = none → Same H H' → Q (.ref m) H'
def spNote (K : PySem.W.Frag) (c : Cs) : Sp := fun vs H Q E => ∃ (S : List Addr) (r a mn : Addr) (bs l : List Nat) (nt : Sw22.Note), vs = [.ref r, .ref mn] ∧ RdS K c S H r a bs l ∧ NoteAt c (hid (r :: S) H) mn nt ∧ match Gif.mNt nt l with
  | none => ∀ H', E (.ref c.X) none H'
  | some y => ∀ H' m, RdS K c S H' r a bs y.2 → NoteAt c (hid (r :: S) H') m y.1 → Kp [r] H H' → Q (.ref m) H'
section
variable {P : Program} {w : World} {K : PySem.W.Frag} {mg : Str → Option Value} {base : Heap} {c : Cs}
theorem scE : FnScope ["start", "extent", "room"] ["start", "extent", "room"] (defScope sEdge) := ⟨rfl, rfl, rfl, by decide +kernel, rfl, by decide +kernel, by decide +kernel⟩
theorem ok_edge {f : Addr} {fd : FuncData} (F : Fun K "check_edge" "check_edge" sEdge f fd) (T : Txt K mg c) : FnOk P w K mg base (CXF P w) 1 f fd ["start", "extent", "room"] (spEdge c) := by
  refine F.okX scE (fun vs H Q E h => ?_) (fun cdv A outer s H vs Q E hr h => ?_)
  · obtain ⟨a, b, m, rfl, _⟩ := h
    rfl
  · obtain ⟨a, b, m, rfl, k⟩ := h
    refine ⟨_, pss_one (ps_if (PW.pt (pw_or (pt_cmpR op_lt (pv 1) pe_int (nomark _)) (pw_or1 (pt_cmpR op_gt (pe_op op_add (pv 0) (pv 1)) (pv 2) (nomark _)))))
      (pss_one (ps_raise T.xc rfl rfl madeD)) pss_nil), ?_⟩
    refine ⟨_, rfl, _, _, rfl, rfl, _, rfl, ?_⟩
    refine ite2 (fun h1 => ?_) (fun h1 => ?_)
    · have h1' : (b : Int) < 1 := by simpa using h1
      have e : Gif.edge a b m = false := by unfold Gif.edge; simp; omega
      rw [e] at k
      exact iteT (k _)
    · have h1' : ¬ (b : Int) < 1 := by simpa using h1
      refine ⟨_, rfl, _, rfl, _, _, rfl, rfl, _, rfl, _, _, rfl, rfl, _, rfl, ?_⟩
      refine ite2 (fun h2 => ?_) (fun h2 => ?_)
      · have h2' : (m : Int) < (a : Int) + (b : Int) := by simpa using h2
        have e : Gif.edge a b m = false := by unfold Gif.edge; simp; omega
        rw [e] at k
        exact k _
      · have h2' : ¬ (m : Int) < (a : Int) + (b : Int) := by simpa using h2
        have e : Gif.edge a b m = true := by unfold Gif.edge; simp; omega
        rw [e] at k
        exact k
theorem scAr : FnScope ["reader", "screen", "left", "top", "width", "height"] ["reader", "screen"] (defScope sArea) := ⟨rfl, rfl, rfl, by decide +kernel, rfl, by decide +kernel, by decide +kernel⟩
theorem ok_area {f fP fE fI : Addr} {fd fdP fdE fdI : FuncData} (F : Fun K "read_area" "read_area" sArea f fd) (T : Txt K mg c)
    (GP : FnOk P w K mg base (CXF P w) 3 fP fdP ["self"] (spPair K c)) (bP : Binds K fdP ["self"] []) (mP : Meth K c.C "take_pair" fP)
    (GE : FnOk P w K mg base (CXF P w) 1 fE fdE ["start", "extent", "room"] (spEdge c)) (kE : PySem.W.keepIn K (.ref fE) = true) (bE : Binds K fdE ["start", "extent", "room"] []) (mE : mg "check_edge" = some (.ref fE))
    (M : Mk K c.CA fI) (GI : FnOk P w K mg base CX0 1 fI fdI ["self", "left", "top", "width", "height"] (spIAre c)) (bI : Binds K fdI ["self", "left", "top", "width", "height"] []) :
    FnOk P w K mg base (CXF P w) 4 f fd ["reader", "screen"] (spArea K c) := by
  refine F.okX scAr (fun vs H Q E h => ?_) (fun cdv A outer s H vs Q E hr h => ?_)
  · obtain ⟨S, r, a, sc, bs, l, W, Hh, gl, rfl, _⟩ := h
    rfl
  · obtain ⟨S, r, a, sc, bs, l, W, Hh, gl, rfl, R, hS, k⟩ := h
    have hr1 : Room 1 _ := hr.mono (by decide)
    have hr2 : Room 2 _ := hr.mono (by decide)
    refine ⟨_, pss_cons (ps_set (i := 2) scAr.nd rfl (Or.inl rfl) (pe_meth0 (pv 0) T.cl mP GP hr bP .nil passD))
      (pss_cons (ps_set (i := 3) scAr.nd rfl (Or.inl rfl) (pe_meth0 (pv 0) T.cl mP GP hr bP .nil passD))
      (pss_cons (ps_set (i := 4) scAr.nd rfl (Or.inl rfl) (pe_meth0 (pv 0) T.cl mP GP hr bP .nil passD))
      (pss_cons (ps_set (i := 5) scAr.nd rfl (Or.inl rfl) (pe_meth0 (pv 0) T.cl mP GP hr bP .nil passD))
      (pss_cons (ps_expr (pe_call GE hr1 rfl mE kE bE .nil passD (pa_cons (pv 2) (pa_cons (pv 4) (pa_cons (pe_fld (pv 1) rfl) pa_nil)))))
      (pss_cons (ps_expr (pe_call GE hr1 rfl mE kE bE .nil passD (pa_cons (pv 3) (pa_cons (pv 5) (pa_cons (pe_fld (pv 1) rfl) pa_nil)))))
      (pss_one (ps_ret (pe_make M GI hr2 rfl T.mgA bI .nil pass0 (pa_cons (pv 2) (pa_cons (pv 3) (pa_cons (pv 4) (pa_cons (pv 5) pa_nil)))))))))))), ?_⟩
    unfold Gif.mArea at k
    obtain ⟨dx, fs, p, hp, hk, _⟩ := id R.ob
    refine ⟨_, rfl, r, dx, _, rfl, hp, key_no hk, S, r, a, bs, l, rfl, R, ?_⟩
    cases e1 : Gif.pair l with
    | none => rw [e1] at k; exact k
    | some a1 =>
      rw [e1] at k
      simp only [Option.bind_some] at k
      intro H1 R1 kp1
      obtain ⟨dx1, fs1, p1, hp1, hk1, _⟩ := id R1.ob
      refine ⟨_, rfl, r, dx1, _, rfl, hp1, key_no hk1, S, r, a, bs, a1.2, rfl, R1, ?_⟩
      cases e2 : Gif.pair a1.2 with
      | none => rw [e2] at k; exact k
      | some a2 =>
        rw [e2] at k
        simp only [Option.bind_some] at k
        intro H2 R2 kp2
        obtain ⟨dx2, fs2, p2, hp2, hk2, _⟩ := id R2.ob
        refine ⟨_, rfl, r, dx2, _, rfl, hp2, key_no hk2, S, r, a, bs, a2.2, rfl, R2, ?_⟩
        cases e3 : Gif.pair a2.2 with
        | none => rw [e3] at k; exact k
        | some a3 =>
          rw [e3] at k
          simp only [Option.bind_some] at k
          intro H3 R3 kp3
          obtain ⟨dx3, fs3, p3, hp3, hk3, _⟩ := id R3.ob
          refine ⟨_, rfl, r, dx3, _, rfl, hp3, key_no hk3, S, r, a, bs, a3.2, rfl, R3, ?_⟩
          cases e4 : Gif.pair a3.2 with
          | none => rw [e4] at k; exact k
          | some a4 =>
            rw [e4] at k
            simp only [Option.bind_some] at k
            intro H4 R4 kp4
            have kp04 := ((kp1.trans kp2).trans kp3).trans kp4
            obtain ⟨ds, fss, ca, s1, s2, s3, s4, s5⟩ := (hS.same (kp_hid kp04)).same hid_same
            refine ⟨_, rfl, _, rfl, _, rfl, sc, c.CS, ds, _, _, rfl, s1, T.cs, T.nCS_width, s2, a1.1, a3.1, W, rfl, ?_⟩
            by_cases d1 : Gif.edge a1.1 a3.1 W = true
            · rw [if_pos d1] at k ⊢
              refine ⟨_, rfl, _, rfl, _, rfl, sc, c.CS, ds, _, _, rfl, s1, T.cs, T.nCS_height, s3, a2.1, a4.1, Hh, rfl, ?_⟩
              by_cases d2 : Gif.edge a2.1 a4.1 Hh = true
              · rw [if_pos d2] at k ⊢
                refine ⟨_, rfl, _, rfl, _, rfl, _, rfl, fun x dxx hx hdx ne => ⟨x, dxx, _, _, _, _, rfl, upd_same, fun H5 fs5 h5 lk5 _ kp5 => ⟨rfl, ?_⟩⟩⟩
                have sm : Same H4 H5 := made_same hx hdx kp5
                exact k H5 x (R4.same sm) ⟨dxx, fs5, hid_of h5 (R4.out hx), lk5⟩ (kp04.same sm)
              · rw [if_neg d2] at k ⊢
                exact k
            · rw [if_neg d1] at k ⊢
              exact k
theorem blkT : BlkOk ["reader", "marks", "many", "step"] (defScope sTable) { kind := .function, names := [(".0", .local), ("step", .local), ("reader", .free)], isGenerator := false, isCoroutine := false, more := [] } [("step", 3)] := blkOk_by (by decide +kernel)
theorem scTb : FnScope ["reader", "marks", "many", "step"] ["reader", "marks"] (defScope sTable) := ⟨rfl, rfl, rfl, by decide +kernel, rfl, by decide +kernel, by decide +kernel⟩
theorem ok_table {f fT : Addr} {fd fdT : FuncData} (F : Fun K "read_table" "read_table" sTable f fd) (T : Txt K mg c)
    (GT : FnOk P w K mg base (CXF P w) 2 fT fdT ["self", "many"] (spBytes K c)) (bT : Binds K fdT ["self", "many"] []) (mT : Meth K c.C "take_bytes" fT) : FnOk P w K mg base (CXF P w) 3 f fd ["reader", "marks"] (spTable K c) := by
  refine F.okX scTb (fun vs H Q E h => ?_) (fun cdv A outer s H vs Q E hr h => ?_)
  · obtain ⟨S, r, a, bs, l, n, rfl, _⟩ := h
    rfl
  · obtain ⟨S, r, a, bs, l, n, rfl, R, k⟩ := h
    refine ⟨_, pss_cons (ps_if (pt_cmpR op_lt (pv 1) pe_int (nomark _)) (pss_one (ps_ret (pe_lst pa_nil))) pss_nil)
      (pss_cons (ps_set (i := 2) scTb.nd rfl (Or.inl rfl) (pe_op op_shl pe_int (pe_op op_mod (pv 1) pe_int)))
      (pss_one (ps_ret (pe_lcX (own := [("step", 3)]) (E := E) pass_def rfl rfl rfl scTb.nd (pi_range1 rfl T.range (pa_cons (pv 2) pa_nil)) blkT
        (fun s H C cl fp => pg_name (i := 3) scTb.nd rfl (Or.inl rfl)) (fun s H C cl fp => pts_nil)
        (fun s H C' cl fp => pe_meth (pv 0) T.cl mT GT hr bT .nil pass_blk (pa_cons pe_int pa_nil)))))), ?_⟩
    rw [Gif.table_eq] at k
    refine ⟨_, rfl, _, _, rfl, rfl, _, rfl, ?_⟩
    refine ite2 (fun z => ?_) (fun z => ?_)
    · have z' : (n : Int) < 128 := by simpa using z
      rw [if_neg (by omega)] at k
      refine ⟨Nat.zero_le _, fun x hx => ?_⟩
      exact k _ x (R.same (Same.new hx)) ⟨[], hid_of upd_same (R.out hx), .nil⟩ (Same.new hx).kp
    · have z' : ¬ (n : Int) < 128 := by simpa using z
      rw [if_pos (by omega)] at k
      generalize hm : 2 * 2 ^ (n % 8) = m at k
      have pw := @Gif.pow_le8 n
      have ej : (2 : Int) * 2 ^ ((n : Int) % 8).toNat = ((m : Nat) : Int) := by
        have e1 : ((n : Int) % 8).toNat = n % 8 := by omega
        rw [e1, ← hm]
        simp
      refine ⟨_, rfl, _, _, rfl, rfl, (by show (0 : Int) < 8; decide), _, _, rfl, rfl, ⟨by omega, by omega, by decide⟩, ?_⟩
      refine ⟨_, rfl, (m : Int), congrArg (fun z => [V.int z]) ej, by omega, by omega, ?_⟩
      rw [Int.toNat_natCast]
      intro D hD
      have kE : l.length < 3 * m → ∀ H', E (.ref c.X) none H' := fun hl => by
        rw [if_neg (by omega)] at k
        exact k
      refine lc_range (n := m) (fun i H' => 3 * i ≤ l.length ∧ RdS K c (D :: S) H' r a bs (l.drop (3 * i)) ∧ (∃ as : List Addr, H' D = some (.lst (as.map V.ref)) ∧
        Paired (fun b x => hid (r :: D :: S) H' b = some (.lst (bv x))) as ((List.range i).map fun j => (l.drop (3 * j)).take 3)) ∧ Kp [r] H H') ?_ ?_ ?_
      · exact ⟨Nat.zero_le _, R.new hD, ⟨[], upd_same, .nil⟩, (Same.new hD).kp⟩
      · rintro i H1 hi ⟨hil, R1, ⟨as, hD1, pr1⟩, kp1⟩
        obtain ⟨dx1, fs1, p1, hp1, hk1, _⟩ := id R1.ob
        refine ⟨rfl, ?_⟩
        simp only [tYes, ↓reduceIte]
        refine ⟨_, rfl, r, dx1, _, rfl, hp1, key_no hk1, D :: S, r, a, bs, l.drop (3 * i), 3, rfl, R1, ?_⟩
        have nDr : D ∉ [r] := fun q => R1.nr (by rw [← List.mem_singleton.mp q]; exact List.mem_cons_self)
        by_cases h3 : 3 ≤ (l.drop (3 * i)).length
        · rw [Gif.front_some h3]
          intro H2 q R2 hq2 kp2
          have hl3 : 3 * i + 3 ≤ l.length := by rw [List.length_drop] at h3; omega
          have hD2 := kp2 D _ hD1 nDr
          have e3 : (l.drop (3 * i)).drop 3 = l.drop (3 * (i + 1)) := by rw [List.drop_drop]; congr 1
          rw [e3] at R2
          refine ⟨_, hD2, ?_, by omega, R2.upd List.mem_cons_self, ⟨as ++ [q], by rw [upd_same, List.map_append]; rfl, ?_⟩, ?_⟩
          · have := paired_len pr1
            rw [List.length_map, this, List.length_map, List.length_range]
            have : (300 : Nat) < sizeLine := by decide
            omega
          · rw [List.range_succ, List.map_append]
            have sm : Same (hid (r :: D :: S) H2) (hid (r :: D :: S) (upd H2 D (.lst (as.map V.ref ++ [V.ref q])))) := hid_upd (List.mem_cons_of_mem _ List.mem_cons_self)
            exact paired_snoc (by exact sm _ _ hq2) (pmap pr1 fun b x e => sm _ _ (kp_hid kp2 _ _ e))
          · exact (kp1.trans kp2).writeN hD
        · rw [Gif.front_none (by omega)]
          refine kE ?_
          rw [List.length_drop] at h3
          omega
      · rintro H1 ⟨hil, R1, ⟨as, hD1, pr1⟩, kp1⟩
        rw [if_pos hil] at k
        refine k H1 D (R1.less fun b z => List.mem_cons_of_mem _ z) ⟨as, hid_of hD1 (R.out hD), ?_⟩ kp1
        show Paired _ as (Gif.threes (l.take (3 * m)))
        rw [Gif.threes_take hil]
        exact pmap pr1 fun b x e => hid_tail _ _ e
theorem scL : FnScope ["reader", "blocks", "length"] ["reader"] (defScope sBlocks) := ⟨rfl, rfl, rfl, by decide +kernel, rfl, by decide +kernel, by decide +kernel⟩
theorem ok_blocks {f fB fT : Addr} {fd fdB fdT : FuncData} (F : Fun K "read_blocks" "read_blocks" sBlocks f fd) (T : Txt K mg c) (GB : FnOk P w K mg base (CXF P w) 2 fB fdB ["self"] (spByte K c)) (bB : Binds K fdB ["self"] []) (mB : Meth K c.C "take_byte" fB)
    (GT : FnOk P w K mg base (CXF P w) 2 fT fdT ["self", "many"] (spBytes K c)) (bT : Binds K fdT ["self", "many"] []) (mT : Meth K c.C "take_bytes" fT) : FnOk P w K mg base (CXF P w) 3 f fd ["reader"] (spBlocks K c) := by
  refine F.okX scL (fun vs H Q E h => ?_) (fun cdv A outer s H vs Q E hr h => ?_)
  · obtain ⟨S, r, a, bs, l, rfl, _⟩ := h
    rfl
  · obtain ⟨S, r, a, bs, l, rfl, R, k⟩ := h
    refine ⟨_, pss_cons (ps_set (i := 1) scL.nd rfl (Or.inl rfl) (pe_lst pa_nil))
      (pss_cons (ps_set (i := 2) scL.nd rfl (Or.inl rfl) (pe_meth0 (pv 0) T.cl mB GB hr bB .nil passD))
      (pss_cons (ps_while ownD (pt_cmpR op_gt (pv 2) pe_int (nomark _))
        (pss_cons (ps_expr (pe_bm PySem.F.plainAttrs_list PySem.F.slot_list_append PySem.F.type_list_append mt_append (pv 1) (pa_cons (pe_meth (pv 0) T.cl mT GT hr bT .nil passD (pa_cons (pv 2) pa_nil)) pa_nil)))
        (pss_one (ps_set (i := 2) scL.nd rfl (Or.inl rfl) (pe_meth0 (pv 0) T.cl mB GB hr bB .nil passD)))))
      (pss_one (ps_ret (pv 1))))), ?_⟩
    refine ⟨Nat.zero_le _, fun d hd => ?_⟩
    have R0 : RdS K c (d :: S) (upd H d (.lst [])) r a bs l := R.new hd
    obtain ⟨dx, fs, p, hp, hk, _⟩ := id R0.ob
    refine ⟨_, rfl, r, dx, _, rfl, hp, key_no hk, d :: S, r, a, bs, l, rfl, R0, ?_⟩
    cases l with
    | nil =>
      rw [Gif.blk_nil] at k
      exact k
    | cons n l' =>
      show ∀ H', RdS K c (d :: S) H' r a bs l' → Kp [r] _ H' → _
      intro H1 R1 kp1
      have kE : Gif.blk (n :: l') = none → ∀ H', E (.ref c.X) none H' := fun e => by rw [e] at k; exact k
      have kS : ∀ y, Gif.blk (n :: l') = some y → ∀ H' d, RdS K c S H' r a bs y.2 → BLs (hid (r :: S) H') d y.1 → Kp [r] H H' → Q (.ref d) H' := fun y e => by rw [e] at k; exact k
      have ndr : d ∉ [r] := fun q => R1.nr (by rw [← List.mem_singleton.mp q]; exact List.mem_cons_self)
      have hd1 : H1 d = some (.lst []) := kp1 d _ upd_same ndr
      have hl' : l'.length + 1 ≤ bs.length := by
        have := R0.len
        simpa using this
      refine ⟨fun m σ H2 => ∃ (cc : Nat) (l2 : List Nat) (ls : List (List Nat)) (as : List Addr), σ = [some (.ref r), some (.ref d), some (.int (cc : Int))] ∧ m = l2.length ∧ RdS K c (d :: S) H2 r a bs l2 ∧ H2 d = some (.lst (as.map V.ref)) ∧
          Paired (fun b x => hid (r :: d :: S) H2 b = some (.lst (bv x))) as ls ∧ Kp [r] H H2 ∧ ls.length + l2.length ≤ bs.length ∧ Gif.blk (n :: l') = (Gif.blk (cc :: l2)).map fun y => (ls ++ y.1, y.2),
        ⟨_, n, l', [], [], rfl, rfl, R1, hd1, .nil, (Same.new hd).kp2 kp1, by simp; omega, by cases Gif.blk (n :: l') <;> rfl⟩, ?_⟩
      rintro m σ H2 ⟨cc, l2, ls, as, rfl, rfl, R2, hd2, pr2, kp2, hls, told⟩
      refine ⟨_, rfl, _, _, rfl, rfl, _, rfl, ?_⟩
      refine ite2 (fun h0 => ?_) (fun h0 => ?_)
      · have h0' : (0 : Int) < (cc : Int) := by simpa using h0
        have hc : cc ≠ 0 := by omega
        rw [Gif.blk_cons hc] at told
        obtain ⟨dx2, fs2, p2, hp2, hk2, _⟩ := id R2.ob
        refine ⟨_, fun _ _ z => z, ?_⟩
        refine ⟨_, rfl, .inl ⟨rfl, _, SqL.of hd2⟩, _, rfl, r, dx2, _, rfl, hp2, key_no hk2, _, rfl, d :: S, r, a, bs, l2, cc, rfl, R2, ?_⟩
        by_cases hcl : cc ≤ l2.length
        · rw [Gif.front_some hcl] at told ⊢
          simp only [Option.bind_some] at told
          intro H3 q R3 hq3 kp3
          have hd3 := kp3 d _ hd2 ndr
          refine ⟨d, _, _, rfl, rfl, hd3, ?_, ?_⟩
          · rw [List.length_map, paired_len pr2]
            have : (100000 : Nat) < sizeLine := by decide
            have := R.few
            omega
          have R3' : RdS K c (d :: S) (upd H3 d (.lst (as.map V.ref ++ [V.ref q]))) r a bs (l2.drop cc) := R3.upd List.mem_cons_self
          obtain ⟨dx3, fs3, p3, hp3, hk3, _⟩ := id R3'.ob
          refine ⟨_, rfl, r, dx3, _, rfl, hp3, key_no hk3, d :: S, r, a, bs, l2.drop cc, rfl, R3', ?_⟩
          cases hq : l2.drop cc with
          | nil =>
            rw [hq, Gif.blk_nil] at told
            exact kE told
          | cons c' l3 =>
            show ∀ H', RdS K c (d :: S) H' r a bs l3 → Kp [r] _ H' → _
            intro H4 R4 kp4
            have hlen := congrArg List.length hq
            rw [List.length_drop, List.length_cons] at hlen
            refine ⟨l3.length, by omega, c', l3, ls ++ [l2.take cc], as ++ [q], rfl, rfl, R4, ?_, ?_, ?_, ?_, ?_⟩
            · rw [kp4 d _ upd_same ndr, List.map_append]
              rfl
            · have sm : Same (hid (r :: d :: S) H3) (hid (r :: d :: S) (upd H3 d (.lst (as.map V.ref ++ [V.ref q])))) := hid_upd (List.mem_cons_of_mem _ List.mem_cons_self)
              exact paired_snoc (by exact kp_hid kp4 _ _ (sm _ _ hq3)) (pmap pr2 fun b x e => kp_hid kp4 _ _ (sm _ _ (kp_hid kp3 _ _ e)))
            · exact ((kp2.trans kp3).writeN hd).trans kp4
            · rw [List.length_append, List.length_singleton]
              omega
            · rw [told, hq, Option.map_map]
              congr 1
              funext y
              simp
        · rw [Gif.front_none (by omega)] at told ⊢
          exact kE told
      · have h0' : ¬ (0 : Int) < (cc : Int) := by simpa using h0
        have hc : cc = 0 := by omega
        subst hc
        rw [Gif.blk_zero] at told
        refine ⟨_, rfl, kS _ told H2 d (R2.less fun b z => List.mem_cons_of_mem _ z) ⟨as, hid_of hd2 (R.out hd), ?_⟩ kp2⟩
        show Paired _ as (ls ++ [])
        rw [List.append_nil]
        exact pmap pr2 fun b x e => hid_tail _ _ e
theorem scJ : FnScope ["blocks", "joined", "block"] ["blocks"] (defScope sJoin) := ⟨rfl, rfl, rfl, by decide +kernel, rfl, by decide +kernel, by decide +kernel⟩
theorem ok_join {f : Addr} {fd : FuncData} (F : Fun K "join_blocks" "join_blocks" sJoin f fd) : FnOk P w K mg base CX0 1 f fd ["blocks"] spJoin := by
  refine F.ok scJ (fun vs H Q E h => ?_) (fun cdv A outer s H vs Q E hr h => ?_)
  · obtain ⟨d, ls, rfl, _⟩ := h
    rfl
  · obtain ⟨d, ls, rfl, ⟨as, hd, pr⟩, few, k⟩ := h
    refine ⟨_, pss_cons (ps_set (i := 1) scJ.nd rfl (Or.inl rfl) (pe_lst pa_nil))
      (pss_cons (ps_for PassesOwn.never rfl (pi_list (pv 0)) (pg_name (i := 2) scJ.nd rfl (Or.inl rfl))
        (pss_one (ps_expr (pe_bm PySem.F.plainAttrs_list PySem.F.slot_list_extend PySem.F.type_list_extend mt_extend (pv 1) (pa_cons (pv 2) pa_nil)))))
      (pss_one (ps_ret (pv 1)))), ?_⟩
    refine ⟨Nat.zero_le _, fun j hj => ?_⟩
    have sm0 : Same H (upd H j (.lst [])) := Same.new hj
    refine ⟨_, rfl, d, rfl, ⟨_, SqL.of (sm0 _ _ hd)⟩, for_list (xs := as.map V.ref) (fun i σ H2 => ∃ x, σ = [some (.ref d), some (.ref j), x] ∧ H2 j = some (.lst (bv (ls.take i).flatten)) ∧ Same H H2) ?_ ?_ ?_ ?_⟩
    · exact ⟨_, rfl, upd_same, sm0⟩
    · rintro i σ H2 _ ⟨x, rfl, _, sm⟩
      exact SqL.of (sm _ _ hd)
    · rintro i x σ H2 hx ⟨y, rfl, hj2, sm⟩
      rw [List.getElem?_map] at hx
      cases hb : as[i]? with
      | none => rw [hb] at hx; cases hx
      | some b =>
        rw [hb] at hx
        cases hx
        have hi : i < ls.length := by
          rw [← paired_len pr]
          exact (List.getElem?_eq_some_iff.mp hb).1
        obtain ⟨b', hb', hl⟩ := paired_at pr (List.getElem?_eq_getElem hi)
        rw [hb] at hb'
        cases hb'
        have hfl : (ls.take (i + 1)).flatten = (ls.take i).flatten ++ ls[i] := by
          rw [List.take_add_one, List.getElem?_eq_getElem hi, List.flatten_append]
          simp
        have hle : (ls.take (i + 1)).flatten.length ≤ ls.flatten.length := by
          conv => rhs; rw [← List.take_append_drop (i + 1) ls, List.flatten_append, List.length_append]
          omega
        refine ⟨_, rfl, .inl ⟨rfl, _, SqL.of hj2⟩, _, rfl, j, b, _, _, rfl, rfl, hj2, sm _ _ hl, ?_, ?_⟩
        · rw [bv_len, bv_len, ← List.length_append, ← hfl]
          have : (100000 : Nat) ≤ sizeLine := by decide
          omega
        · refine ⟨_, rfl, ?_, sm.writeN hj⟩
          rw [upd_same, hfl, bv_app]
    · rintro σ H2 ⟨x, rfl, hj2, sm⟩
      have e : (ls.take (as.map V.ref).length) = ls := by
        rw [List.length_map, paired_len pr]
        exact List.take_of_length_le (Nat.le_refl _)
      rw [e] at hj2
      exact ⟨_, rfl, k H2 j hj2 hj sm⟩
theorem scPl : FnScope [] [] (defScope sPlain) := ⟨rfl, rfl, rfl, by decide +kernel, rfl, by decide +kernel, by decide +kernel⟩
theorem ok_plain {f fI : Addr} {fd fdI : FuncData} (F : Fun K "plain_manner" "plain_manner" sPlain f fd) (T : Txt K mg c) (M : Mk K c.CM fI) (GI : FnOk P w K mg base CX0 1 fI fdI ["self", "time", "after", "transparent"] (spIMan c)) (bI : Binds K fdI ["self", "time", "after", "transparent"] []) :
    FnOk P w K mg base CX0 3 f fd [] (spPlain c) := by
  refine F.ok scPl (fun vs H Q E h => ?_) (fun cdv A outer s H vs Q E hr h => ?_)
  · obtain ⟨rfl, _⟩ := h
    rfl
  · obtain ⟨rfl, k⟩ := h
    refine ⟨_, pss_one (ps_ret (pe_make M GI hr rfl T.mgM bI .nil pass0 (pa_cons pe_int (pa_cons pe_int (pa_cons (pe_un un_neg pe_int) pa_nil))))), ?_⟩
    refine ⟨_, rfl, fun x dx hx hdx ne => ⟨x, dx, _, _, _, rfl, upd_same, fun H1 fs1 h1 lk1 _ kp1 => ⟨rfl, ?_⟩⟩⟩
    exact k H1 x ⟨dx, fs1, h1, lk1⟩ hx (made_same hx hdx kp1)
theorem scMn : FnScope ["block", "reader", "marks", "time", "colour", "transparent"] ["block"] (defScope sManner) := ⟨rfl, rfl, rfl, by decide +kernel, rfl, by decide +kernel, by decide +kernel⟩
theorem ok_manner {f fR fB fP fI : Addr} {fd fdR fdB fdP fdI : FuncData} (F : Fun K "read_manner" "read_manner" sManner f fd) (T : Txt K mg c)
    (MR : Mk K c.C fR) (GR : FnOk P w K mg base CX0 1 fR fdR ["self", "file"] (spInit c)) (bR : Binds K fdR ["self", "file"] [])
    (GB : FnOk P w K mg base (CXF P w) 2 fB fdB ["self"] (spByte K c)) (bB : Binds K fdB ["self"] []) (mB : Meth K c.C "take_byte" fB)
    (GP : FnOk P w K mg base (CXF P w) 3 fP fdP ["self"] (spPair K c)) (bP : Binds K fdP ["self"] []) (mP : Meth K c.C "take_pair" fP)
    (M : Mk K c.CM fI) (GI : FnOk P w K mg base CX0 1 fI fdI ["self", "time", "after", "transparent"] (spIMan c)) (bI : Binds K fdI ["self", "time", "after", "transparent"] []) :
    FnOk P w K mg base (CXF P w) 4 f fd ["block"] (spManner c) := by
  refine F.okX scMn (fun vs H Q E h => ?_) (fun cdv A outer s H vs Q E hr h => ?_)
  · obtain ⟨b, x, rfl, _⟩ := h
    rfl
  · obtain ⟨b, x, rfl, hb, h4, by_, k⟩ := h
    have hr2 : Room 2 _ := hr.mono (by decide)
    refine ⟨_, pss_cons (ps_set (i := 1) scMn.nd rfl (Or.inl rfl) (pe_make MR GR hr2 rfl T.mgC bR .nil pass0 (pa_cons (pv 0) pa_nil)))
      (pss_cons (ps_set (i := 2) scMn.nd rfl (Or.inl rfl) (pe_meth0 (pv 1) T.cl mB GB hr2 bB .nil passD))
      (pss_cons (ps_set (i := 3) scMn.nd rfl (Or.inl rfl) (pe_meth0 (pv 1) T.cl mP GP hr bP .nil passD))
      (pss_cons (ps_set (i := 4) scMn.nd rfl (Or.inl rfl) (pe_meth0 (pv 1) T.cl mB GB hr2 bB .nil passD))
      (pss_cons (ps_set (i := 5) scMn.nd rfl (Or.inl rfl) (pe_ifExp (pt_cmpR op_eq (pe_op op_mod (pv 2) pe_int) pe_int (nomark _)) (pv 4) (pe_un un_neg pe_int)))
      (pss_one (ps_ret (pe_make M GI hr2 rfl T.mgM bI .nil pass0 (pa_cons (pv 3) (pa_cons (pe_op op_mod (pe_op op_fdiv (pv 2) pe_int) pe_int) (pa_cons (pv 5) pa_nil)))))))))), ?_⟩
    rcases x with _ | ⟨x0, _ | ⟨x1, _ | ⟨x2, _ | ⟨x3, _ | ⟨x4, r4⟩⟩⟩⟩⟩ <;> simp at h4
    refine ⟨_, rfl, fun r dr hx hdx ne => ⟨r, b, dr, rfl, upd_same, fun H1 fs1 h1 k1 f1 p1 kp1 => ⟨rfl, ?_⟩⟩⟩
    have sm1 : Same H H1 := made_same hx hdx kp1
    have nbr : b ≠ r := ne_of_none hb hx
    have R1 : RdS K c [] H1 r b [x0, x1, x2, x3] [x0, x1, x2, x3] :=
      ⟨SqL.of (hid_of (sm1 _ _ hb) fun z => nbr (List.mem_singleton.mp z)), ⟨dr, fs1, 0, h1, k1, f1, p1, Nat.zero_le _, rfl⟩, by_, by show 4 ≤ 100000; decide, (fun z => nomatch z), fun y hy => nomatch hy⟩
    refine ⟨_, rfl, r, dr, _, rfl, h1, key_no k1, [], r, b, _, _, rfl, R1, ?_⟩
    show ∀ H', RdS K c [] H' r b _ [x1, x2, x3] → Kp [r] H1 H' → _
    intro H2 R2 kp2
    obtain ⟨dx2, fs2, p2, hp2, hk2, _⟩ := id R2.ob
    refine ⟨_, rfl, r, dx2, _, rfl, hp2, key_no hk2, [], r, b, _, _, rfl, R2, ?_⟩
    show ∀ H', RdS K c [] H' r b _ [x3] → Kp [r] H2 H' → _
    intro H3 R3 kp3
    obtain ⟨dx3, fs3, p3, hp3, hk3, _⟩ := id R3.ob
    refine ⟨_, rfl, r, dx3, _, rfl, hp3, key_no hk3, [], r, b, _, _, rfl, R3, ?_⟩
    show ∀ H', RdS K c [] H' r b _ [] → Kp [r] H3 H' → _
    intro H4 R4 kp4
    have sm4 : Same H H4 := fun q o e => ((kp2.trans kp3).trans kp4) q o (sm1 _ _ e) fun z => ne_of_none e hx (List.mem_singleton.mp z)
    refine ⟨_, rfl, _, _, rfl, rfl, (by show (0 : Int) < 2; decide), rfl, _, rfl, ?_⟩
    have ev : ((x0 : Int) / 4 % 8) = ((x0 / 4 % 8 : Nat) : Int) := by omega
    have two1 : Sw22.two ([x0, x1, x2, x3].drop 1) = x1 + 256 * x2 := rfl
    have k' : ∀ H' m, NoteAt c H' m (x0, x1 + 256 * x2, x3) → H m = none → Same H H' → Q (.ref m) H' := k
    have last : ∀ (tr : Int) (H5 : Hp) (m dm : Addr) (fs5 : List (Str × V)), tr = transp (x0, x1 + 256 * x2, x3) → H4 m = none → H4 dm = none → H5 m = some (.ins c.CM dm fs5) →
        (fs5.lookup ("time" : Str) = some (.int ((x1 + 256 * x2 : Nat) : Int)) ∧ fs5.lookup ("after" : Str) = some (.int ((x0 : Int) / 4 % 8)) ∧ fs5.lookup ("transparent" : Str) = some (.int tr)) → Kp [m] (upd (upd H4 dm (.own m)) m (.ins c.CM dm [])) H5 → Q (.ref m) H5 := by
      intro tr H5 m dm fs5 etr hm hdm h5 lk5 kp5
      have sm5 := made_same hm hdm kp5
      refine k' H5 m ⟨dm, fs5, h5, lk5.1, ?_, ?_⟩ (sm4.free hm) (sm4.trans sm5)
      · rw [lk5.2.1, ev]
      · rw [lk5.2.2, etr]
    refine ite2 (fun h1 => ?_) (fun h1 => ?_)
    · have h1' : (x0 : Int) % 2 = 1 := by
        have : V.int ((x0 : Int) % 2) = V.int 1 := by simpa using h1
        injection this
      refine ⟨_, rfl, _, rfl, _, rfl, _, _, rfl, rfl, ⟨by decide, by decide⟩, _, _, rfl, rfl, (by show (0 : Int) < 8; decide), _, rfl, fun m dm hm hdm ne2 => ⟨m, dm, _, _, _, rfl, upd_same, fun H5 fs5 h5 lk5 _ kp5 => ⟨rfl, ?_⟩⟩⟩
      refine last (x3 : Int) H5 m dm fs5 ?_ hm hdm h5 lk5 kp5
      have e1 : x0 % 2 = 1 := by omega
      unfold transp
      rw [if_pos e1]
    · have h1' : ¬ (x0 : Int) % 2 = 1 := fun z => h1 (by show decide (V.int ((x0 : Int) % 2) = V.int 1) = true; rw [z]; simp)
      refine ⟨_, rfl, _, rfl, _, rfl, _, _, rfl, rfl, ⟨by decide, by decide⟩, _, _, rfl, rfl, (by show (0 : Int) < 8; decide), _, rfl, fun m dm hm hdm ne2 => ⟨m, dm, _, _, _, rfl, upd_same, fun H5 fs5 h5 lk5 _ kp5 => ⟨rfl, ?_⟩⟩⟩
      refine last (-1) H5 m dm fs5 ?_ hm hdm h5 lk5 kp5
      have e1 : ¬ x0 % 2 = 1 := by omega
      unfold transp
      rw [if_neg e1]
theorem scN : FnScope ["reader", "manner", "kind", "blocks"] ["reader", "manner"] (defScope sNote) := ⟨rfl, rfl, rfl, by decide +kernel, rfl, by decide +kernel, by decide +kernel⟩
theorem ok_note {f fB fL fM : Addr} {fd fdB fdL fdM : FuncData} (F : Fun K "read_note" "read_note" sNote f fd) (T : Txt K mg c) (GB : FnOk P w K mg base (CXF P w) 2 fB fdB ["self"] (spByte K c)) (bB : Binds K fdB ["self"] []) (mB : Meth K c.C "take_byte" fB)
    (GL : FnOk P w K mg base (CXF P w) 3 fL fdL ["reader"] (spBlocks K c)) (kL : PySem.W.keepIn K (.ref fL) = true) (bL : Binds K fdL ["reader"] []) (mL : mg "read_blocks" = some (.ref fL))
    (GM : FnOk P w K mg base (CXF P w) 4 fM fdM ["block"] (spManner c)) (kM : PySem.W.keepIn K (.ref fM) = true) (bM : Binds K fdM ["block"] []) (mM : mg "read_manner" = some (.ref fM)) : FnOk P w K mg base (CXF P w) 5 f fd ["reader", "manner"] (spNote K c) := by
  obtain ⟨tn, hpn⟩ := T.pnote
  refine F.okX scN (fun vs H Q E h => ?_) (fun cdv A outer s H vs Q E hr h => ?_)
  · obtain ⟨S, r, a, mn, bs, l, nt, rfl, _⟩ := h
    rfl
  · obtain ⟨S, r, a, mn, bs, l, nt, rfl, R, hN, k⟩ := h
    have hr2 : Room 2 _ := hr.mono (by decide)
    have hr3 : Room 3 _ := hr.mono (by decide)
    refine ⟨_, pss_cons (ps_set (i := 2) scN.nd rfl (Or.inl rfl) (pe_meth0 (pv 0) T.cl mB GB hr2 bB .nil passD))
      (pss_cons (ps_set (i := 3) scN.nd rfl (Or.inl rfl) (pe_call GL hr3 rfl mL kL bL .nil passD (pa_cons (pv 0) pa_nil)))
      (pss_cons (ps_if (pt_cmpR op_ne (pv 2) (pe_glob (v := V.int 249) rfl hpn ⟨_, rfl⟩) (nomark _)) (pss_one (ps_ret (pv 1))) pss_nil)
      (pss_cons (ps_if (PW.pt (pw_or (pt_cmpR op_ne (pe_callB call_len_seq (by rfl) T.len PySem.boot_len (pa_cons (pv 3) pa_nil)) pe_int (nomark _)) (pw_or1 (pt_cmpR op_ne (pe_callB call_len_seq (by rfl) T.len PySem.boot_len (pa_cons (pe_ix ix_list (pv 3) pe_int (fun _ _ => rfl)) pa_nil)) pe_int (nomark _)))))
        (pss_one (ps_raise T.xc rfl rfl madeD)) pss_nil)
      (pss_one (ps_ret (pe_call GM hr rfl mM kM bM .nil passD (pa_cons (pe_ix ix_list (pv 3) pe_int (fun _ _ => rfl)) pa_nil))))))), ?_⟩
    unfold Gif.mNt at k
    obtain ⟨dx, fs, p, hp, hk, _⟩ := id R.ob
    refine ⟨_, rfl, r, dx, _, rfl, hp, key_no hk, S, r, a, bs, l, rfl, R, ?_⟩
    cases e1 : Gif.byte l with
    | none => rw [e1] at k; exact k
    | some kd =>
      rw [e1] at k
      simp only [Option.bind_some] at k
      intro H1 R1 kp1
      refine ⟨_, rfl, S, r, a, bs, kd.2, rfl, R1, ?_⟩
      cases e2 : Gif.blk kd.2 with
      | none => rw [e2] at k; exact k
      | some y =>
        rw [e2] at k
        simp only [Option.bind_some] at k
        intro H2 d R2 hB2 kp2
        have kp02 := kp1.trans kp2
        have hN2 := hN.same (kp_hid (S := S) kp02)
        refine ⟨_, rfl, rfl, _, rfl, ?_⟩
        have e249 : decide (V.int (kd.1 : Int) = V.int 249) = decide (kd.1 = 249) := decide_eq_decide.mpr ⟨fun h => by injection h with h; omega, fun h => by rw [h]; rfl⟩
        rw [e249]
        by_cases h249 : kd.1 = 249
        · rw [decide_eq_true h249]
          refine iteF ?_
          obtain ⟨as, hd2, pr2⟩ := hB2
          have hd2' := (of_hid hd2).1
          have hlen : (as.map V.ref).length = y.1.length := by rw [List.length_map, paired_len pr2]
          refine ⟨_, rfl, d, _, rfl, .inl (SqL.of hd2'), rfl, _, rfl, ?_⟩
          have en : decide (V.int ((as.map V.ref).length : Int) = V.int 1) = decide (y.1.length = 1) := decide_eq_decide.mpr ⟨fun h => by injection h with h; omega, fun h => by rw [hlen, h]; rfl⟩
          rw [en]
          obtain ⟨ym, yr⟩ := y
          dsimp only at *
          rcases ym with _ | ⟨x, _ | ⟨x2, xr⟩⟩
          · refine iteT (iteT ?_)
            unfold Gif.noteOf at k
            rw [if_pos h249] at k
            exact k _
          · cases pr2 with
            | cons q1 q2 =>
              rename_i b br
              cases q2
              refine iteF ?_
              have hb := (of_hid q1).1
              refine ⟨_, rfl, d, _, _, _, rfl, rfl, SqL.of hd2', atI_nat (j := 0) (v := V.ref b) rfl, b, _, rfl, .inl (SqL.of hb), rfl, _, rfl, ?_⟩
              have e4 : decide (V.int ((bv x).length : Int) = V.int 4) = decide (x.length = 4) := decide_eq_decide.mpr ⟨fun h => by injection h with h; rw [bv_len] at h; omega, fun h => by rw [bv_len, h]; rfl⟩
              rw [e4]
              unfold Gif.noteOf at k
              rw [if_pos h249] at k
              dsimp only at k
              by_cases h4 : x.length = 4
              · rw [decide_eq_true h4]
                rw [if_pos h4] at k
                refine iteF ?_
                have hby : ∀ v ∈ x, v < 256 := fun v hv => R1.left v ((Gif.blk_in e2).1 x List.mem_cons_self v hv)
                refine ⟨_, rfl, d, _, _, _, rfl, rfl, SqL.of hd2', atI_nat (j := 0) (v := V.ref b) rfl, b, x, rfl, hb, h4, hby, fun H3 m hm hmn sm => ?_⟩
                refine k H3 m (R2.same sm) ?_ (kp02.same sm)
                obtain ⟨dm, fm, hm1, hm2⟩ := hm
                exact ⟨dm, fm, hid_of hm1 (R2.out hmn), hm2⟩
              · rw [decide_eq_false h4]
                rw [if_neg h4] at k
                exact iteT (k _)
          · have nl : ¬ (x :: x2 :: xr).length = 1 := by simp
            rw [decide_eq_false nl]
            refine iteT (iteT ?_)
            unfold Gif.noteOf at k
            rw [if_pos h249] at k
            exact k _
        · rw [decide_eq_false h249]
          refine iteT ⟨_, rfl, ?_⟩
          unfold Gif.noteOf at k
          rw [if_neg h249] at k
          exact k H2 mn R2 hN2 kp02
end
end Tf

set_option Elab.async false
set_option linter.all false
set_option maxRecDepth 100000
namespace Tf
open PySem L2
def spPicture (K : PySem.W.Frag) (c : Cs) : Sp := fun vs H Q E => ∃ (S : List Addr) (r a sc mn : Addr) (bs l : List Nat) (W Hh : Nat) (gl : Option Sw22.Bytes) (nt : Sw22.Note), vs = [.ref r, .ref sc, .ref mn] ∧ RdS K c S H r a bs l ∧ ScrAt c (hid (r :: S) H) sc W Hh gl ∧ Gif.TabOk gl ∧ NoteAt c (hid (r :: S) H) mn nt ∧ match Gif.mPic W Hh gl nt l with
  | none => ∀ H', E (.ref c.X) none H'
  | some y => ∀ H' x, RdS K c S H' r a bs y.2 → PicAt c (hid (r :: S) H') x y.1 → Kp [r] H H' → Q (.ref x) H'
def spHead (K : PySem.W.Frag) (c : Cs) : Sp := fun vs H Q E => ∃ (S : List Addr) (r a : Addr) (bs l : List Nat), vs = [.ref r] ∧ RdS K c S H r a bs l ∧ Then K c S r a bs H Q E ((Gif.mHd l).map fun l' => (.non, l'))
def spScreen (K : PySem.W.Frag) (c : Cs) : Sp := fun vs H Q E => ∃ (S : List Addr) (r a : Addr) (bs l : List Nat), vs = [.ref r] ∧ RdS K c S H r a bs l ∧ match Gif.mScr l with
  | none => ∀ H', E (.ref c.X) none H'
  | some y => ∀ H' sc, RdS K c S H' r a bs y.2 → ScrAt c (hid (r :: S) H') sc y.1.1 y.1.2.1 y.1.2.2 → Kp [r] H H' → Q (.ref sc) H'
def prtN (W Hh : Nat) (gl : Option Sw22.Bytes) (l : List Nat) : Option (List Sw22.Picture × List Nat) := (Gif.prt W Hh gl (0, 0, 0) l).bind fun y => if y.1.length < 1 ∨ 4096 < y.1.length then none else some y
def spPictures (K : PySem.W.Frag) (c : Cs) : Sp := fun vs H Q E => ∃ (S : List Addr) (r a sc : Addr) (bs l : List Nat) (W Hh : Nat) (gl : Option Sw22.Bytes), vs = [.ref r, .ref sc] ∧ RdS K c S H r a bs l ∧ ScrAt c (hid (r :: S) H) sc W Hh gl ∧ Gif.TabOk gl ∧ match prtN W Hh gl l with
  | none => ∀ H', E (.ref c.X) none H'
  | some y => ∀ H' d, RdS K c S H' r a bs y.2 → PicsAt c (hid (r :: S) H') d y.1 → Kp [r] H H' → Q (.ref d) H'
def spOutline (K : PySem.W.Frag) (c : Cs) : Sp := fun vs H Q E => ∃ (a : Addr) (bs : List Nat), vs = [.ref a] ∧ SqL K H a (bv bs) ∧ (∀ x ∈ bs, x < 256) ∧ bs.length ≤ 100000 ∧ match Sw22.read bs with
  | none => ∀ H', E (.ref c.X) none H'
  | some f => ∀ H' o, OutAt c H' o f → Same H H' → Q (.ref o) H'
theorem ints_inj (l m : List Nat) : (l.map fun (n : Nat) => (n : Int)) = (m.map fun (n : Nat) => (n : Int)) ↔ l = m := by
  constructor
  · intro h
    have := congrArg (List.map Int.toNat) h
    simpa [List.map_map, Function.comp_def] using this
  · intro h
    rw [h]
theorem shaped_ints (ns : List Int) : SeqAt.shaped (PyData.tuple (ns.map PyData.int)) = true := by
  have h1 : ∀ ns : List Int, PyData.canLayAll0 (ns.map PyData.int) = true := by
    intro ns
    induction ns with
    | nil => rfl
    | cons n r ih => rw [List.map_cons, PyData.canLayAll0, ih]; rfl
  have h2 : ∀ ns : List Int, PyData.depthAll (ns.map PyData.int) = 0 := by
    intro ns
    induction ns with
    | nil => rfl
    | cons n r ih => rw [List.map_cons, PyData.depthAll, ih]; rfl
  unfold SeqAt.shaped
  rw [PyData.canLay0, PyData.depth, h1, h2]; rfl
theorem pair_bound {l : List Nat} (h : ∀ x ∈ l, x < 256) {y : Nat × List Nat} (e : Gif.pair l = some y) : y.1 < 65536 := by
  rcases l with _ | ⟨b, _ | ⟨d, r⟩⟩
  · cases e
  · cases e
  · cases e
    have h1 := h b (by simp)
    have h2 := h d (by simp)
    show b + 256 * d < 65536
    omega
section
variable {P : Program} {w : World} {K : PySem.W.Frag} {mg : Str → Option Value} {base : Heap} {c : Cs}
theorem scH : FnScope ["reader", "head"] ["reader"] (defScope sHead) := ⟨rfl, rfl, rfl, by decide +kernel, rfl, by decide +kernel, by decide +kernel⟩
theorem ok_head {f fT : Addr} {fd fdT : FuncData} (F : Fun K "read_head" "read_head" sHead f fd) (T : Txt K mg c)
    (GT : FnOk P w K mg base (CXF P w) 2 fT fdT ["self", "many"] (spBytes K c)) (bT : Binds K fdT ["self", "many"] []) (mT : Meth K c.C "take_bytes" fT) : FnOk P w K mg base (CXF P w) 3 f fd ["reader"] (spHead K c) := by
  obtain ⟨aH, h1, h2, mH, neH, sqH⟩ := T.heads
  refine F.okX scH (fun vs H Q E h => ?_) (fun cdv A outer s H vs Q E hr h => ?_)
  · obtain ⟨S, r, a, bs, l, rfl, _⟩ := h
    rfl
  · obtain ⟨S, r, a, bs, l, rfl, R, k⟩ := h
    have hu : (A.deeper (PyProof.Rows.envOfC "read_head" (defScope sHead) s.heap.objs.size f cdv)).units + 80 < cLine := by have := hr.un; omega
    refine ⟨_, pss_cons (ps_set (i := 1) scH.nd rfl (Or.inl rfl) (pe_meth (pv 0) T.cl mT GT hr bT .nil passD (pa_cons pe_int pa_nil)))
      (pss_one (ps_if (pt_cmpR (op_notIn2 hu) (pe_callTy call_tuple_of rfl T.tuple bootT (pa_cons (pv 1) pa_nil)) (pe_glob (v := V.ref aH) rfl mH rfl) (by rfl))
        (pss_one (ps_raise T.xc rfl rfl madeD)) pss_nil)), ?_⟩
    obtain ⟨dx, fs, p, hp, hk, _⟩ := id R.ob
    refine ⟨_, rfl, r, dx, _, rfl, hp, key_no hk, S, r, a, bs, l, 6, rfl, R, ?_⟩
    unfold Gif.mHd at k
    cases e0 : Sw22.front 6 l with
    | none => rw [e0] at k; exact k
    | some x =>
      rw [e0] at k
      simp only [Option.bind_some] at k
      intro H1 q R1 hq kp1
      have hq' := (of_hid hq).1
      refine ⟨_, rfl, q, _, rfl, .inl ⟨SqL.of hq', fun t ht => ?_⟩⟩
      have sm : Same H1 (upd H1 t (.tup (bv x.1))) := Same.new ht
      obtain ⟨z0, z1, z2⟩ := sqH (upd H1 t (.tup (bv x.1)))
      refine ⟨aH, h1, h2, .tuple ((x.1.map fun (n : Nat) => (n : Int)).map PyData.int), .tuple (([71, 73, 70, 56, 55, 97] : List Int).map PyData.int), .tuple (([71, 73, 70, 56, 57, 97] : List Int).map PyData.int), rfl, z0, neH,
        .tup (SqT.of upd_same) (by rw [bv_ints]; exact dp_ints _), .tup z1 (dp_ints _), .tup z2 (dp_ints _), shaped_ints _, shaped_ints _, shaped_ints _, _, rfl, ?_⟩
      have ev : ∀ xs : List Nat, PyData.eqv (.tuple ((xs.map fun (n : Nat) => (n : Int)).map PyData.int)) (.tuple ((x.1.map fun (n : Nat) => (n : Int)).map PyData.int)) = decide (xs = x.1) := fun xs => by
        show PyData.eqvAll _ _ = _
        rw [eqv_ints]
        exact decide_eq_decide.mpr (ints_inj _ _)
      have ev1 : PyData.eqv (.tuple (([71, 73, 70, 56, 55, 97] : List Int).map PyData.int)) (.tuple ((x.1.map fun (n : Nat) => (n : Int)).map PyData.int)) = decide ([71, 73, 70, 56, 55, 97] = x.1) := ev [71, 73, 70, 56, 55, 97]
      have ev2 : PyData.eqv (.tuple (([71, 73, 70, 56, 57, 97] : List Int).map PyData.int)) (.tuple ((x.1.map fun (n : Nat) => (n : Int)).map PyData.int)) = decide ([71, 73, 70, 56, 57, 97] = x.1) := ev [71, 73, 70, 56, 57, 97]
      have mem : x.1 ∈ Gif.heads ↔ ([71, 73, 70, 56, 55, 97] = x.1 ∨ [71, 73, 70, 56, 57, 97] = x.1) := by
        unfold Gif.heads
        simp only [List.mem_cons, List.not_mem_nil, or_false]
        constructor
        · rintro (h | h)
          · exact .inl h.symm
          · exact .inr h.symm
        · rintro (h | h)
          · exact .inl h.symm
          · exact .inr h.symm
      rw [ev1, ev2]
      by_cases hm : x.1 ∈ Gif.heads
      · rw [if_pos hm] at k
        have e : (!(decide ([71, 73, 70, 56, 55, 97] = x.1) || decide ([71, 73, 70, 56, 57, 97] = x.1))) = false := by
          rcases mem.mp hm with q | q
          · rw [decide_eq_true q]; rfl
          · rw [decide_eq_true q]; simp
        rw [e]
        exact iteF (k _ (R1.same sm) (kp1.same sm))
      · rw [if_neg hm] at k
        have e : (!(decide ([71, 73, 70, 56, 55, 97] = x.1) || decide ([71, 73, 70, 56, 57, 97] = x.1))) = true := by
          rw [decide_eq_false fun q => hm (mem.mpr (.inl q)), decide_eq_false fun q => hm (mem.mpr (.inr q))]
          rfl
        rw [e]
        exact iteT (k _)
theorem scSr : FnScope ["reader", "width", "height", "marks"] ["reader"] (defScope sScreen) := ⟨rfl, rfl, rfl, by decide +kernel, rfl, by decide +kernel, by decide +kernel⟩
theorem ok_screen {f fB fP fS fK fI : Addr} {fd fdB fdP fdS fdK fdI : FuncData} (F : Fun K "read_screen" "read_screen" sScreen f fd) (T : Txt K mg c)
    (GB : FnOk P w K mg base (CXF P w) 2 fB fdB ["self"] (spByte K c)) (bB : Binds K fdB ["self"] []) (mB : Meth K c.C "take_byte" fB)
    (GP : FnOk P w K mg base (CXF P w) 3 fP fdP ["self"] (spPair K c)) (bP : Binds K fdP ["self"] []) (mP : Meth K c.C "take_pair" fP)
    (GS : FnOk P w K mg base (CXF P w) 1 fS fdS ["self", "many"] (spSkip K c)) (bS : Binds K fdS ["self", "many"] []) (mS : Meth K c.C "skip" fS)
    (GK : FnOk P w K mg base (CXF P w) 3 fK fdK ["reader", "marks"] (spTable K c)) (kK : PySem.W.keepIn K (.ref fK) = true) (bK : Binds K fdK ["reader", "marks"] []) (mK : mg "read_table" = some (.ref fK))
    (M : Mk K c.CS fI) (GI : FnOk P w K mg base CX0 1 fI fdI ["self", "width", "height", "colours"] (spIScr c)) (bI : Binds K fdI ["self", "width", "height", "colours"] []) :
    FnOk P w K mg base (CXF P w) 4 f fd ["reader"] (spScreen K c) := by
  obtain ⟨tm, hmp⟩ := T.mplaces
  refine F.okX scSr (fun vs H Q E h => ?_) (fun cdv A outer s H vs Q E hr h => ?_)
  · obtain ⟨S, r, a, bs, l, rfl, _⟩ := h
    rfl
  · obtain ⟨S, r, a, bs, l, rfl, R, k⟩ := h
    have hr1 : Room 1 _ := hr.mono (by decide)
    have hr2 : Room 2 _ := hr.mono (by decide)
    refine ⟨_, pss_cons (ps_set (i := 1) scSr.nd rfl (Or.inl rfl) (pe_meth0 (pv 0) T.cl mP GP hr bP .nil passD))
      (pss_cons (ps_set (i := 2) scSr.nd rfl (Or.inl rfl) (pe_meth0 (pv 0) T.cl mP GP hr bP .nil passD))
      (pss_cons (ps_if (PW.pt (pw_or (pt_cmpR op_lt (pv 1) pe_int (nomark _)) (pw_or (pt_cmpR op_lt (pv 2) pe_int (nomark _)) (pw_or1 (pt_cmpR op_gt (pe_op op_mul (pv 1) (pv 2)) (pe_glob (v := V.int 1048576) rfl hmp ⟨_, rfl⟩) (nomark _))))))
        (pss_one (ps_raise T.xc rfl rfl madeD)) pss_nil)
      (pss_cons (ps_set (i := 3) scSr.nd rfl (Or.inl rfl) (pe_meth0 (pv 0) T.cl mB GB hr2 bB .nil passD))
      (pss_cons (ps_expr (pe_meth (pv 0) T.cl mS GS hr1 bS .nil passD (pa_cons pe_int pa_nil)))
      (pss_one (ps_ret (pe_make M GI hr2 rfl T.mgS bI .nil pass0 (pa_cons (pv 1) (pa_cons (pv 2) (pa_cons (pe_call GK hr rfl mK kK bK .nil passD (pa_cons (pv 0) (pa_cons (pv 3) pa_nil))) pa_nil)))))))))), ?_⟩
    unfold Gif.mScr at k
    obtain ⟨dx, fs, p, hp, hk, _⟩ := id R.ob
    refine ⟨_, rfl, r, dx, _, rfl, hp, key_no hk, S, r, a, bs, l, rfl, R, ?_⟩
    cases e1 : Gif.pair l with
    | none => rw [e1] at k; exact k
    | some a1 =>
      rw [e1] at k
      simp only [Option.bind_some] at k
      have b1 := pair_bound R.left e1
      intro H1 R1 kp1
      obtain ⟨dx1, fs1, p1, hp1, hk1, _⟩ := id R1.ob
      refine ⟨_, rfl, r, dx1, _, rfl, hp1, key_no hk1, S, r, a, bs, a1.2, rfl, R1, ?_⟩
      cases e2 : Gif.pair a1.2 with
      | none => rw [e2] at k; exact k
      | some a2 =>
        rw [e2] at k
        simp only [Option.bind_some] at k
        have b2 := pair_bound R1.left e2
        intro H2 R2 kp2
        have kp02 := kp1.trans kp2
        refine ⟨_, rfl, _, _, rfl, rfl, _, rfl, ?_⟩
        refine ite2 (fun c1 => ?_) (fun c1 => ?_)
        · have c1' : (a1.1 : Int) < 1 := by simpa using c1
          rw [if_pos (.inl (by omega))] at k
          exact iteT (k _)
        · have c1' : ¬ (a1.1 : Int) < 1 := by simpa using c1
          refine ⟨_, rfl, _, _, rfl, rfl, _, rfl, ?_⟩
          refine ite2 (fun c2 => ?_) (fun c2 => ?_)
          · have c2' : (a2.1 : Int) < 1 := by simpa using c2
            rw [if_pos (.inr (.inl (by omega)))] at k
            exact iteT (k _)
          · have c2' : ¬ (a2.1 : Int) < 1 := by simpa using c2
            refine ⟨_, rfl, _, rfl, _, _, rfl, rfl, .inl ⟨by omega, by omega⟩, _, _, rfl, rfl, _, rfl, ?_⟩
            have em : (a1.1 : Int) * (a2.1 : Int) = ((a1.1 * a2.1 : Nat) : Int) := by simp
            refine ite2 (fun c3 => ?_) (fun c3 => ?_)
            · have c3' : (1048576 : Int) < (a1.1 : Int) * (a2.1 : Int) := by simpa using c3
              rw [em] at c3'
              rw [if_pos (.inr (.inr (by omega)))] at k
              exact k _
            · have c3' : ¬ (1048576 : Int) < (a1.1 : Int) * (a2.1 : Int) := by simpa using c3
              rw [em] at c3'
              rw [if_neg (by omega)] at k
              obtain ⟨dx2, fs2, p2, hp2, hk2, _⟩ := id R2.ob
              refine ⟨_, rfl, r, dx2, _, rfl, hp2, key_no hk2, S, r, a, bs, a2.2, rfl, R2, ?_⟩
              cases e3 : Gif.byte a2.2 with
              | none => rw [e3] at k; exact k
              | some m =>
                rw [e3] at k
                simp only [Option.bind_some] at k
                intro H3 R3 kp3
                have kp03 := kp02.trans kp3
                obtain ⟨dx3, fs3, p3, hp3, hk3, _⟩ := id R3.ob
                refine ⟨_, rfl, r, dx3, _, rfl, hp3, key_no hk3, S, r, a, bs, m.2, 2, rfl, R3, ?_⟩
                cases e4 : Gif.skip 2 m.2 with
                | none => rw [e4] at k; exact k
                | some l4 =>
                  rw [e4] at k
                  simp only [Option.bind_some] at k
                  intro H4 R4 kp4
                  have kp04 := kp03.trans kp4
                  refine ⟨_, rfl, _, rfl, _, rfl, _, rfl, S, r, a, bs, l4, m.1, rfl, R4, ?_⟩
                  cases e5 : Sw22.table m.1 l4 with
                  | none => rw [e5] at k; exact k
                  | some t =>
                    rw [e5] at k
                    intro H5 ct R5 hB5 kp5 x dxs hx hdx ne
                    have kp05 := kp04.trans kp5
                    refine ⟨x, dxs, _, _, _, rfl, upd_same, fun H6 fs6 h6 lk6 _ kp6 => ⟨rfl, ?_⟩⟩
                    have sm : Same H5 H6 := made_same hx hdx kp6
                    refine k H6 x (R5.same sm) ⟨dxs, fs6, ct, hid_of h6 (R5.out hx), lk6.1, lk6.2.1, lk6.2.2, ?_⟩ (kp05.same sm)
                    exact hB5.same ((Same.kp (S := []) sm).hid fun b z => nomatch z)
theorem scPi : FnScope ["reader", "screen", "manner", "area", "marks", "colours", "size", "in_passes"] ["reader", "screen", "manner"] (defScope sPicture) := ⟨rfl, rfl, rfl, by decide +kernel, rfl, by decide +kernel, by decide +kernel⟩
theorem ok_picture {f fA fB fK fJ fL fI : Addr} {fd fdA fdB fdK fdJ fdL fdI : FuncData} (F : Fun K "read_picture" "read_picture" sPicture f fd) (T : Txt K mg c)
    (GA : FnOk P w K mg base (CXF P w) 4 fA fdA ["reader", "screen"] (spArea K c)) (kA : PySem.W.keepIn K (.ref fA) = true) (bA : Binds K fdA ["reader", "screen"] []) (mA : mg "read_area" = some (.ref fA))
    (GB : FnOk P w K mg base (CXF P w) 2 fB fdB ["self"] (spByte K c)) (bB : Binds K fdB ["self"] []) (mB : Meth K c.C "take_byte" fB)
    (GK : FnOk P w K mg base (CXF P w) 3 fK fdK ["reader", "marks"] (spTable K c)) (kK : PySem.W.keepIn K (.ref fK) = true) (bK : Binds K fdK ["reader", "marks"] []) (mK : mg "read_table" = some (.ref fK))
    (GJ : FnOk P w K mg base CX0 1 fJ fdJ ["blocks"] spJoin) (kJ : PySem.W.keepIn K (.ref fJ) = true) (bJ : Binds K fdJ ["blocks"] []) (mJ : mg "join_blocks" = some (.ref fJ))
    (GL : FnOk P w K mg base (CXF P w) 3 fL fdL ["reader"] (spBlocks K c)) (kL : PySem.W.keepIn K (.ref fL) = true) (bL : Binds K fdL ["reader"] []) (mL : mg "read_blocks" = some (.ref fL))
    (M : Mk K c.CP fI) (GI : FnOk P w K mg base CX0 1 fI fdI ["self", "area", "manner", "colours", "in_passes", "size", "data"] (spIPic c)) (bI : Binds K fdI ["self", "area", "manner", "colours", "in_passes", "size", "data"] []) :
    FnOk P w K mg base (CXF P w) 5 f fd ["reader", "screen", "manner"] (spPicture K c) := by
  refine F.okX scPi (fun vs H Q E h => ?_) (fun cdv A outer s H vs Q E hr h => ?_)
  · obtain ⟨S, r, a, sc, mn, bs, l, W, Hh, gl, nt, rfl, _⟩ := h
    rfl
  · obtain ⟨S, r, a, sc, mn, bs, l, W, Hh, gl, nt, rfl, R, hS, hgl, hN, k⟩ := h
    have hr1 : Room 1 _ := hr.mono (by decide)
    have hr2 : Room 2 _ := hr.mono (by decide)
    have hr3 : Room 3 _ := hr.mono (by decide)
    refine ⟨_, pss_cons (ps_set (i := 3) scPi.nd rfl (Or.inl rfl) (pe_call GA hr rfl mA kA bA .nil passD (pa_cons (pv 0) (pa_cons (pv 1) pa_nil))))
      (pss_cons (ps_set (i := 4) scPi.nd rfl (Or.inl rfl) (pe_meth0 (pv 0) T.cl mB GB hr2 bB .nil passD))
      (pss_cons (ps_set (i := 5) scPi.nd rfl (Or.inl rfl) (pe_call GK hr3 rfl mK kK bK .nil passD (pa_cons (pv 0) (pa_cons (pv 4) pa_nil))))
      (pss_cons (ps_if (pt_cmpR op_eq (pe_callB call_len_seq (by rfl) T.len PySem.boot_len (pa_cons (pv 5) pa_nil)) pe_int (nomark _)) (pss_one (ps_set (i := 5) scPi.nd rfl (Or.inl rfl) (pe_fld (pv 1) rfl))) pss_nil)
      (pss_cons (ps_if (pt_cmpR op_eq (pe_callB call_len_seq (by rfl) T.len PySem.boot_len (pa_cons (pv 5) pa_nil)) pe_int (nomark _)) (pss_one (ps_raise T.xc rfl rfl madeD)) pss_nil)
      (pss_cons (ps_set (i := 6) scPi.nd rfl (Or.inl rfl) (pe_meth0 (pv 0) T.cl mB GB hr2 bB .nil passD))
      (pss_cons (ps_if (PW.pt (pw_or (pt_cmpR op_lt (pv 6) pe_int (nomark _)) (pw_or1 (pt_cmpR op_gt (pv 6) pe_int (nomark _)))))
        (pss_one (ps_raise T.xc rfl rfl madeD)) pss_nil)
      (pss_cons (ps_set (i := 7) scPi.nd rfl (Or.inl rfl) (pe_cmpR op_ge (pe_op op_mod (pv 4) pe_int) pe_int (nomark _)))
      (pss_one (ps_ret (pe_make M GI hr2 rfl T.mgP bI .nil pass0 (pa_cons (pv 3) (pa_cons (pv 2) (pa_cons (pv 5) (pa_cons (pv 7) (pa_cons (pv 6)
        (pa_cons (pe_call GJ hr1 rfl mJ kJ bJ .nil pass0 (pa_cons (pe_call GL hr3 rfl mL kL bL .nil passD (pa_cons (pv 0) pa_nil)) pa_nil)) pa_nil)))))))))))))))), ?_⟩
    unfold Gif.mPic at k
    refine ⟨_, rfl, _, rfl, S, r, a, sc, bs, l, W, Hh, gl, rfl, R, hS, ?_⟩
    cases e1 : Gif.mArea W Hh l with
    | none => rw [e1] at k; exact k
    | some ya =>
      rw [e1] at k
      simp only [Option.bind_some] at k
      intro H1 ar R1 hA1 kp1
      obtain ⟨dx1, fs1, p1, hp1, hk1, _⟩ := id R1.ob
      refine ⟨_, rfl, r, dx1, _, rfl, hp1, key_no hk1, S, r, a, bs, ya.2, rfl, R1, ?_⟩
      cases e2 : Gif.byte ya.2 with
      | none => rw [e2] at k; exact k
      | some q =>
        rw [e2] at k
        simp only [Option.bind_some] at k
        intro H2 R2 kp2
        refine ⟨_, rfl, _, rfl, S, r, a, bs, q.2, q.1, rfl, R2, ?_⟩
        cases e3 : Sw22.table q.1 q.2 with
        | none => rw [e3] at k; exact k
        | some t =>
          rw [e3] at k
          simp only [Option.bind_some] at k
          intro H3 ct R3 hT3 kp3
          have kp03 := (kp1.trans kp2).trans kp3
          have hS3 := hS.same (kp_hid (S := S) kp03)
          have tk := Gif.table_ok e3
          have len0 : ∀ (H' : Hp) (x : Addr) (o : Option Sw22.Bytes), Gif.TabOk o → BLs H' x (Gif.tbl o) → ∃ xs : List V, H' x = some (.lst xs) ∧ decide (V.int (xs.length : Int) = V.int 0) = decide (o = none) := by
            rintro H' x o ho ⟨as, h1, h2⟩
            refine ⟨_, h1, decide_eq_decide.mpr ?_⟩
            rw [List.length_map, paired_len h2, ← Gif.tbl_len ho]
            exact ⟨fun z => by injection z with z; omega, fun z => by rw [z]; rfl⟩
          obtain ⟨ds, fss, cg, s1, s2, s3, s4, s5⟩ := hS3
          obtain ⟨xs1, x1, x2⟩ := len0 _ _ _ tk hT3
          obtain ⟨xs2, y1, y2⟩ := len0 _ _ _ hgl s5
          refine ⟨_, rfl, ct, _, rfl, .inl (SqL.of (of_hid x1).1), rfl, _, rfl, ?_⟩
          rw [x2]
          have hcase : (∃ cc, t.1 = some cc) ∨ (t.1 = none ∧ ∃ cc, gl = some cc) ∨ (t.1 = none ∧ gl = none) := by
            cases t.1 with
            | some cc => exact .inl ⟨cc, rfl⟩
            | none =>
              cases gl with
              | some cc => exact .inr (.inl ⟨rfl, cc, rfl⟩)
              | none => exact .inr (.inr ⟨rfl, rfl⟩)
          rcases hcase with ⟨cc, hcc⟩ | ⟨hn, cc, hcc⟩ | ⟨hn, hg⟩
          case inr.inr =>
            rw [decide_eq_true hn]
            refine iteT ⟨_, rfl, sc, c.CS, ds, _, _, rfl, (of_hid s1).1, T.cs, T.nCS_colours, s4, _, rfl, cg, _, rfl, .inl (SqL.of (of_hid y1).1), rfl, _, rfl, ?_⟩
            rw [y2, decide_eq_true hg]
            rw [hn, hg] at k
            exact iteT (k _)
          case' inl =>
            have hor : Gif.orElse t.1 gl = some cc := by rw [hcc]; rfl
            have hcol : BLs (hid (r :: S) H3) ct (Gif.threes cc) := by rw [hcc] at hT3; exact hT3
            rw [decide_eq_false (by rw [hcc]; simp)]
            refine iteF ⟨_, rfl, ct, _, rfl, .inl (SqL.of (of_hid x1).1), rfl, _, rfl, ?_⟩
            rw [x2, decide_eq_false (by rw [hcc]; simp)]
            refine iteF ?_
          case' inr.inl =>
            have hor : Gif.orElse t.1 gl = some cc := by rw [hn, hcc]; rfl
            have hcol : BLs (hid (r :: S) H3) cg (Gif.threes cc) := by rw [hcc] at s5; exact s5
            rw [decide_eq_true hn]
            refine iteT ⟨_, rfl, sc, c.CS, ds, _, _, rfl, (of_hid s1).1, T.cs, T.nCS_colours, s4, _, rfl, cg, _, rfl, .inl (SqL.of (of_hid y1).1), rfl, _, rfl, ?_⟩
            rw [y2, decide_eq_false (by rw [hcc]; simp)]
            refine iteF ?_
          all_goals
            rw [hor] at k
            simp only [Option.bind_some] at k
            obtain ⟨dx3, fs3, p3, hp3, hk3, _⟩ := id R3.ob
            refine ⟨_, rfl, r, dx3, _, rfl, hp3, key_no hk3, S, r, a, bs, t.2, rfl, R3, ?_⟩
            cases e4 : Gif.byte t.2 with
            | none => rw [e4] at k; exact k
            | some sz =>
              rw [e4] at k
              simp only [Option.bind_some] at k
              intro H4 R4 kp4
              have kp04 := kp03.trans kp4
              refine ⟨_, rfl, _, _, rfl, rfl, _, rfl, ?_⟩
              refine ite2 (fun z => ?_) (fun z => ?_)
              · have z' : (sz.1 : Int) < 2 := by simpa using z
                rw [if_neg (by omega)] at k
                exact iteT (k _)
              · have z' : ¬ (sz.1 : Int) < 2 := by simpa using z
                refine ⟨_, rfl, _, _, rfl, rfl, _, rfl, ?_⟩
                refine ite2 (fun y => ?_) (fun y => ?_)
                · have y' : (8 : Int) < (sz.1 : Int) := by simpa using y
                  rw [if_neg (by omega)] at k
                  exact k _
                · have y' : ¬ (8 : Int) < (sz.1 : Int) := by simpa using y
                  rw [if_pos (by omega)] at k
                  refine ⟨_, rfl, _, _, rfl, rfl, (by show (0 : Int) < 128; decide), _, _, rfl, rfl, _, rfl, _, rfl, _, rfl, _, rfl, _, rfl, _, rfl, S, r, a, bs, sz.2, rfl, R4, ?_⟩
                  cases e5 : Gif.blk sz.2 with
                  | none => rw [e5] at k; exact k
                  | some yb =>
                    rw [e5] at k
                    intro H5 d R5 hB5 kp5
                    have kp05 := kp04.trans kp5
                    obtain ⟨i1, i2, i3⟩ := Gif.blk_in e5
                    have few := R.few
                    have l4 := R4.len
                    refine ⟨d, yb.1, rfl, hB5.same hid_same, ?_, fun H6 j hj6 hjn sm6 x dxp hx hdx ne => ?_⟩
                    · have : sz.2.length ≤ bs.length := R4.len
                      omega
                    refine ⟨x, dxp, _, _, _, _, _, _, rfl, upd_same, fun H7 fs7 h7 lk7 _ kp7 => ⟨rfl, ?_⟩⟩
                    have sm7 : Same H6 H7 := made_same hx hdx kp7
                    have R6 := R5.same sm6
                    have up56 : Same (hid (r :: S) H5) (hid (r :: S) H6) := (Same.kp (S := []) sm6).hid fun b z => nomatch z
                    have up67 : Same (hid (r :: S) H6) (hid (r :: S) H7) := (Same.kp (S := []) sm7).hid fun b z => nomatch z
                    have up57 := up56.trans up67
                    have up07 : Same (hid (r :: S) H) (hid (r :: S) H7) := (kp_hid (S := S) kp05).trans up57
                    have up17 : Same (hid (r :: S) H1) (hid (r :: S) H7) := (kp_hid (S := S) (((kp2.trans kp3).trans kp4).trans kp5)).trans up57
                    have up37 : Same (hid (r :: S) H3) (hid (r :: S) H7) := (kp_hid (S := S) (kp4.trans kp5)).trans up57
                    have ep : decide ((64 : Int) ≤ (q.1 : Int) % 128) = decide (64 ≤ q.1 % 128) := decide_eq_decide.mpr ⟨fun h => by omega, fun h => by omega⟩
                    have lk4 : fs7.lookup ("in_passes" : Str) = some (V.bl (decide (64 ≤ q.1 % 128))) := lk7.2.2.2.1.trans (congrArg (fun z => some (V.bl z)) ep)
                    refine k H7 x (R6.same sm7) ⟨⟨dxp, fs7, _, _, _, _, hid_of h7 (R6.out hx), lk7.1, lk7.2.1, lk7.2.2.1, lk4, lk7.2.2.2.2.1, lk7.2.2.2.2.2, hA1.same up17, hN.same up07, hcol.same up37, up67 _ _ (hid_of hj6 (R5.out hjn))⟩, ?_, ?_⟩ ((kp05.same sm6).same sm7)
                    · intro v hv
                      obtain ⟨b, hb, hv'⟩ := List.mem_flatten.mp hv
                      exact R4.left v (i1 b hb v hv')
                    · show yb.1.flatten.length ≤ 100000
                      have : sz.2.length ≤ bs.length := R4.len
                      omega
end
end Tf

set_option Elab.async false
set_option linter.all false
set_option maxRecDepth 100000
namespace Tf
open PySem L2
theorem hid_kp {S : List Addr} {H H2 : Hp} {r d : Addr} (hd : H d = none) (k : Kp [r] H H2) : Same (hid (r :: S) H) (hid (r :: d :: S) H2) := fun b o e => by
  have e1 := of_hid e
  have nb : b ≠ d := ne_of_none e1.1 hd
  have nr : b ≠ r := fun z => e1.2 (by rw [z]; exact List.mem_cons_self)
  refine hid_of (k b o e1.1 fun z => nr (List.mem_singleton.mp z)) fun z => ?_
  rcases List.mem_cons.mp z with q | q
  · exact nr q
  · rcases List.mem_cons.mp q with q | q
    · exact nb q
    · exact e1.2 (List.mem_cons_of_mem _ q)
section
variable {P : Program} {w : World} {K : PySem.W.Frag} {mg : Str → Option Value} {base : Heap} {c : Cs}
theorem scC : FnScope ["reader", "screen", "pictures", "manner", "begin"] ["reader", "screen"] (defScope sPictures) := ⟨rfl, rfl, rfl, by decide +kernel, rfl, by decide +kernel, by decide +kernel⟩
theorem ok_pictures {f fB fN fP fM : Addr} {fd fdB fdN fdP fdM : FuncData} (F : Fun K "read_pictures" "read_pictures" sPictures f fd) (T : Txt K mg c)
    (GB : FnOk P w K mg base (CXF P w) 2 fB fdB ["self"] (spByte K c)) (bB : Binds K fdB ["self"] []) (mB : Meth K c.C "take_byte" fB)
    (GN : FnOk P w K mg base (CXF P w) 5 fN fdN ["reader", "manner"] (spNote K c)) (kN : PySem.W.keepIn K (.ref fN) = true) (bN : Binds K fdN ["reader", "manner"] []) (mN : mg "read_note" = some (.ref fN))
    (GP : FnOk P w K mg base (CXF P w) 5 fP fdP ["reader", "screen", "manner"] (spPicture K c)) (kP : PySem.W.keepIn K (.ref fP) = true) (bP : Binds K fdP ["reader", "screen", "manner"] []) (mP : mg "read_picture" = some (.ref fP))
    (GM : FnOk P w K mg base CX0 3 fM fdM [] (spPlain c)) (kM : PySem.W.keepIn K (.ref fM) = true) (bM : Binds K fdM [] []) (mM : mg "plain_manner" = some (.ref fM)) :
    FnOk P w K mg base (CXF P w) 6 f fd ["reader", "screen"] (spPictures K c) := by
  obtain ⟨t1, hn1⟩ := T.note
  obtain ⟨t2, hn2⟩ := T.pict
  obtain ⟨t3, hn3⟩ := T.last
  obtain ⟨t4, hn4⟩ := T.mpict
  refine F.okX scC (fun vs H Q E h => ?_) (fun cdv A outer s H vs Q E hr h => ?_)
  · obtain ⟨S, r, a, sc, bs, l, W, Hh, gl, rfl, _⟩ := h
    rfl
  · obtain ⟨S, r, a, sc, bs, l, W, Hh, gl, rfl, R, hS, hgl, k⟩ := h
    have hr2 : Room 2 _ := hr.mono (by decide)
    have hr3 : Room 3 _ := hr.mono (by decide)
    refine ⟨_, pss_cons (ps_set (i := 2) scC.nd rfl (Or.inl rfl) (pe_lst pa_nil))
      (pss_cons (ps_set (i := 3) scC.nd rfl (Or.inl rfl) (pe_call0 GM hr3 rfl mM kM bM .nil pass0))
      (pss_cons (ps_set (i := 4) scC.nd rfl (Or.inl rfl) (pe_meth0 (pv 0) T.cl mB GB hr2 bB .nil passD))
      (pss_cons (ps_while ownD (pt_cmpR op_ne (pv 4) (pe_glob (v := V.int 59) rfl hn3 ⟨_, rfl⟩) (nomark _))
        (pss_cons (ps_if (pt_cmpR op_eq (pv 4) (pe_glob (v := V.int 33) rfl hn1 ⟨_, rfl⟩) (nomark _))
            (pss_one (ps_set (i := 3) scC.nd rfl (Or.inl rfl) (pe_call GN hr rfl mN kN bN .nil passD (pa_cons (pv 0) (pa_cons (pv 3) pa_nil)))))
            (pss_one (ps_if (pt_cmpR op_eq (pv 4) (pe_glob (v := V.int 44) rfl hn2 ⟨_, rfl⟩) (nomark _))
              (pss_cons (ps_expr (pe_bm PySem.F.plainAttrs_list PySem.F.slot_list_append PySem.F.type_list_append mt_append (pv 2) (pa_cons (pe_call GP hr rfl mP kP bP .nil passD (pa_cons (pv 0) (pa_cons (pv 1) (pa_cons (pv 3) pa_nil)))) pa_nil)))
                (pss_one (ps_set (i := 3) scC.nd rfl (Or.inl rfl) (pe_call0 GM hr3 rfl mM kM bM .nil pass0))))
              (pss_one (ps_raise T.xc rfl rfl madeD)))))
        (pss_one (ps_set (i := 4) scC.nd rfl (Or.inl rfl) (pe_meth0 (pv 0) T.cl mB GB hr2 bB .nil passD)))))
      (pss_cons (ps_if (PW.pt (pw_or (pt_cmpR op_lt (pe_callB call_len_seq (by rfl) T.len PySem.boot_len (pa_cons (pv 2) pa_nil)) pe_int (nomark _)) (pw_or1 (pt_cmpR op_gt (pe_callB call_len_seq (by rfl) T.len PySem.boot_len (pa_cons (pv 2) pa_nil)) (pe_glob (v := V.int 4096) rfl hn4 ⟨_, rfl⟩) (nomark _)))))
        (pss_one (ps_raise T.xc rfl rfl madeD)) pss_nil)
      (pss_one (ps_ret (pv 2))))))), ?_⟩
    have kE : Gif.prt W Hh gl (0, 0, 0) l = none → ∀ H', E (.ref c.X) none H' := fun e => by unfold prtN at k; rw [e] at k; exact k
    refine ⟨Nat.zero_le _, fun d hd => ⟨rfl, fun H0 mn0 hm0 hmn0 sm0 => ?_⟩⟩
    have Rd : RdS K c (d :: S) (upd H d (.lst [])) r a bs l := R.new hd
    have R0 : RdS K c (d :: S) H0 r a bs l := Rd.same sm0
    have nt0 : NoteAt c (hid (r :: d :: S) H0) mn0 (0, 0, 0) := by
      obtain ⟨dm, fm, h1, h2⟩ := hm0
      exact ⟨dm, fm, hid_of h1 (Rd.out hmn0), h2⟩
    have kp0 : Kp [r] H H0 := ((Same.new hd).trans sm0).kp
    have hd0 : H0 d = some (.lst []) := sm0 _ _ upd_same
    obtain ⟨dx, fs, p, hp, hk, _⟩ := id R0.ob
    refine ⟨_, rfl, r, dx, _, rfl, hp, key_no hk, d :: S, r, a, bs, l, rfl, R0, ?_⟩
    have ndr : d ∉ [r] := fun q => R0.nr (by rw [← List.mem_singleton.mp q]; exact List.mem_cons_self)
    cases l with
    | nil => exact kE Gif.prt_nil
    | cons c0 l0 =>
      show ∀ H', RdS K c (d :: S) H' r a bs l0 → Kp [r] _ H' → _
      intro H1 R1 kp1
      have hl0 : l0.length + 1 ≤ bs.length := by
        have := R0.len
        simpa using this
      refine ⟨fun m σ H2 => ∃ (cc : Nat) (l2 : List Nat) (nt : Sw22.Note) (mn : Addr) (ps : List Sw22.Picture) (as : List Addr), σ = [some (.ref r), some (.ref sc), some (.ref d), some (.ref mn), some (.int (cc : Int))] ∧ m = l2.length ∧ RdS K c (d :: S) H2 r a bs l2 ∧
          H2 d = some (.lst (as.map V.ref)) ∧ Paired (fun b p => PicAt c (hid (r :: d :: S) H2) b p) as ps ∧ NoteAt c (hid (r :: d :: S) H2) mn nt ∧ Kp [r] H H2 ∧ ps.length + l2.length ≤ bs.length ∧
          Gif.prt W Hh gl (0, 0, 0) (c0 :: l0) = (Gif.prt W Hh gl nt (cc :: l2)).map fun y => (ps ++ y.1, y.2),
        ⟨_, c0, l0, (0, 0, 0), mn0, [], [], rfl, rfl, R1, kp1 d _ hd0 ndr, .nil, nt0.same (kp_hid kp1), kp0.trans kp1, by simp; omega, by cases Gif.prt W Hh gl (0, 0, 0) (c0 :: l0) <;> simp⟩, ?_⟩
      rintro m σ H2 ⟨cc, l2, nt, mn, ps, as, rfl, rfl, R2, hd2, pr2, nt2, kp2, hps, told⟩
      refine ⟨_, rfl, rfl, _, rfl, ?_⟩
      have eqc : ∀ z : Nat, decide (V.int (cc : Int) = V.int (z : Int)) = decide (cc = z) := fun z => decide_eq_decide.mpr ⟨fun h => by injection h with h; omega, fun h => by rw [h]⟩
      have e59 : decide (V.int (cc : Int) = V.int 59) = decide (cc = 59) := eqc 59
      have e33 : decide (V.int (cc : Int) = V.int 33) = decide (cc = 33) := eqc 33
      have e44 : decide (V.int (cc : Int) = V.int 44) = decide (cc = 44) := eqc 44
      rw [e59]
      by_cases h59 : cc = 59
      · rw [decide_eq_true h59]
        refine iteF ?_
        subst h59
        rw [Gif.prt_last] at told
        have told' : Gif.prt W Hh gl (0, 0, 0) (c0 :: l0) = some (ps ++ [], l2) := told
        rw [List.append_nil] at told'
        unfold prtN at k
        rw [told'] at k
        simp only [Option.bind_some] at k
        have hlen : (as.map V.ref).length = ps.length := by rw [List.length_map, paired_len pr2]
        refine ⟨_, rfl, d, _, rfl, .inl (SqL.of hd2), _, _, rfl, rfl, _, rfl, ?_⟩
        refine ite2 (fun c1 => ?_) (fun c1 => ?_)
        · have c1' : (ps.length : Int) < 1 := by rw [← hlen]; simpa using c1
          rw [if_pos (.inl (by omega))] at k
          exact iteT (k _)
        · have c1' : ¬ (ps.length : Int) < 1 := by rw [← hlen]; simpa using c1
          refine ⟨_, rfl, d, _, rfl, .inl (SqL.of hd2), _, _, rfl, rfl, _, rfl, ?_⟩
          refine ite2 (fun c2 => ?_) (fun c2 => ?_)
          · have c2' : (4096 : Int) < (ps.length : Int) := by rw [← hlen]; simpa using c2
            rw [if_pos (.inr (by omega))] at k
            exact k _
          · have c2' : ¬ (4096 : Int) < (ps.length : Int) := by rw [← hlen]; simpa using c2
            rw [if_neg (by omega)] at k
            exact ⟨_, rfl, k H2 d (R2.less fun b z => List.mem_cons_of_mem _ z) ⟨as, hid_of hd2 (R.out hd), pmap pr2 fun b p e => e.same hid_tail⟩ kp2⟩
      · rw [decide_eq_false h59]
        refine iteT ⟨_, fun _ _ z => z, ?_⟩
        have next : ∀ (D : Ends) (nt' : Sw22.Note) (mn' : Addr) (ps' : List Sw22.Picture) (as' : List Addr) (l' : List Nat) (H3 : Hp),
            (∀ (c' : Nat) (l3 : List Nat) (H4 : Hp), l3.length < l2.length → RdS K c (d :: S) H4 r a bs l3 → H4 d = some (.lst (as'.map V.ref)) → Paired (fun b p => PicAt c (hid (r :: d :: S) H4) b p) as' ps' → NoteAt c (hid (r :: d :: S) H4) mn' nt' → Kp [r] H H4 → ps'.length + l3.length ≤ bs.length →
              Gif.prt W Hh gl (0, 0, 0) (c0 :: l0) = ((Gif.prt W Hh gl nt' (c' :: l3)).map fun y => (ps' ++ y.1, y.2)) → D.nx [some (.ref r), some (.ref sc), some (.ref d), some (.ref mn'), some (.int (c' : Int))] H4) →
            RdS K c (d :: S) H3 r a bs l' → H3 d = some (.lst (as'.map V.ref)) → Paired (fun b p => PicAt c (hid (r :: d :: S) H3) b p) as' ps' → NoteAt c (hid (r :: d :: S) H3) mn' nt' → Kp [r] H H3 → l'.length ≤ l2.length → ps'.length + l'.length ≤ bs.length →
            Gif.prt W Hh gl (0, 0, 0) (c0 :: l0) = ((Gif.prt W Hh gl nt' l').map fun y => (ps' ++ y.1, y.2)) →
            tAsg (tMeth c.C "take_byte" (spByte K c) [] E (tVar 0) tNil) (gName 4) D [some (.ref r), some (.ref sc), some (.ref d), some (.ref mn'), some (.int (cc : Int))] H3 := by
          intro D nt' mn' ps' as' l' H3 hD R3 hd3 pr3 nt3 kp3 hl hps3 told3
          obtain ⟨dx3, fs3, p3, hp3, hk3, _⟩ := id R3.ob
          refine ⟨_, rfl, r, dx3, _, rfl, hp3, key_no hk3, d :: S, r, a, bs, l', rfl, R3, ?_⟩
          cases l' with
          | nil =>
            rw [Gif.prt_nil] at told3
            exact kE told3
          | cons c' l3 =>
            show ∀ H', RdS K c (d :: S) H' r a bs l3 → Kp [r] _ H' → _
            intro H4 R4 kp4
            simp only [List.length_cons] at hl hps3
            exact hD c' l3 H4 (by omega) R4 (kp4 d _ hd3 ndr) (pmap pr3 fun b p e => e.same (kp_hid kp4)) (nt3.same (kp_hid kp4)) (kp3.trans kp4) (by omega) told3
        refine ⟨_, rfl, rfl, _, rfl, ?_⟩
        rw [e33]
        by_cases h33 : cc = 33
        · rw [decide_eq_true h33]
          refine iteT ⟨_, rfl, _, rfl, d :: S, r, a, mn, bs, l2, nt, rfl, R2, nt2, ?_⟩
          subst h33
          rw [Gif.prt_nt] at told
          cases q : Gif.mNt nt l2 with
          | none =>
            rw [q] at told
            exact kE told
          | some x =>
            rw [q] at told
            intro H3 m3 R3 nt3 kp3
            have := Gif.mNt_len q
            exact next _ x.1 m3 ps as x.2 H3 (fun c' l3 H4 hl R4 hd4 pr4 nt4 kp4 hps4 t4 => ⟨l3.length, hl, c', l3, x.1, m3, ps, as, rfl, rfl, R4, hd4, pr4, nt4, kp4, hps4, t4⟩) R3 (kp3 d _ hd2 ndr) (pmap pr2 fun b p e => e.same (kp_hid kp3)) nt3 (kp2.trans kp3) this (by omega) told
        · rw [decide_eq_false h33]
          refine iteF ⟨_, rfl, rfl, _, rfl, ?_⟩
          rw [e44]
          by_cases h44 : cc = 44
          · rw [decide_eq_true h44]
            refine iteT ⟨_, rfl, .inl ⟨rfl, _, SqL.of hd2⟩, _, rfl, _, rfl, _, rfl, d :: S, r, a, sc, mn, bs, l2, W, Hh, gl, nt, rfl, R2, hS.same (hid_kp hd kp2), hgl, nt2, ?_⟩
            subst h44
            rw [Gif.prt_pic] at told
            cases q : Gif.mPic W Hh gl nt l2 with
            | none =>
              rw [q] at told
              exact kE told
            | some x =>
              rw [q] at told
              intro H3 pa R3 hp3 kp3
              have hl3 := Gif.mPic_len q
              have hd3 := kp3 d _ hd2 ndr
              refine ⟨d, _, _, rfl, rfl, hd3, ?_, rfl, fun H4 m4 hm4 hmn4 sm4 => ?_⟩
              · rw [List.length_map, paired_len pr2]
                have : (100000 : Nat) < sizeLine := by decide
                have := R.few
                omega
              have R3u : RdS K c (d :: S) (upd H3 d (.lst (as.map V.ref ++ [V.ref pa]))) r a bs x.2 := R3.upd List.mem_cons_self
              have su : Same (hid (r :: d :: S) H3) (hid (r :: d :: S) (upd H3 d (.lst (as.map V.ref ++ [V.ref pa])))) := hid_upd (List.mem_cons_of_mem _ List.mem_cons_self)
              have s4 : Same (hid (r :: d :: S) (upd H3 d (.lst (as.map V.ref ++ [V.ref pa])))) (hid (r :: d :: S) H4) := (Same.kp (S := []) sm4).hid fun b z => nomatch z
              have nt4 : NoteAt c (hid (r :: d :: S) H4) m4 (0, 0, 0) := by
                obtain ⟨dm, fm, g1, g2⟩ := hm4
                exact ⟨dm, fm, hid_of g1 (R3u.out hmn4), g2⟩
              refine next _ (0, 0, 0) m4 (ps ++ [x.1]) (as ++ [pa]) x.2 H4 (fun c' l3 H5 hl R5 hd5 pr5 nt5 kp5 hps5 t5 => ⟨l3.length, hl, c', l3, (0, 0, 0), m4, ps ++ [x.1], as ++ [pa], rfl, rfl, R5, hd5, pr5, nt5, kp5, hps5, t5⟩) (R3u.same sm4) ?_ ?_ nt4 ?_ (by omega) ?_ ?_
              · rw [sm4 _ _ upd_same, List.map_append]
                rfl
              · exact paired_snoc (by exact hp3.same (su.trans s4)) (pmap pr2 fun b p e => (e.same (kp_hid kp3)).same (su.trans s4))
              · exact ((kp2.trans kp3).writeN hd).same sm4
              · rw [List.length_append, List.length_singleton]
                omega
              · rw [told]
                simp only [Option.bind_some, Option.map_map]
                congr 1
                funext y
                simp
          · rw [decide_eq_false h44]
            rw [Gif.prt_other h59 h33 h44] at told
            exact iteF (kE told _)
theorem scO : FnScope ["file", "reader", "screen", "pictures"] ["file"] (defScope sOutline) := ⟨rfl, rfl, rfl, by decide +kernel, rfl, by decide +kernel, by decide +kernel⟩
theorem ok_outline {f fR fH fS fC fO : Addr} {fd fdR fdH fdS fdC fdO : FuncData} (F : Fun K "read_outline" "read_outline" sOutline f fd) (T : Txt K mg c)
    (MR : Mk K c.C fR) (GR : FnOk P w K mg base CX0 1 fR fdR ["self", "file"] (spInit c)) (bR : Binds K fdR ["self", "file"] [])
    (GH : FnOk P w K mg base (CXF P w) 3 fH fdH ["reader"] (spHead K c)) (kH : PySem.W.keepIn K (.ref fH) = true) (bH : Binds K fdH ["reader"] []) (mH : mg "read_head" = some (.ref fH))
    (GS : FnOk P w K mg base (CXF P w) 4 fS fdS ["reader"] (spScreen K c)) (kS : PySem.W.keepIn K (.ref fS) = true) (bS : Binds K fdS ["reader"] []) (mS : mg "read_screen" = some (.ref fS))
    (GC : FnOk P w K mg base (CXF P w) 6 fC fdC ["reader", "screen"] (spPictures K c)) (kC : PySem.W.keepIn K (.ref fC) = true) (bC : Binds K fdC ["reader", "screen"] []) (mC : mg "read_pictures" = some (.ref fC))
    (MO : Mk K c.CO fO) (GO : FnOk P w K mg base CX0 1 fO fdO ["self", "screen", "pictures", "length"] (spIOut c)) (bO : Binds K fdO ["self", "screen", "pictures", "length"] []) :
    FnOk P w K mg base (CXF P w) 7 f fd ["file"] (spOutline K c) := by
  refine F.okX scO (fun vs H Q E h => ?_) (fun cdv A outer s H vs Q E hr h => ?_)
  · obtain ⟨a, bs, rfl, _⟩ := h
    rfl
  · obtain ⟨a, bs, rfl, sq, by_, few, k⟩ := h
    have hr2 : Room 2 _ := hr.mono (by decide)
    have hr3 : Room 3 _ := hr.mono (by decide)
    have hr4 : Room 4 _ := hr.mono (by decide)
    refine ⟨_, pss_cons (ps_set (i := 1) scO.nd rfl (Or.inl rfl) (pe_make MR GR hr2 rfl T.mgC bR .nil pass0 (pa_cons (pv 0) pa_nil)))
      (pss_cons (ps_expr (pe_call GH hr3 rfl mH kH bH .nil passD (pa_cons (pv 1) pa_nil)))
      (pss_cons (ps_set (i := 2) scO.nd rfl (Or.inl rfl) (pe_call GS hr4 rfl mS kS bS .nil passD (pa_cons (pv 1) pa_nil)))
      (pss_cons (ps_set (i := 3) scO.nd rfl (Or.inl rfl) (pe_call GC hr rfl mC kC bC .nil passD (pa_cons (pv 1) (pa_cons (pv 2) pa_nil))))
      (pss_one (ps_ret (pe_make MO GO hr2 rfl T.mgO bO .nil pass0 (pa_cons (pv 2) (pa_cons (pv 3) (pa_cons (pe_fld (pv 1) rfl) pa_nil))))))))), ?_⟩
    rw [← Gif.mRead_eq] at k
    unfold Gif.mRead at k
    refine ⟨_, rfl, fun r dr hx hdx ne => ⟨r, a, dr, rfl, upd_same, fun H1 fs1 h1 k1 f1 p1 kp1 => ⟨rfl, ?_⟩⟩⟩
    have sm1 : Same H H1 := made_same hx hdx kp1
    have sq1 : SqL K (hid [r] H1) a (bv bs) := Same.seq (fun b o e => hid_of (sm1 _ _ e) fun z => ne_of_none e hx (List.mem_singleton.mp z)) sq
    have R1 : RdS K c [] H1 r a bs bs := ⟨sq1, ⟨dr, fs1, 0, h1, k1, f1, p1, Nat.zero_le _, rfl⟩, by_, few, (fun z => nomatch z), fun y hy => nomatch hy⟩
    refine ⟨_, rfl, [], r, a, bs, bs, rfl, R1, ?_⟩
    cases e1 : Gif.mHd bs with
    | none => rw [e1] at k; exact k
    | some l1 =>
      rw [e1] at k
      simp only [Option.bind_some] at k
      intro H2 R2 kp2
      refine ⟨_, rfl, [], r, a, bs, l1, rfl, R2, ?_⟩
      cases e2 : Gif.mScr l1 with
      | none => rw [e2] at k; exact k
      | some y =>
        rw [e2] at k
        simp only [Option.bind_some] at k
        intro H3 sc R3 hS3 kp3
        refine ⟨_, rfl, _, rfl, [], r, a, sc, bs, y.2, y.1.1, y.1.2.1, y.1.2.2, rfl, R3, hS3, Gif.mScr_tab e2, ?_⟩
        unfold prtN
        cases e3 : Gif.prt y.1.1 y.1.2.1 y.1.2.2 (0, 0, 0) y.2 with
        | none => rw [e3] at k; exact k
        | some z =>
          rw [e3] at k
          simp only [Option.bind_some] at k ⊢
          by_cases hz : z.1.length < 1 ∨ 4096 < z.1.length
          · rw [if_pos hz] at k ⊢
            exact k
          · rw [if_neg hz] at k ⊢
            intro H4 d R4 hP4 kp4
            obtain ⟨dx4, fs4, p4, hp4, hk4, hf4, hpl4, hple4, el4⟩ := id R4.ob
            refine ⟨_, rfl, _, rfl, _, rfl, r, c.C, dx4, _, _, rfl, hp4, T.cl, T.nC_place, hpl4, fun o dd ho hdd ned => ?_⟩
            refine ⟨o, dd, _, _, _, rfl, upd_same, fun H5 fs5 h5 lk5 _ kp5 => ⟨rfl, ?_⟩⟩
            have sm5 : Same H4 H5 := made_same ho hdd kp5
            have ep : p4 = bs.length - z.2.length := by
              rw [el4, List.length_drop]
              omega
            have smH : Same H H5 := fun b u e => sm5 _ _ (((kp2.trans kp3).trans kp4) b u (sm1 _ _ e) fun q => ne_of_none e hx (List.mem_singleton.mp q))
            refine k H5 o ⟨dd, fs5, sc, d, y.1.2.2, h5, lk5.1, lk5.2.1, ?_, ((hS3.same (kp_hid kp4)).same hid_same).same sm5, (hP4.same hid_same).same sm5⟩ smH
            rw [lk5.2.2, ep]
end
end Tf

set_option Elab.async false
set_option linter.all false
set_option maxRecDepth 100000
namespace Tf
open PySem L2
abbrev sFindP : Stmt := top (rd0 + 32)
def spFindP (c : Cs) (XP : Addr) : Sp := fun vs H Q E => ∃ (k : Int) (o : Addr) (f : Sw22.File), vs = [.int k, .ref o] ∧ OutAt c H o f ∧ match f.at_ k with
  | none => E (.ref XP) none H
  | some p => ∀ x, PicAt c H x p → Q (.ref x) H
section
variable {P : Program} {w : World} {K : PySem.W.Frag} {mg : Str → Option Value} {base : Heap} {c : Cs} {XP : Addr}
theorem scFp : FnScope ["k", "outline"] ["k", "outline"] (defScope sFindP) := ⟨rfl, rfl, rfl, by decide +kernel, rfl, by decide +kernel, by decide +kernel⟩
theorem ok_findP {f : Addr} {fd : FuncData} (F : Fun K "find_picture" "find_picture" sFindP f fd) (T : Txt K mg c) (TP : XCls K mg "NoPicture" XP) : FnOk P w K mg base (CXF P w) 1 f fd ["k", "outline"] (spFindP c XP) := by
  refine F.okX scFp (fun vs H Q E h => ?_) (fun cdv A outer s H vs Q E hr h => ?_)
  · obtain ⟨k, o, fl, rfl, _⟩ := h
    rfl
  · obtain ⟨k, o, fl, rfl, ho, q⟩ := h
    refine ⟨_, pss_cons (ps_if (PW.pt (pw_or (pt_cmpR op_lt (pv 0) pe_int (nomark _)) (pw_or1 (pt_cmpR op_ge (pv 0) (pe_callB call_len_seq (by rfl) T.len PySem.boot_len (pa_cons (pe_fld (pv 1) rfl) pa_nil)) (nomark _)))))
        (pss_one (ps_raise TP rfl rfl madeD)) pss_nil)
      (pss_one (ps_ret (pe_ix ix_list (pe_fld (pv 1) rfl) (pv 0) (fun _ _ => rfl)))), ?_⟩
    obtain ⟨dd, fs, sc, pl, gl, h1, h2, h3, h4, _, ⟨as, g1, g2⟩⟩ := ho
    rw [Gif.at_iff] at q
    refine ⟨_, rfl, _, _, rfl, rfl, _, rfl, ?_⟩
    refine ite2 (fun z => ?_) (fun z => ?_)
    · have z' : k < 0 := by simpa using z
      rw [if_pos z'] at q
      exact iteT q
    · have z' : ¬ k < 0 := by simpa using z
      rw [if_neg z'] at q
      refine ⟨_, rfl, _, rfl, o, c.CO, dd, _, _, rfl, h1, T.co, T.nCO_pictures, h3, pl, _, rfl, .inl (SqL.of g1), _, _, rfl, rfl, _, rfl, ?_⟩
      have hlen : (as.map V.ref).length = fl.pictures.length := by rw [List.length_map, paired_len g2]
      refine ite2 (fun y => ?_) (fun y => ?_)
      · have y' : (fl.pictures.length : Int) ≤ k := by rw [← hlen]; simpa using y
        rw [List.getElem?_eq_none_iff.mpr (by omega)] at q
        exact q
      · have y' : ¬ (fl.pictures.length : Int) ≤ k := by rw [← hlen]; simpa using y
        have hlt : k.toNat < fl.pictures.length := by omega
        rw [List.getElem?_eq_getElem hlt] at q
        obtain ⟨x, x1, x2⟩ := paired_at g2 (List.getElem?_eq_getElem hlt)
        have ek : k = ((k.toNat : Nat) : Int) := by omega
        refine ⟨_, rfl, o, c.CO, dd, _, _, rfl, h1, T.co, T.nCO_pictures, h3, _, rfl, pl, _, _, _, rfl, rfl, SqL.of g1, ?_, q x x2⟩
        rw [ek]
        refine atI_nat ?_
        rw [List.getElem?_map, x1]
        rfl
end
end Tf

set_option Elab.async false
set_option linter.all false
set_option maxRecDepth 100000
namespace Tf
open PySem L2
/-! ### the text by places -/
abbrev sBi : Stmt := inClass (top (cd0 + 4)) 0
abbrev sCode : Stmt := inClass (top (cd0 + 4)) 1
abbrev sHold : Stmt := inClass (top (cd0 + 4)) 2
abbrev sTi : Stmt := inClass (top (cd0 + 5)) 0
abbrev sForget : Stmt := inClass (top (cd0 + 5)) 1
abbrev sCount : Stmt := inClass (top (cd0 + 5)) 2
abbrev sTake : Stmt := inClass (top (cd0 + 5)) 3
abbrev sFind : Stmt := inClass (top (cd0 + 5)) 4
abbrev sAdd : Stmt := inClass (top (cd0 + 5)) 5
abbrev sUnp : Stmt := inClass (top (cd0 + 6)) 0
abbrev sUnpack : Stmt := top (cd0 + 7)
abbrev sCollect : Stmt := top (cd0 + 8)
structure Cc where
  CB : Addr
  CT : Addr
  CU : Addr
  XW : Addr
structure TxtC (K : PySem.W.Frag) (mg : Str → Option Value) (c : Cc) : Prop where
  cb : Cls K c.CB
  nCB_data : NoAttr K c.CB "data"
  nCB_place : NoAttr K c.CB "place"
  nCB_held : NoAttr K c.CB "held"
  nCB_held_bits : NoAttr K c.CB "held_bits"
  mgB : mg "Bits" = some (.ref c.CB)
  ct : Cls K c.CT
  nCT_size : NoAttr K c.CT "size"
  nCT_clear_code : NoAttr K c.CT "clear_code"
  nCT_end_code : NoAttr K c.CT "end_code"
  nCT_added : NoAttr K c.CT "added"
  nCT_code_bits : NoAttr K c.CT "code_bits"
  nCT_row_before : NoAttr K c.CT "row_before"
  mgT : mg "Table" = some (.ref c.CT)
  cu : Cls K c.CU
  nCU_numbers : NoAttr K c.CU "numbers"
  nCU_is_wrong : NoAttr K c.CU "is_wrong"
  mgU : mg "Unpacked" = some (.ref c.CU)
  xw : XCls K mg "WrongCode" c.XW
  len : mg "len" = none
  mbits : ∃ t, mg "MOST_BITS" = some (.int 12 t)
  mrows : ∃ t, mg "MOST_ROWS" = some (.int 4096 t)
/-! ### the bits -/
abbrev bkeys : List Str := ["data", "place", "held", "held_bits"]
/-- Bits at b over the list at a; l: the bits that are still to come; H0: what was there ahead of it -/
structure BtS (K : PySem.W.Frag) (c : Cc) (H0 H : Hp) (b a : Addr) (data : List Nat) (l : List Bool) : Prop where
  sq : SqL K H0 a (bv data)
  sm : Same H0 H
  nb : H0 b = none
  ob : ∃ (dx : Addr) (fs : List (Str × V)) (p : Nat) (hb : List Bool), H b = some (.ins c.CB dx fs) ∧ fs.map (·.1) = bkeys ∧ fs.lookup ("data" : Str) = some (.ref a) ∧ fs.lookup ("place" : Str) = some (.int (p : Int)) ∧
    fs.lookup ("held" : Str) = some (.int (Sw22.valueOf hb : Int)) ∧ fs.lookup ("held_bits" : Str) = some (.int (hb.length : Int)) ∧ p ≤ data.length ∧ l = hb ++ Sw22.bitsOf (data.drop p)
  by_ : ∀ x ∈ data, x < 256
  few : data.length ≤ 100000
/-- another thing was written, or made -/
theorem BtS.kp {K : PySem.W.Frag} {c : Cc} {H0 H H' : Hp} {b a : Addr} {data : List Nat} {l : List Bool} {T : List Addr} (B : BtS K c H0 H b a data l) (k : Kp T H H') (hb : b ∉ T) (sm : Same H0 H') : BtS K c H0 H' b a data l := by
  obtain ⟨dx, fs, p, h, h1, h2⟩ := B.ob
  exact ⟨B.sq, sm, B.nb, ⟨dx, fs, p, h, k _ _ h1 hb, h2⟩, B.by_, B.few⟩
theorem BtS.same {K : PySem.W.Frag} {c : Cc} {H0 H H' : Hp} {b a : Addr} {data : List Nat} {l : List Bool} (B : BtS K c H0 H b a data l) (e : Same H H') : BtS K c H0 H' b a data l := B.kp (T := []) e.kp (fun z => nomatch z) (B.sm.trans e)
def spBi (c : Cc) : Sp := fun vs H Q _ => ∃ (b a dx : Addr), vs = [.ref b, .ref a] ∧ H b = some (.ins c.CB dx []) ∧ ∀ H' fs, H' b = some (.ins c.CB dx fs) → fs.map (·.1) = bkeys → fs.lookup ("data" : Str) = some (.ref a) → fs.lookup ("place" : Str) = some (.int 0) → fs.lookup ("held" : Str) = some (.int 0) → fs.lookup ("held_bits" : Str) = some (.int 0) → Kp [b] H H' → Q .non H'
def spHold (K : PySem.W.Frag) (c : Cc) : Sp := fun vs H Q E => ∃ (H0 : Hp) (b a dx : Addr) (data : List Nat) (fs : List (Str × V)) (p : Nat) (hb : List Bool), vs = [.ref b] ∧ BtS K c H0 H b a data (hb ++ Sw22.bitsOf (data.drop p)) ∧ H b = some (.ins c.CB dx fs) ∧ fs.map (·.1) = bkeys ∧
    fs.lookup ("data" : Str) = some (.ref a) ∧ fs.lookup ("place" : Str) = some (.int (p : Int)) ∧ fs.lookup ("held" : Str) = some (.int (Sw22.valueOf hb : Int)) ∧ fs.lookup ("held_bits" : Str) = some (.int (hb.length : Int)) ∧ p ≤ data.length ∧ hb.length < 12 ∧
    match data[p]? with
    | none => E (.ref c.XW) none H
    | some x => ∀ H' fs', H' b = some (.ins c.CB dx fs') → fs'.map (·.1) = bkeys → fs'.lookup ("data" : Str) = some (.ref a) → fs'.lookup ("place" : Str) = some (.int ((p + 1 : Nat) : Int)) → fs'.lookup ("held" : Str) = some (.int (Sw22.valueOf (hb ++ (List.range 8).map x.testBit) : Int)) →
        fs'.lookup ("held_bits" : Str) = some (.int ((hb.length + 8 : Nat) : Int)) → Kp [b] H H' → Q .non H'
def spCode (K : PySem.W.Frag) (c : Cc) : Sp := fun vs H Q E => ∃ (H0 : Hp) (b a : Addr) (data : List Nat) (l : List Bool) (n : Nat), vs = [.ref b, .int (n : Int)] ∧ BtS K c H0 H b a data l ∧ 1 ≤ n ∧ n ≤ 12 ∧
  if l.length < n then ∀ H', Same H0 H' → Kp [b] H H' → E (.ref c.XW) none H' else ∀ H', BtS K c H0 H' b a data (l.drop n) → Kp [b] H H' → Q (.int (Sw22.valueOf (l.take n) : Int)) H'
/-! ### the table -/
abbrev tkeys : List Str := ["size", "clear_code", "end_code", "added", "code_bits", "row_before"]
abbrev tkeys3 : List Str := ["size", "clear_code", "end_code"]
/-- a Table at t whose added rows lie in the list at ad; S: what else may be written -/
structure TbS (c : Cc) (S : List Addr) (H : Hp) (t ad : Addr) (s : Nat) (tab : Sw22.Table) : Prop where
  ob : ∃ (dx : Addr) (fs : List (Str × V)) (rb : Addr), H t = some (.ins c.CT dx fs) ∧ fs.map (·.1) = tkeys ∧ fs.lookup ("size" : Str) = some (.int (s : Int)) ∧ fs.lookup ("clear_code" : Str) = some (.int ((2 ^ s : Nat) : Int)) ∧ fs.lookup ("end_code" : Str) = some (.int ((2 ^ s + 1 : Nat) : Int)) ∧
    fs.lookup ("added" : Str) = some (.ref ad) ∧ fs.lookup ("code_bits" : Str) = some (.int (tab.width : Int)) ∧ fs.lookup ("row_before" : Str) = some (.ref rb) ∧ hid (t :: ad :: S) H rb = some (.lst (bv (Gif.lastRow tab)))
  ls : ∃ as : List Addr, H ad = some (.lst (as.map V.ref)) ∧ Paired (fun x row => hid (t :: ad :: S) H x = some (.lst (bv row))) as (tab.rows.drop (2 ^ s + 2))
  tb : Gif.TB s tab
  s2 : 2 ≤ s
  s8 : s ≤ 8
  nad : ad ∉ S
  nt : t ∉ S
  live : ∀ x ∈ S, H x ≠ none
section
variable {c : Cc} {S T : List Addr} {H H' : Hp} {t ad : Addr} {s : Nat} {tab : Sw22.Table}
theorem TbS.ne (B : TbS c S H t ad s tab) : t ≠ ad := by
  obtain ⟨dx, fs, rb, h1, _⟩ := B.ob
  obtain ⟨as, h2, _⟩ := B.ls
  exact ne_of h1 h2 (by intro z; cases z)
theorem TbS.out (B : TbS c S H t ad s tab) {x : Addr} (h : H x = none) : x ∉ t :: ad :: S := fun z => by
  obtain ⟨dx, fs, rb, h1, _⟩ := B.ob
  obtain ⟨as, h2, _⟩ := B.ls
  rcases List.mem_cons.mp z with q | q
  · rw [q, h1] at h; cases h
  · rcases List.mem_cons.mp q with q | q
    · rw [q, h2] at h; cases h
    · exact B.live x q h
theorem TbS.kp (B : TbS c S H t ad s tab) (k : Kp T H H') (h : ∀ x ∈ T, x ∈ S) (live : ∀ x ∈ S, H' x ≠ none) : TbS c S H' t ad s tab := by
  obtain ⟨dx, fs, rb, h1, h2, h3, h4, h5, h6, h7, h8, h9⟩ := B.ob
  obtain ⟨as, g1, g2⟩ := B.ls
  have sm : Same (hid (t :: ad :: S) H) (hid (t :: ad :: S) H') := k.hid fun x hx => List.mem_cons_of_mem _ (List.mem_cons_of_mem _ (h x hx))
  exact ⟨⟨dx, fs, rb, k _ _ h1 fun z => B.nt (h _ z), h2, h3, h4, h5, h6, h7, h8, sm _ _ h9⟩, ⟨as, k _ _ g1 fun z => B.nad (h _ z), pmap g2 fun x row e => sm _ _ e⟩, B.tb, B.s2, B.s8, B.nad, B.nt, live⟩
theorem TbS.same (B : TbS c S H t ad s tab) (e : Same H H') : TbS c S H' t ad s tab := B.kp (T := []) e.kp (fun x z => nomatch z) fun x hx z => B.live x hx (e.free z)
end
def spForget (c : Cc) : Sp := fun vs H Q _ => ∃ (t dx : Addr) (fs : List (Str × V)) (s : Nat), vs = [.ref t] ∧ H t = some (.ins c.CT dx fs) ∧ (fs.map (·.1) = tkeys ∨ fs.map (·.1) = tkeys3) ∧ fs.lookup ("size" : Str) = some (.int (s : Int)) ∧
  ∀ H' fs' ad rb, H' t = some (.ins c.CT dx fs') → fs'.map (·.1) = tkeys → fs'.lookup ("size" : Str) = some (.int (s : Int)) → fs'.lookup ("clear_code" : Str) = fs.lookup ("clear_code" : Str) → fs'.lookup ("end_code" : Str) = fs.lookup ("end_code" : Str) → fs'.lookup ("added" : Str) = some (.ref ad) →
    fs'.lookup ("code_bits" : Str) = some (.int ((s + 1 : Nat) : Int)) → fs'.lookup ("row_before" : Str) = some (.ref rb) → H' ad = some (.lst []) → H' rb = some (.lst []) → H ad = none → H rb = none → rb ≠ ad → Kp [t] H H' → Q .non H'
def spTi (c : Cc) : Sp := fun vs H Q _ => ∃ (t dx : Addr) (s : Nat), vs = [.ref t, .int (s : Int)] ∧ H t = some (.ins c.CT dx []) ∧ 2 ≤ s ∧ s ≤ 8 ∧ ∀ H' ad, (∀ S : List Addr, (∀ x ∈ S, H x ≠ none ∧ x ≠ t) → TbS c S H' t ad s (Sw22.fresh s)) → H ad = none → Kp [t] H H' → Q .non H'
def spCount (c : Cc) : Sp := fun vs H Q _ => ∃ (t dx ad : Addr) (fs : List (Str × V)) (e : Nat) (xs : List V), vs = [.ref t] ∧ H t = some (.ins c.CT dx fs) ∧ fs.lookup ("end_code" : Str) = some (.int (e : Int)) ∧ fs.lookup ("added" : Str) = some (.ref ad) ∧ H ad = some (.lst xs) ∧ Q (.int ((e + 1 + xs.length : Nat) : Int)) H
def spAdd (c : Cc) : Sp := fun vs H Q _ => ∃ (t dx ad x : Addr) (fs : List (Str × V)) (e w : Nat) (xs : List V), vs = [.ref t, .ref x] ∧ H t = some (.ins c.CT dx fs) ∧ fs.map (·.1) = tkeys ∧ fs.lookup ("end_code" : Str) = some (.int (e : Int)) ∧ fs.lookup ("added" : Str) = some (.ref ad) ∧ fs.lookup ("code_bits" : Str) = some (.int (w : Int)) ∧ w ≤ 12 ∧
  H ad = some (.lst xs) ∧ xs.length < 100000 ∧ ∀ H' fs', H' t = some (.ins c.CT dx fs') → fs'.map (·.1) = tkeys → (∀ g : Str, ¬ g = "code_bits" → fs'.lookup g = fs.lookup g) → fs'.lookup ("code_bits" : Str) = some (.int ((if e + 1 + (xs.length + 1) = 2 ^ w ∧ w < 12 then w + 1 else w : Nat) : Int)) →
    H' ad = some (.lst (xs ++ [.ref x])) → Kp [t, ad] H H' → Q .non H'
def spFind (c : Cc) : Sp := fun vs H Q E => ∃ (S : List Addr) (t ad : Addr) (s : Nat) (tab : Sw22.Table) (cd : Nat), vs = [.ref t, .int (cd : Int)] ∧ TbS c S H t ad s tab ∧ cd ≠ 2 ^ s ∧ cd ≠ 2 ^ s + 1 ∧ match Gif.findRow s tab cd with
  | none => E (.ref c.XW) none H
  | some r => ∀ H' x, Same H H' → hid (t :: ad :: S) H' x = some (.lst (bv r)) → Q (.ref x) H'
def spTake (c : Cc) : Sp := fun vs H Q E => ∃ (S : List Addr) (t ad : Addr) (s : Nat) (tab : Sw22.Table) (cd : Nat), vs = [.ref t, .int (cd : Int)] ∧ TbS c S H t ad s tab ∧ cd ≠ 2 ^ s ∧ cd ≠ 2 ^ s + 1 ∧ cd < 2 ^ tab.width ∧ match Gif.findRow s tab cd with
  | none => E (.ref c.XW) none H
  | some r => ∀ H' x, TbS c S H' t ad s (Gif.takeRow tab cd r) → hid (t :: ad :: S) H' x = some (.lst (bv r)) → Kp [t, ad] H H' → Q (.ref x) H'
section
variable {P : Program} {w : World} {K : PySem.W.Frag} {mg : Str → Option Value} {base : Heap} {c : Cc}
theorem scBi : FnScope ["self", "data"] ["self", "data"] (defScope sBi) := ⟨rfl, rfl, rfl, by decide +kernel, rfl, by decide +kernel, by decide +kernel⟩
theorem ok_bi {f : Addr} {fd : FuncData} (F : Fun K "__init__" "Bits.__init__" sBi f fd) (T : TxtC K mg c) : FnOk P w K mg base CX0 1 f fd ["self", "data"] (spBi c) := by
  refine F.ok scBi (fun vs H Q E h => ?_) (fun cdv A outer s H vs Q E hr h => ?_)
  · obtain ⟨b, a, dx, rfl, _⟩ := h
    rfl
  · obtain ⟨b, a, dx, rfl, hb, k⟩ := h
    refine ⟨_, pss_cons (ps_fld (pv 0) (pv 1) rfl) (pss_cons (ps_fld (pv 0) pe_int rfl) (pss_cons (ps_fld (pv 0) pe_int rfl) (pss_one (ps_fld (pv 0) pe_int rfl)))), ?_⟩
    have k1 : (putF "data" (.ref a) ([] : List (Str × V))).map (·.1) = (["data"] : List Str) := keys_add (rfl : ([] : List (Str × V)).map (·.1) = ([] : List Str))
    have k2 : (putF "place" (.int 0) (putF "data" (.ref a) ([] : List (Str × V)))).map (·.1) = (["data", "place"] : List Str) := keys_add k1
    have k3 : (putF "held" (.int 0) (putF "place" (.int 0) (putF "data" (.ref a) ([] : List (Str × V))))).map (·.1) = (["data", "place", "held"] : List Str) := keys_add k2
    have k4 : (putF "held_bits" (.int 0) (putF "held" (.int 0) (putF "place" (.int 0) (putF "data" (.ref a) ([] : List (Str × V)))))).map (·.1) = bkeys := keys_add k3
    exact ⟨_, rfl, _, rfl, b, c.CB, dx, _, rfl, hb, T.cb, T.nCB_data, (by show 0 < 1000; decide), _, rfl, b, c.CB, dx, _, rfl, upd_same, T.cb, T.nCB_place, keys_len k1, _, rfl, b, c.CB, dx, _, rfl, upd_same, T.cb, T.nCB_held, keys_len k2,
      _, rfl, b, c.CB, dx, _, rfl, upd_same, T.cb, T.nCB_held_bits, keys_len k3, k _ _ upd_same k4 (lk1 (lk1 (lk1 lk0))) (lk1 (lk1 lk0)) (lk1 lk0) lk0 (((Kp.upd.write (List.mem_singleton.mpr rfl)).write (List.mem_singleton.mpr rfl)).write (List.mem_singleton.mpr rfl))⟩
theorem scHo : FnScope ["self"] ["self"] (defScope sHold) := ⟨rfl, rfl, rfl, by decide +kernel, rfl, by decide +kernel, by decide +kernel⟩
theorem ok_hold {f : Addr} {fd : FuncData} (F : Fun K "hold_byte" "Bits.hold_byte" sHold f fd) (T : TxtC K mg c) : FnOk P w K mg base (CXF P w) 1 f fd ["self"] (spHold K c) := by
  refine F.okX scHo (fun vs H Q E h => ?_) (fun cdv A outer s H vs Q E hr h => ?_)
  · obtain ⟨H0, b, a, dx, data, fs, p, hb, rfl, _⟩ := h
    rfl
  · obtain ⟨H0, b, a, dx, data, fs, p, hb, rfl, B, h1, hk, hd, hpl, hh, hhb, hple, h12, k⟩ := h
    refine ⟨_, pss_cons (ps_if (pt_cmpR op_eq (pe_fld (pv 0) rfl) (pe_callB call_len_seq (by rfl) T.len PySem.boot_len (pa_cons (pe_fld (pv 0) rfl) pa_nil)) (nomark _)) (pss_one (ps_raise T.xw rfl rfl madeD)) pss_nil)
      (pss_cons (ps_fldaug (pv 0) (pe_op op_shl (pe_ix ix_list (pe_fld (pv 0) rfl) (pe_fld (pv 0) rfl) (fun _ _ => rfl)) (pe_fld (pv 0) rfl)) in_add)
      (pss_cons (ps_fldaug (pv 0) pe_int in_add) (pss_one (ps_fldaug (pv 0) pe_int in_add)))), ?_⟩
    have sqH : SqL K H a (bv data) := B.sm.seq B.sq
    refine ⟨_, rfl, b, c.CB, dx, _, _, rfl, h1, T.cb, T.nCB_place, hpl, _, rfl, b, c.CB, dx, _, _, rfl, h1, T.cb, T.nCB_data, hd, a, _, rfl, .inl sqH, rfl, _, rfl, ?_⟩
    have e0 : decide (V.int (p : Int) = V.int ((bv data).length : Int)) = decide (p = data.length) := decide_eq_decide.mpr ⟨fun z => by injection z with z; rw [bv_len] at z; omega, fun z => by rw [bv_len, z]⟩
    rw [e0]
    by_cases hp : p = data.length
    · rw [decide_eq_true hp]
      rw [List.getElem?_eq_none_iff.mpr (by omega)] at k
      exact iteT k
    · rw [decide_eq_false hp]
      have hlt : p < data.length := by omega
      rw [List.getElem?_eq_getElem hlt] at k
      have k : ∀ H' fs', H' b = some (.ins c.CB dx fs') → fs'.map (·.1) = bkeys → fs'.lookup ("data" : Str) = some (.ref a) → fs'.lookup ("place" : Str) = some (.int ((p + 1 : Nat) : Int)) → fs'.lookup ("held" : Str) = some (.int (Sw22.valueOf (hb ++ (List.range 8).map (data[p]).testBit) : Int)) →
        fs'.lookup ("held_bits" : Str) = some (.int ((hb.length + 8 : Nat) : Int)) → Kp [b] H H' → Q .non H' := k
      have hby : data[p] < 256 := B.by_ _ (List.getElem_mem hlt)
      refine iteF ?_
      refine ⟨_, rfl, b, c.CB, dx, _, _, rfl, h1, T.cb, T.nCB_held, hh, _, rfl, b, c.CB, dx, _, _, rfl, h1, T.cb, T.nCB_data, hd, _, rfl, b, c.CB, dx, _, _, rfl, h1, T.cb, T.nCB_place, hpl, a, _, _, _, rfl, rfl, sqH, atI_nat (bv_get (List.getElem?_eq_getElem hlt)),
        _, rfl, b, c.CB, dx, _, _, rfl, h1, T.cb, T.nCB_held_bits, hhb, _, _, rfl, rfl, ⟨by omega, by omega, by omega⟩, _, _, rfl, rfl, dx, _, h1, keys_len hk, ?_⟩
      refine ⟨_, rfl, b, c.CB, dx, _, _, rfl, upd_same, T.cb, T.nCB_held_bits, lk1 hhb, _, _, rfl, rfl, dx, _, upd_same, keys_len (keys_to hk), ?_⟩
      refine ⟨_, rfl, b, c.CB, dx, _, _, rfl, upd_same, T.cb, T.nCB_place, lk1 (lk1 hpl), _, _, rfl, rfl, dx, _, upd_same, keys_len (keys_to (keys_to hk)), ?_⟩
      refine k _ _ upd_same (keys_to (keys_to (keys_to hk))) (lk1 (lk1 (lk1 hd))) lk0 ?_ ?_ ((Kp.upd.write (List.mem_singleton.mpr rfl)).write (List.mem_singleton.mpr rfl))
      · refine (lk1 (lk1 lk0)).trans ?_
        rw [Gif.valueOf_append, Gif.valueOf_byte hby]
        have e1 : ((hb.length : Int)).toNat = hb.length := by omega
        rw [e1, Nat.mul_comm]
        simp
      · exact lk1 lk0
theorem scCo : FnScope ["self", "many", "code"] ["self", "many"] (defScope sCode) := ⟨rfl, rfl, rfl, by decide +kernel, rfl, by decide +kernel, by decide +kernel⟩
theorem ok_code {f fH : Addr} {fd fdH : FuncData} (F : Fun K "take_code" "Bits.take_code" sCode f fd) (T : TxtC K mg c) (GH : FnOk P w K mg base (CXF P w) 1 fH fdH ["self"] (spHold K c)) (bH : Binds K fdH ["self"] []) (mH : Meth K c.CB "hold_byte" fH) :
    FnOk P w K mg base (CXF P w) 2 f fd ["self", "many"] (spCode K c) := by
  refine F.okX scCo (fun vs H Q E h => ?_) (fun cdv A outer s H vs Q E hr h => ?_)
  · obtain ⟨H0, b, a, data, l, n, rfl, _⟩ := h
    rfl
  · obtain ⟨H0, b, a, data, l, n, rfl, B, n1, n12, k⟩ := h
    refine ⟨_, pss_cons (ps_while ownD (pt_cmpR op_lt (pe_fld (pv 0) rfl) (pv 1) (nomark _)) (pss_one (ps_expr (pe_meth0 (pv 0) T.cb mH GH hr bH .nil passD))))
      (pss_cons (ps_set (i := 2) scCo.nd rfl (Or.inl rfl) (pe_op op_mod (pe_fld (pv 0) rfl) (pe_op op_shl pe_int (pv 1))))
      (pss_cons (ps_fldaug (pv 0) (pv 1) in_shr) (pss_cons (ps_fldaug (pv 0) (pv 1) in_sub) (pss_one (ps_ret (pv 2)))))), ?_⟩
    refine ⟨fun m σ H2 => ∃ (p : Nat), σ = [some (.ref b), some (.int (n : Int)), none] ∧ m = data.length - p ∧ p ≤ data.length ∧ BtS K c H0 H2 b a data l ∧ Kp [b] H H2 ∧ ∃ (dx : Addr) (fs : List (Str × V)) (hb : List Bool), H2 b = some (.ins c.CB dx fs) ∧ fs.map (·.1) = bkeys ∧ fs.lookup ("data" : Str) = some (.ref a) ∧ fs.lookup ("place" : Str) = some (.int (p : Int)) ∧
        fs.lookup ("held" : Str) = some (.int (Sw22.valueOf hb : Int)) ∧ fs.lookup ("held_bits" : Str) = some (.int (hb.length : Int)) ∧ l = hb ++ Sw22.bitsOf (data.drop p), ?_, ?_⟩
    · obtain ⟨dx, fs, p, hb, h1, h2, h3, h4, h5, h6, h7, h8⟩ := B.ob
      exact ⟨_, p, rfl, rfl, h7, B, Kp.refl, dx, fs, hb, h1, h2, h3, h4, h5, h6, h8⟩
    · rintro m σ H2 ⟨p, rfl, rfl, hple, B2, kp2, dx, fs, hb, h1, hk, hd, hpl, hh, hhb, hl⟩
      refine ⟨_, rfl, b, c.CB, dx, _, _, rfl, h1, T.cb, T.nCB_held_bits, hhb, _, rfl, _, _, rfl, rfl, _, rfl, ?_⟩
      refine ite2 (fun z => ?_) (fun z => ?_)
      · have z' : hb.length < n := by
          have : (hb.length : Int) < (n : Int) := by simpa using z
          omega
        refine ⟨_, fun _ _ y => y, ?_⟩
        refine ⟨_, rfl, b, dx, _, rfl, h1, key_no hk, H0, b, a, dx, data, fs, p, hb, rfl, hl ▸ B2, h1, hk, hd, hpl, hh, hhb, hple, by omega, ?_⟩
        by_cases hp : p < data.length
        · rw [List.getElem?_eq_getElem hp]
          intro H3 fs3 g1 g2 g3 g4 g5 g6 kp3
          have hdrop : data.drop p = data[p] :: data.drop (p + 1) := (List.drop_eq_getElem_cons hp)
          have hl3 : l = (hb ++ (List.range 8).map (data[p]).testBit) ++ Sw22.bitsOf (data.drop (p + 1)) := by
            rw [hl, hdrop, Gif.bitsOf_cons, List.append_assoc]
          have g6' : fs3.lookup ("held_bits" : Str) = some (.int ((hb ++ (List.range 8).map (data[p]).testBit).length : Int)) := by
            rw [g6, List.length_append, List.length_map, List.length_range]
          have sm3 : Same H0 H3 := fun q o e => kp3 q o (B2.sm q o e) fun y => ne_of_none e B2.nb (List.mem_singleton.mp y)
          exact ⟨data.length - (p + 1), by omega, p + 1, rfl, rfl, hp, ⟨B2.sq, sm3, B2.nb, ⟨dx, fs3, p + 1, _, g1, g2, g3, g4, g5, g6', hp, hl3⟩, B2.by_, B2.few⟩, kp2.trans kp3, dx, fs3, _, g1, g2, g3, g4, g5, g6', hl3⟩
        · rw [List.getElem?_eq_none_iff.mpr (by omega)]
          have el : l.length < n := by
            rw [hl, List.drop_eq_nil_of_le (by omega), Gif.bitsOf_nil, List.append_nil]
            exact z'
          rw [if_pos el] at k
          exact k H2 B2.sm kp2
      · have z' : n ≤ hb.length := by
          have : ¬ (hb.length : Int) < (n : Int) := by simpa using z
          omega
        have el : ¬ l.length < n := by
          rw [hl, List.length_append]
          omega
        rw [if_neg el] at k
        have pw : 1 ≤ 2 ^ n := Nat.one_le_two_pow
        have en : ((n : Int)).toNat = n := by omega
        have ep : (1 : Int) * 2 ^ ((n : Int)).toNat = ((2 ^ n : Nat) : Int) := by rw [en]; simp
        refine ⟨_, rfl, b, c.CB, dx, _, _, rfl, h1, T.cb, T.nCB_held, hh, _, rfl, _, _, rfl, rfl, ⟨by omega, by omega, by decide⟩, _, _, rfl, rfl, (by rw [ep]; omega), ?_⟩
        refine ⟨_, rfl, b, c.CB, dx, _, _, rfl, h1, T.cb, T.nCB_held, hh, _, rfl, _, _, rfl, rfl, (by omega), dx, _, h1, keys_len hk, ?_⟩
        refine ⟨_, rfl, b, c.CB, dx, _, _, rfl, upd_same, T.cb, T.nCB_held_bits, lk1 hhb, _, rfl, _, _, rfl, rfl, dx, _, upd_same, keys_len (keys_to hk), ?_⟩
        have e1 : l.take n = hb.take n := by rw [hl, List.take_append_of_le_length z']
        have e2 : l.drop n = hb.drop n ++ Sw22.bitsOf (data.drop p) := by rw [hl, List.drop_append_of_le_length z']
        have ev : ((Sw22.valueOf hb : Int) % (1 * 2 ^ ((n : Int)).toNat)) = (Sw22.valueOf (l.take n) : Int) := by
          rw [e1, Gif.valueOf_take z', ep]
          simp
        refine ⟨_, rfl, ?_⟩
        show Q (V.int ((Sw22.valueOf hb : Int) % (1 * 2 ^ ((n : Int)).toNat))) (upd (upd H2 b (.ins c.CB dx (putF "held" (V.int ((Sw22.valueOf hb : Int) / 2 ^ ((n : Int)).toNat)) fs))) b (.ins c.CB dx (putF "held_bits" (V.int ((hb.length : Int) - (n : Int))) (putF "held" (V.int ((Sw22.valueOf hb : Int) / 2 ^ ((n : Int)).toNat)) fs))))
        rw [ev]
        have kpF : Kp [b] H _ := (kp2.write (a := b) (o := .ins c.CB dx (putF "held" (V.int ((Sw22.valueOf hb : Int) / 2 ^ ((n : Int)).toNat)) fs)) (List.mem_singleton.mpr rfl)).write (a := b) (o := .ins c.CB dx (putF "held_bits" (V.int ((hb.length : Int) - (n : Int))) (putF "held" (V.int ((Sw22.valueOf hb : Int) / 2 ^ ((n : Int)).toNat)) fs))) (List.mem_singleton.mpr rfl)
        refine k _ ⟨B.sq, (B2.sm.writeN B.nb).writeN B.nb, B.nb, ⟨dx, _, p, hb.drop n, upd_same, keys_to (keys_to hk), lk1 (lk1 hd), lk1 (lk1 hpl), ?_, ?_, hple, e2⟩, B.by_, B.few⟩ kpF
        · refine (lk1 lk0).trans ?_
          rw [Gif.valueOf_drop z', en]
          simp
        · refine lk0.trans ?_
          rw [List.length_drop]
          congr 2
          omega
end
section
variable {P : Program} {w : World} {K : PySem.W.Frag} {mg : Str → Option Value} {base : Heap} {c : Cc}
def spIUnp (c : Cc) : Sp := fun vs H Q _ => ∃ (x dx : Addr) (v0 v1 : V), vs = [.ref x, v0, v1] ∧ H x = some (.ins c.CU dx []) ∧ ∀ H' fs, H' x = some (.ins c.CU dx fs) → (fs.lookup ("numbers" : Str) = some v0 ∧ fs.lookup ("is_wrong" : Str) = some v1) → fs.map (·.1) = (["numbers", "is_wrong"] : List Str) → Kp [x] H H' → Q .non H'
theorem scIUnp : FnScope ["self", "numbers", "is_wrong"] ["self", "numbers", "is_wrong"] (defScope sUnp) := ⟨rfl, rfl, rfl, by decide +kernel, rfl, by decide +kernel, by decide +kernel⟩
theorem ok_iUnp {f : Addr} {fd : FuncData} (F : Fun K "__init__" "Unpacked.__init__" sUnp f fd) (T : TxtC K mg c) : FnOkH P w K mg base 1 f fd ["self", "numbers", "is_wrong"] (spIUnp c) := by
  refine F.okH scIUnp (fun vs H Q E h => ?_) (fun cdv A outer s H vs Q hr h => ?_)
  · obtain ⟨x, dx, v0, v1, rfl, _⟩ := h
    rfl
  · obtain ⟨x, dx, v0, v1, rfl, hx, k⟩ := h
    refine ⟨_, pss_cons (ps_fld (pv 0) (pv 1) rfl) (pss_one (ps_fld (pv 0) (pv 2) rfl)), ?_⟩
    have k1 : (putF "numbers" v0 ([] : List (Str × V))).map (·.1) = (["numbers"] : List Str) := keys_add (rfl : ([] : List (Str × V)).map (·.1) = ([] : List Str))
    have k2 : (putF "is_wrong" v1 (putF "numbers" v0 ([] : List (Str × V)))).map (·.1) = (["numbers", "is_wrong"] : List Str) := keys_add k1
    exact ⟨_, rfl, _, rfl, x, c.CU, dx, _, rfl, hx, T.cu, T.nCU_numbers, keys_len (rfl : ([] : List (Str × V)).map (·.1) = []), _, rfl, _, rfl, x, c.CU, dx, _, rfl, upd_same, T.cu, T.nCU_is_wrong, keys_len k1, k _ _ upd_same ⟨lk1 lk0, lk0⟩ k2 (Kp.write (Kp.upd) (List.mem_singleton.mpr rfl))⟩
end
end Tf

set_option Elab.async false
set_option linter.all false
set_option maxRecDepth 100000
namespace Tf
open PySem L2
section
variable {P : Program} {w : World} {K : PySem.W.Frag} {mg : Str → Option Value} {base : Heap} {c : Cc}
theorem scFo : FnScope ["self"] ["self"] (defScope sForget) := ⟨rfl, rfl, rfl, by decide +kernel, rfl, by decide +kernel, by decide +kernel⟩
theorem keys3 {fs : List (Str × V)} {v1 v2 v3 : V} (h : fs.map (·.1) = tkeys ∨ fs.map (·.1) = tkeys3) : (putF "row_before" v3 (putF "code_bits" v2 (putF "added" v1 fs))).map (·.1) = tkeys ∧ (putF "code_bits" v2 (putF "added" v1 fs)).length < 1000 ∧ (putF "added" v1 fs).length < 1000 ∧ fs.length < 1000 := by
  rcases h with h | h
  · exact ⟨keys_to (keys_to (keys_to h)), keys_len (keys_to (f := "code_bits") (keys_to (f := "added") h)), keys_len (keys_to (f := "added") h), keys_len h⟩
  · have k1 : (putF "added" v1 fs).map (·.1) = (["size", "clear_code", "end_code", "added"] : List Str) := keys_add h
    have k2 : (putF "code_bits" v2 (putF "added" v1 fs)).map (·.1) = (["size", "clear_code", "end_code", "added", "code_bits"] : List Str) := keys_add k1
    exact ⟨keys_add k2, keys_len k2, keys_len k1, keys_len h⟩
theorem ok_forget {f : Addr} {fd : FuncData} (F : Fun K "forget" "Table.forget" sForget f fd) (T : TxtC K mg c) : FnOk P w K mg base CX0 1 f fd ["self"] (spForget c) := by
  refine F.ok scFo (fun vs H Q E h => ?_) (fun cdv A outer s H vs Q E hr h => ?_)
  · obtain ⟨t, dx, fs, s, rfl, _⟩ := h
    rfl
  · obtain ⟨t, dx, fs, s, rfl, h1, hk, hs, k⟩ := h
    refine ⟨_, pss_cons (ps_fld (pv 0) (pe_lst pa_nil) rfl) (pss_cons (ps_fld (pv 0) (pe_op op_add (pe_fld (pv 0) rfl) pe_int) rfl) (pss_one (ps_fld (pv 0) (pe_lst pa_nil) rfl))), ?_⟩
    refine ⟨Nat.zero_le _, fun ad had => ?_⟩
    have nta : t ≠ ad := ne_of_none h1 had
    obtain ⟨kk1, kk2, kk3, kk4⟩ := keys3 (v1 := .ref ad) (v2 := .int ((s : Int) + 1)) (v3 := .non) hk
    refine ⟨_, rfl, t, c.CT, dx, _, rfl, (by rw [upd_ne nta]; exact h1), T.ct, T.nCT_added, kk4, ?_⟩
    refine ⟨_, rfl, t, c.CT, dx, _, _, rfl, upd_same, T.ct, T.nCT_size, lk1 hs, _, _, rfl, rfl, _, rfl, t, c.CT, dx, _, rfl, upd_same, T.ct, T.nCT_code_bits, kk3, ?_⟩
    refine ⟨Nat.zero_le _, fun rb hrb => ?_⟩
    have ntr : t ≠ rb := ne_of_none upd_same hrb
    have hrb' : upd H ad (.lst []) rb = none := by rw [upd_ne ntr.symm, upd_ne ntr.symm] at hrb; exact hrb
    have nra : rb ≠ ad := fun z => by rw [z, upd_same] at hrb'; cases hrb'
    have hrbH : H rb = none := by rw [upd_ne nra] at hrb'; exact hrb'
    refine ⟨_, rfl, t, c.CT, dx, _, rfl, (by rw [upd_ne ntr]; exact upd_same), T.ct, T.nCT_row_before, kk2, ?_⟩
    obtain ⟨kk1, _⟩ := keys3 (v1 := .ref ad) (v2 := .int ((s : Int) + 1)) (v3 := .ref rb) hk
    refine k _ _ ad rb upd_same kk1 (lk1 (lk1 (lk1 hs))) (lk1 (lk1 (lk1 rfl))) (lk1 (lk1 (lk1 rfl))) (lk1 (lk1 lk0)) ?_ lk0 ?_ ?_ had hrbH nra ?_
    · refine (lk1 lk0).trans ?_
      congr 2
    · rw [upd_ne nta.symm, upd_ne nra.symm, upd_ne nta.symm, upd_ne nta.symm, upd_same]
    · rw [upd_ne ntr.symm, upd_same]
    · exact (((((Same.new had).kp (S := [t])).write (List.mem_singleton.mpr rfl)).write (List.mem_singleton.mpr rfl)).writeN hrbH).write (List.mem_singleton.mpr rfl)
theorem scTi : FnScope ["self", "size"] ["self", "size"] (defScope sTi) := ⟨rfl, rfl, rfl, by decide +kernel, rfl, by decide +kernel, by decide +kernel⟩
theorem ok_ti {f fF : Addr} {fd fdF : FuncData} (F : Fun K "__init__" "Table.__init__" sTi f fd) (T : TxtC K mg c) (GF : FnOk P w K mg base CX0 1 fF fdF ["self"] (spForget c)) (bF : Binds K fdF ["self"] []) (mF : Meth K c.CT "forget" fF) : FnOk P w K mg base CX0 2 f fd ["self", "size"] (spTi c) := by
  refine F.ok scTi (fun vs H Q E h => ?_) (fun cdv A outer s H vs Q E hr h => ?_)
  · obtain ⟨t, dx, s, rfl, _⟩ := h
    rfl
  · obtain ⟨t, dx, s, rfl, h1, s2, s8, k⟩ := h
    refine ⟨_, pss_cons (ps_fld (pv 0) (pv 1) rfl) (pss_cons (ps_fld (pv 0) (pe_op op_shl pe_int (pv 1)) rfl) (pss_cons (ps_fld (pv 0) (pe_op op_add (pe_fld (pv 0) rfl) pe_int) rfl) (pss_one (ps_expr (pe_meth0 (pv 0) T.ct mF GF hr bF .nil pass0))))), ?_⟩
    have es : ((s : Int)).toNat = s := by omega
    have ep : (1 : Int) * 2 ^ ((s : Int)).toNat = ((2 ^ s : Nat) : Int) := by rw [es]; simp
    have k1 : (putF "size" (.int (s : Int)) ([] : List (Str × V))).map (·.1) = (["size"] : List Str) := keys_add (rfl : ([] : List (Str × V)).map (·.1) = ([] : List Str))
    have k2 : ∀ v, (putF "clear_code" v (putF "size" (.int (s : Int)) ([] : List (Str × V)))).map (·.1) = (["size", "clear_code"] : List Str) := fun v => keys_add k1
    have k3 : ∀ v u, (putF "end_code" u (putF "clear_code" v (putF "size" (.int (s : Int)) ([] : List (Str × V))))).map (·.1) = tkeys3 := fun v u => keys_add (k2 v)
    refine ⟨_, rfl, _, rfl, t, c.CT, dx, _, rfl, h1, T.ct, T.nCT_size, (by show 0 < 1000; decide), _, rfl, _, _, rfl, rfl, ⟨by omega, by omega, by decide⟩, _, rfl, t, c.CT, dx, _, rfl, upd_same, T.ct, T.nCT_clear_code, keys_len k1,
      _, rfl, t, c.CT, dx, _, _, rfl, upd_same, T.ct, T.nCT_clear_code, lk0, _, _, rfl, rfl, _, rfl, t, c.CT, dx, _, rfl, upd_same, T.ct, T.nCT_end_code, keys_len (k2 _), ?_⟩
    refine ⟨_, rfl, t, dx, _, rfl, upd_same, key_no (k3 _ _), t, dx, _, s, rfl, upd_same, .inr (k3 _ _), lk1 (lk1 lk0), ?_⟩
    intro H' fs' ad rb g1 g2 g3 g4 g5 g6 g7 g8 g9 g10 g11 g12 g13 kp
    have nta : ad ≠ t := fun z => by rw [z, upd_same] at g11; cases g11
    have ntr : rb ≠ t := fun z => by rw [z, upd_same] at g12; cases g12
    have hadH : H ad = none := by rw [upd_ne nta, upd_ne nta, upd_ne nta] at g11; exact g11
    have hrbH : H rb = none := by rw [upd_ne ntr, upd_ne ntr, upd_ne ntr] at g12; exact g12
    have kpH : Kp [t] H H' := ((Kp.upd.write (List.mem_singleton.mpr rfl)).write (List.mem_singleton.mpr rfl)).trans kp
    have all : ∀ S : List Addr, (∀ x ∈ S, H x ≠ none ∧ x ≠ t) → TbS c S H' t ad s (Sw22.fresh s) := fun S hS => by
      refine ⟨⟨dx, fs', rb, g1, g2, g3, ?_, ?_, g6, g7, g8, ?_⟩, ⟨[], g9, by rw [Gif.fresh_drop]; exact .nil⟩, Gif.fresh_tb s2 s8, s2, s8, fun z => (hS _ z).1 hadH, fun z => (hS _ z).2 rfl, fun x hx z => ?_⟩
      · rw [g4]
        exact (lk1 lk0).trans (congrArg (fun z => some (V.int z)) ep)
      · rw [g5]
        exact lk0.trans ((congrArg (fun z => some (V.int (z + 1))) ep).trans rfl)
      · refine hid_of (show H' rb = some (.lst (bv [])) from g10) fun z => ?_
        rcases List.mem_cons.mp z with q | q
        · exact ntr q
        · rcases List.mem_cons.mp q with q | q
          · exact g13 q
          · exact (hS _ q).1 hrbH
      · exact (hS x hx).1 (kpH.free z fun q => (hS x hx).2 (List.mem_singleton.mp q))
    exact k H' ad all hadH kpH
theorem scCn : FnScope ["self"] ["self"] (defScope sCount) := ⟨rfl, rfl, rfl, by decide +kernel, rfl, by decide +kernel, by decide +kernel⟩
theorem ok_count {f : Addr} {fd : FuncData} (F : Fun K "count_rows" "Table.count_rows" sCount f fd) (T : TxtC K mg c) : FnOk P w K mg base CX0 1 f fd ["self"] (spCount c) := by
  refine F.ok scCn (fun vs H Q E h => ?_) (fun cdv A outer s H vs Q E hr h => ?_)
  · obtain ⟨t, dx, ad, fs, e, xs, rfl, _⟩ := h
    rfl
  · obtain ⟨t, dx, ad, fs, e, xs, rfl, h1, h2, h3, h4, k⟩ := h
    refine ⟨_, pss_one (ps_ret (pe_op op_add (pe_op op_add (pe_fld (pv 0) rfl) pe_int) (pe_callB call_len_seq (by rfl) T.len PySem.boot_len (pa_cons (pe_fld (pv 0) rfl) pa_nil)))), ?_⟩
    refine ⟨_, rfl, t, c.CT, dx, _, _, rfl, h1, T.ct, T.nCT_end_code, h2, _, _, rfl, rfl, _, rfl, t, c.CT, dx, _, _, rfl, h1, T.ct, T.nCT_added, h3, ad, _, rfl, .inl (SqL.of h4), _, _, rfl, rfl, ?_⟩
    have e1 : (e : Int) + 1 + (xs.length : Int) = ((e + 1 + xs.length : Nat) : Int) := by omega
    show Q (.int ((e : Int) + 1 + (xs.length : Int))) H
    rw [e1]
    exact k
theorem scAd : FnScope ["self", "row"] ["self", "row"] (defScope sAdd) := ⟨rfl, rfl, rfl, by decide +kernel, rfl, by decide +kernel, by decide +kernel⟩
theorem ok_add {f fC : Addr} {fd fdC : FuncData} (F : Fun K "add_row" "Table.add_row" sAdd f fd) (T : TxtC K mg c) (GC : FnOk P w K mg base CX0 1 fC fdC ["self"] (spCount c)) (bC : Binds K fdC ["self"] []) (mC : Meth K c.CT "count_rows" fC) : FnOk P w K mg base CX0 2 f fd ["self", "row"] (spAdd c) := by
  obtain ⟨tm, hmb⟩ := T.mbits
  refine F.ok scAd (fun vs H Q E h => ?_) (fun cdv A outer s H vs Q E hr h => ?_)
  · obtain ⟨t, dx, ad, x, fs, e, w, xs, rfl, _⟩ := h
    rfl
  · obtain ⟨t, dx, ad, x, fs, e, w, xs, rfl, h1, hk, he, ha, hw, w12, hxs, few, k⟩ := h
    refine ⟨_, pss_cons (ps_expr (pe_bm PySem.F.plainAttrs_list PySem.F.slot_list_append PySem.F.type_list_append mt_append (pe_fld (pv 0) rfl) (pa_cons (pv 1) pa_nil)))
      (pss_one (ps_if (PW.pt (pw_and (pt_cmpR op_eq (pe_meth0 (pv 0) T.ct mC GC hr bC .nil pass0) (pe_op op_shl pe_int (pe_fld (pv 0) rfl)) (nomark _)) (pw_and1 (pt_cmpR op_lt (pe_fld (pv 0) rfl) (pe_glob (v := V.int 12) rfl hmb ⟨_, rfl⟩) (nomark _)))))
        (pss_one (ps_fldaug (pv 0) pe_int in_add)) pss_nil)), ?_⟩
    have nta : t ≠ ad := ne_of h1 hxs (by intro z; cases z)
    have hsl : (100000 : Nat) < sizeLine := by decide
    have hxl : xs.length < sizeLine := by omega
    refine ⟨_, rfl, t, c.CT, dx, _, _, rfl, h1, T.ct, T.nCT_added, ha, .inl ⟨rfl, _, SqL.of hxs⟩, _, rfl, ad, _, _, rfl, rfl, hxs, hxl, ?_⟩
    have h1' : upd H ad (.lst (xs ++ [.ref x])) t = some (.ins c.CT dx fs) := by rw [upd_ne nta]; exact h1
    refine ⟨_, rfl, t, dx, _, rfl, h1', key_no hk, t, dx, ad, fs, e, _, rfl, h1', he, ha, upd_same, _, rfl, t, c.CT, dx, _, _, rfl, h1', T.ct, T.nCT_code_bits, hw, _, _, rfl, rfl, ⟨by omega, by omega, by decide⟩, rfl, _, rfl, ?_⟩
    have ew : ((w : Int)).toNat = w := by omega
    have ep : (1 : Int) * 2 ^ ((w : Int)).toNat = ((2 ^ w : Nat) : Int) := by rw [ew]; simp
    have hl : (xs ++ [V.ref x]).length = xs.length + 1 := by rw [List.length_append]; rfl
    have e0 : decide (V.int ((e + 1 + (xs ++ [V.ref x]).length : Nat) : Int) = V.int (1 * 2 ^ ((w : Int)).toNat)) = decide (e + 1 + (xs.length + 1) = 2 ^ w) := by
      rw [ep, hl]
      exact decide_eq_decide.mpr ⟨fun z => by injection z with z; omega, fun z => by rw [z]⟩
    rw [e0]
    have kpA : Kp [t, ad] H (upd H ad (.lst (xs ++ [.ref x]))) := Kp.refl.write (List.mem_cons_of_mem _ List.mem_cons_self)
    by_cases c1 : e + 1 + (xs.length + 1) = 2 ^ w
    · rw [decide_eq_true c1]
      refine iteT ⟨_, rfl, t, c.CT, dx, _, _, rfl, h1', T.ct, T.nCT_code_bits, hw, _, _, rfl, rfl, _, rfl, ?_⟩
      refine ite2 (fun z => ?_) (fun z => ?_)
      · have z' : (w : Int) < 12 := by simpa using z
        refine ⟨_, rfl, t, c.CT, dx, _, _, rfl, h1', T.ct, T.nCT_code_bits, hw, _, _, rfl, rfl, dx, _, h1', keys_len hk, ?_⟩
        refine k _ _ upd_same (keys_to hk) (fun g hg => lk1 rfl hg) ?_ ?_ (kpA.write List.mem_cons_self)
        · rw [if_pos ⟨c1, by omega⟩]
          exact lk0
        · rw [upd_ne nta.symm, upd_same]
      · have z' : ¬ (w : Int) < 12 := by simpa using z
        refine k _ fs h1' hk (fun g _ => rfl) ?_ upd_same kpA
        rw [if_neg (fun y => z' (by omega))]
        exact hw
    · rw [decide_eq_false c1]
      refine iteF (iteF ?_)
      refine k _ fs h1' hk (fun g _ => rfl) ?_ upd_same kpA
      rw [if_neg (fun y => c1 y.1)]
      exact hw
theorem scFd : FnScope ["self", "code"] ["self", "code"] (defScope sFind) := ⟨rfl, rfl, rfl, by decide +kernel, rfl, by decide +kernel, by decide +kernel⟩
theorem ok_find {f fC : Addr} {fd fdC : FuncData} (F : Fun K "find_row" "Table.find_row" sFind f fd) (T : TxtC K mg c) (GC : FnOk P w K mg base CX0 1 fC fdC ["self"] (spCount c)) (bC : Binds K fdC ["self"] []) (mC : Meth K c.CT "count_rows" fC) : FnOk P w K mg base (CXF P w) 2 f fd ["self", "code"] (spFind c) := by
  refine F.okX scFd (fun vs H Q E h => ?_) (fun cdv A outer s H vs Q E hr h => ?_)
  · obtain ⟨S, t, ad, s, tab, cd, rfl, _⟩ := h
    rfl
  · obtain ⟨S, t, ad, sz, tab, cd, rfl, B, n0, n1, k⟩ := h
    refine ⟨_, pss_cons (ps_if (pt_cmpR op_lt (pv 1) (pe_fld (pv 0) rfl) (nomark _)) (pss_one (ps_ret (pe_lst (pa_cons (pv 1) pa_nil)))) pss_nil)
      (pss_cons (ps_if (pt_cmpR op_lt (pv 1) (pe_meth0 (pv 0) T.ct mC GC hr bC .nil pass0) (nomark _)) (pss_one (ps_ret (pe_ix ix_list (pe_fld (pv 0) rfl) (pe_op op_sub (pe_op op_sub (pv 1) (pe_fld (pv 0) rfl)) pe_int) (fun _ _ => rfl)))) pss_nil)
      (pss_cons (ps_if (PW.pt (pw_and (pt_cmpR op_gt (pe_callB call_len_seq (by rfl) T.len PySem.boot_len (pa_cons (pe_fld (pv 0) rfl) pa_nil)) pe_int (nomark _)) (pw_and1 (pt_cmpR op_eq (pv 1) (pe_meth0 (pv 0) T.ct mC GC hr bC .nil pass0) (nomark _)))))
        (pss_one (ps_ret (pe_op op_cat (pe_fld (pv 0) rfl) (pe_slice sl_list (pe_fld (pv 0) rfl) po_none (po_some pe_int))))) pss_nil)
      (pss_one (ps_raise T.xw rfl rfl madeD)))), ?_⟩
    obtain ⟨dx, fs, rb, h1, hk, hsz, hcl, hen, had, hcb, hrb, hrl⟩ := B.ob
    obtain ⟨as, hal, pr⟩ := B.ls
    have hrl' := (of_hid hrl).1
    have hbase := B.tb.tok.base
    have most := B.tb.tok.most
    have hcnt : 2 ^ sz + 1 + 1 + (as.map V.ref).length = tab.rows.length := by
      rw [List.length_map, paired_len pr, List.length_drop]
      omega
    unfold Gif.findRow at k
    refine ⟨_, rfl, _, rfl, t, c.CT, dx, _, _, rfl, h1, T.ct, T.nCT_clear_code, hcl, _, _, rfl, rfl, _, rfl, ?_⟩
    refine ite2 (fun z => ?_) (fun z => ?_)
    · have z' : cd < 2 ^ sz := by
        have : (cd : Int) < ((2 ^ sz : Nat) : Int) := by simpa using z
        omega
      rw [if_pos z'] at k
      refine ⟨_, rfl, by show 1 ≤ sizeLine; decide, fun x hx => ?_⟩
      exact k _ x (Same.new hx) (hid_of upd_same (B.out hx))
    · have z' : ¬ cd < 2 ^ sz := by
        have : ¬ (cd : Int) < ((2 ^ sz : Nat) : Int) := by simpa using z
        omega
      rw [if_neg z'] at k
      refine ⟨_, rfl, _, rfl, t, dx, _, rfl, h1, key_no hk, t, dx, ad, fs, 2 ^ sz + 1, _, rfl, h1, hen, had, hal, _, _, rfl, rfl, _, rfl, ?_⟩
      rw [hcnt]
      refine ite2 (fun y => ?_) (fun y => ?_)
      · have y' : cd < tab.rows.length := by
          have : (cd : Int) < ((tab.rows.length : Nat) : Int) := by simpa using y
          omega
        rw [if_pos y'] at k
        rw [List.getElem?_eq_getElem y'] at k
        have hr' : (tab.rows.drop (2 ^ sz + 2))[cd - (2 ^ sz + 2)]? = some (tab.rows[cd]) := by
          rw [List.getElem?_drop]
          have : 2 ^ sz + 2 + (cd - (2 ^ sz + 2)) = cd := by omega
          rw [this, List.getElem?_eq_getElem y']
        obtain ⟨x, hx1, hx2⟩ := paired_at pr hr'
        have ei : (cd : Int) - ((2 ^ sz + 1 : Nat) : Int) - 1 = ((cd - (2 ^ sz + 2) : Nat) : Int) := by omega
        refine ⟨_, rfl, t, c.CT, dx, _, _, rfl, h1, T.ct, T.nCT_added, had, _, rfl, _, rfl, t, c.CT, dx, _, _, rfl, h1, T.ct, T.nCT_end_code, hen, _, _, rfl, rfl, _, _, rfl, rfl, ad, _, _, _, rfl, rfl, SqL.of hal, ?_, k H x (Same.refl _) hx2⟩
        rw [ei]
        refine atI_nat ?_
        rw [List.getElem?_map, hx1]
        rfl
      · have y' : ¬ cd < tab.rows.length := by
          have : ¬ (cd : Int) < ((tab.rows.length : Nat) : Int) := by simpa using y
          omega
        rw [if_neg y'] at k
        refine ⟨_, rfl, t, c.CT, dx, _, _, rfl, h1, T.ct, T.nCT_row_before, hrb, rb, _, rfl, .inl (SqL.of hrl'), _, _, rfl, rfl, _, rfl, ?_⟩
        refine ite2 (fun v => ?_) (fun v => ?_)
        · have v' : Gif.lastRow tab ≠ [] := by
            intro e
            rw [e] at v
            simp [bv] at v
          refine ⟨_, rfl, _, rfl, t, dx, _, rfl, h1, key_no hk, t, dx, ad, fs, 2 ^ sz + 1, _, rfl, h1, hen, had, hal, rfl, _, rfl, ?_⟩
          rw [hcnt]
          have e0 : decide (V.int (cd : Int) = V.int ((tab.rows.length : Nat) : Int)) = decide (cd = tab.rows.length) := decide_eq_decide.mpr ⟨fun z => by injection z with z; omega, fun z => by rw [z]⟩
          rw [e0]
          by_cases u : cd = tab.rows.length
          · rw [decide_eq_true u]
            rw [if_pos ⟨v', u⟩] at k
            have hle := Gif.lastRow_len B.tb
            refine iteT ⟨_, rfl, t, c.CT, dx, _, _, rfl, h1, T.ct, T.nCT_row_before, hrb, _, rfl, t, c.CT, dx, _, _, rfl, h1, T.ct, T.nCT_row_before, hrb, _, rfl, rb, _, rfl, SqL.of hrl', fun q hq => ?_⟩
            have nrq : rb ≠ q := ne_of_none hrl' hq
            refine ⟨rb, q, _, _, rfl, rfl, (by rw [upd_ne nrq]; exact hrl'), upd_same, ?_, fun x hx => ?_⟩
            · have e1 := cutV_length (bv (Gif.lastRow tab)) none (some 1)
              rw [bv_len] at e1 ⊢
              have : (10000 : Nat) ≤ sizeLine := by decide
              omega
            · have ec : cutV (bv (Gif.lastRow tab)) none (some 1) = bv ((Gif.lastRow tab).take 1) := bv_cut0 _ 1
              have sm : Same H (upd (upd H q (.lst (cutV (bv (Gif.lastRow tab)) none (some 1)))) x (.lst (bv (Gif.lastRow tab) ++ cutV (bv (Gif.lastRow tab)) none (some 1)))) := (Same.new hq).trans (Same.new hx)
              have hxH : H x = none := (Same.new hq).free hx
              refine k _ x sm (hid_of ?_ (B.out hxH))
              rw [upd_same, ec, bv_app]
          · rw [decide_eq_false u]
            rw [if_neg (fun z => u z.2)] at k
            exact iteF k
        · have v' : Gif.lastRow tab = [] := by
            cases e : Gif.lastRow tab with
            | nil => rfl
            | cons q r =>
              rw [e] at v
              exfalso
              apply v
              simp [bv]
          rw [if_neg (fun z => z.1 v')] at k
          exact iteF k
theorem scTk : FnScope ["self", "code", "row"] ["self", "code"] (defScope sTake) := ⟨rfl, rfl, rfl, by decide +kernel, rfl, by decide +kernel, by decide +kernel⟩
theorem ok_take {f fC fF fA : Addr} {fd fdC fdF fdA : FuncData} (F : Fun K "take_row" "Table.take_row" sTake f fd) (T : TxtC K mg c) (GC : FnOk P w K mg base CX0 1 fC fdC ["self"] (spCount c)) (bC : Binds K fdC ["self"] []) (mC : Meth K c.CT "count_rows" fC)
    (GF : FnOk P w K mg base (CXF P w) 2 fF fdF ["self", "code"] (spFind c)) (bF : Binds K fdF ["self", "code"] []) (mF : Meth K c.CT "find_row" fF) (GA : FnOk P w K mg base CX0 2 fA fdA ["self", "row"] (spAdd c)) (bA : Binds K fdA ["self", "row"] []) (mA : Meth K c.CT "add_row" fA) :
    FnOk P w K mg base (CXF P w) 3 f fd ["self", "code"] (spTake c) := by
  obtain ⟨tm, hmr⟩ := T.mrows
  refine F.okX scTk (fun vs H Q E h => ?_) (fun cdv A outer s H vs Q E hr h => ?_)
  · obtain ⟨S, t, ad, s, tab, cd, rfl, _⟩ := h
    rfl
  · obtain ⟨S, t, ad, sz, tab, cd, rfl, B, n0, n1, hwd, k⟩ := h
    have hr1 : Room 1 _ := hr.mono (by decide)
    refine ⟨_, pss_cons (ps_set (i := 2) scTk.nd rfl (Or.inl rfl) (pe_meth (pv 0) T.ct mF GF hr bF .nil passD (pa_cons (pv 1) pa_nil)))
      (pss_cons (ps_if (PW.pt (pw_and (pt_cmpR op_gt (pe_callB call_len_seq (by rfl) T.len PySem.boot_len (pa_cons (pe_fld (pv 0) rfl) pa_nil)) pe_int (nomark _)) (pw_and1 (pt_cmpR op_lt (pe_meth0 (pv 0) T.ct mC GC hr1 bC .nil pass0) (pe_glob (v := V.int 4096) rfl hmr ⟨_, rfl⟩) (nomark _)))))
        (pss_one (ps_expr (pe_meth (pv 0) T.ct mA GA hr bA .nil pass0 (pa_cons (pe_op op_cat (pe_fld (pv 0) rfl) (pe_slice sl_list (pv 2) po_none (po_some pe_int))) pa_nil)))) pss_nil)
      (pss_cons (ps_fld (pv 0) (pv 2) rfl) (pss_one (ps_ret (pv 2))))), ?_⟩
    obtain ⟨dx0, fs0, rb0, h10, hk0, _⟩ := id B.ob
    refine ⟨_, rfl, t, dx0, _, rfl, h10, key_no hk0, _, rfl, S, t, ad, sz, tab, cd, rfl, B, n0, n1, ?_⟩
    cases ef : Gif.findRow sz tab cd with
    | none => rw [ef] at k; exact k
    | some r =>
      rw [ef] at k
      intro H1 x sm1 hx1
      have B1 := B.same sm1
      obtain ⟨dx, fs, rb, h1, hk, hsz, hcl, hen, had, hcb, hrb, hrl⟩ := B1.ob
      obtain ⟨as, hal, pr⟩ := B1.ls
      have hrl' := (of_hid hrl).1
      have hx1' := (of_hid hx1).1
      have hbase := B.tb.tok.base
      have most := B.tb.tok.most
      have tb' := Gif.takeRow_ok B.tb n0 n1 hwd ef
      have el := Gif.takeRow_last B.tb hwd ef
      have fl := (Gif.find_len B.tb ef).1
      have hcnt : 2 ^ sz + 1 + 1 + (as.map V.ref).length = tab.rows.length := by
        rw [List.length_map, paired_len pr, List.length_drop]
        omega
      have nta := B1.ne
      -- the last two statements
      have fin : ∀ (H2 : Hp) (fs2 : List (Str × V)) (as2 : List Addr), H2 t = some (.ins c.CT dx fs2) → fs2.map (·.1) = tkeys → (∀ g : Str, ¬ g = "code_bits" → fs2.lookup g = fs.lookup g) → fs2.lookup ("code_bits" : Str) = some (.int ((Gif.grow tab r).width : Int)) →
          H2 ad = some (.lst (as2.map V.ref)) → Paired (fun y row => hid (t :: ad :: S) H2 y = some (.lst (bv row))) as2 ((Gif.grow tab r).rows.drop (2 ^ sz + 2)) → Kp [t, ad] H1 H2 →
          tSeq (sFld K (tVar 0) (tVar 2) "row_before") (tRet (tVar 2)) { nx := fun _ H' => Q .non H', rt := Q } [some (.ref t), some (.int (cd : Int)), some (.ref x)] H2 := by
        intro H2 fs2 as2 g1 g2 g3 g4 g5 g6 kp2
        have hxs : x ∉ [t, ad] := fun z => (of_hid hx1).2 (by
          rcases List.mem_cons.mp z with q | q
          · rw [q]; exact List.mem_cons_self
          · rw [List.mem_singleton.mp q]; exact List.mem_cons_of_mem _ List.mem_cons_self)
        have hx2 : H2 x = some (.lst (bv r)) := kp2 _ _ hx1' hxs
        refine ⟨_, rfl, _, rfl, t, c.CT, dx, _, rfl, g1, T.ct, T.nCT_row_before, keys_len g2, _, rfl, ?_⟩
        have su : Same (hid (t :: ad :: S) H2) (hid (t :: ad :: S) (upd H2 t (.ins c.CT dx (putF "row_before" (.ref x) fs2)))) := hid_upd List.mem_cons_self
        have hxx : hid (t :: ad :: S) (upd H2 t (.ins c.CT dx (putF "row_before" (.ref x) fs2))) x = some (.lst (bv r)) := su _ _ (hid_of hx2 (of_hid hx1).2)
        refine k _ x ⟨⟨dx, _, x, upd_same, keys_to g2, lk1 ((g3 _ (by decide +kernel)).trans hsz), lk1 ((g3 _ (by decide +kernel)).trans hcl), lk1 ((g3 _ (by decide +kernel)).trans hen), lk1 ((g3 _ (by decide +kernel)).trans had), lk1 g4, lk0, by rw [el]; exact hxx⟩,
          ⟨as2, by rw [upd_ne nta.symm]; exact g5, pmap g6 fun y row e => su _ _ e⟩, tb', B.s2, B.s8, B.nad, B.nt, fun y hy z => ?_⟩ hxx ((sm1.kp2 kp2).write List.mem_cons_self)
        have ny : y ≠ t := fun q => B.nt (by rw [← q]; exact hy)
        rw [upd_ne ny] at z
        refine B1.live y hy (kp2.free z fun q => ?_)
        rcases List.mem_cons.mp q with q | q
        · exact ny q
        · exact B.nad (by rw [← List.mem_singleton.mp q]; exact hy)
      have keepF : ¬ (Gif.lastRow tab ≠ [] ∧ tab.rows.length < 4096) → tSeq (sFld K (tVar 0) (tVar 2) "row_before") (tRet (tVar 2)) { nx := fun _ H' => Q .non H', rt := Q } [some (.ref t), some (.int (cd : Int)), some (.ref x)] H1 := fun hn => by
        have eg := Gif.grow_neg (r := r) hn
        refine fin H1 fs as h1 hk (fun g _ => rfl) (by rw [eg]; exact hcb) hal (by rw [eg]; exact pr) Kp.refl
      refine ⟨_, rfl, t, c.CT, dx, _, _, rfl, h1, T.ct, T.nCT_row_before, hrb, rb, _, rfl, .inl (SqL.of hrl'), _, _, rfl, rfl, _, rfl, ?_⟩
      refine ite2 (fun v => ?_) (fun v => ?_)
      · have v' : Gif.lastRow tab ≠ [] := by
          intro e
          rw [e] at v
          simp [bv] at v
        refine ⟨_, rfl, t, dx, _, rfl, h1, key_no hk, t, dx, ad, fs, 2 ^ sz + 1, _, rfl, h1, hen, had, hal, _, _, rfl, rfl, _, rfl, ?_⟩
        rw [hcnt]
        refine ite2 (fun u => ?_) (fun u => ?_)
        · have u' : tab.rows.length < 4096 := by
            have : ((tab.rows.length : Nat) : Int) < 4096 := by simpa using u
            omega
          have hle := Gif.lastRow_len B.tb
          obtain ⟨a1, a2, a3⟩ := Gif.add_rows (t := tab) (r := Gif.lastRow tab ++ r.take 1) u'
          have eg := Gif.grow_pos (t := tab) (r := r) ⟨v', u'⟩
          refine ⟨_, rfl, t, dx, _, rfl, h1, key_no hk, _, rfl, t, c.CT, dx, _, _, rfl, h1, T.ct, T.nCT_row_before, hrb, _, rfl, _, rfl, x, _, rfl, SqL.of hx1', fun q hq => ?_⟩
          have nrq : rb ≠ q := ne_of_none hrl' hq
          have ec : cutV (bv r) none (some 1) = bv (r.take 1) := bv_cut0 _ 1
          refine ⟨rb, q, _, _, rfl, rfl, (by rw [upd_ne nrq]; exact hrl'), upd_same, ?_, fun y hy => ?_⟩
          · rw [ec, bv_len, bv_len, List.length_take]
            have : (10000 : Nat) ≤ sizeLine := by decide
            omega
          · have smq : Same H1 (upd H1 q (.lst (cutV (bv r) none (some 1)))) := Same.new hq
            have hyH : H1 y = none := smq.free hy
            have sm2 : Same H1 (upd (upd H1 q (.lst (cutV (bv r) none (some 1)))) y (.lst (bv (Gif.lastRow tab) ++ cutV (bv r) none (some 1)))) := smq.trans (Same.new hy)
            refine ⟨t, dx, ad, y, fs, 2 ^ sz + 1, tab.width, _, rfl, sm2 _ _ h1, hk, hen, had, hcb, B.tb.tok.hi, sm2 _ _ hal, ?_, fun H3 fs3 g1 g2 g3 g4 g5 kp3 => ?_⟩
            · have pz := Nat.two_pow_pos sz
              omega
            · have hy2 : hid (t :: ad :: S) (upd (upd H1 q (.lst (cutV (bv r) none (some 1)))) y (.lst (bv (Gif.lastRow tab) ++ cutV (bv r) none (some 1)))) y = some (.lst (bv (Gif.lastRow tab ++ r.take 1))) :=
                hid_of (by rw [upd_same, ec, bv_app]) (B1.out hyH)
              have s13 : Same (hid (t :: ad :: S) (upd (upd H1 q (.lst (cutV (bv r) none (some 1)))) y (.lst (bv (Gif.lastRow tab) ++ cutV (bv r) none (some 1))))) (hid (t :: ad :: S) H3) := kp3.hid fun b z => by
                rcases List.mem_cons.mp z with q | q
                · rw [q]; exact List.mem_cons_self
                · rw [List.mem_singleton.mp q]; exact List.mem_cons_of_mem _ List.mem_cons_self
              have s12 : Same (hid (t :: ad :: S) H1) (hid (t :: ad :: S) (upd (upd H1 q (.lst (cutV (bv r) none (some 1)))) y (.lst (bv (Gif.lastRow tab) ++ cutV (bv r) none (some 1))))) := (Same.kp (S := []) sm2).hid fun b z => nomatch z
              refine fin H3 fs3 (as ++ [y]) g1 g2 g3 ?_ ?_ ?_ (sm2.kp2 kp3)
              · rw [g4, eg, a2]
                have e1 : 2 ^ sz + 1 + 1 + ((as.map V.ref).length + 1) = tab.rows.length + 1 := by omega
                rw [e1]
              · rw [g5, List.map_append]
                rfl
              · rw [eg, a1, List.drop_append_of_le_length (by omega)]
                exact paired_snoc (by exact s13 _ _ hy2) (pmap pr fun b row e => s13 _ _ (s12 _ _ e))
        · have u' : ¬ tab.rows.length < 4096 := by
            have : ¬ ((tab.rows.length : Nat) : Int) < 4096 := by simpa using u
            omega
          exact keepF fun z => u' z.2
      · have v' : Gif.lastRow tab = [] := by
          cases e : Gif.lastRow tab with
          | nil => rfl
          | cons q r =>
            rw [e] at v
            exfalso
            apply v
            simp [bv]
        exact iteF (keepF fun z => z.1 v')
end
end Tf

set_option Elab.async false
set_option linter.all false
set_option maxRecDepth 100000
namespace Tf
open PySem L2
def spCollect (K : PySem.W.Frag) (c : Cc) : Sp := fun vs H Q E => ∃ (H0 : Hp) (nb b t ad a : Addr) (s : Nat) (tab : Sw22.Table) (data : List Nat) (l : List Bool) (ns : List Nat) (most : Nat), vs = [.ref nb, .int (most : Int), .ref b, .ref t] ∧ H nb = some (.lst (bv ns)) ∧ BtS K c H0 H b a data l ∧ TbS c [nb, b] H t ad s tab ∧
  H0 nb = none ∧ H0 t = none ∧ H0 ad = none ∧ ns.length ≤ most ∧ most ≤ 1048576 ∧
  if (Gif.cds s (most - ns.length) tab l).2 = .wrong then ∀ H', H' nb = some (.lst (bv (ns ++ (Gif.cds s (most - ns.length) tab l).1))) → Same H0 H' → E (.ref c.XW) none H'
  else ∀ H', H' nb = some (.lst (bv (ns ++ (Gif.cds s (most - ns.length) tab l).1))) → Same H0 H' → Q .non H'
def spUnpack (K : PySem.W.Frag) (c : Cc) : Sp := fun vs H Q _ => ∃ (a : Addr) (s most : Nat) (data : List Nat), vs = [.int (s : Int), .int (most : Int), .ref a] ∧ 2 ≤ s ∧ s ≤ 8 ∧ most ≤ 1048576 ∧ SqL K H a (bv data) ∧ (∀ x ∈ data, x < 256) ∧ data.length ≤ 100000 ∧
  ∀ H' u nb dx fs, H' u = some (.ins c.CU dx fs) → fs.lookup ("numbers" : Str) = some (.ref nb) → fs.lookup ("is_wrong" : Str) = some (.bl (decide ((Sw22.decode s data most).2 = .wrong))) → H' nb = some (.lst (bv (Sw22.decode s data most).1)) → H nb = none → Same H H' → Q (.ref u) H'
section
variable {P : Program} {w : World} {K : PySem.W.Frag} {mg : Str → Option Value} {base : Heap} {c : Cc}
theorem TbS.forgot {S : List Addr} {H H' : Hp} {t ad dx ad' rb' : Addr} {s : Nat} {tab : Sw22.Table} {fs fs' : List (Str × V)} (B : TbS c S H t ad s tab) (h1 : H t = some (.ins c.CT dx fs)) (g1 : H' t = some (.ins c.CT dx fs')) (g2 : fs'.map (·.1) = tkeys) (g3 : fs'.lookup ("size" : Str) = some (.int (s : Int)))
    (g4 : fs'.lookup ("clear_code" : Str) = some (.int ((2 ^ s : Nat) : Int))) (g5 : fs'.lookup ("end_code" : Str) = some (.int ((2 ^ s + 1 : Nat) : Int))) (g6 : fs'.lookup ("added" : Str) = some (.ref ad')) (g7 : fs'.lookup ("code_bits" : Str) = some (.int ((s + 1 : Nat) : Int))) (g8 : fs'.lookup ("row_before" : Str) = some (.ref rb'))
    (g9 : H' ad' = some (.lst [])) (g10 : H' rb' = some (.lst [])) (g11 : H ad' = none) (g12 : H rb' = none) (g13 : rb' ≠ ad') (k : Kp [t] H H') : TbS c S H' t ad' s (Sw22.fresh s) := by
  refine ⟨⟨dx, fs', rb', g1, g2, g3, g4, g5, g6, g7, g8, hid_of (show H' rb' = some (.lst (bv [])) from g10) fun z => ?_⟩, ⟨[], g9, by rw [Gif.fresh_drop]; exact .nil⟩, Gif.fresh_tb B.s2 B.s8, B.s2, B.s8, fun z => B.live _ z g11, B.nt, fun x hx z => ?_⟩
  · rcases List.mem_cons.mp z with q | q
    · rw [q, h1] at g12; cases g12
    · rcases List.mem_cons.mp q with q | q
      · exact g13 q
      · exact B.live _ q g12
  · exact B.live x hx (k.free z fun q => B.nt (by rw [← List.mem_singleton.mp q]; exact hx))
theorem scCl : FnScope ["numbers", "most", "bits", "table", "code", "row"] ["numbers", "most", "bits", "table"] (defScope sCollect) := ⟨rfl, rfl, rfl, by decide +kernel, rfl, by decide +kernel, by decide +kernel⟩
theorem ok_collect {f fC fF fT : Addr} {fd fdC fdF fdT : FuncData} (F : Fun K "collect_numbers" "collect_numbers" sCollect f fd) (T : TxtC K mg c)
    (GC : FnOk P w K mg base (CXF P w) 2 fC fdC ["self", "many"] (spCode K c)) (bC : Binds K fdC ["self", "many"] []) (mC : Meth K c.CB "take_code" fC)
    (GF : FnOk P w K mg base CX0 1 fF fdF ["self"] (spForget c)) (bF : Binds K fdF ["self"] []) (mF : Meth K c.CT "forget" fF)
    (GT : FnOk P w K mg base (CXF P w) 3 fT fdT ["self", "code"] (spTake c)) (bT : Binds K fdT ["self", "code"] []) (mT : Meth K c.CT "take_row" fT) :
    FnOk P w K mg base (CXF P w) 4 f fd ["numbers", "most", "bits", "table"] (spCollect K c) := by
  refine F.okX scCl (fun vs H Q E h => ?_) (fun cdv A outer s H vs Q E hr h => ?_)
  · obtain ⟨H0, nb, b, t, ad, a, s, tab, data, l, ns, most, rfl, _⟩ := h
    rfl
  · obtain ⟨H0, nb, b, t, ad, a, sz, tab, data, l, ns, most, rfl, hn, B, D, fnb, ft, fad, hle, hm, k⟩ := h
    have hr1 : Room 1 _ := hr.mono (by decide)
    have hr2 : Room 2 _ := hr.mono (by decide)
    have hsl : (1048576 : Nat) ≤ sizeLine := by decide
    refine ⟨_, pss_one (ps_while ownD (pt_cmpR op_lt (pe_callB call_len_seq (by rfl) T.len PySem.boot_len (pa_cons (pv 0) pa_nil)) (pv 1) (nomark _))
      (pss_cons (ps_set (i := 4) scCl.nd rfl (Or.inl rfl) (pe_meth (pv 2) T.cb mC GC hr2 bC .nil passD (pa_cons (pe_fld (pv 3) rfl) pa_nil)))
      (pss_cons (ps_if (pt_cmpR op_eq (pv 4) (pe_fld (pv 3) rfl) (nomark _)) (pss_one ps_retN) pss_nil)
      (pss_one (ps_if (pt_cmpR op_eq (pv 4) (pe_fld (pv 3) rfl) (nomark _)) (pss_one (ps_expr (pe_meth0 (pv 3) T.ct mF GF hr1 bF .nil pass0)))
        (pss_cons (ps_set (i := 5) scCl.nd rfl (Or.inl rfl) (pe_meth (pv 3) T.ct mT GT hr bT .nil passD (pa_cons (pv 4) pa_nil)))
          (pss_one (ps_expr (pe_bm PySem.F.plainAttrs_list PySem.F.slot_list_extend PySem.F.type_list_extend mt_extend (pv 0) (pa_cons (pe_slice sl_list (pv 5) po_none (po_some (pe_op op_sub (pv 1) (pe_callB call_len_seq (by rfl) T.len PySem.boot_len (pa_cons (pv 0) pa_nil))))) pa_nil)))))))))), ?_⟩
    have kW : (Gif.cds sz (most - ns.length) tab l).2 = .wrong → ∀ H', H' nb = some (.lst (bv (ns ++ (Gif.cds sz (most - ns.length) tab l).1))) → Same H0 H' → E (.ref c.XW) none H' := fun e => by rw [if_pos e] at k; exact k
    have kQ : (Gif.cds sz (most - ns.length) tab l).2 ≠ .wrong → ∀ H', H' nb = some (.lst (bv (ns ++ (Gif.cds sz (most - ns.length) tab l).1))) → Same H0 H' → Q .non H' := fun e => by rw [if_neg e] at k; exact k
    clear k
    refine ⟨fun m σ H2 => ∃ (l2 : List Bool) (ad2 : Addr) (tab2 : Sw22.Table) (ns2 : List Nat) (x4 x5 : Option V), σ = [some (.ref nb), some (.int (most : Int)), some (.ref b), some (.ref t), x4, x5] ∧ m = l2.length ∧ H2 nb = some (.lst (bv ns2)) ∧ BtS K c H0 H2 b a data l2 ∧ TbS c [nb, b] H2 t ad2 sz tab2 ∧
        H0 ad2 = none ∧ ns2.length ≤ most ∧ ns ++ (Gif.cds sz (most - ns.length) tab l).1 = ns2 ++ (Gif.cds sz (most - ns2.length) tab2 l2).1 ∧ (Gif.cds sz (most - ns.length) tab l).2 = (Gif.cds sz (most - ns2.length) tab2 l2).2,
      ⟨_, l, ad, tab, ns, none, none, rfl, rfl, hn, B, D, fad, hle, rfl, rfl⟩, ?_⟩
    rintro m σ H2 ⟨l2, ad2, tab2, ns2, x4, x5, rfl, rfl, hn2, B2, D2, fad2, hle2, t1, t2⟩
    refine ⟨_, rfl, nb, _, rfl, .inl (SqL.of hn2), _, rfl, _, _, rfl, rfl, _, rfl, ?_⟩
    rw [bv_len]
    refine ite2 (fun z => ?_) (fun z => ?_)
    · have z' : ns2.length < most := by
        have : (ns2.length : Int) < (most : Int) := by simpa using z
        omega
      have want : most - ns2.length ≠ 0 := by omega
      refine ⟨_, fun _ _ y => y, ?_⟩
      obtain ⟨dxb, fsb, pb, hbb, b1, bk, _⟩ := id B2.ob
      obtain ⟨dx, fs, rb, h1, hk, hsz, hcl, hen, had, hcb, hrb, hrl⟩ := D2.ob
      have lo := D2.tb.tok.lo
      have hi := D2.tb.tok.hi
      have s2 := D2.s2
      have nbb : nb ≠ b := ne_of hn2 b1 (by intro y; cases y)
      refine ⟨_, rfl, b, dxb, _, rfl, b1, key_no bk, _, rfl, t, c.CT, dx, _, _, rfl, h1, T.ct, T.nCT_code_bits, hcb, H0, b, a, data, l2, tab2.width, rfl, B2, by omega, hi, ?_⟩
      by_cases hs : l2.length < tab2.width
      · rw [if_pos hs]
        intro H3 sm3 kp3
        rw [Gif.cds_short want hs] at t1 t2
        refine kW t2 H3 ?_ sm3
        rw [t1, List.append_nil]
        exact kp3 _ _ hn2 fun y => nbb (List.mem_singleton.mp y)
      · rw [if_neg hs]
        intro H3 B3 kp3
        have hn3 : H3 nb = some (.lst (bv ns2)) := kp3 _ _ hn2 fun y => nbb (List.mem_singleton.mp y)
        obtain ⟨dxb3, fsb3, pb3, hbb3, b31, _⟩ := id B3.ob
        have D3 : TbS c [nb, b] H3 t ad2 sz tab2 := D2.kp kp3 (fun x hx => List.mem_cons_of_mem _ hx) fun x hx y => by
          rcases List.mem_cons.mp hx with q | q
          · rw [q, hn3] at y; cases y
          · rw [List.mem_singleton.mp q, b31] at y; cases y
        obtain ⟨dx3, fs3, rb3, h31, hk3, hsz3, hcl3, hen3, had3, hcb3, hrb3, hrl3⟩ := D3.ob
        generalize hcode : Sw22.valueOf (l2.take tab2.width) = cd at *
        have hdrop : (l2.drop tab2.width).length < l2.length := by rw [List.length_drop]; omega
        have hcd : cd < 2 ^ tab2.width := by
          rw [← hcode]
          have := Gif.valueOf_lt (l2.take tab2.width)
          rw [List.length_take, Nat.min_eq_left (by omega)] at this
          exact this
        have eqd : ∀ q : Nat, decide (V.int (cd : Int) = V.int (q : Int)) = decide (cd = q) := fun q => decide_eq_decide.mpr ⟨fun y => by injection y with y; omega, fun y => by rw [y]⟩
        refine ⟨_, rfl, _, rfl, t, c.CT, dx3, _, _, rfl, h31, T.ct, T.nCT_end_code, hen3, rfl, _, rfl, ?_⟩
        rw [eqd]
        by_cases he : cd = 2 ^ sz + 1
        · rw [decide_eq_true he]
          rw [Gif.cds_end want hs (hcode.trans he)] at t1 t2
          refine iteT ?_
          refine kQ (by rw [t2]; intro y; cases y) H3 ?_ B3.sm
          rw [t1, List.append_nil]
          exact hn3
        · rw [decide_eq_false he]
          refine iteF ⟨_, rfl, _, rfl, t, c.CT, dx3, _, _, rfl, h31, T.ct, T.nCT_clear_code, hcl3, rfl, _, rfl, ?_⟩
          rw [eqd]
          by_cases hc : cd = 2 ^ sz
          · rw [decide_eq_true hc]
            rw [Gif.cds_clear want hs (by omega) (hcode.trans hc)] at t1 t2
            refine iteT ⟨_, rfl, t, dx3, _, rfl, h31, key_no hk3, t, dx3, fs3, sz, rfl, h31, .inl hk3, hsz3, ?_⟩
            intro H4 fs4 ad4 rb4 g1 g2 g3 g4 g5 g6 g7 g8 g9 g10 g11 g12 g13 kp4
            have D4 := D3.forgot h31 g1 g2 g3 (g4.trans hcl3) (g5.trans hen3) g6 g7 g8 g9 g10 g11 g12 g13 kp4
            have ntn : nb ∉ [t] := fun y => D3.nt (by rw [← List.mem_singleton.mp y]; exact List.mem_cons_self)
            have ntb : b ∉ [t] := fun y => D3.nt (by rw [← List.mem_singleton.mp y]; exact List.mem_cons_of_mem _ List.mem_cons_self)
            have sm4 : Same H0 H4 := fun q o e => kp4 q o (B3.sm q o e) fun y => ne_of_none e ft (List.mem_singleton.mp y)
            exact ⟨(l2.drop tab2.width).length, hdrop, l2.drop tab2.width, ad4, Sw22.fresh sz, ns2, _, _, rfl, rfl, kp4 _ _ hn3 ntn, B3.kp kp4 ntb sm4, D4, B3.sm.free g11, hle2, t1, t2⟩
          · rw [decide_eq_false hc]
            refine iteF ⟨_, rfl, t, dx3, _, rfl, h31, key_no hk3, _, rfl, [nb, b], t, ad2, sz, tab2, cd, rfl, D3, hc, he, hcd, ?_⟩
            have hcf := Gif.code_find D3.tb hc he hcd
            cases ef : Gif.findRow sz tab2 cd with
            | none =>
              rw [ef] at hcf
              rw [Gif.cds_wrong want hs (by rw [hcode]; exact hc) (by rw [hcode]; exact he) (by rw [hcode]; exact hcf)] at t1 t2
              refine kW t2 H3 ?_ B3.sm
              rw [t1, List.append_nil]
              exact hn3
            | some r =>
              rw [ef] at hcf
              have hcf' : tab2.code sz cd = some (r, Gif.takeRow tab2 cd r) := hcf
              have hcc := Gif.cds_code (x := (r, Gif.takeRow tab2 cd r)) want hs (by omega) (by rw [hcode]; exact hc) (by rw [hcode]; exact he) (by rw [hcode]; exact hcf')
              rw [hcc] at t1 t2
              intro H4 x D4 hx4 kp4
              have hx4' := (of_hid hx4).1
              have nin : ∀ y, y ∈ [nb, b] → y ∉ [t, ad2] := fun y hy q => by
                rcases List.mem_cons.mp q with q | q
                · exact D3.nt (by rw [← q]; exact hy)
                · exact D3.nad (by rw [← List.mem_singleton.mp q]; exact hy)
              have hn4 : H4 nb = some (.lst (bv ns2)) := kp4 _ _ hn3 (nin nb List.mem_cons_self)
              have sm4 : Same H0 H4 := fun q o e => kp4 q o (B3.sm q o e) fun y => by
                rcases List.mem_cons.mp y with y | y
                · exact ne_of_none e ft y
                · exact ne_of_none e fad2 (List.mem_singleton.mp y)
              have B4 := B3.kp kp4 (nin b (List.mem_cons_of_mem _ List.mem_cons_self)) sm4
              have ei : (most : Int) - (ns2.length : Int) = ((most - ns2.length : Nat) : Int) := by omega
              refine ⟨_, rfl, .inl ⟨rfl, _, SqL.of hn4⟩, _, rfl, _, rfl, _, rfl, nb, _, rfl, .inl (SqL.of hn4), _, _, rfl, rfl, _, rfl, x, _, rfl, SqL.of hx4', fun q hq => ?_⟩
              rw [bv_len, ei, bv_cut0]
              have nnq : nb ≠ q := ne_of_none hn4 hq
              have lt : (r.take (most - ns2.length)).length ≤ most - ns2.length := by rw [List.length_take]; omega
              refine ⟨nb, q, _, _, rfl, rfl, (by rw [upd_ne nnq]; exact hn4), upd_same, by rw [bv_len, bv_len]; omega, ?_⟩
              have smq : Same H4 (upd H4 q (.lst (bv (r.take (most - ns2.length))))) := Same.new hq
              have D5 := (D4.same smq).kp (H' := upd (upd H4 q (.lst (bv (r.take (most - ns2.length))))) nb (.lst (bv ns2 ++ bv (r.take (most - ns2.length))))) Kp.upd (fun y hy => by rw [List.mem_singleton.mp hy]; exact List.mem_cons_self) fun y hy e => by
                by_cases yn : y = nb
                · rw [yn, upd_same] at e; cases e
                · rw [upd_ne yn] at e
                  exact (D4.same smq).live y hy e
              have B5 := (B4.same smq).kp (H' := upd (upd H4 q (.lst (bv (r.take (most - ns2.length))))) nb (.lst (bv ns2 ++ bv (r.take (most - ns2.length))))) Kp.upd (fun y => nbb (List.mem_singleton.mp y).symm) ((B4.same smq).sm.writeN fnb)
              have hlr : (ns2 ++ r.take (most - ns2.length)).length ≤ most := by rw [List.length_append]; omega
              have ew : most - (ns2 ++ r.take (most - ns2.length)).length = most - ns2.length - r.length := by
                rw [List.length_append, List.length_take]
                omega
              refine ⟨(l2.drop tab2.width).length, hdrop, l2.drop tab2.width, ad2, Gif.takeRow tab2 cd r, ns2 ++ r.take (most - ns2.length), _, _, rfl, rfl, ?_, B5, D5, fad2, hlr, ?_, ?_⟩
              · rw [upd_same, bv_app]
              · rw [ew, t1, List.append_assoc]
              · rw [ew, t2]
    · have z' : ¬ ns2.length < most := by
        have : ¬ (ns2.length : Int) < (most : Int) := by simpa using z
        omega
      have e0 : most - ns2.length = 0 := by omega
      rw [e0, Gif.cds_zero] at t1 t2
      refine kQ (by rw [t2]; intro y; cases y) H2 ?_ B2.sm
      rw [t1, List.append_nil]
      exact hn2
theorem scUn : FnScope ["size", "most", "data", "numbers"] ["size", "most", "data"] (defScope sUnpack) := ⟨rfl, rfl, rfl, by decide +kernel, rfl, by decide +kernel, by decide +kernel⟩
theorem ok_unpack {f fC fB fT fU : Addr} {fd fdC fdB fdT fdU : FuncData} (F : Fun K "unpack" "unpack" sUnpack f fd) (T : TxtC K mg c)
    (GC : FnOk P w K mg base (CXF P w) 4 fC fdC ["numbers", "most", "bits", "table"] (spCollect K c)) (kC : PySem.W.keepIn K (.ref fC) = true) (bC : Binds K fdC ["numbers", "most", "bits", "table"] []) (mC : mg "collect_numbers" = some (.ref fC))
    (MB : Mk K c.CB fB) (GB : FnOk P w K mg base CX0 1 fB fdB ["self", "data"] (spBi c)) (bB : Binds K fdB ["self", "data"] [])
    (MT : Mk K c.CT fT) (GT : FnOk P w K mg base CX0 2 fT fdT ["self", "size"] (spTi c)) (bT : Binds K fdT ["self", "size"] [])
    (MU : Mk K c.CU fU) (GU : FnOkH P w K mg base 1 fU fdU ["self", "numbers", "is_wrong"] (spIUnp c)) (bU : Binds K fdU ["self", "numbers", "is_wrong"] []) :
    FnOk P w K mg base (CXF P w) 5 f fd ["size", "most", "data"] (spUnpack K c) := by
  refine F.okX scUn (fun vs H Q E h => ?_) (fun cdv A outer s H vs Q E hr h => ?_)
  · obtain ⟨a, s, most, data, rfl, _⟩ := h
    rfl
  · obtain ⟨a, sz, most, data, rfl, s2, s8, hm, sq, by_, few, k⟩ := h
    have hr2 : Room 2 _ := hr.mono (by decide)
    have hr3 : Room 3 _ := hr.mono (by decide)
    refine ⟨_, pss_cons (ps_set (i := 3) scUn.nd rfl (Or.inl rfl) (pe_lst pa_nil))
      (pss_cons (ps_try T.xw rfl rfl rfl rfl (fun pn xe Eb hP => pss_one (ps_expr (pe_callS GC hr rfl mC kC bC .nil hP (pa_cons (pv 3) (pa_cons (pv 1) (pa_cons (pe_make MB GB hr2 rfl T.mgB bB .nil pass0 (pa_cons (pv 2) pa_nil)) (pa_cons (pe_make MT GT hr3 rfl T.mgT bT .nil pass0 (pa_cons (pv 0) pa_nil)) pa_nil)))))))
        (fun e => pss_one (ps_ret (pe_makeH MU GU hr2.h.mark rfl T.mgU bU (pa_cons (pv 3) (pa_cons pe_bl pa_nil))))))
      (pss_one (ps_ret (pe_makeH MU GU hr2.h rfl T.mgU bU (pa_cons (pv 3) (pa_cons pe_bl pa_nil)))))), ?_⟩
    refine ⟨Nat.zero_le _, fun nb hnb => ?_⟩
    refine ⟨_, rfl, _, rfl, _, rfl, fun b dxb hb hdxb neb => ⟨b, a, dxb, rfl, upd_same, fun H1 fs1 b1 bk b3 b4 b5 b6 kp1 => ⟨rfl, ?_⟩⟩⟩
    have sm1 : Same (upd H nb (.lst [])) H1 := made_same hb hdxb kp1
    have smH1 : Same H H1 := (Same.new hnb).trans sm1
    have hbH : H b = none := (Same.new hnb).free hb
    refine ⟨_, rfl, fun t dxt ht hdxt net => ⟨t, dxt, sz, rfl, upd_same, s2, s8, fun H2 ad all had kp2 => ⟨rfl, ?_⟩⟩⟩
    have sm2 : Same H1 H2 := made_same ht hdxt kp2
    have smH2 : Same H H2 := smH1.trans sm2
    have hn2 : H2 nb = some (.lst (bv [])) := sm2 _ _ (sm1 _ _ upd_same)
    have nnt : nb ≠ t := ne_of_none (sm1 _ _ upd_same) ht
    have nbt : b ≠ t := ne_of_none b1 ht
    have D : TbS c [nb, b] H2 t ad sz (Sw22.fresh sz) := all [nb, b] fun x hx => by
      rcases List.mem_cons.mp hx with q | q
      · refine ⟨fun y => ?_, by rw [q]; exact nnt⟩
        rw [q, upd_ne nnt] at y
        by_cases nd : nb = dxt
        · rw [nd] at y; rw [upd_same] at y; cases y
        · rw [upd_ne nd, sm1 _ _ upd_same] at y; cases y
      · have q := List.mem_singleton.mp q
        refine ⟨fun y => ?_, by rw [q]; exact nbt⟩
        rw [q, upd_ne nbt] at y
        by_cases nd : b = dxt
        · rw [nd] at y; rw [upd_same] at y; cases y
        · rw [upd_ne nd, b1] at y; cases y
    have htH : H t = none := smH1.free ht
    have hadH : H ad = none := by
      have nat : ad ≠ t := fun q => by rw [q, upd_same] at had; cases had
      rw [upd_ne nat] at had
      have nad : ad ≠ dxt := fun q => by rw [q, upd_same] at had; cases had
      rw [upd_ne nad] at had
      exact smH1.free had
    have BB : BtS K c H H2 b a data (Sw22.bitsOf data) := ⟨sq, smH2, hbH, ⟨dxb, fs1, 0, [], sm2 _ _ b1, bk, b3, b4, b5, b6, Nat.zero_le _, rfl⟩, by_, few⟩
    refine ⟨H, nb, b, t, ad, a, sz, Sw22.fresh sz, data, Sw22.bitsOf data, [], most, rfl, hn2, BB, D, hnb, htH, hadH, Nat.zero_le _, hm, ?_⟩
    rw [List.length_nil, Nat.sub_zero, ← Gif.decode_cds, List.nil_append]
    by_cases hw : (Sw22.decode sz data most).2 = .wrong
    · rw [if_pos hw]
      intro H3 hn3 sm3
      refine ⟨rfl, _, rfl, fun u dxu hu hdxu neu => ⟨u, dxu, _, _, rfl, upd_same, fun H4 fs4 h4 lk4 _ kp4 => ⟨rfl, ?_⟩⟩⟩
      have sm4 : Same H3 H4 := made_same hu hdxu kp4
      exact k H4 u nb dxu fs4 h4 lk4.1 (by rw [lk4.2, decide_eq_true hw]) (sm4 _ _ hn3) hnb (sm3.trans sm4)
    · rw [if_neg hw]
      intro H3 hn3 sm3
      refine ⟨_, rfl, fun u dxu hu hdxu neu => ⟨u, dxu, _, _, rfl, upd_same, fun H4 fs4 h4 lk4 _ kp4 => ⟨rfl, ?_⟩⟩⟩
      have sm4 : Same H3 H4 := made_same hu hdxu kp4
      exact k H4 u nb dxu fs4 h4 lk4.1 (by rw [lk4.2, decide_eq_false hw]) (sm4 _ _ hn3) hnb (sm3.trans sm4)
end
end Tf

set_option Elab.async false
set_option linter.all false
set_option maxRecDepth 100000
namespace Tf
open PySem L2
abbrev sCi : Stmt := inClass (top 14) 0
abbrev sPaint : Stmt := inClass (top 14) 1
abbrev sClear : Stmt := inClass (top 14) 2
abbrev sDrawP : Stmt := top 15
abbrev sPrep : Stmt := top 16
abbrev sDrawN : Stmt := top 17
abbrev sRows : Stmt := top 18
structure TxtD (K : PySem.W.Frag) (mg : Str → Option Value) (C : Addr) : Prop where
  cl : Cls K C
  nW : NoAttr K C "width"
  nN : NoAttr K C "numbers"
  mgC : mg "Canvas" = some (.ref C)
  len : mg "len" = none
  range : mg "range" = none
  list : mg "list" = none
  enum : mg "enumerate" = none
  cleared : ∃ t, mg "CLEARED" = some (.int 2 t)
  brought : ∃ t, mg "BROUGHT_BACK" = some (.int 3 t)
  nothing : ∃ a, mg "NOTHING" = some (.ref a) ∧ ∀ H, SqT K H a (bv [0, 0, 0, 0])
  passes : ∃ a a1 a2 a3 a4, mg "PASSES" = some (.ref a) ∧ ∀ H, SqT K H a [.ref a1, .ref a2, .ref a3, .ref a4] ∧ SqT K H a1 (bv [0, 8]) ∧ SqT K H a2 (bv [4, 8]) ∧ SqT K H a3 (bv [2, 4]) ∧ SqT K H a4 (bv [1, 2])
abbrev ckeys : List Str := ["width", "numbers"]
/-- a Canvas at d, its numbers in the list at nl -/
def CanAt (C : Addr) (H : Hp) (d nl : Addr) (W : Nat) (ns : List Nat) : Prop := ∃ dx fs, H d = some (.ins C dx fs) ∧ fs.map (·.1) = ckeys ∧ fs.lookup ("width" : Str) = some (.int (W : Int)) ∧ fs.lookup ("numbers" : Str) = some (.ref nl) ∧ H nl = some (.lst (bv ns))
theorem CanAt.same {C : Addr} {H H' : Hp} {d nl : Addr} {W : Nat} {ns : List Nat} (h : CanAt C H d nl W ns) (e : Same H H') : CanAt C H' d nl W ns := let ⟨dx, fs, h1, h2, h3, h4, h5⟩ := h; ⟨dx, fs, e _ _ h1, h2, h3, h4, e _ _ h5⟩
def spCi (K : PySem.W.Frag) (C : Addr) : Sp := fun vs H Q _ => ∃ (x dx a : Addr) (W : Nat) (ns : List Nat), vs = [.ref x, .int (W : Int), .ref a] ∧ H x = some (.ins C dx []) ∧ SqL K H a (bv ns) ∧ ∀ H' nl, CanAt C H' x nl W ns → H nl = none → Kp [x] H H' → Q .non H'
def spPaint (K : PySem.W.Frag) (c : Cs) (C : Addr) : Sp := fun vs H Q _ => ∃ (d nl ar cv : Addr) (W row col : Nat) (ns v : List Nat) (a : Nat × Nat × Nat × Nat), vs = [.ref d, .ref ar, .int (row : Int), .int (col : Int), .ref cv] ∧ CanAt C H d nl W ns ∧ AreAt c (hid [nl] H) ar a ∧
  (SqL K (hid [nl] H) cv (bv v) ∨ SqT K (hid [nl] H) cv (bv v)) ∧ v.length = 4 ∧ W < 2 ^ 32 ∧ a.2.1 + row < 2 ^ 32 ∧ 4 * ((a.2.1 + row) * W + a.1 + col) + 3 < ns.length ∧ ∀ H', CanAt C H' d nl W (Gif.put4 ns ((a.2.1 + row) * W + a.1 + col) v) → Kp [nl] H H' → Q .non H'
def spClear (K : PySem.W.Frag) (c : Cs) (C : Addr) : Sp := fun vs H Q _ => ∃ (d nl ar : Addr) (W Hh : Nat) (ns : List Nat) (p : Sw22.Picture), vs = [.ref d, .ref ar] ∧ CanAt C H d nl W ns ∧ AreAt c (hid [nl] H) ar (p.left, p.top, p.width, p.height) ∧ Gif.Fit W Hh p ∧ W * Hh ≤ 1048576 ∧ ns.length = 4 * (W * Hh) ∧
  ∀ H', CanAt C H' d nl W (Gif.clears ns (Sw22.placesOf W p)) → Kp [nl] H H' → Q .non H'
def rowsFor (h : Nat) (b : Bool) : List Nat := if b = true then Gif.stepped 0 8 h ++ Gif.stepped 4 8 h ++ Gif.stepped 2 4 h ++ Gif.stepped 1 2 h else List.range h
theorem rowsFor_eq (p : Sw22.Picture) : rowsFor p.height p.passes = Sw22.rowsOf p := by
  unfold rowsFor
  cases h : p.passes with
  | true => rw [if_pos rfl, Gif.rowsOf_passes h]
  | false => rw [if_neg Bool.false_ne_true, Gif.rowsOf_plain h]
def spRows : Sp := fun vs H Q _ => ∃ (h : Nat) (b : Bool), vs = [.int (h : Int), .bl b] ∧ h ≤ 1048576 ∧ ∀ H' r, H' r = some (.lst (bv (rowsFor h b))) → H r = none → Same H H' → Q (.ref r) H'
section
variable {P : Program} {w : World} {K : PySem.W.Frag} {mg : Str → Option Value} {base : Heap} {c : Cs} {C : Addr}
theorem scCi : FnScope ["self", "width", "numbers"] ["self", "width", "numbers"] (defScope sCi) := ⟨rfl, rfl, rfl, by decide +kernel, rfl, by decide +kernel, by decide +kernel⟩
theorem ok_ci {f : Addr} {fd : FuncData} (F : Fun K "__init__" "Canvas.__init__" sCi f fd) (T : TxtD K mg C) : FnOk P w K mg base CX0 1 f fd ["self", "width", "numbers"] (spCi K C) := by
  refine F.ok scCi (fun vs H Q E h => ?_) (fun cdv A outer s H vs Q E hr h => ?_)
  · obtain ⟨x, dx, a, W, ns, rfl, _⟩ := h
    rfl
  · obtain ⟨x, dx, a, W, ns, rfl, hx, sq, k⟩ := h
    refine ⟨_, pss_cons (ps_fld (pv 0) (pv 1) rfl) (pss_one (ps_fld (pv 0) (pe_callTy call_list_of rfl T.list bootL (pa_cons (pv 2) pa_nil)) rfl)), ?_⟩
    have k1 : (putF "width" (.int (W : Int)) ([] : List (Str × V))).map (·.1) = (["width"] : List Str) := keys_add (rfl : ([] : List (Str × V)).map (·.1) = ([] : List Str))
    refine ⟨_, rfl, _, rfl, x, C, dx, _, rfl, hx, T.cl, T.nW, (by show 0 < 1000; decide), _, rfl, a, _, rfl, .inl (?_ : SqL K _ a (bv ns)), fun nl hnl => ?_⟩
    · rcases sq with (h | ⟨o, h⟩) | h
      · exact .inl (.inl (by rw [upd_ne (ne_of h hx (by intro z; cases z))]; exact h))
      · exact .inl (.inr ⟨o, by rw [upd_ne (ne_of h hx (by intro z; cases z))]; exact h⟩)
      · exact .inr h
    · have nxl : x ≠ nl := ne_of_none upd_same hnl
      have hnlH : H nl = none := by rw [upd_ne nxl.symm] at hnl; exact hnl
      refine ⟨_, rfl, x, C, dx, _, rfl, (by rw [upd_ne nxl]; exact upd_same), T.cl, T.nN, keys_len k1, k _ nl ⟨dx, _, upd_same, keys_add k1, lk1 lk0, lk0, ?_⟩ hnlH ?_⟩
      · rw [upd_ne nxl.symm, upd_same]
      · exact (Kp.upd.writeN hnlH).write (List.mem_singleton.mpr rfl)
theorem scPt : FnScope ["self", "area", "row", "column", "colour", "start", "step", "number"] ["self", "area", "row", "column", "colour"] (defScope sPaint) := ⟨rfl, rfl, rfl, by decide +kernel, rfl, by decide +kernel, by decide +kernel⟩
theorem ok_paint {f : Addr} {fd : FuncData} (F : Fun K "paint" "Canvas.paint" sPaint f fd) (T : TxtD K mg C) (TR : Txt K mg c) : FnOk P w K mg base CX0 1 f fd ["self", "area", "row", "column", "colour"] (spPaint K c C) := by
  refine F.ok scPt (fun vs H Q E h => ?_) (fun cdv A outer s H vs Q E hr h => ?_)
  · obtain ⟨d, nl, ar, cv, W, row, col, ns, v, a, rfl, _⟩ := h
    rfl
  · obtain ⟨d, nl, ar, cv, W, row, col, ns, v, a, rfl, hC, hA, hv, v4, hW, hrow, hlt, k⟩ := h
    refine ⟨_, pss_cons (ps_set (i := 5) scPt.nd rfl (Or.inl rfl) (pe_op op_mul pe_int (pe_op op_add (pe_op op_add (pe_op op_mul (pe_op op_add (pe_fld (pv 1) rfl) (pv 2)) (pe_fld (pv 0) rfl)) (pe_fld (pv 1) rfl)) (pv 3))))
      (pss_one (ps_for PassesOwn.never rfl (PI.or (pi_enum rfl T.enum (pa_cons (pv 4) pa_nil)) (pi_enumT rfl T.enum (pa_cons (pv 4) pa_nil))) (pg_tup rfl (pgs_cons (pg_name (i := 6) scPt.nd rfl (Or.inl rfl)) (pgs_cons (pg_name (i := 7) scPt.nd rfl (Or.inl rfl)) pgs_nil)))
        (pss_one (ps_asg (pv 7) (pg_sub (pe_fld (pv 0) rfl) (pe_op op_add (pv 5) (pv 6)) set_list))))), ?_⟩
    obtain ⟨dx, fs, h1, hk, hw, hn, hl⟩ := id hC
    obtain ⟨da, fa, a1, a2, a3, a4, a5⟩ := hA.same hid_same
    generalize hi : (a.2.1 + row) * W + a.1 + col = i at hlt k
    have ei : (4 : Int) * (((a.2.1 : Int) + (row : Int)) * (W : Int) + (a.1 : Int) + (col : Int)) = ((4 * i : Nat) : Int) := by
      rw [← hi]
      simp
    refine ⟨_, rfl, ar, c.CA, da, _, _, rfl, a1, TR.ca, TR.nCA_top, a3, _, rfl, _, _, rfl, rfl, _, rfl, d, C, dx, _, _, rfl, h1, T.cl, T.nW, hw, _, _, rfl, rfl, .inl ⟨by omega, by omega⟩,
      _, rfl, ar, c.CA, da, _, _, rfl, a1, TR.ca, TR.nCA_left, a2, _, _, rfl, rfl, _, rfl, _, _, rfl, rfl, _, _, rfl, rfl, .inl ⟨by decide, by decide⟩, ?_⟩
    dsimp only
    rw [ei]
    have vl : (bv v).length = 4 := by rw [bv_len]; exact v4
    have ndl : d ≠ nl := ne_of h1 hl (by intro z; cases z)
    -- the state after j steps
    have inv0 : ∀ (j : Nat) (σ : St) (H2 : Hp), (∃ x6 x7, σ = [some (.ref d), some (.ref ar), some (.int (row : Int)), some (.int (col : Int)), some (.ref cv), some (.int ((4 * i : Nat) : Int)), x6, x7] ∧ CanAt C H2 d nl W (Gif.puts ns i v j) ∧ Kp [nl] H H2) → SqL K (hid [nl] H) cv (bv v) → SqL K H2 cv (bv v) :=
      fun j σ H2 ⟨_, _, _, _, kp⟩ q => (kp.hid0.trans hid_same).seq q
    have seqT : ∀ (H1 H2 : Hp), Same H1 H2 → SqT K H1 cv (bv v) → SqT K H2 cv (bv v) := fun H1 H2 e q => by
      rcases q with (q | ⟨o, q⟩) | q
      · exact .inl (.inl (e _ _ q))
      · exact .inl (.inr ⟨o, e _ _ q⟩)
      · exact .inr q
    have step : ∀ (D : Ends) (j : Nat) (x : V) (σ : St) (H2 : Hp) (T' : Addr), (bv v)[j]? = some x → (∃ x6 x7, σ = [some (.ref d), some (.ref ar), some (.int (row : Int)), some (.int (col : Int)), some (.ref cv), some (.int ((4 * i : Nat) : Int)), x6, x7] ∧ CanAt C H2 d nl W (Gif.puts ns i v j) ∧ Kp [nl] H H2) → H2 T' = none →
        gTup K 2 (gCons (gName 6) (gCons (gName 7) gNil)) (.ref T') σ (upd H2 T' (.tup [.int (j : Nat), x])) fun σ2 H3 => tAsg (tVar 7) (gSub (tFld K (tVar 0) "numbers") (tOp (rI0 fun i j => .int (i + j)) (tVar 5) (tVar 6)) rSetL)
          { D with nx := fun σ H2 => ∃ x6 x7, σ = [some (.ref d), some (.ref ar), some (.int (row : Int)), some (.int (col : Int)), some (.ref cv), some (.int ((4 * i : Nat) : Int)), x6, x7] ∧ CanAt C H2 d nl W (Gif.puts ns i v (j + 1)) ∧ Kp [nl] H H2 } σ2 H3 := by
      rintro D j x σ H2 T' hx ⟨x6, x7, rfl, hC2, kp2⟩ hT
      obtain ⟨dx2, fs2, g1, gk, gw, gn, gl⟩ := hC2
      have hj : j < 4 := by
        have := (List.getElem?_eq_some_iff.mp hx).1
        omega
      have hjv : j < v.length := by omega
      have hxv : x = .int ((v.getD j 0 : Nat) : Int) := by
        have e1 : (bv v)[j]? = some (.int ((v[j] : Nat) : Int)) := bv_get (List.getElem?_eq_getElem hjv)
        rw [hx] at e1
        rw [Option.some.inj e1, List.getD_eq_getElem?_getD, List.getElem?_eq_getElem hjv]
        rfl
      have smT : Same H2 (upd H2 T' (.tup [.int (j : Nat), x])) := Same.new hT
      refine ⟨T', _, rfl, SqT.of upd_same, rfl, _, _, rfl, _, _, rfl, rfl, _, rfl, _, rfl, d, C, dx2, _, _, rfl, smT _ _ g1, T.cl, T.nN, gn, _, rfl, _, rfl, _, _, rfl, rfl, nl, _, _, 4 * i + j, rfl, rfl, smT _ _ gl, ?_, ?_⟩
      · have e1 : ((4 * i : Nat) : Int) + ((j : Nat) : Int) = ((4 * i + j : Nat) : Int) := by omega
        have hpl : (bv (Gif.puts ns i v j)).length = ns.length := by rw [bv_len, Gif.puts_len]
        rw [e1]
        unfold ixN
        rw [if_pos (by omega), if_pos (by rw [hpl]; omega), Int.toNat_natCast]
      · refine ⟨_, _, rfl, ⟨dx2, fs2, by rw [upd_ne ndl]; exact smT _ _ g1, gk, gw, gn, ?_⟩, (kp2.same smT).write (List.mem_singleton.mpr rfl)⟩
        rw [upd_same]
        show some (HO.lst ((bv (Gif.puts ns i v j)).set (4 * i + j) x)) = some (HO.lst (bv ((Gif.puts ns i v j).set (4 * i + j) (v.getD j 0))))
        rw [hxv]
        unfold bv
        rw [List.map_set]
    have last : ∀ (σ : St) (H2 : Hp), (∃ x6 x7, σ = [some (.ref d), some (.ref ar), some (.int (row : Int)), some (.int (col : Int)), some (.ref cv), some (.int ((4 * i : Nat) : Int)), x6, x7] ∧ CanAt C H2 d nl W (Gif.puts ns i v (bv v).length) ∧ Kp [nl] H H2) → Q .non H2 := by
      rintro σ H2 ⟨x6, x7, rfl, hC2, kp2⟩
      rw [vl, Gif.puts4] at hC2
      exact k H2 hC2 kp2
    rcases hv with hv | hv
    · refine .inl ⟨_, rfl, cv, _, rfl, hid_same.seq hv, for_enumL (xs := bv v) (fun j σ H2 => ∃ x6 x7, σ = [some (.ref d), some (.ref ar), some (.int (row : Int)), some (.int (col : Int)), some (.ref cv), some (.int ((4 * i : Nat) : Int)), x6, x7] ∧ CanAt C H2 d nl W (Gif.puts ns i v j) ∧ Kp [nl] H H2) ⟨_, _, rfl, hC, Kp.refl⟩ (fun j σ H2 _ q => inv0 j σ H2 q hv) (fun j x σ H2 T' hx q hT => step { nx := fun _ _ => True, rt := Q } j x σ H2 T' hx q hT) last⟩
    · refine .inr ⟨_, rfl, cv, _, rfl, seqT _ _ hid_same hv, for_enumT (xs := bv v) (fun j σ H2 => ∃ x6 x7, σ = [some (.ref d), some (.ref ar), some (.int (row : Int)), some (.int (col : Int)), some (.ref cv), some (.int ((4 * i : Nat) : Int)), x6, x7] ∧ CanAt C H2 d nl W (Gif.puts ns i v j) ∧ Kp [nl] H H2) ⟨_, _, rfl, hC, Kp.refl⟩ (fun j σ H2 _ q => by
        obtain ⟨_, _, _, _, kp⟩ := q
        exact seqT _ _ (kp.hid0.trans hid_same) hv) (fun j x σ H2 T' hx q hT => step { nx := fun _ _ => True, rt := Q } j x σ H2 T' hx q hT) last⟩
theorem scCr : FnScope ["self", "area", "row", "column"] ["self", "area"] (defScope sClear) := ⟨rfl, rfl, rfl, by decide +kernel, rfl, by decide +kernel, by decide +kernel⟩
theorem ok_clear {f fP : Addr} {fd fdP : FuncData} (F : Fun K "clear_area" "Canvas.clear_area" sClear f fd) (T : TxtD K mg C) (TR : Txt K mg c)
    (GP : FnOk P w K mg base CX0 1 fP fdP ["self", "area", "row", "column", "colour"] (spPaint K c C)) (bP : Binds K fdP ["self", "area", "row", "column", "colour"] []) (mP : Meth K C "paint" fP) : FnOk P w K mg base CX0 2 f fd ["self", "area"] (spClear K c C) := by
  obtain ⟨an, mN, sN⟩ := T.nothing
  refine F.ok scCr (fun vs H Q E h => ?_) (fun cdv A outer s H vs Q E hr h => ?_)
  · obtain ⟨d, nl, ar, W, Hh, ns, p, rfl, _⟩ := h
    rfl
  · obtain ⟨d, nl, ar, W, Hh, ns, p, rfl, hC, hA, hF, hWH, hlen, k⟩ := h
    rw [Gif.clears_plain] at k
    have ww := hF.ww
    have hh := hF.hh
    have w1 := hF.w1
    have h1' := hF.h1
    have hW : W ≤ 1048576 := Nat.le_trans (Nat.le_mul_of_pos_right W (by omega)) hWH
    have hHh : Hh ≤ 1048576 := Nat.le_trans (Nat.le_mul_of_pos_left Hh (by omega)) hWH
    refine ⟨_, pss_one (ps_for PassesOwn.never rfl (pi_range1 rfl T.range (pa_cons (pe_fld (pv 1) rfl) pa_nil)) (pg_name (i := 2) scCr.nd rfl (Or.inl rfl))
      (pss_one (ps_for PassesOwn.never rfl (pi_range1 rfl T.range (pa_cons (pe_fld (pv 1) rfl) pa_nil)) (pg_name (i := 3) scCr.nd rfl (Or.inl rfl))
        (pss_one (ps_expr (pe_meth (pv 0) T.cl mP GP hr bP .nil pass0 (pa_cons (pv 1) (pa_cons (pv 2) (pa_cons (pv 3) (pa_cons (pe_glob (v := V.ref an) rfl mN rfl) pa_nil)))))))))), ?_⟩
    obtain ⟨da, fa, a1, a2, a3, a4, a5⟩ := hA.same hid_same
    refine ⟨_, rfl, ar, c.CA, da, _, _, rfl, a1, TR.ca, TR.nCA_height, a5, _, rfl, (by dsimp only; omega), (by dsimp only; omega), ?_⟩
    rw [Int.toNat_natCast]
    refine for_range (n := p.height) (fun r σ H2 => ∃ x2 x3, σ = [some (.ref d), some (.ref ar), x2, x3] ∧ CanAt C H2 d nl W (Gif.clears ns (Gif.plainPlaces W p r)) ∧ Kp [nl] H H2) ⟨_, _, rfl, hC, Kp.refl⟩ ?_ ?_
    · rintro r σ H2 hr2 ⟨x2, x3, rfl, hC2, kp2⟩
      obtain ⟨da2, fa2, b1, b2, b3, b4, b5⟩ := (hA.same kp2.hid0).same hid_same
      have er : (0 : Int) + ((r : Nat) : Int) = ((r : Nat) : Int) := by omega
      rw [er]
      refine ⟨_, rfl, ar, c.CA, da2, _, _, rfl, b1, TR.ca, TR.nCA_width, b4, _, rfl, (by dsimp only; omega), (by dsimp only; omega), ?_⟩
      rw [Int.toNat_natCast]
      refine for_range (n := p.width) (fun q σ H3 => ∃ x3, σ = [some (.ref d), some (.ref ar), some (.int (r : Int)), x3] ∧ CanAt C H3 d nl W (Gif.clears ns (Gif.plainPlaces W p r ++ Gif.rowPlaces W p r q)) ∧ Kp [nl] H H3) ⟨_, rfl, ?_, kp2⟩ ?_ ?_
      · have : Gif.rowPlaces W p r 0 = [] := rfl
        rw [this, List.append_nil]
        exact hC2
      · rintro q σ H3 hq ⟨x3, rfl, hC3, kp3⟩
        have eq : (0 : Int) + ((q : Nat) : Int) = ((q : Nat) : Int) := by omega
        rw [eq]
        obtain ⟨dx3, fs3, c1, ck, _⟩ := id hC3
        have lt := Gif.place_lt hF hr2 hq
        refine ⟨_, rfl, d, dx3, _, rfl, c1, key_no ck, _, rfl, _, rfl, _, rfl, d, nl, ar, an, W, r, q, _, [0, 0, 0, 0], _, rfl, hC3, hA.same kp3.hid0, .inr (sN _), rfl, by omega, ?_, ?_, fun H4 hC4 kp4 => ?_⟩
        · show p.top + r < 2 ^ 32
          omega
        · show 4 * ((p.top + r) * W + p.left + q) + 3 < _
          rw [Gif.clears_len, hlen]
          omega
        · refine ⟨_, rfl, ?_, kp3.trans kp4⟩
          rw [Gif.row_succ, ← List.append_assoc, Gif.clears_app]
          exact hC4
      · rintro σ H3 ⟨x3, rfl, hC3, kp3⟩
        refine ⟨_, _, rfl, ?_, kp3⟩
        rw [Gif.plain_succ]
        exact hC3
    · rintro σ H2 ⟨x2, x3, rfl, hC2, kp2⟩
      exact k H2 hC2 kp2
theorem range_up {a h n : Nat} (hn : 0 < n) (han : a < n) (hh : h ≤ 1048576) (hn8 : n ≤ 8) : RgC (a : Int) (h : Int) (n : Int) ((h + (n - 1) - a) / n) := by
  have sz : Builtin.Range.rangeSize (a : Int) (h : Int) (n : Int) = (((h + (n - 1) - a) / n : Nat) : Int) := by
    unfold Builtin.Range.rangeSize
    rw [if_pos (by omega)]
    by_cases q : (a : Int) < (h : Int)
    · rw [if_pos q]
      have e1 : (h : Int) - (a : Int) - 1 = ((h - a - 1 : Nat) : Int) := by omega
      have e2 : h + (n - 1) - a = (h - a - 1) + n := by omega
      rw [e1, e2, Nat.add_div_right _ hn]
      simp
    · rw [if_neg q]
      have e2 : (h + (n - 1) - a) / n = 0 := Nat.div_eq_of_lt (by omega)
      rw [e2]
      rfl
  have le : (h + (n - 1) - a) / n ≤ 1048583 := Nat.le_trans (Nat.div_le_self _ _) (by omega)
  refine ⟨by omega, by omega, ?_, sz⟩
  unfold Builtin.Range.small
  rw [sz, if_pos (show (n : Int) > 0 by omega)]
  generalize (h + (n - 1) - a) / n = q at le
  simp only [Builtin.Range.rangeFitsLong, Bool.and_eq_true, Bool.or_eq_true, decide_eq_true_eq, beq_iff_eq]
  omega
theorem stepped_vals (a n h : Nat) : ((List.range ((h + (n - 1) - a) / n)).map fun k : Nat => V.int ((a : Int) + (k : Int) * (n : Int))) = bv (Gif.stepped a n h) := by
  unfold bv Gif.stepped
  rw [List.map_map]
  refine List.map_congr_left fun k _ => ?_
  show V.int _ = V.int (((a + n * k : Nat)) : Int)
  congr 1
  rw [Int.natCast_add, Int.natCast_mul, Int.mul_comm]
theorem scRw : FnScope ["height", "in_passes", "rows", "start", "stride"] ["height", "in_passes"] (defScope sRows) := ⟨rfl, rfl, rfl, by decide +kernel, rfl, by decide +kernel, by decide +kernel⟩
theorem stepped_len (a n h : Nat) : (Gif.stepped a n h).length = (h + (n - 1) - a) / n := by unfold Gif.stepped; rw [List.length_map, List.length_range]
def parts (h : Nat) : List (List Nat) := [Gif.stepped 0 8 h, Gif.stepped 4 8 h, Gif.stepped 2 4 h, Gif.stepped 1 2 h]
theorem parts_len (h i : Nat) (hh : h ≤ 1048576) : ((parts h).take i).flatten.length ≤ 4194332 := by
  have e : ∀ a n : Nat, (Gif.stepped a n h).length ≤ h + (n - 1) := fun a n => by rw [stepped_len]; exact Nat.le_trans (Nat.div_le_self _ _) (by omega)
  have e1 := e 0 8
  have e2 := e 4 8
  have e3 := e 2 4
  have e4 := e 1 2
  have le : ((parts h).take i).flatten.length ≤ (parts h).flatten.length := by
    conv => rhs; rw [← List.take_append_drop i (parts h), List.flatten_append, List.length_append]
    omega
  have all : (parts h).flatten.length = (Gif.stepped 0 8 h).length + ((Gif.stepped 4 8 h).length + ((Gif.stepped 2 4 h).length + ((Gif.stepped 1 2 h).length + 0))) := by
    unfold parts
    simp only [List.flatten_cons, List.flatten_nil, List.length_append, List.length_nil]
  omega
theorem ok_rows {f : Addr} {fd : FuncData} (F : Fun K "order_rows" "order_rows" sRows f fd) (T : TxtD K mg C) : FnOk P w K mg base CX0 1 f fd ["height", "in_passes"] spRows := by
  obtain ⟨aP, a1, a2, a3, a4, mP, sP⟩ := T.passes
  refine F.ok scRw (fun vs H Q E h => ?_) (fun cdv A outer s H vs Q E hr h => ?_)
  · obtain ⟨h, b, rfl, _⟩ := h
    rfl
  · obtain ⟨h, b, rfl, hh, k⟩ := h
    have hsl : (10000000 : Nat) ≤ sizeLine := by decide
    refine ⟨_, pss_cons (ps_if (pt_not (pt_val (pv 1))) (pss_one (ps_ret (pe_callTy (call_lstRng rfl) rfl T.list bootL (pa_cons (pe_callTy call_rng1 rfl T.range bootR (pa_cons (pv 0) pa_nil)) pa_nil)))) pss_nil)
      (pss_cons (ps_set (i := 2) scRw.nd rfl (Or.inl rfl) (pe_lst pa_nil))
      (pss_cons (ps_for PassesOwn.never rfl (pi_tup (pe_glob (v := V.ref aP) rfl mP rfl)) (pg_tup rfl (pgs_cons (pg_name (i := 3) scRw.nd rfl (Or.inl rfl)) (pgs_cons (pg_name (i := 4) scRw.nd rfl (Or.inl rfl)) pgs_nil)))
        (pss_one (ps_expr (pe_bm PySem.F.plainAttrs_list PySem.F.slot_list_extend PySem.F.type_list_extend mt_extend (pv 2)
          (pa_cons (pe_callTy (call_lstRng rfl) rfl T.list bootL (pa_cons (pe_callTy call_rng3 rfl T.range bootR (pa_cons (pv 3) (pa_cons (pv 0) (pa_cons (pv 4) pa_nil)))) pa_nil)) pa_nil)))))
      (pss_one (ps_ret (pv 2))))), ?_⟩
    refine ⟨_, rfl, _, rfl, ?_⟩
    cases b with
    | false =>
      refine iteT ⟨_, rfl, _, rfl, fun p hp => ?_⟩
      have rg : RgC 0 (h : Int) 1 h := by
        have := range_up (a := 0) (n := 1) (h := h) (by decide) (by decide) hh (by decide)
        simpa using this
      refine ⟨p, 0, (h : Int), 1, h, rfl, upd_same, rg, by omega, fun l hl => ?_⟩
      have sm : Same H (upd (upd H p (RngO p 0 (h : Int) 1)) l (.lst ((List.range h).map fun k : Nat => V.int (0 + k * 1)))) := (Same.new hp).trans (Same.new hl)
      refine k _ l ?_ ((Same.new hp).free hl) sm
      rw [upd_same]
      unfold rowsFor bv
      rw [if_neg Bool.false_ne_true]
      congr 2
      refine List.map_congr_left fun q _ => ?_
      congr 1
      omega
    | true =>
      refine iteF ⟨Nat.zero_le _, fun r hr0 => ?_⟩
      have at_ : ∀ (i : Nat) (x : V), ([V.ref a1, V.ref a2, V.ref a3, V.ref a4] : List V)[i]? = some x → ∃ (a : Addr) (st n : Nat), x = .ref a ∧ (∀ H, SqT K H a (bv [st, n])) ∧ st < n ∧ n ≤ 8 ∧ (parts h)[i]? = some (Gif.stepped st n h) := by
        intro i x hx
        rcases i with _ | _ | _ | _ | i
        · cases hx; exact ⟨a1, 0, 8, rfl, fun H => (sP H).2.1, by decide, by decide, rfl⟩
        · cases hx; exact ⟨a2, 4, 8, rfl, fun H => (sP H).2.2.1, by decide, by decide, rfl⟩
        · cases hx; exact ⟨a3, 2, 4, rfl, fun H => (sP H).2.2.2.1, by decide, by decide, rfl⟩
        · cases hx; exact ⟨a4, 1, 2, rfl, fun H => (sP H).2.2.2.2, by decide, by decide, rfl⟩
        · cases hx
      refine ⟨aP, rfl, ⟨_, (sP _).1⟩, for_tup (xs := [V.ref a1, V.ref a2, V.ref a3, V.ref a4]) (fun i σ H2 => ∃ x3 x4, σ = [some (.int (h : Int)), some (.bl true), some (.ref r), x3, x4] ∧ H2 r = some (.lst (bv ((parts h).take i).flatten)) ∧ Same H H2) ⟨_, _, rfl, upd_same, Same.new hr0⟩ (fun i σ H2 _ _ => (sP H2).1) ?_ ?_⟩
      · rintro i x σ H2 hx ⟨x3, x4, rfl, hr2, sm2⟩
        obtain ⟨a, st, n, rfl, sq, hst, hn8, hpt⟩ := at_ i x hx
        refine ⟨a, _, rfl, sq H2, rfl, _, _, rfl, _, _, rfl, rfl, ?_⟩
        have rg := range_up (a := st) (n := n) (h := h) (by omega) hst hh hn8
        refine ⟨_, rfl, .inl ⟨rfl, _, SqL.of hr2⟩, _, rfl, _, rfl, _, rfl, (st : Int), (h : Int), (n : Int), rfl, by omega, by omega, fun p hp => ?_⟩
        have sp : Same H2 (upd H2 p (RngO p (st : Int) (h : Int) (n : Int))) := Same.new hp
        have le : (h + (n - 1) - st) / n ≤ 1048583 := Nat.le_trans (Nat.div_le_self _ _) (by omega)
        refine ⟨p, _, _, _, _, rfl, upd_same, rg, by omega, fun l hl => ?_⟩
        rw [stepped_vals]
        have sl : Same H2 (upd (upd H2 p (RngO p (st : Int) (h : Int) (n : Int))) l (.lst (bv (Gif.stepped st n h)))) := sp.trans (Same.new hl)
        have fl : ((parts h).take (i + 1)).flatten = ((parts h).take i).flatten ++ Gif.stepped st n h := by
          rw [List.take_add_one, hpt, List.flatten_append]
          simp
        refine ⟨r, l, _, _, rfl, rfl, sl _ _ hr2, upd_same, ?_, _, _, rfl, ?_, (sm2.trans sl).writeN hr0⟩
        · rw [bv_len, bv_len, ← List.length_append, ← fl]
          have := parts_len h (i + 1) hh
          omega
        · rw [upd_same, fl, bv_app]
      · rintro σ H2 ⟨x3, x4, rfl, hr2, sm2⟩
        refine ⟨_, rfl, k H2 r ?_ hr0 sm2⟩
        rw [hr2]
        unfold rowsFor
        rw [if_pos rfl]
        congr 3
        show ((parts h).take 4).flatten = _
        unfold parts
        simp [List.append_assoc]
end
end Tf

set_option Elab.async false
set_option linter.all false
set_option maxRecDepth 100000
namespace Tf
open PySem L2
def spDrawN (K : PySem.W.Frag) (c : Cs) (C : Addr) : Sp := fun vs H Q _ => ∃ (d nl pa nb : Addr) (W Hh : Nat) (cs nums : List Nat) (p : Sw22.Picture), vs = [.ref d, .ref pa, .ref nb] ∧ CanAt C H d nl W cs ∧ PicAt c (hid [nl] H) pa p ∧ hid [nl] H nb = some (.lst (bv nums)) ∧ Gif.Fit W Hh p ∧ W * Hh ≤ 1048576 ∧ cs.length = 4 * (W * Hh) ∧ nums.length ≤ p.width * p.height ∧
  ∀ H', CanAt C H' d nl W (((Sw22.placesOf W p).zip nums).foldl (Gif.paintF p) cs) → Kp [nl] H H' → Q .non H'
def spPrep (K : PySem.W.Frag) (c : Cs) (C : Addr) : Sp := fun vs H Q _ => ∃ (k : Int) (o ca sa : Addr) (f : Sw22.File) (cs ss : List Nat) (p : Sw22.Picture), vs = [.int k, .ref o, .ref ca, .ref sa] ∧ OutAt c H o f ∧ SqL K H ca (bv cs) ∧ SqL K H sa (bv ss) ∧ f.at_ k = some p ∧ cs.length = 4 * (f.width * f.height) ∧ ss.length = 4 * (f.width * f.height) ∧
  (∀ q ∈ f.pictures, Gif.Fit f.width f.height q) ∧ f.width * f.height ≤ 25000 ∧ f.pictures.length ≤ 4096 ∧ ∀ H' d nl, CanAt C H' d nl f.width (Gif.ahead f k cs ss) → H d = none → H nl = none → Same H H' → Q (.ref d) H'
section
variable {P : Program} {w : World} {K : PySem.W.Frag} {mg : Str → Option Value} {base : Heap} {c : Cs} {C : Addr}
theorem scDn : FnScope ["drawn", "picture", "numbers", "area", "rows", "step", "number", "row"] ["drawn", "picture", "numbers"] (defScope sDrawN) := ⟨rfl, rfl, rfl, by decide +kernel, rfl, by decide +kernel, by decide +kernel⟩
theorem ok_drawN {f fR fP : Addr} {fd fdR fdP : FuncData} (F : Fun K "draw_numbers" "draw_numbers" sDrawN f fd) (T : TxtD K mg C) (TR : Txt K mg c)
    (GR : FnOk P w K mg base CX0 1 fR fdR ["height", "in_passes"] spRows) (kR : PySem.W.keepIn K (.ref fR) = true) (bR : Binds K fdR ["height", "in_passes"] []) (mR : mg "order_rows" = some (.ref fR))
    (GP : FnOk P w K mg base CX0 1 fP fdP ["self", "area", "row", "column", "colour"] (spPaint K c C)) (bP : Binds K fdP ["self", "area", "row", "column", "colour"] []) (mP : Meth K C "paint" fP) : FnOk P w K mg base CX0 2 f fd ["drawn", "picture", "numbers"] (spDrawN K c C) := by
  refine F.ok scDn (fun vs H Q E h => ?_) (fun cdv A outer s H vs Q E hr h => ?_)
  · obtain ⟨d, nl, pa, nb, W, Hh, cs, nums, p, rfl, _⟩ := h
    rfl
  · obtain ⟨d, nl, pa, nb, W, Hh, cs, nums, p, rfl, hC, hP, hN, hF, hWH, hlen, hnum, k⟩ := h
    have ww := hF.ww
    have hh := hF.hh
    have w1 := hF.w1
    have h1' := hF.h1
    have hW : W ≤ 1048576 := Nat.le_trans (Nat.le_mul_of_pos_right W (by omega)) hWH
    have hHh : Hh ≤ 1048576 := Nat.le_trans (Nat.le_mul_of_pos_left Hh (by omega)) hWH
    have hsl : (10000000 : Nat) ≤ sizeLine := by decide
    refine ⟨_, pss_cons (ps_set (i := 3) scDn.nd rfl (Or.inl rfl) (pe_fld (pv 1) rfl))
      (pss_cons (ps_set (i := 4) scDn.nd rfl (Or.inl rfl) (pe_call GR hr rfl mR kR bR .nil pass0 (pa_cons (pe_fld (pv 3) rfl) (pa_cons (pe_fld (pv 1) rfl) pa_nil))))
      (pss_one (ps_for PassesOwn.never rfl (pi_enum rfl T.enum (pa_cons (pv 2) pa_nil)) (pg_tup rfl (pgs_cons (pg_name (i := 5) scDn.nd rfl (Or.inl rfl)) (pgs_cons (pg_name (i := 6) scDn.nd rfl (Or.inl rfl)) pgs_nil)))
        (pss_one (ps_if (PW.pt (pw_and (pt_cmpR op_ne (pv 6) (pe_fld (pe_fld (pv 1) rfl) rfl) (nomark _)) (pw_and1 (pt_cmpR op_lt (pv 6) (pe_callB call_len_seq (by rfl) T.len PySem.boot_len (pa_cons (pe_fld (pv 1) rfl) pa_nil)) (nomark _)))))
          (pss_cons (ps_set (i := 7) scDn.nd rfl (Or.inl rfl) (pe_ix ix_list (pv 4) (pe_op op_fdiv (pv 5) (pe_fld (pv 3) rfl)) (fun _ _ => rfl)))
            (pss_one (ps_expr (pe_meth (pv 0) T.cl mP GP hr bP .nil pass0 (pa_cons (pv 3) (pa_cons (pv 7) (pa_cons (pe_op op_mod (pv 5) (pe_fld (pv 3) rfl)) (pa_cons (pe_op op_cat (pe_ix ix_list (pe_fld (pv 1) rfl) (pv 6) (fun _ _ => rfl)) (pe_lst (pa_cons pe_int pa_nil))) pa_nil))))))))
          pss_nil))))), ?_⟩
    obtain ⟨dx, fs, ar, mn, ca, dt, h1, h2, h3, h4, h5, h6, h7, hA, hM, hB, hD⟩ := hP.ex
    obtain ⟨da, fa, a1, a2, a3, a4, a5⟩ := id hA
    have up := (of_hid h1).1
    refine ⟨_, rfl, pa, c.CP, dx, _, _, rfl, up, TR.cp, TR.nCP_area, h2, _, rfl, ar, c.CA, da, _, _, rfl, (of_hid a1).1, TR.ca, TR.nCA_height, a5, _, rfl, pa, c.CP, dx, _, _, rfl, up, TR.cp, TR.nCP_in_passes, h5, p.height, p.passes, rfl, by omega, fun H1 rr hr1 hrn sm1 => ?_⟩
    rw [rowsFor_eq] at hr1
    have hC1 := hC.same sm1
    have smh : Same (hid [nl] H) (hid [nl] H1) := (Same.kp (S := []) sm1).hid fun b z => nomatch z
    obtain ⟨dxc, fsc, c1, ck, cw, cn, cl⟩ := id hC
    have nrl : rr ∉ [nl] := fun z => by rw [List.mem_singleton.mp z, cl] at hrn; cases hrn
    have hr1h : hid [nl] H1 rr = some (.lst (bv (Sw22.rowsOf p))) := hid_of hr1 nrl
    have hnl : (bv nums).length = nums.length := bv_len nums
    have hplen : (Sw22.placesOf W p).length = p.width * p.height := by rw [Gif.places_len, Nat.mul_comm]
    refine ⟨_, rfl, nb, _, rfl, SqL.of (of_hid (smh _ _ hN)).1, for_enumL (xs := bv nums) (fun i σ H2 => ∃ x5 x6 x7, σ = [some (.ref d), some (.ref pa), some (.ref nb), some (.ref ar), some (.ref rr), x5, x6, x7] ∧
      CanAt C H2 d nl W ((((Sw22.placesOf W p).zip nums).take i).foldl (Gif.paintF p) cs) ∧ Kp [nl] H1 H2) ⟨_, _, _, rfl, hC1, Kp.refl⟩ ?_ ?_ ?_⟩
    · rintro i σ H2 _ ⟨x5, x6, x7, rfl, _, kp2⟩
      exact SqL.of (of_hid (kp2.hid0 _ _ (smh _ _ hN))).1
    · rintro i x σ H2 T' hx ⟨x5, x6, x7, rfl, hC2, kp2⟩ hT
      have hi : i < nums.length := by
        have := (List.getElem?_eq_some_iff.mp hx).1
        omega
      have hxv : x = .int ((nums[i] : Nat) : Int) := by
        have e1 : (bv nums)[i]? = some (.int ((nums[i] : Nat) : Int)) := bv_get (List.getElem?_eq_getElem hi)
        rw [hx] at e1
        exact Option.some.inj e1
      generalize hn : nums[i] = n at hxv
      subst hxv
      have hiw : i < p.width * p.height := by omega
      obtain ⟨y, hy, hyh⟩ := Gif.row_at w1 hiw
      have hpl := Gif.places_get (w := W) w1 hy
      have hcol : i % p.width < p.width := Nat.mod_lt _ (by omega)
      have lt := Gif.place_lt hF hyh hcol
      have hz : ((Sw22.placesOf W p).zip nums)[i]? = some ((p.top + y) * W + p.left + i % p.width, n) := by
        rw [List.getElem?_zip_eq_some]
        exact ⟨hpl, by rw [List.getElem?_eq_getElem hi, hn]⟩
      have hst := Gif.fold_step (Gif.paintF p) cs _ i _ hz
      have smT : Same H2 (upd H2 T' (.tup [.int (i : Nat), .int (n : Int)])) := Same.new hT
      generalize hH3 : upd H2 T' (.tup [.int (i : Nat), .int (n : Int)]) = H3 at smT
      have kp3 : Kp [nl] H1 H3 := kp2.same smT
      have hC3 := hC2.same smT
      have s3 : Same (hid [nl] H) (hid [nl] H3) := smh.trans kp3.hid0
      have p1 := (of_hid (s3 _ _ h1)).1
      obtain ⟨dm, fm, m1, m2, m3, m4⟩ := (hM.same s3).same hid_same
      obtain ⟨da3, fa3, b1, b2, b3, b4, b5⟩ := (hA.same s3).same hid_same
      obtain ⟨as, g1, g2⟩ := (hB.same s3).same hid_same
      have hlas : (as.map V.ref).length = (Gif.threes p.colours).length := by rw [List.length_map, paired_len g2]
      have hr3 := (of_hid (kp3.hid0 _ _ hr1h)).1
      refine ⟨T', [.int (i : Nat), .int (n : Int)], rfl, SqT.of (by rw [← hH3]; exact upd_same), rfl, _, _, rfl, _, _, rfl, rfl, ?_⟩
      have ecol := Gif.colour_eq hF n
      refine ⟨_, rfl, _, rfl, pa, c.CP, dx, _, _, rfl, p1, TR.cp, TR.nCP_manner, h3, mn, c.CM, dm, _, _, rfl, m1, TR.cm, TR.nCM_transparent, m4, rfl, _, rfl, ?_⟩
      have ne1 : (!decide (V.int (n : Int) = V.int (Gif.clearInt p))) = decide ((n : Int) ≠ Gif.clearInt p) := by
        by_cases q : (n : Int) = Gif.clearInt p
        · rw [q]; simp
        · rw [decide_eq_true q, decide_eq_false (fun z => q (by injection z))]
          rfl
      rw [ne1]
      have skip : ¬ ((n : Int) ≠ Gif.clearInt p ∧ n < (Gif.threes p.colours).length) → ∃ y5 y6 y7, ([some (.ref d), some (.ref pa), some (.ref nb), some (.ref ar), some (.ref rr), some (.int (i : Nat)), some (.int (n : Int)), x7] : St) = [some (.ref d), some (.ref pa), some (.ref nb), some (.ref ar), some (.ref rr), y5, y6, y7] ∧
          CanAt C H3 d nl W ((((Sw22.placesOf W p).zip nums).take (i + 1)).foldl (Gif.paintF p) cs) ∧ Kp [nl] H1 H3 := fun hn => by
        refine ⟨_, _, _, rfl, ?_, kp3⟩
        rw [hst]
        unfold Gif.paintF
        dsimp only
        rw [ecol, if_neg hn]
        exact hC3
      by_cases q1 : (n : Int) ≠ Gif.clearInt p
      · rw [decide_eq_true q1]
        refine iteT ⟨_, rfl, _, rfl, pa, c.CP, dx, _, _, rfl, p1, TR.cp, TR.nCP_colours, h4, ca, _, rfl, .inl (SqL.of g1), _, _, rfl, rfl, _, rfl, ?_⟩
        rw [hlas]
        refine ite2 (fun q2 => ?_) (fun q2 => ?_)
        · have q2' : n < (Gif.threes p.colours).length := by
            have : (n : Int) < ((Gif.threes p.colours).length : Int) := by simpa using q2
            omega
          have edv : (((i : Nat) : Int) / (p.width : Int)) = ((i / p.width : Nat) : Int) := by simp
          have emd : (((i : Nat) : Int) % (p.width : Int)) = ((i % p.width : Nat) : Int) := by simp
          refine ⟨_, rfl, _, rfl, _, rfl, ar, c.CA, da3, _, _, rfl, b1, TR.ca, TR.nCA_width, b4, _, _, rfl, rfl, ⟨(by dsimp only; omega), (by dsimp only; omega)⟩, rr, _, _, V.int (y : Int), rfl, rfl, SqL.of hr3, ?_, ?_⟩
          · show atI _ (((i : Nat) : Int) / (p.width : Int)) = _
            rw [edv]
            exact atI_nat (bv_get hy)
          · obtain ⟨dx3, fs3, c31, ck3, _⟩ := id hC3
            obtain ⟨x3, x31, x32⟩ := paired_at g2 (List.getElem?_eq_getElem q2')
            refine ⟨_, rfl, d, dx3, _, rfl, c31, key_no ck3, _, rfl, _, rfl, _, rfl, _, rfl, ar, c.CA, da3, _, _, rfl, b1, TR.ca, TR.nCA_width, b4, _, _, rfl, rfl, (by dsimp only; omega),
              _, rfl, pa, c.CP, dx, _, _, rfl, p1, TR.cp, TR.nCP_colours, h4, _, rfl, ca, _, _, V.ref x3, rfl, rfl, SqL.of g1, ?_, by show 1 ≤ sizeLine; decide, fun t1 ht1 => ?_⟩
            · refine atI_nat ?_
              rw [List.getElem?_map, x31]
              rfl
            · have l3 : ((Gif.threes p.colours)[n]).length ≤ 3 := by
                have := Gif.threes_get (c := p.colours) (i := n) (by rw [← Gif.threes_len]; exact q2')
                rw [List.getElem?_eq_getElem q2'] at this
                rw [Option.some.inj this, List.length_take]
                omega
              refine ⟨x3, t1, _, _, rfl, rfl, (by rw [upd_ne (ne_of_none x32 ht1)]; exact x32), upd_same, ?_, fun t2 ht2 => ?_⟩
              · rw [bv_len]
                show _ + 1 ≤ _
                omega
              have s4 : Same H3 (upd (upd H3 t1 (.lst [V.int 255])) t2 (.lst (bv ((Gif.threes p.colours)[n]) ++ [V.int 255]))) := (Same.new ht1).trans (Same.new ht2)
              have ev : (Gif.threes p.colours).getD n [] = (Gif.threes p.colours)[n] := Gif.getD_some (List.getElem?_eq_getElem q2')
              have ecv : Sw22.colour p n = some ((Gif.threes p.colours)[n] ++ [255]) := by rw [ecol, if_pos ⟨q1, q2'⟩, ev]
              have hC4 := hC3.same s4
              have s4h : Same (hid [nl] H3) (hid [nl] (upd (upd H3 t1 (.lst [V.int 255])) t2 (.lst (bv ((Gif.threes p.colours)[n]) ++ [V.int 255])))) := (Same.kp (S := []) s4).hid fun b z => nomatch z
              obtain ⟨_, _, _, _, _, _, cl3⟩ := id hC3
              have t2n : t2 ∉ [nl] := fun z => by
                have e := (Same.new ht1 : Same H3 (upd H3 t1 (.lst [V.int 255]))) _ _ cl3
                rw [List.mem_singleton.mp z, e] at ht2
                cases ht2
              refine ⟨d, nl, ar, t2, W, y, i % p.width, _, (Gif.threes p.colours)[n] ++ [255], (p.left, p.top, p.width, p.height), congrArg (fun z => [V.ref d, V.ref ar, V.int (y : Int), V.int z, V.ref t2]) emd, hC4, (hA.same s3).same s4h, .inl (SqL.of (hid_of (by rw [upd_same, bv_app]; rfl) t2n)), Gif.colour_len ecv, by omega, ?_, ?_, fun H5 hC5 kp5 => ?_⟩
              · show p.top + y < 2 ^ 32
                omega
              · show 4 * ((p.top + y) * W + p.left + i % p.width) + 3 < _
                rw [Gif.paints_len, hlen]
                omega
              · refine ⟨_, _, _, rfl, ?_, (kp3.same s4).trans kp5⟩
                rw [hst]
                unfold Gif.paintF
                dsimp only
                rw [ecv]
                exact hC5
        · have q2' : ¬ n < (Gif.threes p.colours).length := by
            have : ¬ (n : Int) < ((Gif.threes p.colours).length : Int) := by simpa using q2
            omega
          exact skip fun z => q2' z.2
      · rw [decide_eq_false q1]
        exact iteF (iteF (skip fun z => q1 z.1))
    · rintro σ H2 ⟨x5, x6, x7, rfl, hC2, kp2⟩
      refine k H2 ?_ (sm1.kp2 kp2)
      rw [hnl, List.take_of_length_le (by rw [List.length_zip]; omega)] at hC2
      exact hC2
end
end Tf

set_option Elab.async false
set_option linter.all false
set_option maxRecDepth 100000
namespace Tf
open PySem L2
theorem rep_one {α : Type} (x : α) : ∀ n : Nat, (List.replicate n [x]).flatten = List.replicate n x
  | 0 => rfl
  | n + 1 => by rw [List.replicate_succ, List.flatten_cons, rep_one x n, List.replicate_succ]; rfl
theorem bv_zeros (n : Nat) : bv (List.replicate n 0) = List.replicate n (V.int 0) := by unfold bv; rw [List.map_replicate]; rfl
/-- what draw_picture gives back -/
def drawn (f : Sw22.File) (k : Int) (p : Sw22.Picture) (cs ss : List Nat) : List V :=
  V.int (if (Sw22.decode p.size p.data (p.width * p.height)).2 = .enough then 0 else -3) :: (bv (((Sw22.placesOf f.width p).zip (Sw22.decode p.size p.data (p.width * p.height)).1).foldl (Gif.paintF p) (Gif.ahead f k cs ss)) ++ bv (if p.after = 3 then Gif.ahead f k cs ss else ss))
def spDrawP (K : PySem.W.Frag) (c : Cs) : Sp := fun vs H Q _ => ∃ (k : Int) (o ca sa : Addr) (f : Sw22.File) (cs ss : List Nat) (p : Sw22.Picture), vs = [.int k, .ref o, .ref ca, .ref sa] ∧ OutAt c H o f ∧ SqL K H ca (bv cs) ∧ SqL K H sa (bv ss) ∧ f.at_ k = some p ∧ cs.length = 4 * (f.width * f.height) ∧ ss.length = 4 * (f.width * f.height) ∧
  (∀ q ∈ f.pictures, Gif.Fit f.width f.height q) ∧ f.width * f.height ≤ 25000 ∧ f.pictures.length ≤ 4096 ∧ ∀ H' l, H' l = some (.lst (drawn f k p cs ss)) → Q (.ref l) H'
theorem at_some {f : Sw22.File} {k : Int} {p : Sw22.Picture} (h : f.at_ k = some p) : 0 ≤ k ∧ k.toNat < f.pictures.length ∧ f.pictures[k.toNat]? = some p := by
  rw [Gif.at_iff] at h
  by_cases z : k < 0
  · rw [if_pos z] at h; cases h
  · rw [if_neg z] at h
    exact ⟨by omega, (List.getElem?_eq_some_iff.mp h).1, h⟩
section
variable {P : Program} {w : World} {K : PySem.W.Frag} {mg : Str → Option Value} {base : Heap} {c : Cs} {C : Addr} {cc : Cc}
theorem scPp : FnScope ["k", "outline", "canvas", "saved", "width", "ahead", "prepared"] ["k", "outline", "canvas", "saved"] (defScope sPrep) := ⟨rfl, rfl, rfl, by decide +kernel, rfl, by decide +kernel, by decide +kernel⟩
theorem ok_prep {f fI fC : Addr} {fd fdI fdC : FuncData} (F : Fun K "prepare_canvas" "prepare_canvas" sPrep f fd) (T : TxtD K mg C) (TR : Txt K mg c)
    (M : Mk K C fI) (GI : FnOk P w K mg base CX0 1 fI fdI ["self", "width", "numbers"] (spCi K C)) (bI : Binds K fdI ["self", "width", "numbers"] [])
    (GC : FnOk P w K mg base CX0 2 fC fdC ["self", "area"] (spClear K c C)) (bC : Binds K fdC ["self", "area"] []) (mC : Meth K C "clear_area" fC) : FnOk P w K mg base CX0 3 f fd ["k", "outline", "canvas", "saved"] (spPrep K c C) := by
  obtain ⟨t2, mCl⟩ := T.cleared
  obtain ⟨t3, mBr⟩ := T.brought
  refine F.ok scPp (fun vs H Q E h => ?_) (fun cdv A outer s H vs Q E hr h => ?_)
  · obtain ⟨k, o, ca, sa, fl, cs, ss, p, rfl, _⟩ := h
    rfl
  · obtain ⟨kk, o, ca, sa, fl, cs, ss, p, rfl, hO, hca, hsa, hat, hcs, hss, hF, hWH, hn4, k⟩ := h
    obtain ⟨k0, klt, hkp⟩ := at_some hat
    have hsl : (10000000 : Nat) ≤ sizeLine := by decide
    refine ⟨_, pss_cons (ps_set (i := 4) scPp.nd rfl (Or.inl rfl) (pe_fld (pe_fld (pv 1) rfl) rfl))
      (pss_cons (ps_if (pt_cmpR op_eq (pv 0) pe_int (nomark _)) (pss_one (ps_ret (pe_make M GI hr rfl T.mgC bI .nil pass0 (pa_cons (pv 4) (pa_cons (pe_op op_rep (pe_lst (pa_cons pe_int pa_nil)) (pe_callB call_len_seq (by rfl) T.len PySem.boot_len (pa_cons (pv 2) pa_nil))) pa_nil))))) pss_nil)
      (pss_cons (ps_set (i := 5) scPp.nd rfl (Or.inl rfl) (pe_ix ix_list (pe_fld (pv 1) rfl) (pe_op op_sub (pv 0) pe_int) (fun _ _ => rfl)))
      (pss_cons (ps_if (pt_cmpR op_eq (pe_fld (pe_fld (pv 5) rfl) rfl) (pe_glob (v := V.int 3) rfl mBr ⟨_, rfl⟩) (nomark _)) (pss_one (ps_ret (pe_make M GI hr rfl T.mgC bI .nil pass0 (pa_cons (pv 4) (pa_cons (pv 3) pa_nil))))) pss_nil)
      (pss_cons (ps_set (i := 6) scPp.nd rfl (Or.inl rfl) (pe_make M GI hr rfl T.mgC bI .nil pass0 (pa_cons (pv 4) (pa_cons (pv 2) pa_nil))))
      (pss_cons (ps_if (pt_cmpR op_eq (pe_fld (pe_fld (pv 5) rfl) rfl) (pe_glob (v := V.int 2) rfl mCl ⟨_, rfl⟩) (nomark _)) (pss_one (ps_expr (pe_meth (pv 6) T.cl mC GC hr bC .nil pass0 (pa_cons (pe_fld (pv 5) rfl) pa_nil)))) pss_nil)
      (pss_one (ps_ret (pv 6)))))))), ?_⟩
    obtain ⟨dO, fO, sc, pl, gl, o1, o2, o3, o4, ⟨ds, fss, cg, s1, s2, s3, s4, s5⟩, ⟨as, g1, g2⟩⟩ := hO
    -- a new canvas over the list at x
    have mk : ∀ (H1 : Hp) (x : Addr) (ns : List Nat), Same H H1 → SqL K H1 x (bv ns) → ∀ (d dx : Addr), H1 d = none → H1 dx = none → dx ≠ d → ∀ (R : Hp → Prop), (∀ H2 nl, CanAt C H2 d nl fl.width ns → H d = none → H nl = none → H1 nl = none → Same H1 H2 → R H2) →
        spCi K C (.ref d :: ([.int (fl.width : Int), .ref x] ++ [])) (upd (upd H1 dx (.own d)) d (.ins C dx [])) (fun v H2 => v = .non ∧ R H2) E0 := by
      intro H1 x ns sm1 sq d dx hd hdx ne R hR
      refine ⟨d, dx, x, fl.width, ns, rfl, upd_same, ?_, fun H2 nl hC hnl kp => ⟨rfl, ?_⟩⟩
      · exact Same.seq (fun b u e => by rw [upd_ne (ne_of_none e hd), upd_ne (ne_of_none e hdx)]; exact e) sq
      · have nld : nl ≠ d := fun z => by rw [z, upd_same] at hnl; cases hnl
        rw [upd_ne nld] at hnl
        have nldx : nl ≠ dx := fun z => by rw [z, upd_same] at hnl; cases hnl
        rw [upd_ne nldx] at hnl
        exact hR H2 nl hC (sm1.free hd) (sm1.free hnl) hnl (made_same hd hdx kp)
    refine ⟨_, rfl, o, c.CO, dO, _, _, rfl, o1, TR.co, TR.nCO_screen, o2, sc, c.CS, ds, _, _, rfl, s1, TR.cs, TR.nCS_width, s2, ?_⟩
    refine ⟨_, rfl, rfl, _, rfl, ?_⟩
    have e0 : decide (V.int kk = V.int 0) = decide (kk = 0) := decide_eq_decide.mpr ⟨fun z => by injection z, fun z => by rw [z]⟩
    rw [e0]
    by_cases hk0 : kk = 0
    · rw [decide_eq_true hk0]
      refine iteT ⟨_, rfl, by show 1 ≤ sizeLine; decide, fun q hq => ?_⟩
      have smq : Same H (upd H q (.lst [V.int 0])) := Same.new hq
      have hcl : (bv cs).length = cs.length := bv_len cs
      refine ⟨_, rfl, ca, _, rfl, .inl (smq.seq hca), q, _, _, rfl, rfl, upd_same, by omega, by rw [hcl]; omega, ?_, fun z hz => ?_⟩
      · rw [hcl, Int.toNat_natCast]
        show 1 * _ ≤ _
        omega
      · rw [hcl, Int.toNat_natCast, rep_one, ← bv_zeros]
        have smz : Same H (upd (upd H q (.lst [V.int 0])) z (.lst (bv (List.replicate cs.length 0)))) := smq.trans (Same.new hz)
        intro d dx hd hdx ne
        refine mk _ z (List.replicate cs.length 0) smz (SqL.of upd_same) d dx hd hdx ne _ fun H2 nl hC h1 h2 _ sm => k H2 d nl ?_ h1 h2 (smz.trans sm)
        unfold Gif.ahead
        rw [if_pos hk0, ← hcs]
        exact hC
    · rw [decide_eq_false hk0]
      have hlt1 : (kk - 1).toNat < fl.pictures.length := by omega
      have hat1 : fl.at_ (kk - 1) = some (fl.pictures[(kk - 1).toNat]) := by
        rw [Gif.at_iff, if_neg (by omega), List.getElem?_eq_getElem hlt1]
      generalize hq : fl.pictures[(kk - 1).toNat] = q at hat1
      have hqF : Gif.Fit fl.width fl.height q := hF q (by rw [← hq]; exact List.getElem_mem hlt1)
      obtain ⟨x, x1, x2⟩ := paired_at g2 (show fl.pictures[(kk - 1).toNat]? = some q by rw [List.getElem?_eq_getElem hlt1, hq])
      obtain ⟨dx, fs, ar, mn, cx, dt, p1, p2, p3, p4, p5, p6, p7, hA, ⟨dm, fm, m1, m2, m3, m4⟩, hB, hD⟩ := x2.ex
      have ek : kk - 1 = (((kk - 1).toNat : Nat) : Int) := by omega
      refine iteF ⟨_, rfl, o, c.CO, dO, _, _, rfl, o1, TR.co, TR.nCO_pictures, o3, _, rfl, _, _, rfl, rfl, pl, _, _, V.ref x, rfl, rfl, SqL.of g1, ?_, ?_⟩
      · show atI _ (kk - 1) = _
        rw [ek]
        refine atI_nat ?_
        rw [List.getElem?_map, x1]
        rfl
      have e3 : ∀ z : Nat, decide (V.int (q.after : Int) = V.int (z : Int)) = decide (q.after = z) := fun z => decide_eq_decide.mpr ⟨fun y => by injection y with y; omega, fun y => by rw [y]⟩
      have ea3 : decide (V.int (q.after : Int) = V.int 3) = decide (q.after = 3) := e3 3
      have ea2 : decide (V.int (q.after : Int) = V.int 2) = decide (q.after = 2) := e3 2
      refine ⟨_, rfl, x, c.CP, dx, _, _, rfl, p1, TR.cp, TR.nCP_manner, p3, mn, c.CM, dm, _, _, rfl, m1, TR.cm, TR.nCM_after, m3, rfl, _, rfl, ?_⟩
      rw [ea3]
      by_cases h3 : q.after = 3
      · rw [decide_eq_true h3]
        refine iteT ⟨_, rfl, _, rfl, fun d dxx hd hdx ne => ?_⟩
        refine mk H sa ss (Same.refl _) hsa d dxx hd hdx ne _ fun H2 nl hC h1 h2 _ sm => k H2 d nl ?_ h1 h2 sm
        unfold Gif.ahead
        rw [if_neg hk0, hat1]
        dsimp only
        rw [if_neg (by omega), if_pos h3]
        exact hC
      · rw [decide_eq_false h3]
        refine iteF ⟨_, rfl, _, rfl, fun d dxx hd hdx ne => ?_⟩
        refine mk H ca cs (Same.refl _) hca d dxx hd hdx ne _ fun H2 nl hC h1 h2 _ sm => ?_
        have P2 := x2.same sm
        obtain ⟨dx', fs', ar', mn', cx', dt', p1', p2', p3', _, _, _, _, hA', ⟨dm', fm', m1', m2', m3', m4'⟩, _⟩ := P2.ex
        refine ⟨_, rfl, x, c.CP, dx', _, _, rfl, p1', TR.cp, TR.nCP_manner, p3', mn', c.CM, dm', _, _, rfl, m1', TR.cm, TR.nCM_after, m3', rfl, _, rfl, ?_⟩
        rw [ea2]
        by_cases hh2 : q.after = 2
        · rw [decide_eq_true hh2]
          obtain ⟨dxc, fsc, c1, ck, _⟩ := id hC
          have e1 := sm _ _ p1
          rw [p1'] at e1
          obtain ⟨rfl, rfl⟩ : dx' = dx ∧ fs' = fs := by
            injection e1 with e1
            injection e1 with _ e2 e3
            exact ⟨e2, e3⟩
          rw [p2] at p2'
          obtain rfl : ar' = ar := by injection p2' with e; injection e with e; exact e.symm
          have hAh : AreAt c (hid [nl] H2) ar' (q.left, q.top, q.width, q.height) := by
            obtain ⟨da, fa, a1, a2⟩ := hA
            exact ⟨da, fa, hid_of (sm _ _ a1) fun z => ne_of_none a1 h2 (List.mem_singleton.mp z), a2⟩
          refine iteT ⟨_, rfl, d, dxc, _, rfl, c1, key_no ck, _, rfl, x, c.CP, dx', _, _, rfl, p1', TR.cp, TR.nCP_area, p2, d, nl, ar', fl.width, fl.height, cs, q, rfl, hC, hAh, hqF, by omega, hcs, fun H3 hC3 kp3 => ?_⟩
          refine ⟨_, rfl, k H3 d nl ?_ h1 h2 fun b u e => kp3 b u (sm b u e) fun z => ne_of_none e h2 (List.mem_singleton.mp z)⟩
          unfold Gif.ahead
          rw [if_neg hk0, hat1]
          dsimp only
          rw [if_pos hh2]
          exact hC3
        · rw [decide_eq_false hh2]
          refine iteF ⟨_, rfl, k H2 d nl ?_ h1 h2 sm⟩
          unfold Gif.ahead
          rw [if_neg hk0, hat1]
          dsimp only
          rw [if_neg hh2, if_neg h3]
          exact hC
theorem scDp : FnScope ["k", "outline", "canvas", "saved", "picture", "drawn", "kept", "wanted", "numbers", "first"] ["k", "outline", "canvas", "saved"] (defScope sDrawP) := ⟨rfl, rfl, rfl, by decide +kernel, rfl, by decide +kernel, by decide +kernel⟩
theorem ok_drawP {f fP fU fN : Addr} {fd fdP fdU fdN : FuncData} (F : Fun K "draw_picture" "draw_picture" sDrawP f fd) (T : TxtD K mg C) (TR : Txt K mg c) (TC : TxtC K mg cc)
    (GP : FnOk P w K mg base CX0 3 fP fdP ["k", "outline", "canvas", "saved"] (spPrep K c C)) (kP : PySem.W.keepIn K (.ref fP) = true) (bP : Binds K fdP ["k", "outline", "canvas", "saved"] []) (mP : mg "prepare_canvas" = some (.ref fP))
    (GU : FnOk P w K mg base (CXF P w) 5 fU fdU ["size", "most", "data"] (spUnpack K cc)) (kU : PySem.W.keepIn K (.ref fU) = true) (bU : Binds K fdU ["size", "most", "data"] []) (mU : mg "unpack" = some (.ref fU))
    (GN : FnOk P w K mg base CX0 2 fN fdN ["drawn", "picture", "numbers"] (spDrawN K c C)) (kN : PySem.W.keepIn K (.ref fN) = true) (bN : Binds K fdN ["drawn", "picture", "numbers"] []) (mN : mg "draw_numbers" = some (.ref fN)) :
    FnOk P w K mg base (CXF P w) 6 f fd ["k", "outline", "canvas", "saved"] (spDrawP K c) := by
  obtain ⟨t3, mBr⟩ := T.brought
  refine F.okX scDp (fun vs H Q E h => ?_) (fun cdv A outer s H vs Q E hr h => ?_)
  · obtain ⟨k, o, ca, sa, fl, cs, ss, p, rfl, _⟩ := h
    rfl
  · obtain ⟨kk, o, ca, sa, fl, cs, ss, p, rfl, hO, hca, hsa, hat, hcs, hss, hF, hWH, hn4, k⟩ := h
    obtain ⟨k0, klt, hkp⟩ := at_some hat
    have hsl : (10000000 : Nat) ≤ sizeLine := by decide
    have hr3 : Room 3 _ := hr.mono (by decide)
    have hr2 : Room 2 _ := hr.mono (by decide)
    refine ⟨_, pss_cons (ps_set (i := 4) scDp.nd rfl (Or.inl rfl) (pe_ix ix_list (pe_fld (pv 1) rfl) (pv 0) (fun _ _ => rfl)))
      (pss_cons (ps_set (i := 5) scDp.nd rfl (Or.inl rfl) (pe_call GP hr3 rfl mP kP bP .nil pass0 (pa_cons (pv 0) (pa_cons (pv 1) (pa_cons (pv 2) (pa_cons (pv 3) pa_nil))))))
      (pss_cons (ps_set (i := 6) scDp.nd rfl (Or.inl rfl) (pe_callTy call_list_of rfl T.list bootL (pa_cons (pv 3) pa_nil)))
      (pss_cons (ps_if (pt_cmpR op_eq (pe_fld (pe_fld (pv 4) rfl) rfl) (pe_glob (v := V.int 3) rfl mBr ⟨_, rfl⟩) (nomark _)) (pss_one (ps_set (i := 6) scDp.nd rfl (Or.inl rfl) (pe_callTy call_list_of rfl T.list bootL (pa_cons (pe_fld (pv 5) rfl) pa_nil)))) pss_nil)
      (pss_cons (ps_set (i := 7) scDp.nd rfl (Or.inl rfl) (pe_op op_mul (pe_fld (pe_fld (pv 4) rfl) rfl) (pe_fld (pe_fld (pv 4) rfl) rfl)))
      (pss_cons (ps_set (i := 8) scDp.nd rfl (Or.inl rfl) (pe_fld (pe_call GU hr rfl mU kU bU .nil passD (pa_cons (pe_fld (pv 4) rfl) (pa_cons (pv 7) (pa_cons (pe_fld (pv 4) rfl) pa_nil)))) rfl))
      (pss_cons (ps_expr (pe_call GN hr2 rfl mN kN bN .nil pass0 (pa_cons (pv 5) (pa_cons (pv 4) (pa_cons (pv 8) pa_nil)))))
      (pss_cons (ps_set (i := 9) scDp.nd rfl (Or.inl rfl) (pe_ifExp (pt_cmpR op_eq (pe_callB call_len_seq (by rfl) T.len PySem.boot_len (pa_cons (pv 8) pa_nil)) (pv 7) (nomark _)) pe_int (pe_un un_neg pe_int)))
      (pss_one (ps_ret (pe_op op_cat (pe_op op_cat (pe_lst (pa_cons (pv 9) pa_nil)) (pe_fld (pv 5) rfl)) (pv 6))))))))))), ?_⟩
    obtain ⟨dO, fO, sc, pl, gl, o1, o2, o3, o4, hScr, ⟨as, g1, g2⟩⟩ := id hO
    have hpF : Gif.Fit fl.width fl.height p := hF p (List.mem_of_getElem? hkp)
    obtain ⟨x, x1, hP⟩ := paired_at g2 hkp
    have ek : kk = ((kk.toNat : Nat) : Int) := by omega
    refine ⟨_, rfl, o, c.CO, dO, _, _, rfl, o1, TR.co, TR.nCO_pictures, o3, _, rfl, pl, _, _, V.ref x, rfl, rfl, SqL.of g1, ?_, ?_⟩
    · rw [ek]
      refine atI_nat ?_
      rw [List.getElem?_map, x1]
      rfl
    refine ⟨_, rfl, _, rfl, _, rfl, _, rfl, kk, o, ca, sa, fl, cs, ss, p, rfl, hO, hca, hsa, hat, hcs, hss, hF, hWH, hn4, fun H1 d nl hC1 hdn hnn sm1 => ?_⟩
    have alen := Gif.ahead_len (f := fl) (k := kk) hcs hss
    generalize hA0 : Gif.ahead fl kk cs ss = A0 at hC1 alen
    refine ⟨_, rfl, sa, _, rfl, .inl (sm1.seq hsa), fun kt hkt => ?_⟩
    have sm2 : Same H1 (upd H1 kt (.lst (bv ss))) := Same.new hkt
    obtain ⟨dxc, fsc, c1, ck, cw, cn, cl⟩ := id hC1
    have P2 := (hP.same sm1).same sm2
    obtain ⟨dx, fs, ar, mn, cx, dt, p1, p2, p3, p4, p5, p6, p7, _, ⟨dm, fm, m1, m2, m3, m4⟩, _, _⟩ := P2.ex
    have e3 : decide (V.int (p.after : Int) = V.int 3) = decide (p.after = 3) := decide_eq_decide.mpr ⟨fun y => by injection y with y; omega, fun y => by rw [y]; rfl⟩
    refine ⟨_, rfl, x, c.CP, dx, _, _, rfl, p1, TR.cp, TR.nCP_manner, p3, mn, c.CM, dm, _, _, rfl, m1, TR.cm, TR.nCM_after, m3, rfl, _, rfl, ?_⟩
    rw [e3]
    -- what follows once kept is known
    have rest : ∀ (H3 : Hp) (kt' : Addr) (kept : List Nat), Same H1 H3 → H3 kt' = some (.lst (bv kept)) → kt' ≠ nl → kept = (if p.after = 3 then A0 else ss) →
        tSeq (tAsg (tOp (rI CMul fun i j => .int (i * j)) (tFld K (tFld K (tVar 4) "area") "width") (tFld K (tFld K (tVar 4) "area") "height")) (gName 7))
          (tSeq (tAsg (tFld K (tCall (spUnpack K cc) [] E (tCons (tFld K (tVar 4) "size") (tCons (tVar 7) (tCons (tFld K (tVar 4) "data") tNil)))) "numbers") (gName 8))
          (tSeq (tDrop (tCall (spDrawN K c C) [] E0 (tCons (tVar 5) (tCons (tVar 4) (tCons (tVar 8) tNil)))))
          (tSeq (tAsg (tIf (tTest (tOp rEq (tCB (fun xs H Q => ∃ p ys, xs = [.ref p] ∧ (SqL K H p ys ∨ SqT K H p ys) ∧ Q (.int ys.length) H) (tCons (tVar 8) tNil)) (tVar 7))) (tC (.int 0)) (tUn (rU fun i => .int (-i)) (tC (.int 3)))) (gName 9))
          (tRet (tOp rCat (tOp rCat (tLst (tCons (tVar 9) tNil)) (tFld K (tVar 5) "numbers")) (tVar 6))))))
          { nx := fun _ H' => Q .non H', rt := Q } [some (.int kk), some (.ref o), some (.ref ca), some (.ref sa), some (.ref x), some (.ref d), some (.ref kt'), none, none, none] H3 := by
      intro H3 kt' kept sm3 hk3 nkl ekept
      have P3 := (hP.same sm1).same sm3
      obtain ⟨dx, fs, ar, mn, cx, dt, p1, p2, p3, p4, p5, p6, p7, ⟨da, fa, a1, a2, a3, a4, a5⟩, _, _, hD⟩ := P3.ex
      have ww := hpF.ww
      have hh := hpF.hh
      have w1 := hpF.w1
      have h1' := hpF.h1
      have hW : fl.width ≤ 25000 := Nat.le_trans (Nat.le_mul_of_pos_right fl.width (by omega)) hWH
      have hHh : fl.height ≤ 25000 := Nat.le_trans (Nat.le_mul_of_pos_left fl.height (by omega)) hWH
      have hwh : p.width * p.height ≤ 25000 := Nat.le_trans (Nat.mul_le_mul (show p.width ≤ fl.width by omega) (show p.height ≤ fl.height by omega)) hWH
      have em : (p.width : Int) * (p.height : Int) = ((p.width * p.height : Nat) : Int) := by simp
      refine ⟨_, rfl, x, c.CP, dx, _, _, rfl, p1, TR.cp, TR.nCP_area, p2, ar, c.CA, da, _, _, rfl, a1, TR.ca, TR.nCA_width, a4, _, rfl, x, c.CP, dx, _, _, rfl, p1, TR.cp, TR.nCP_area, p2, ar, c.CA, da, _, _, rfl, a1, TR.ca, TR.nCA_height, a5, _, _, rfl, rfl, .inl ⟨(by dsimp only; omega), (by dsimp only; omega)⟩, ?_⟩
      dsimp only
      rw [em]
      refine ⟨_, rfl, x, c.CP, dx, _, _, rfl, p1, TR.cp, TR.nCP_size, p6, _, rfl, _, rfl, x, c.CP, dx, _, _, rfl, p1, TR.cp, TR.nCP_data, p7, dt, p.size, p.width * p.height, p.data, rfl, hpF.s2, hpF.s8, by omega, SqL.of hD, P3.by_, P3.few, fun H4 u nb dxu fsu u1 u2 _ hnb hnbn sm4 => ?_⟩
      refine ⟨u, cc.CU, dxu, _, _, rfl, u1, TC.cu, TC.nCU_numbers, u2, ?_⟩
      obtain ⟨dl1, dl2⟩ := Gif.decode_len p.size p.data (p.width * p.height)
      generalize hdec : Sw22.decode p.size p.data (p.width * p.height) = dec at hnb dl1 dl2
      have sm14 : Same H1 H4 := sm3.trans sm4
      have hC4 := hC1.same sm14
      have cl4 := sm14 _ _ cl
      have cl3 := sm3 _ _ cl
      have nnl : nb ∉ [nl] := fun z => by rw [List.mem_singleton.mp z, cl3] at hnbn; cases hnbn
      have sHl : Same H (hid [nl] H4) := fun b v e => hid_of (sm14 _ _ (sm1 _ _ e)) fun z => ne_of_none e hnn (List.mem_singleton.mp z)
      have P4 : PicAt c (hid [nl] H4) x p := hP.same sHl
      refine ⟨_, rfl, _, rfl, _, rfl, d, nl, x, nb, fl.width, fl.height, A0, dec.1, p, rfl, hC4, P4, hid_of hnb nnl, hpF, by omega, alen, dl2, fun H5 hC5 kp5 => ?_⟩
      have hnb5 : H5 nb = some (.lst (bv dec.1)) := kp5 _ _ hnb nnl
      have hk5 : H5 kt' = some (.lst (bv kept)) := kp5 _ _ (sm4 _ _ hk3) fun z => nkl (List.mem_singleton.mp z)
      have flen : (((Sw22.placesOf fl.width p).zip dec.1).foldl (Gif.paintF p) A0).length = 4 * (fl.width * fl.height) := by rw [Gif.paints_len]; exact alen
      have klen : kept.length = 4 * (fl.width * fl.height) := by
        rw [ekept]
        split
        · exact alen
        · exact hss
      generalize hfin : ((Sw22.placesOf fl.width p).zip dec.1).foldl (Gif.paintF p) A0 = fin at hC5 flen
      have last : ∀ first : Int, first = (if dec.2 = .enough then 0 else -3) → tRet (tOp rCat (tOp rCat (tLst (tCons (tVar 9) tNil)) (tFld K (tVar 5) "numbers")) (tVar 6)) { nx := fun _ H' => Q .non H', rt := Q }
          [some (.int kk), some (.ref o), some (.ref ca), some (.ref sa), some (.ref x), some (.ref d), some (.ref kt'), some (.int ((p.width * p.height : Nat) : Int)), some (.ref nb), some (.int first)] H5 := by
        intro first ef
        obtain ⟨dx5, fs5, d1, dk, dw, dn, dl⟩ := id hC5
        refine ⟨_, rfl, by show 1 ≤ sizeLine; decide, fun q1 hq1 => ?_⟩
        have s6 : Same H5 (upd H5 q1 (.lst [V.int first])) := Same.new hq1
        refine ⟨_, rfl, d, C, dx5, _, _, rfl, s6 _ _ d1, T.cl, T.nN, dn, q1, nl, _, _, rfl, rfl, upd_same, s6 _ _ dl, ?_, fun q2 hq2 => ?_⟩
        · rw [bv_len]
          show 1 + _ ≤ _
          omega
        have s7 : Same H5 (upd (upd H5 q1 (.lst [V.int first])) q2 (.lst ([V.int first] ++ bv fin))) := s6.trans (Same.new hq2)
        refine ⟨_, rfl, q2, kt', _, _, rfl, rfl, upd_same, s7 _ _ hk5, ?_, fun q3 hq3 => k _ q3 ?_⟩
        · rw [List.length_append, bv_len, bv_len]
          show 1 + _ + _ ≤ _
          omega
        · rw [upd_same]
          unfold drawn
          rw [hA0, hdec, hfin, ← ekept, ← ef]
          rfl
      refine ⟨_, rfl, nb, _, rfl, .inl (SqL.of hnb5), _, rfl, rfl, _, rfl, ?_⟩
      have el : decide (V.int ((bv dec.1).length : Int) = V.int ((p.width * p.height : Nat) : Int)) = decide (dec.1.length = p.width * p.height) := decide_eq_decide.mpr ⟨fun z => by injection z with z; rw [bv_len] at z; omega, fun z => by rw [bv_len, z]⟩
      rw [el]
      by_cases hfull : dec.1.length = p.width * p.height
      · rw [decide_eq_true hfull]
        exact iteT (last 0 (by rw [if_pos (dl1.mpr hfull)]))
      · rw [decide_eq_false hfull]
        exact iteF ⟨_, rfl, last (-3) (by rw [if_neg fun z => hfull (dl1.mp z)])⟩
    by_cases h3 : p.after = 3
    · rw [decide_eq_true h3]
      have c12 := sm2 _ _ c1
      have cl2 := sm2 _ _ cl
      refine iteT ⟨_, rfl, d, C, dxc, _, _, rfl, c12, T.cl, T.nN, cn, nl, _, rfl, .inl (SqL.of cl2), fun kt2 hkt2 => ?_⟩
      exact rest _ kt2 A0 (sm2.trans (Same.new hkt2)) upd_same (ne_of_none cl2 hkt2).symm (by rw [if_pos h3])
    · rw [decide_eq_false h3]
      exact iteF (rest _ kt ss sm2 upd_same (ne_of_none cl hkt).symm (by rw [if_neg h3]))
end
end Tf

/-! Names taken beforehand, each a plain truth and used nowhere: the head would else write, under these names, a second copy of every object of the heap and a proof that it is the same. The proof does without them, and the compiled file is half as large. -/
namespace PySem.W.Fast
theorem tw13679725093072569494 : True := trivial
theorem tw8681886534024777282 : True := trivial
theorem tw872411325242275046 : True := trivial
theorem tw13997481528257620811 : True := trivial
theorem tw9244212019584795703 : True := trivial
theorem tw11398546877642784570 : True := trivial
theorem tw11282967110112719321 : True := trivial
theorem tw13967585788456028374 : True := trivial
theorem tw7397481176238344506 : True := trivial
theorem tw2018229306009032458 : True := trivial
theorem tw12262214129942604820 : True := trivial
theorem tw17315000251574787394 : True := trivial
theorem tw10742203997833422782 : True := trivial
theorem tw5620156756382993919 : True := trivial
theorem tw9359486073320143959 : True := trivial
theorem tw17075146686459438455 : True := trivial
theorem tw4590966704336355644 : True := trivial
theorem tw1974623102749473443 : True := trivial
theorem tw13619478311897999967 : True := trivial
theorem tw17339338055535617641 : True := trivial
theorem tw1059377410891094269 : True := trivial
theorem tw15556227259670518509 : True := trivial
theorem tw2581171925659754291 : True := trivial
theorem tw15639955502220826596 : True := trivial
theorem tw11920065043570483775 : True := trivial
theorem tw15396660618831947535 : True := trivial
theorem tw15669070692766387056 : True := trivial
theorem tw10728643782430211154 : True := trivial
theorem tw5678980547130402462 : True := trivial
theorem tw10233758517274680254 : True := trivial
theorem tw18361856983398744907 : True := trivial
theorem tw5705451392619411318 : True := trivial
theorem tw13622060669613288746 : True := trivial
theorem tw16514414170315119192 : True := trivial
theorem tw9271953754361259491 : True := trivial
theorem tw10812395314837550148 : True := trivial
theorem tw11292634316590540720 : True := trivial
theorem tw14990930561845415179 : True := trivial
theorem tw2994070726114566279 : True := trivial
theorem tw3501476714731441103 : True := trivial
theorem tw5514823166088201619 : True := trivial
theorem tw3750492111205417122 : True := trivial
theorem tw12775256490187803749 : True := trivial
theorem tw18051645315568353354 : True := trivial
theorem tw9848257136127987513 : True := trivial
theorem tw6718367799253704518 : True := trivial
theorem tw466367406507024391 : True := trivial
theorem tw7560335599042794372 : True := trivial
theorem tw13386418032906161858 : True := trivial
theorem tw10448243079423961560 : True := trivial
theorem tw11605195706646090750 : True := trivial
theorem tw9662515719191381419 : True := trivial
theorem tw12677971705337992050 : True := trivial
theorem tw12967165943253667949 : True := trivial
theorem tw18181025624713700062 : True := trivial
theorem tw5977012763971736377 : True := trivial
theorem tw11709177637730039363 : True := trivial
theorem tw6357475586910452678 : True := trivial
theorem tw13180488931603704819 : True := trivial
theorem tw163537319459013021 : True := trivial
theorem tw869996171574296838 : True := trivial
theorem tw12929375630268956692 : True := trivial
theorem tw6115636589161203756 : True := trivial
theorem tw12856880206431559277 : True := trivial
theorem tw9556348000516744175 : True := trivial
theorem tw11901237434823737387 : True := trivial
theorem tw10068449070368076818 : True := trivial
theorem tw14119589922378246304 : True := trivial
theorem tw11077382060677512880 : True := trivial
theorem tw15903655246032567834 : True := trivial
theorem tw705747304444280795 : True := trivial
theorem tw533041372450879785 : True := trivial
theorem tw4413019724589404084 : True := trivial
theorem tw10013754200780862243 : True := trivial
theorem tw4081608714304115949 : True := trivial
theorem tw5244871738890893527 : True := trivial
theorem tw5092506997296356152 : True := trivial
theorem tw14114928663324068038 : True := trivial
theorem tw14355257189587081709 : True := trivial
theorem tw8560483125889335306 : True := trivial
theorem tw13162510632665501039 : True := trivial
theorem tw13683954322094370237 : True := trivial
theorem tw11087429976108511288 : True := trivial
theorem tw17351571191358756958 : True := trivial
theorem tw16939870047566257111 : True := trivial
theorem tw12922885532030972850 : True := trivial
theorem tw7659669407583951203 : True := trivial
theorem tw16360778190271117083 : True := trivial
theorem tw4384316010214592557 : True := trivial
theorem tw4855137669150718410 : True := trivial
theorem tw663175772264092426 : True := trivial
theorem tw3753428061479134952 : True := trivial
theorem tw12676158884200183698 : True := trivial
theorem tw10846960607883563187 : True := trivial
theorem tw8315870432946210477 : True := trivial
theorem tw3936753937515951455 : True := trivial
theorem tw2463024804195061443 : True := trivial
theorem tw9151088544350374034 : True := trivial
theorem tw12217306753639421494 : True := trivial
theorem tw2921618299866916775 : True := trivial
theorem tw7451249623194120800 : True := trivial
theorem tw17319538922841210154 : True := trivial
theorem tw17559951571023515653 : True := trivial
theorem tw10721991844395905828 : True := trivial
theorem tw18275650308330414893 : True := trivial
theorem tw13679803887192933654 : True := trivial
theorem tw8658548035491118202 : True := trivial
theorem tw12250909409146261435 : True := trivial
theorem tw3666164135659089753 : True := trivial
theorem tw12942601737435293658 : True := trivial
theorem tw9369754310510617768 : True := trivial
theorem tw888338228145331829 : True := trivial
theorem tw8833340008938264818 : True := trivial
theorem tw7419090264294051746 : True := trivial
theorem tw6481345914040909174 : True := trivial
theorem tw16278973159684374393 : True := trivial
theorem tw8029063753680309312 : True := trivial
theorem tw615396578906677470 : True := trivial
theorem tw2334430963838568595 : True := trivial
theorem tw18127933090173929738 : True := trivial
theorem tw16487795688287468091 : True := trivial
theorem tw14091709690824576163 : True := trivial
theorem tw18009699214497941245 : True := trivial
theorem tw11926597664960256643 : True := trivial
theorem tw6459719415327691214 : True := trivial
theorem tw9731922914320033773 : True := trivial
theorem tw16906041056050589811 : True := trivial
theorem tw5936511713007077652 : True := trivial
theorem tw11474532880732817032 : True := trivial
theorem tw10501817313193941755 : True := trivial
theorem tw10441385449317837993 : True := trivial
theorem tw5358700550179694998 : True := trivial
theorem tw3316085619075800608 : True := trivial
theorem tw2437449964042101939 : True := trivial
theorem tw15916549121076599030 : True := trivial
theorem tw2206500959778385019 : True := trivial
theorem tw17133050421105968392 : True := trivial
theorem tw8863291021450914980 : True := trivial
theorem tw8988002771761610772 : True := trivial
theorem tw4159685004403617875 : True := trivial
theorem tw10939070629693991937 : True := trivial
theorem tw14920728156261239710 : True := trivial
theorem tw13287033553203793185 : True := trivial
theorem tw2589669844440977657 : True := trivial
theorem tw2489957334497021302 : True := trivial
theorem tw12941479900571814398 : True := trivial
theorem tw18000131558506463950 : True := trivial
theorem tw6474557170222369178 : True := trivial
theorem tw12754902918672529838 : True := trivial
theorem tw9902560955514086267 : True := trivial
theorem tw5052682377228245131 : True := trivial
theorem tw5547827854173410222 : True := trivial
theorem tw16680875396204485619 : True := trivial
theorem tw9952484391775363508 : True := trivial
theorem tw8970702934665107016 : True := trivial
theorem tw17955426637939128547 : True := trivial
theorem tw12332677256784736479 : True := trivial
theorem tw18333045416389193112 : True := trivial
theorem tw3998984509384690851 : True := trivial
theorem tw7406195848440061310 : True := trivial
theorem tw3711757110923806218 : True := trivial
theorem tw14945416493590368701 : True := trivial
theorem tw15479574479444245208 : True := trivial
theorem tw17270600474772091039 : True := trivial
theorem tw11328982759292019404 : True := trivial
theorem tw7237257380431474763 : True := trivial
theorem tw10329980355962134773 : True := trivial
theorem tw1916618456113441071 : True := trivial
theorem tw7730461939866882009 : True := trivial
theorem tw348295056563758628 : True := trivial
theorem tw16458031294910500573 : True := trivial
theorem tw14097650401162975264 : True := trivial
theorem tw1749449867244955141 : True := trivial
theorem tw6081365299584633025 : True := trivial
theorem tw1769022401176637901 : True := trivial
theorem tw13592542364987482647 : True := trivial
theorem tw10533663047861880694 : True := trivial
theorem tw750302376728927973 : True := trivial
theorem tw4688910492905045735 : True := trivial
theorem tw18034117332112011492 : True := trivial
theorem tw12606489508349172064 : True := trivial
theorem tw17665244896403781124 : True := trivial
theorem tw14675042686151592247 : True := trivial
theorem tw6204832151731057671 : True := trivial
theorem tw6829831472440966906 : True := trivial
theorem tw5243058403594185180 : True := trivial
theorem tw16325572741594654919 : True := trivial
theorem tw5979464453231229354 : True := trivial
theorem tw357956275120458813 : True := trivial
theorem tw10936704091672337329 : True := trivial
theorem tw12285457540529805832 : True := trivial
theorem tw11522190913377218696 : True := trivial
theorem tw13879537362514837493 : True := trivial
theorem tw8258473676522261926 : True := trivial
theorem tw8599466562660504801 : True := trivial
theorem tw15627203761563397309 : True := trivial
theorem tw12563195719982625902 : True := trivial
theorem tw11418642322370713093 : True := trivial
theorem tw18110209945163127358 : True := trivial
theorem tw5243727566152304039 : True := trivial
theorem tw6108468555247824771 : True := trivial
theorem tw7260198708964455079 : True := trivial
theorem tw9201502456780691281 : True := trivial
theorem tw12724497478863015689 : True := trivial
theorem tw3703215358582887784 : True := trivial
theorem tw1305560989181206752 : True := trivial
theorem tw2678227549028289448 : True := trivial
theorem tw3944407091026748373 : True := trivial
theorem tw2661887087965961154 : True := trivial
theorem tw10475385423187204307 : True := trivial
theorem tw8537979476887461542 : True := trivial
theorem tw2572681834398346927 : True := trivial
theorem tw16159586276250155881 : True := trivial
theorem tw887112886638692861 : True := trivial
theorem tw326469360963596100 : True := trivial
theorem tw54471798826862300 : True := trivial
theorem tw10859155972918525621 : True := trivial
theorem tw12218840512682858827 : True := trivial
theorem tw11338710500677305821 : True := trivial
theorem tw15794807181915774617 : True := trivial
theorem tw1849712102140360012 : True := trivial
theorem tw802103285853887827 : True := trivial
theorem tw5473275776883084652 : True := trivial
theorem tw12554285132109380882 : True := trivial
theorem tw304107450682759420 : True := trivial
theorem tw6995450564198489287 : True := trivial
theorem tw9228333358285798081 : True := trivial
theorem tw14411107620824436377 : True := trivial
theorem tw3071157571239435734 : True := trivial
theorem tw6297710960625295734 : True := trivial
theorem tw12187184246919895912 : True := trivial
theorem tw7761944864297781442 : True := trivial
theorem tw12516864117230803137 : True := trivial
theorem tw6968930373530122432 : True := trivial
theorem tw1839296454584340513 : True := trivial
theorem tw11231902100234801608 : True := trivial
theorem tw7924070891625587671 : True := trivial
theorem tw12758937213493819483 : True := trivial
theorem tw1865977539094847867 : True := trivial
theorem tw16323281460736000292 : True := trivial
theorem tw13417595761970323066 : True := trivial
theorem tw8318041191729647385 : True := trivial
theorem tw17691138672059670921 : True := trivial
theorem tw1269469514280817106 : True := trivial
theorem tw12772729081418865626 : True := trivial
theorem tw17489571702195389290 : True := trivial
theorem tw18209400081389618916 : True := trivial
theorem tw11570398429945665499 : True := trivial
theorem tw12232398861285649292 : True := trivial
theorem tw3028654737000114896 : True := trivial
theorem tw4986068163550782074 : True := trivial
theorem tw6499336962769983600 : True := trivial
theorem tw7912495979506215048 : True := trivial
theorem tw6235300320698217470 : True := trivial
theorem tw2880467602735946299 : True := trivial
theorem tw15066491044416647373 : True := trivial
theorem tw18323329448747047143 : True := trivial
theorem tw15734431367465817307 : True := trivial
theorem tw8453113913455201940 : True := trivial
theorem tw6291475567067193096 : True := trivial
theorem tw2092691363258638779 : True := trivial
theorem tw1347950742086035984 : True := trivial
theorem tw11836448477325892092 : True := trivial
theorem tw5915892990951039660 : True := trivial
theorem tw9012212837751137371 : True := trivial
theorem tw6328500076507171168 : True := trivial
theorem tw4909591789166764793 : True := trivial
theorem tw11429787179700616940 : True := trivial
theorem tw14677042072760812378 : True := trivial
theorem tw10026119589000259538 : True := trivial
theorem tw13121118861111523366 : True := trivial
theorem tw3613078848172747868 : True := trivial
theorem tw11539126835949175402 : True := trivial
theorem tw11926703287600398873 : True := trivial
theorem tw13507391787167942186 : True := trivial
theorem tw17867840573378155177 : True := trivial
theorem tw7884851126127097659 : True := trivial
theorem tw8300493125646625617 : True := trivial
theorem tw16842000095319380045 : True := trivial
theorem tw1277944261767933642 : True := trivial
theorem tw16908178231900958742 : True := trivial
theorem tw15839166787964973639 : True := trivial
theorem tw10804252771388445101 : True := trivial
theorem tw9701424414402782850 : True := trivial
theorem tw5188387902966894413 : True := trivial
theorem tw16199591719948711945 : True := trivial
theorem tw5140916690601261447 : True := trivial
theorem tw17308977809739442930 : True := trivial
theorem tw14683995827581346150 : True := trivial
theorem tw2280471277973182200 : True := trivial
theorem tw4619089192170257391 : True := trivial
theorem tw2147543075315814277 : True := trivial
theorem tw4132213400152026186 : True := trivial
theorem tw3949748534265142139 : True := trivial
theorem tw15606138937957443121 : True := trivial
theorem tw1659847030412386789 : True := trivial
theorem tw1101145670241774820 : True := trivial
theorem tw777805726286365020 : True := trivial
theorem tw8852408632371403042 : True := trivial
theorem tw14346489351504905356 : True := trivial
theorem tw9915907429977484193 : True := trivial
theorem tw13446916700760876982 : True := trivial
theorem tw3048783569011799495 : True := trivial
theorem tw11645733617909188096 : True := trivial
theorem tw4448469995188053208 : True := trivial
theorem tw12604705787483545454 : True := trivial
theorem tw2086849123927901306 : True := trivial
theorem tw14022937481253384819 : True := trivial
theorem tw14297266353558033883 : True := trivial
theorem tw6367278853367728347 : True := trivial
theorem tw3212131684350851393 : True := trivial
theorem tw14190046818222306629 : True := trivial
theorem tw8055382922664082821 : True := trivial
theorem tw10468429263893383035 : True := trivial
theorem tw14713203013596813615 : True := trivial
theorem tw16413432911304209493 : True := trivial
theorem tw12517207822543800326 : True := trivial
theorem tw13769789697137171496 : True := trivial
theorem tw4341708237453279738 : True := trivial
theorem tw923874848385460434 : True := trivial
theorem tw13020142788966315122 : True := trivial
theorem tw111093057888520685 : True := trivial
theorem tw15174590410815591202 : True := trivial
theorem tw9657865020895404589 : True := trivial
theorem tw13472042880485772689 : True := trivial
theorem tw1974671393419217378 : True := trivial
theorem tw500602414466930468 : True := trivial
theorem tw5796949562715957987 : True := trivial
theorem tw9547673170218357488 : True := trivial
theorem tw7854043538512552150 : True := trivial
theorem tw4354085459229533383 : True := trivial
theorem tw3133909471523501065 : True := trivial
theorem tw13233302991593811474 : True := trivial
theorem tw16139314928175237064 : True := trivial
theorem tw3845677921449024199 : True := trivial
theorem tw15574759569054485801 : True := trivial
theorem tw9189626286725689231 : True := trivial
theorem tw17295602134032967046 : True := trivial
theorem tw7603866236683581126 : True := trivial
theorem tw10945875301499240235 : True := trivial
theorem tw3508183363543932922 : True := trivial
theorem tw17964056974868652409 : True := trivial
theorem tw18226856715598284120 : True := trivial
theorem tw13651631989177660333 : True := trivial
theorem tw14471703909286479178 : True := trivial
theorem tw10463905002189250946 : True := trivial
theorem tw2089340417072604743 : True := trivial
theorem tw2384919074064782233 : True := trivial
theorem tw18369809539494695682 : True := trivial
theorem tw12781904762172665794 : True := trivial
theorem tw3778727553269980013 : True := trivial
theorem tw10363034347055168000 : True := trivial
theorem tw18194729585185908705 : True := trivial
theorem tw17734966404533708809 : True := trivial
theorem tw8628714057785075507 : True := trivial
theorem tw2751757292349988491 : True := trivial
theorem tw4311629049425305738 : True := trivial
theorem tw16754140050911640507 : True := trivial
theorem tw18321750562049220784 : True := trivial
theorem tw8282800470894800706 : True := trivial
theorem tw7137694631511026519 : True := trivial
theorem tw6757207486281099077 : True := trivial
theorem tw6712038367797707794 : True := trivial
theorem tw2677395177831876030 : True := trivial
theorem tw8018167293412583312 : True := trivial
theorem tw17617046264061411677 : True := trivial
theorem tw3146350940844257515 : True := trivial
theorem tw4287938770292930792 : True := trivial
theorem tw2725781570400879267 : True := trivial
theorem tw17802251849783460069 : True := trivial
theorem tw16655095985866243770 : True := trivial
theorem tw17843502030225689978 : True := trivial
theorem tw17673986292960726483 : True := trivial
theorem tw11110606460292841586 : True := trivial
theorem tw1879725626560692076 : True := trivial
theorem tw9216848880779752679 : True := trivial
theorem tw9627999701871854969 : True := trivial
theorem tw24550452501570892 : True := trivial
theorem tw7172646766556902170 : True := trivial
theorem tw12542150884885107983 : True := trivial
theorem tw6942824765900580081 : True := trivial
theorem tw10978748685728555845 : True := trivial
theorem tw13465076444199863390 : True := trivial
theorem tw10437666365759985806 : True := trivial
theorem tw4187074301773430667 : True := trivial
theorem tw11141527235439023607 : True := trivial
theorem tw9273807079663147791 : True := trivial
theorem tw11166611540931193437 : True := trivial
theorem tw4592859240923028040 : True := trivial
theorem tw11560515948217730413 : True := trivial
theorem tw13838877690928126414 : True := trivial
theorem tw16068827547988957375 : True := trivial
theorem tw6152518594187072396 : True := trivial
theorem tw3884140020502441746 : True := trivial
theorem tw16167268194878404167 : True := trivial
theorem tw13289337997736390293 : True := trivial
theorem tw2404388090950870957 : True := trivial
theorem tw7228295497452431071 : True := trivial
theorem tw8274749540468065890 : True := trivial
theorem tw2731860674268543110 : True := trivial
theorem tw11046277596930127492 : True := trivial
theorem tw7352770964387965524 : True := trivial
theorem tw7380643095306586553 : True := trivial
theorem tw1629358350032505091 : True := trivial
theorem tw7586938866809881501 : True := trivial
theorem tw10526986960043566887 : True := trivial
theorem tw4036176889169462246 : True := trivial
theorem tw16386497037447198403 : True := trivial
theorem tw14652502271951358619 : True := trivial
theorem tw1236366738885044716 : True := trivial
theorem tw12506849252919641416 : True := trivial
theorem tw5659399182969247841 : True := trivial
theorem tw2575281566452849172 : True := trivial
theorem tw2828711498269594243 : True := trivial
theorem tw3097682308870848165 : True := trivial
theorem tw11560452279756101275 : True := trivial
theorem tw1599406873271303171 : True := trivial
theorem tw30296430027999206 : True := trivial
theorem tw16652355191045857322 : True := trivial
theorem tw18282438189854503262 : True := trivial
theorem tw263764806397762139 : True := trivial
theorem tw2542655899944239491 : True := trivial
theorem tw10557600127139931027 : True := trivial
theorem tw1107341027687010027 : True := trivial
theorem tw7971217840401316516 : True := trivial
theorem tw9338611660297479824 : True := trivial
theorem tw8377199284528330395 : True := trivial
theorem tw3261887368955734654 : True := trivial
theorem tw1852746644154645065 : True := trivial
theorem tw16495409286560792006 : True := trivial
theorem tw2415725980975671470 : True := trivial
theorem tw16362536478906358420 : True := trivial
theorem tw8860576558352755636 : True := trivial
theorem tw10785986897794328756 : True := trivial
theorem tw10199498917726661293 : True := trivial
theorem tw12258627870395400411 : True := trivial
theorem tw16049411121194129879 : True := trivial
theorem tw3118428857079297055 : True := trivial
theorem tw6855357746881602651 : True := trivial
theorem tw4615074526965630335 : True := trivial
theorem tw11708486054806289593 : True := trivial
theorem tw7957749848485082214 : True := trivial
theorem tw2882941408614793168 : True := trivial
theorem tw18332125516474719312 : True := trivial
theorem tw13668096177892458756 : True := trivial
theorem tw9049406062973746786 : True := trivial
theorem tw7604827977706511938 : True := trivial
theorem tw15107549863310034196 : True := trivial
theorem tw4321322397225433629 : True := trivial
theorem tw6912239353401169387 : True := trivial
theorem tw1085502050122566676 : True := trivial
theorem tw159484002341559352 : True := trivial
theorem tw6004885196514460748 : True := trivial
theorem tw15220878001920094184 : True := trivial
theorem tw2311838624393427655 : True := trivial
theorem tw12820366794933246118 : True := trivial
theorem tw17534714077671356564 : True := trivial
theorem tw3163218155120494571 : True := trivial
theorem tw3606027243778068138 : True := trivial
theorem tw17109169102290122431 : True := trivial
theorem tw2824700538030057413 : True := trivial
theorem tw9962125564740815214 : True := trivial
theorem tw1720409616500055787 : True := trivial
theorem tw7911655159271569384 : True := trivial
theorem tw13624514830088478077 : True := trivial
theorem tw1231376237136292736 : True := trivial
theorem tw14143377058997612949 : True := trivial
theorem tw16757355819281484913 : True := trivial
theorem tw2892045968092061974 : True := trivial
theorem tw11835546410608146582 : True := trivial
theorem tw14654932854838994550 : True := trivial
theorem tw9761228620861837998 : True := trivial
theorem tw3895700529117490574 : True := trivial
theorem tw17594684212316491659 : True := trivial
theorem tw8431219072941467642 : True := trivial
theorem tw12125188411867845809 : True := trivial
theorem tw12221935659675713371 : True := trivial
theorem tw2601301486328769555 : True := trivial
theorem tw7155837737831885048 : True := trivial
theorem tw10149037460815355647 : True := trivial
theorem tw9565056363330132117 : True := trivial
theorem tw11728925535496706412 : True := trivial
theorem tw4294876647361798646 : True := trivial
theorem tw18027298466105035020 : True := trivial
theorem tw10971330348563103547 : True := trivial
theorem tw7342149285666960085 : True := trivial
theorem tw7020007019239986264 : True := trivial
theorem tw7077425817208756314 : True := trivial
theorem tw12186066473543194547 : True := trivial
theorem tw4347051250799809673 : True := trivial
theorem tw3148715944482299494 : True := trivial
theorem tw10815374752510910562 : True := trivial
theorem tw3538182343115540966 : True := trivial
theorem tw17972759556116665622 : True := trivial
theorem tw14267634236603640228 : True := trivial
theorem tw6970152518346859472 : True := trivial
theorem tw11564826907759802250 : True := trivial
theorem tw3201804578504889892 : True := trivial
theorem tw4104467975581776342 : True := trivial
theorem tw16902198831365875283 : True := trivial
theorem tw7043950821017606630 : True := trivial
theorem tw3935217941959298538 : True := trivial
theorem tw6334913189832795729 : True := trivial
theorem tw8114308045275928312 : True := trivial
theorem tw7526537158508501131 : True := trivial
theorem tw17109649415642942278 : True := trivial
theorem tw7042149373755771139 : True := trivial
theorem tw11368133778106182370 : True := trivial
theorem tw4756639854871678738 : True := trivial
theorem tw3946889021056923312 : True := trivial
theorem tw17237849524971597656 : True := trivial
theorem tw14752689133081038511 : True := trivial
theorem tw2819215521716787910 : True := trivial
theorem tw4233831802098779410 : True := trivial
theorem tw11964085055952579573 : True := trivial
theorem tw7759786792595515869 : True := trivial
theorem tw2457123178919488807 : True := trivial
theorem tw7335498612198357443 : True := trivial
theorem tw13346210620177748478 : True := trivial
theorem tw3020290974545044979 : True := trivial
theorem tw5908531926811661656 : True := trivial
theorem tw11029673345677783804 : True := trivial
theorem tw8380896333634165732 : True := trivial
theorem tw411036421840577573 : True := trivial
theorem tw9821429810175482626 : True := trivial
theorem tw3590415621530449580 : True := trivial
theorem tw17346253324647137231 : True := trivial
theorem tw4486492249591862837 : True := trivial
theorem tw9284578134676837668 : True := trivial
theorem tw7055435750578615261 : True := trivial
theorem tw1871159213571920351 : True := trivial
theorem tw16961497966466348237 : True := trivial
theorem tw6937936037346640339 : True := trivial
theorem tw2275067122114922574 : True := trivial
theorem tw8376446545374842375 : True := trivial
theorem tw5304271934924629155 : True := trivial
theorem tw1906233276041452825 : True := trivial
theorem tw5190561852010833266 : True := trivial
theorem tw8350555277406968701 : True := trivial
theorem tw11964672569054418388 : True := trivial
theorem tw17455038532584247005 : True := trivial
theorem tw16425883696966896785 : True := trivial
theorem tw13591705221606515335 : True := trivial
theorem tw16740244642259414704 : True := trivial
theorem tw17852685667541113772 : True := trivial
theorem tw6716481184081440313 : True := trivial
theorem tw9457121922225505751 : True := trivial
theorem tw14775655444762459091 : True := trivial
theorem tw5814854362603114003 : True := trivial
theorem tw15881782706686656056 : True := trivial
theorem tw976181556186465746 : True := trivial
theorem tw16734843132780952638 : True := trivial
theorem tw17695916846394168432 : True := trivial
theorem tw13554082676651052358 : True := trivial
theorem tw10522973177008256240 : True := trivial
theorem tw4875874387066305788 : True := trivial
theorem tw16243686043313013027 : True := trivial
theorem tw9968428797842877978 : True := trivial
theorem tw9157656514094304407 : True := trivial
theorem tw8511475710710072898 : True := trivial
theorem tw7780312423987858924 : True := trivial
theorem tw7843173623597484153 : True := trivial
theorem tw5520919927433670837 : True := trivial
theorem tw2916780063484903576 : True := trivial
theorem tw16702557449296160378 : True := trivial
theorem tw7118356799299837119 : True := trivial
theorem tw17237729252044220433 : True := trivial
theorem tw13892783992785836803 : True := trivial
theorem tw7337756336676365423 : True := trivial
theorem tw3791956386124550068 : True := trivial
theorem tw4432793023090373758 : True := trivial
theorem tw3514051770565379408 : True := trivial
theorem tw7236099117448420660 : True := trivial
theorem tw16546877239666821639 : True := trivial
theorem tw12034426044466696405 : True := trivial
theorem tw6893201819383104816 : True := trivial
theorem tw3081000949604113393 : True := trivial
theorem tw8195743123323313334 : True := trivial
theorem tw13910377902012513785 : True := trivial
theorem tw5860525421454491165 : True := trivial
theorem tw204935986019484448 : True := trivial
theorem tw15268598359797627620 : True := trivial
theorem tw14507079238839967484 : True := trivial
theorem tw12594595306340711678 : True := trivial
theorem tw7267689500860336959 : True := trivial
theorem tw17455454693758664745 : True := trivial
theorem tw3175827040293603371 : True := trivial
theorem tw5142794424882225241 : True := trivial
theorem tw2777535672609996856 : True := trivial
theorem tw14542208409108987774 : True := trivial
theorem tw3049418650649503782 : True := trivial
theorem tw14364319408708429618 : True := trivial
theorem tw9275290362932054828 : True := trivial
theorem tw14001211251986185588 : True := trivial
theorem tw8881859852711548476 : True := trivial
theorem tw17089412338854928245 : True := trivial
theorem tw11751097564782621457 : True := trivial
theorem tw11227840030627665436 : True := trivial
theorem tw1794157542254782629 : True := trivial
theorem tw24929608381026843 : True := trivial
theorem tw9175407272362624389 : True := trivial
theorem tw4321987316965867575 : True := trivial
theorem tw4463076012633485855 : True := trivial
theorem tw16296593704988766099 : True := trivial
theorem tw10900683425862482840 : True := trivial
theorem tw731097056767659128 : True := trivial
theorem tw10830330489233955951 : True := trivial
theorem tw12898930955254938207 : True := trivial
theorem tw16979852676012615305 : True := trivial
theorem tw8204284780301663841 : True := trivial
theorem tw10097995372087093580 : True := trivial
theorem tw4261243058121298354 : True := trivial
theorem tw9383468356387185773 : True := trivial
theorem tw15284946857033462914 : True := trivial
theorem tw11302557551463947025 : True := trivial
theorem tw14625811416399734077 : True := trivial
theorem tw5848831711593483368 : True := trivial
theorem tw16111373441007899284 : True := trivial
theorem tw1429021704331654032 : True := trivial
theorem tw8909994030663744198 : True := trivial
theorem tw18051682309027747049 : True := trivial
theorem tw10834327517226407478 : True := trivial
theorem tw559067018880429907 : True := trivial
theorem tw16470990508151661495 : True := trivial
theorem tw7297336060666139908 : True := trivial
theorem tw4918940325814072812 : True := trivial
theorem tw11338811279202342 : True := trivial
theorem tw3305854373040156270 : True := trivial
theorem tw2031094626458516323 : True := trivial
theorem tw14630624172498295438 : True := trivial
theorem tw9086264395753519382 : True := trivial
theorem tw1601473493679706591 : True := trivial
theorem tw15816864976344947288 : True := trivial
theorem tw12275300045409816724 : True := trivial
theorem tw15178671660469792530 : True := trivial
theorem tw11797799994522027622 : True := trivial
theorem tw3136741698653245405 : True := trivial
theorem tw17838693585643225415 : True := trivial
theorem tw1448468459083892248 : True := trivial
theorem tw1133994970742252411 : True := trivial
theorem tw16063173715472523390 : True := trivial
theorem tw1972303140658159961 : True := trivial
theorem tw2250133420186053741 : True := trivial
theorem tw2688972597156802544 : True := trivial
theorem tw15108748056030799749 : True := trivial
theorem tw696908391948555261 : True := trivial
theorem tw7809367937919475407 : True := trivial
theorem tw14527700156224105638 : True := trivial
theorem tw14124638700178177924 : True := trivial
theorem tw11368287223327862965 : True := trivial
theorem tw14263084220936225153 : True := trivial
theorem tw7918456304917577775 : True := trivial
theorem tw9278375847699896778 : True := trivial
theorem tw8096405823439916667 : True := trivial
theorem tw6042280211308368502 : True := trivial
theorem tw9830915152937191798 : True := trivial
theorem tw15149409259406054743 : True := trivial
theorem tw16375813112319170380 : True := trivial
theorem tw4933497438850855200 : True := trivial
theorem tw1704573580067542636 : True := trivial
theorem tw16927239849875797792 : True := trivial
theorem tw9083903132881788340 : True := trivial
theorem tw1593203168573356308 : True := trivial
theorem tw9058947590709900217 : True := trivial
theorem tw5681883626628999681 : True := trivial
theorem tw13199204014210322819 : True := trivial
theorem tw7744212477962986864 : True := trivial
theorem tw9480630973795687964 : True := trivial
theorem tw18310566947038090482 : True := trivial
theorem tw2613281779247505569 : True := trivial
theorem tw16529183908961698644 : True := trivial
theorem tw14534358479669923416 : True := trivial
theorem tw17513604717008752223 : True := trivial
theorem tw17669196825235494881 : True := trivial
theorem tw15815188179287422799 : True := trivial
theorem tw12351520673191780122 : True := trivial
theorem tw7990653173066368855 : True := trivial
theorem tw4359849991691918743 : True := trivial
theorem tw11427682349487564367 : True := trivial
theorem tw7870031692939350941 : True := trivial
theorem tw12453987798275366840 : True := trivial
theorem tw15000968362485564788 : True := trivial
theorem tw3619703580867831463 : True := trivial
theorem tw13948327305266572941 : True := trivial
theorem tw3719002710406238774 : True := trivial
theorem tw16337931852293023599 : True := trivial
theorem tw15942886168343152107 : True := trivial
theorem tw12815816491117940630 : True := trivial
theorem tw7767948806290136005 : True := trivial
theorem tw17507118372650305230 : True := trivial
theorem tw4562860786870356315 : True := trivial
theorem tw10557389390880436708 : True := trivial
theorem tw7746644797445570803 : True := trivial
theorem tw14254816988425277704 : True := trivial
theorem tw8439872101503383877 : True := trivial
theorem tw13361764116623775663 : True := trivial
theorem tw15347827778704357840 : True := trivial
theorem tw18264569562196817583 : True := trivial
theorem tw13582691447224766815 : True := trivial
end PySem.W.Fast

set_option Elab.async false
set_option linter.all false
set_option maxRecDepth 100000
namespace Tf
open PySem L2
abbrev sDraw : Stmt := top (rd0 + 31)
def due (k : Int) (bs cs ss : List Nat) : List V := match Sw22.read bs with
  | none => [V.int (-1)]
  | some f => match f.at_ k with
    | none => [V.int (-1)]
    | some p => drawn f k p cs ss
def spDraw (K : PySem.W.Frag) : Sp := fun vs H Q _ => ∃ (k : Int) (a ca sa : Addr) (bs cs ss : List Nat), vs = [.int k, .ref a, .ref ca, .ref sa] ∧ SqL K H a (bv bs) ∧ SqL K H ca (bv cs) ∧ SqL K H sa (bv ss) ∧ (∀ x ∈ bs, x < 256) ∧ bs.length ≤ 100000 ∧ cs.length ≤ 100000 ∧
  (∀ f, Sw22.read bs = some f → cs.length = 4 * (f.width * f.height) ∧ ss.length = 4 * (f.width * f.height)) ∧ ∀ H' l, H' l = some (.lst (due k bs cs ss)) → Q (.ref l) H'
section
variable {P : Program} {w : World} {K : PySem.W.Frag} {mg : Str → Option Value} {base : Heap} {c : Cs} {XP : Addr}
theorem scDw : FnScope ["k", "file", "canvas", "saved", "outline"] ["k", "file", "canvas", "saved"] (defScope sDraw) := ⟨rfl, rfl, rfl, by decide +kernel, rfl, by decide +kernel, by decide +kernel⟩
theorem ok_draw {f fO fF fD : Addr} {fd fdO fdF fdD : FuncData} (F : Fun K "draw" "draw" sDraw f fd) (T : Txt K mg c) (TP : XCls K mg "NoPicture" XP) (h12 : PySem.W.exmOne K (.ref XP) (.ref c.X) = some false)
    (GO : FnOk P w K mg base (CXF P w) 7 fO fdO ["file"] (spOutline K c)) (kO : PySem.W.keepIn K (.ref fO) = true) (bO : Binds K fdO ["file"] []) (mO : mg "read_outline" = some (.ref fO))
    (GF : FnOk P w K mg base (CXF P w) 1 fF fdF ["k", "outline"] (spFindP c XP)) (kF : PySem.W.keepIn K (.ref fF) = true) (bF : Binds K fdF ["k", "outline"] []) (mF : mg "find_picture" = some (.ref fF))
    (GD : FnOk P w K mg base (CXF P w) 6 fD fdD ["k", "outline", "canvas", "saved"] (spDrawP K c)) (kD : PySem.W.keepIn K (.ref fD) = true) (bD : Binds K fdD ["k", "outline", "canvas", "saved"] []) (mD : mg "draw_picture" = some (.ref fD)) :
    FnOk P w K mg base (CXF P w) 8 f fd ["k", "file", "canvas", "saved"] (spDraw K) := by
  obtain ⟨tb, hmb⟩ := T.mbytes
  refine F.okX scDw (fun vs H Q E h => ?_) (fun cdv A outer s H vs Q E hr h => ?_)
  · obtain ⟨k, a, ca, sa, bs, cs, ss, rfl, _⟩ := h
    rfl
  · obtain ⟨kk, a, ca, sa, bs, cs, ss, rfl, sq, sqc, sqs, by_, hbs, hcl, hsz, k⟩ := h
    have hr1 : Room 1 _ := hr.mono (by decide)
    have hr6 : Room 6 _ := hr.mono (by decide)
    refine ⟨_, pss_cons (ps_if (pt_cmpR op_gt (pe_callB call_len_seq (by rfl) T.len PySem.boot_len (pa_cons (pv 1) pa_nil)) (pe_glob (v := V.int 1048576) rfl hmb ⟨_, rfl⟩) (nomark _)) (pss_one (ps_ret (pe_lst (pa_cons (pe_un un_neg pe_int) pa_nil)))) pss_nil)
      (pss_cons (ps_try2 T.xc TP h12 rfl rfl rfl rfl rfl (fun pn xe Eb hP => pss_cons (ps_set (i := 4) scDw.nd rfl (Or.inl rfl) (pe_callS GO hr rfl mO kO bO .nil hP (pa_cons (pv 1) pa_nil))) (pss_one (ps_expr (pe_callS GF hr1 rfl mF kF bF .nil hP (pa_cons (pv 0) (pa_cons (pv 4) pa_nil))))))
        (fun e => pss_one (ps_ret (pe_lst (pa_cons (pe_un un_neg pe_int) pa_nil)))) (fun e => pss_one (ps_ret (pe_lst (pa_cons (pe_un un_neg pe_int) pa_nil)))))
      (pss_one (ps_ret (pe_call GD hr6 rfl mD kD bD .nil passD (pa_cons (pv 0) (pa_cons (pv 4) (pa_cons (pv 2) (pa_cons (pv 3) pa_nil)))))))), ?_⟩
    have hlen : (bv bs).length = bs.length := bv_len bs
    refine ⟨_, rfl, a, _, rfl, .inl sq, _, _, rfl, rfl, _, rfl, ?_⟩
    refine ite2 (fun z => ?_) (fun z => ?_)
    · have z' : (1048576 : Int) < (bs.length : Int) := by rw [← hlen]; simpa using z
      omega
    · refine ⟨_, rfl, a, bs, rfl, sq, by_, hbs, ?_⟩
      cases e : Sw22.read bs with
      | none =>
        intro H'
        refine .inl ⟨rfl, _, rfl, by show 1 ≤ sizeLine; decide, fun l hl => k _ l ?_⟩
        unfold due
        rw [e, upd_same]
      | some fl =>
        intro H1 o ho sm1
        refine ⟨_, rfl, _, rfl, kk, o, fl, rfl, ho, ?_⟩
        cases e2 : fl.at_ kk with
        | none =>
          refine .inr ⟨rfl, _, rfl, by show 1 ≤ sizeLine; decide, fun l hl => k _ l ?_⟩
          unfold due
          rw [e, upd_same]
          dsimp only
          rw [e2]
        | some p =>
          intro x hx
          obtain ⟨f1, f2, f3⟩ := Gif.read_fit e
          obtain ⟨l1, l2⟩ := hsz fl e
          refine ⟨_, rfl, _, rfl, _, rfl, _, rfl, kk, o, ca, sa, fl, cs, ss, p, rfl, ho, sm1.seq sqc, sm1.seq sqs, e2, l1, l2, f1, by omega, f3, fun H' l hl => k H' l ?_⟩
          rw [hl]
          unfold due
          rw [e]
          dsimp only
          rw [e2]
end
set_option maxHeartbeats 0 in
theorem all_mk {P : Program} {w : World} {K : PySem.W.Frag} {h : Heap} {mg : Str → Option Value} {fa C CS CM CA CP CO X fI fB fP fY fS fIs fIm fIa fIp fIo fOl fH fN fT fPs fPl fNt fMn fL fPi fJ fAr fE CB CT CU XW fBi fCo fHo fTi fFo fCn fTk fFd fAd fIu fUn fCl CN XP fCi fPt fCr fDp fPp fDn fRw fFp fZ : Addr} (XK : K.In h) (G : h.Ns mainGlobals mg) (hfa : mg "draw" = some (.ref fa))
    {odI anI : Option Addr} {slI : Array (Option Value)} {ocI kVI dcI pmI cdI ctI : Value} {odB anB : Option Addr} {slB : Array (Option Value)} {ocB kVB dcB pmB cdB ctB : Value} {odP anP : Option Addr} {slP : Array (Option Value)} {ocP kVP dcP pmP cdP ctP : Value} {odY anY : Option Addr} {slY : Array (Option Value)} {ocY kVY dcY pmY cdY ctY : Value} {odS anS : Option Addr} {slS : Array (Option Value)} {ocS kVS dcS pmS cdS ctS : Value} {odIs anIs : Option Addr} {slIs : Array (Option Value)} {ocIs kVIs dcIs pmIs cdIs ctIs : Value} {odIm anIm : Option Addr} {slIm : Array (Option Value)} {ocIm kVIm dcIm pmIm cdIm ctIm : Value} {odIa anIa : Option Addr} {slIa : Array (Option Value)} {ocIa kVIa dcIa pmIa cdIa ctIa : Value} {odIp anIp : Option Addr} {slIp : Array (Option Value)} {ocIp kVIp dcIp pmIp cdIp ctIp : Value} {odIo anIo : Option Addr} {slIo : Array (Option Value)} {ocIo kVIo dcIo pmIo cdIo ctIo : Value} {odOl anOl : Option Addr} {slOl : Array (Option Value)} {ocOl kVOl dcOl pmOl cdOl ctOl : Value} {odH anH : Option Addr} {slH : Array (Option Value)} {ocH kVH dcH pmH cdH ctH : Value} {odN anN : Option Addr} {slN : Array (Option Value)} {ocN kVN dcN pmN cdN ctN : Value} {odT anT : Option Addr} {slT : Array (Option Value)} {ocT kVT dcT pmT cdT ctT : Value} {odPs anPs : Option Addr} {slPs : Array (Option Value)} {ocPs kVPs dcPs pmPs cdPs ctPs : Value} {odPl anPl : Option Addr} {slPl : Array (Option Value)} {ocPl kVPl dcPl pmPl cdPl ctPl : Value} {odNt anNt : Option Addr} {slNt : Array (Option Value)} {ocNt kVNt dcNt pmNt cdNt ctNt : Value} {odMn anMn : Option Addr} {slMn : Array (Option Value)} {ocMn kVMn dcMn pmMn cdMn ctMn : Value} {odL anL : Option Addr} {slL : Array (Option Value)} {ocL kVL dcL pmL cdL ctL : Value} {odPi anPi : Option Addr} {slPi : Array (Option Value)} {ocPi kVPi dcPi pmPi cdPi ctPi : Value} {odJ anJ : Option Addr} {slJ : Array (Option Value)} {ocJ kVJ dcJ pmJ cdJ ctJ : Value} {odAr anAr : Option Addr} {slAr : Array (Option Value)} {ocAr kVAr dcAr pmAr cdAr ctAr : Value} {odE anE : Option Addr} {slE : Array (Option Value)} {ocE kVE dcE pmE cdE ctE : Value} {odBi anBi : Option Addr} {slBi : Array (Option Value)} {ocBi kVBi dcBi pmBi cdBi ctBi : Value} {odCo anCo : Option Addr} {slCo : Array (Option Value)} {ocCo kVCo dcCo pmCo cdCo ctCo : Value} {odHo anHo : Option Addr} {slHo : Array (Option Value)} {ocHo kVHo dcHo pmHo cdHo ctHo : Value} {odTi anTi : Option Addr} {slTi : Array (Option Value)} {ocTi kVTi dcTi pmTi cdTi ctTi : Value} {odFo anFo : Option Addr} {slFo : Array (Option Value)} {ocFo kVFo dcFo pmFo cdFo ctFo : Value} {odCn anCn : Option Addr} {slCn : Array (Option Value)} {ocCn kVCn dcCn pmCn cdCn ctCn : Value} {odTk anTk : Option Addr} {slTk : Array (Option Value)} {ocTk kVTk dcTk pmTk cdTk ctTk : Value} {odFd anFd : Option Addr} {slFd : Array (Option Value)} {ocFd kVFd dcFd pmFd cdFd ctFd : Value} {odAd anAd : Option Addr} {slAd : Array (Option Value)} {ocAd kVAd dcAd pmAd cdAd ctAd : Value} {odIu anIu : Option Addr} {slIu : Array (Option Value)} {ocIu kVIu dcIu pmIu cdIu ctIu : Value} {odUn anUn : Option Addr} {slUn : Array (Option Value)} {ocUn kVUn dcUn pmUn cdUn ctUn : Value} {odCl anCl : Option Addr} {slCl : Array (Option Value)} {ocCl kVCl dcCl pmCl cdCl ctCl : Value} {odCi anCi : Option Addr} {slCi : Array (Option Value)} {ocCi kVCi dcCi pmCi cdCi ctCi : Value} {odPt anPt : Option Addr} {slPt : Array (Option Value)} {ocPt kVPt dcPt pmPt cdPt ctPt : Value} {odCr anCr : Option Addr} {slCr : Array (Option Value)} {ocCr kVCr dcCr pmCr cdCr ctCr : Value} {odDp anDp : Option Addr} {slDp : Array (Option Value)} {ocDp kVDp dcDp pmDp cdDp ctDp : Value} {odPp anPp : Option Addr} {slPp : Array (Option Value)} {ocPp kVPp dcPp pmPp cdPp ctPp : Value} {odDn anDn : Option Addr} {slDn : Array (Option Value)} {ocDn kVDn dcDn pmDn cdDn ctDn : Value} {odRw anRw : Option Addr} {slRw : Array (Option Value)} {ocRw kVRw dcRw pmRw cdRw ctRw : Value} {odFp anFp : Option Addr} {slFp : Array (Option Value)} {ocFp kVFp dcFp pmFp cdFp ctFp : Value} {odZ anZ : Option Addr} {slZ : Array (Option Value)} {ocZ kVZ dcZ pmZ cdZ ctZ : Value}
    {aH a1 a2 : Addr} {odHd od1 od2 : Option Addr} {nHd n1 n2 : Nat} {slHd sl1 sl2 : Array (Option Value)} {t0 t1 t2 t3 t4 t5 u0 u1 u2 u3 u4 u5 : Tok} {aNo aPa b1 b2 b3 b4 : Addr} {odNo odPa odP1 odP2 odP3 odP4 : Option Addr} {nNo nPa nP1 nP2 nP3 nP4 : Nat} {slNo slPa slP1 slP2 slP3 slP4 : Array (Option Value)} {w0 w1 w2 w3 x1 y1 x2 y2 x3 y3 x4 y4 : Tok} {t_NOTE t_PICTURE t_LAST t_PICTURE_NOTE t_MOST_PLACES t_MOST_PICTURES t_MOST_BYTES t_MOST_BITS t_MOST_ROWS t_CLEARED t_BROUGHT_BACK : Tok}
    (aC : PySem.W.nsIn K mainGlobals "Reader" = some (some (.ref C)))
    (pgC : PySem.W.plainGet K C Str.empty = true)
    (hdC : PySem.W.hasDictIn K C = true)
    (poC : PySem.W.plainOver K C = true)
    (saC : PySem.W.findIn K (.ref C) "__setattr__" = some (some (.builtin "object.__setattr__")))
    (mkC : PySem.W.makesIn K C = true)
    (kcC : PySem.W.keepIn K (.ref C) = true)
    (nC_file : PySem.W.findIn K (.ref C) "file" = some none)
    (nC_place : PySem.W.findIn K (.ref C) "place" = some none)
    (aCS : PySem.W.nsIn K mainGlobals "Screen" = some (some (.ref CS)))
    (pgCS : PySem.W.plainGet K CS Str.empty = true)
    (hdCS : PySem.W.hasDictIn K CS = true)
    (poCS : PySem.W.plainOver K CS = true)
    (saCS : PySem.W.findIn K (.ref CS) "__setattr__" = some (some (.builtin "object.__setattr__")))
    (mkCS : PySem.W.makesIn K CS = true)
    (kcCS : PySem.W.keepIn K (.ref CS) = true)
    (nCS_width : PySem.W.findIn K (.ref CS) "width" = some none)
    (nCS_height : PySem.W.findIn K (.ref CS) "height" = some none)
    (nCS_colours : PySem.W.findIn K (.ref CS) "colours" = some none)
    (aCM : PySem.W.nsIn K mainGlobals "Manner" = some (some (.ref CM)))
    (pgCM : PySem.W.plainGet K CM Str.empty = true)
    (hdCM : PySem.W.hasDictIn K CM = true)
    (poCM : PySem.W.plainOver K CM = true)
    (saCM : PySem.W.findIn K (.ref CM) "__setattr__" = some (some (.builtin "object.__setattr__")))
    (mkCM : PySem.W.makesIn K CM = true)
    (kcCM : PySem.W.keepIn K (.ref CM) = true)
    (nCM_time : PySem.W.findIn K (.ref CM) "time" = some none)
    (nCM_after : PySem.W.findIn K (.ref CM) "after" = some none)
    (nCM_transparent : PySem.W.findIn K (.ref CM) "transparent" = some none)
    (aCA : PySem.W.nsIn K mainGlobals "Area" = some (some (.ref CA)))
    (pgCA : PySem.W.plainGet K CA Str.empty = true)
    (hdCA : PySem.W.hasDictIn K CA = true)
    (poCA : PySem.W.plainOver K CA = true)
    (saCA : PySem.W.findIn K (.ref CA) "__setattr__" = some (some (.builtin "object.__setattr__")))
    (mkCA : PySem.W.makesIn K CA = true)
    (kcCA : PySem.W.keepIn K (.ref CA) = true)
    (nCA_left : PySem.W.findIn K (.ref CA) "left" = some none)
    (nCA_top : PySem.W.findIn K (.ref CA) "top" = some none)
    (nCA_width : PySem.W.findIn K (.ref CA) "width" = some none)
    (nCA_height : PySem.W.findIn K (.ref CA) "height" = some none)
    (aCP : PySem.W.nsIn K mainGlobals "Picture" = some (some (.ref CP)))
    (pgCP : PySem.W.plainGet K CP Str.empty = true)
    (hdCP : PySem.W.hasDictIn K CP = true)
    (poCP : PySem.W.plainOver K CP = true)
    (saCP : PySem.W.findIn K (.ref CP) "__setattr__" = some (some (.builtin "object.__setattr__")))
    (mkCP : PySem.W.makesIn K CP = true)
    (kcCP : PySem.W.keepIn K (.ref CP) = true)
    (nCP_area : PySem.W.findIn K (.ref CP) "area" = some none)
    (nCP_manner : PySem.W.findIn K (.ref CP) "manner" = some none)
    (nCP_colours : PySem.W.findIn K (.ref CP) "colours" = some none)
    (nCP_in_passes : PySem.W.findIn K (.ref CP) "in_passes" = some none)
    (nCP_size : PySem.W.findIn K (.ref CP) "size" = some none)
    (nCP_data : PySem.W.findIn K (.ref CP) "data" = some none)
    (aCO : PySem.W.nsIn K mainGlobals "Outline" = some (some (.ref CO)))
    (pgCO : PySem.W.plainGet K CO Str.empty = true)
    (hdCO : PySem.W.hasDictIn K CO = true)
    (poCO : PySem.W.plainOver K CO = true)
    (saCO : PySem.W.findIn K (.ref CO) "__setattr__" = some (some (.builtin "object.__setattr__")))
    (mkCO : PySem.W.makesIn K CO = true)
    (kcCO : PySem.W.keepIn K (.ref CO) = true)
    (nCO_screen : PySem.W.findIn K (.ref CO) "screen" = some none)
    (nCO_pictures : PySem.W.findIn K (.ref CO) "pictures" = some none)
    (nCO_length : PySem.W.findIn K (.ref CO) "length" = some none)
    (aX : PySem.W.nsIn K mainGlobals "NoFile" = some (some (.ref X)))
    (exX : PySem.W.excIn K X [.type "Exception", .type "BaseException", .type "object"] "Exception.__new__" = true)
    (gI : PySem.W.findIn K (.ref C) "__init__" = some (some (.ref fI)))
    (iI : PySem.W.isFn K (.ref fI) = true)
    (lI : K.lookup fI = some ⟨ocI, odI, .func (PySem.W.fnOf "__init__" "Reader.__init__" (defArgs sInit) (defBody sInit) (defScope sInit) .none kVI dcI pmI anI cdI ctI), slI⟩)
    (cI : PySem.W.codeIn K cdI "Reader.__init__" = true)
    (kI : PySem.W.keepIn K (.ref fI) = true)
    (gB : PySem.W.findIn K (.ref C) "take_byte" = some (some (.ref fB)))
    (iB : PySem.W.isFn K (.ref fB) = true)
    (lB : K.lookup fB = some ⟨ocB, odB, .func (PySem.W.fnOf "take_byte" "Reader.take_byte" (defArgs sByte) (defBody sByte) (defScope sByte) .none kVB dcB pmB anB cdB ctB), slB⟩)
    (cB : PySem.W.codeIn K cdB "Reader.take_byte" = true)
    (kB : PySem.W.keepIn K (.ref fB) = true)
    (gP : PySem.W.findIn K (.ref C) "take_pair" = some (some (.ref fP)))
    (iP : PySem.W.isFn K (.ref fP) = true)
    (lP : K.lookup fP = some ⟨ocP, odP, .func (PySem.W.fnOf "take_pair" "Reader.take_pair" (defArgs sPair) (defBody sPair) (defScope sPair) .none kVP dcP pmP anP cdP ctP), slP⟩)
    (cP : PySem.W.codeIn K cdP "Reader.take_pair" = true)
    (kP : PySem.W.keepIn K (.ref fP) = true)
    (gY : PySem.W.findIn K (.ref C) "take_bytes" = some (some (.ref fY)))
    (iY : PySem.W.isFn K (.ref fY) = true)
    (lY : K.lookup fY = some ⟨ocY, odY, .func (PySem.W.fnOf "take_bytes" "Reader.take_bytes" (defArgs sBytes) (defBody sBytes) (defScope sBytes) .none kVY dcY pmY anY cdY ctY), slY⟩)
    (cY : PySem.W.codeIn K cdY "Reader.take_bytes" = true)
    (kY : PySem.W.keepIn K (.ref fY) = true)
    (gS : PySem.W.findIn K (.ref C) "skip" = some (some (.ref fS)))
    (iS : PySem.W.isFn K (.ref fS) = true)
    (lS : K.lookup fS = some ⟨ocS, odS, .func (PySem.W.fnOf "skip" "Reader.skip" (defArgs sSkip) (defBody sSkip) (defScope sSkip) .none kVS dcS pmS anS cdS ctS), slS⟩)
    (cS : PySem.W.codeIn K cdS "Reader.skip" = true)
    (kS : PySem.W.keepIn K (.ref fS) = true)
    (gIs : PySem.W.findIn K (.ref CS) "__init__" = some (some (.ref fIs)))
    (iIs : PySem.W.isFn K (.ref fIs) = true)
    (lIs : K.lookup fIs = some ⟨ocIs, odIs, .func (PySem.W.fnOf "__init__" "Screen.__init__" (defArgs sScr) (defBody sScr) (defScope sScr) .none kVIs dcIs pmIs anIs cdIs ctIs), slIs⟩)
    (cIs : PySem.W.codeIn K cdIs "Screen.__init__" = true)
    (kIs : PySem.W.keepIn K (.ref fIs) = true)
    (gIm : PySem.W.findIn K (.ref CM) "__init__" = some (some (.ref fIm)))
    (iIm : PySem.W.isFn K (.ref fIm) = true)
    (lIm : K.lookup fIm = some ⟨ocIm, odIm, .func (PySem.W.fnOf "__init__" "Manner.__init__" (defArgs sMan) (defBody sMan) (defScope sMan) .none kVIm dcIm pmIm anIm cdIm ctIm), slIm⟩)
    (cIm : PySem.W.codeIn K cdIm "Manner.__init__" = true)
    (kIm : PySem.W.keepIn K (.ref fIm) = true)
    (gIa : PySem.W.findIn K (.ref CA) "__init__" = some (some (.ref fIa)))
    (iIa : PySem.W.isFn K (.ref fIa) = true)
    (lIa : K.lookup fIa = some ⟨ocIa, odIa, .func (PySem.W.fnOf "__init__" "Area.__init__" (defArgs sAre) (defBody sAre) (defScope sAre) .none kVIa dcIa pmIa anIa cdIa ctIa), slIa⟩)
    (cIa : PySem.W.codeIn K cdIa "Area.__init__" = true)
    (kIa : PySem.W.keepIn K (.ref fIa) = true)
    (gIp : PySem.W.findIn K (.ref CP) "__init__" = some (some (.ref fIp)))
    (iIp : PySem.W.isFn K (.ref fIp) = true)
    (lIp : K.lookup fIp = some ⟨ocIp, odIp, .func (PySem.W.fnOf "__init__" "Picture.__init__" (defArgs sPic) (defBody sPic) (defScope sPic) .none kVIp dcIp pmIp anIp cdIp ctIp), slIp⟩)
    (cIp : PySem.W.codeIn K cdIp "Picture.__init__" = true)
    (kIp : PySem.W.keepIn K (.ref fIp) = true)
    (gIo : PySem.W.findIn K (.ref CO) "__init__" = some (some (.ref fIo)))
    (iIo : PySem.W.isFn K (.ref fIo) = true)
    (lIo : K.lookup fIo = some ⟨ocIo, odIo, .func (PySem.W.fnOf "__init__" "Outline.__init__" (defArgs sOut) (defBody sOut) (defScope sOut) .none kVIo dcIo pmIo anIo cdIo ctIo), slIo⟩)
    (cIo : PySem.W.codeIn K cdIo "Outline.__init__" = true)
    (kIo : PySem.W.keepIn K (.ref fIo) = true)
    (gOl : PySem.W.nsIn K mainGlobals "read_outline" = some (some (.ref fOl)))
    (lOl : K.lookup fOl = some ⟨ocOl, odOl, .func (PySem.W.fnOf "read_outline" "read_outline" (defArgs sOutline) (defBody sOutline) (defScope sOutline) .none kVOl dcOl pmOl anOl cdOl ctOl), slOl⟩)
    (cOl : PySem.W.codeIn K cdOl "read_outline" = true)
    (kOl : PySem.W.keepIn K (.ref fOl) = true)
    (gH : PySem.W.nsIn K mainGlobals "read_head" = some (some (.ref fH)))
    (lH : K.lookup fH = some ⟨ocH, odH, .func (PySem.W.fnOf "read_head" "read_head" (defArgs sHead) (defBody sHead) (defScope sHead) .none kVH dcH pmH anH cdH ctH), slH⟩)
    (cH : PySem.W.codeIn K cdH "read_head" = true)
    (kH : PySem.W.keepIn K (.ref fH) = true)
    (gN : PySem.W.nsIn K mainGlobals "read_screen" = some (some (.ref fN)))
    (lN : K.lookup fN = some ⟨ocN, odN, .func (PySem.W.fnOf "read_screen" "read_screen" (defArgs sScreen) (defBody sScreen) (defScope sScreen) .none kVN dcN pmN anN cdN ctN), slN⟩)
    (cN : PySem.W.codeIn K cdN "read_screen" = true)
    (kN : PySem.W.keepIn K (.ref fN) = true)
    (gT : PySem.W.nsIn K mainGlobals "read_table" = some (some (.ref fT)))
    (lT : K.lookup fT = some ⟨ocT, odT, .func (PySem.W.fnOf "read_table" "read_table" (defArgs sTable) (defBody sTable) (defScope sTable) .none kVT dcT pmT anT cdT ctT), slT⟩)
    (cT : PySem.W.codeIn K cdT "read_table" = true)
    (kT : PySem.W.keepIn K (.ref fT) = true)
    (gPs : PySem.W.nsIn K mainGlobals "read_pictures" = some (some (.ref fPs)))
    (lPs : K.lookup fPs = some ⟨ocPs, odPs, .func (PySem.W.fnOf "read_pictures" "read_pictures" (defArgs sPictures) (defBody sPictures) (defScope sPictures) .none kVPs dcPs pmPs anPs cdPs ctPs), slPs⟩)
    (cPs : PySem.W.codeIn K cdPs "read_pictures" = true)
    (kPs : PySem.W.keepIn K (.ref fPs) = true)
    (gPl : PySem.W.nsIn K mainGlobals "plain_manner" = some (some (.ref fPl)))
    (lPl : K.lookup fPl = some ⟨ocPl, odPl, .func (PySem.W.fnOf "plain_manner" "plain_manner" (defArgs sPlain) (defBody sPlain) (defScope sPlain) .none kVPl dcPl pmPl anPl cdPl ctPl), slPl⟩)
    (cPl : PySem.W.codeIn K cdPl "plain_manner" = true)
    (kPl : PySem.W.keepIn K (.ref fPl) = true)
    (gNt : PySem.W.nsIn K mainGlobals "read_note" = some (some (.ref fNt)))
    (lNt : K.lookup fNt = some ⟨ocNt, odNt, .func (PySem.W.fnOf "read_note" "read_note" (defArgs sNote) (defBody sNote) (defScope sNote) .none kVNt dcNt pmNt anNt cdNt ctNt), slNt⟩)
    (cNt : PySem.W.codeIn K cdNt "read_note" = true)
    (kNt : PySem.W.keepIn K (.ref fNt) = true)
    (gMn : PySem.W.nsIn K mainGlobals "read_manner" = some (some (.ref fMn)))
    (lMn : K.lookup fMn = some ⟨ocMn, odMn, .func (PySem.W.fnOf "read_manner" "read_manner" (defArgs sManner) (defBody sManner) (defScope sManner) .none kVMn dcMn pmMn anMn cdMn ctMn), slMn⟩)
    (cMn : PySem.W.codeIn K cdMn "read_manner" = true)
    (kMn : PySem.W.keepIn K (.ref fMn) = true)
    (gL : PySem.W.nsIn K mainGlobals "read_blocks" = some (some (.ref fL)))
    (lL : K.lookup fL = some ⟨ocL, odL, .func (PySem.W.fnOf "read_blocks" "read_blocks" (defArgs sBlocks) (defBody sBlocks) (defScope sBlocks) .none kVL dcL pmL anL cdL ctL), slL⟩)
    (cL : PySem.W.codeIn K cdL "read_blocks" = true)
    (kL : PySem.W.keepIn K (.ref fL) = true)
    (gPi : PySem.W.nsIn K mainGlobals "read_picture" = some (some (.ref fPi)))
    (lPi : K.lookup fPi = some ⟨ocPi, odPi, .func (PySem.W.fnOf "read_picture" "read_picture" (defArgs sPicture) (defBody sPicture) (defScope sPicture) .none kVPi dcPi pmPi anPi cdPi ctPi), slPi⟩)
    (cPi : PySem.W.codeIn K cdPi "read_picture" = true)
    (kPi : PySem.W.keepIn K (.ref fPi) = true)
    (gJ : PySem.W.nsIn K mainGlobals "join_blocks" = some (some (.ref fJ)))
    (lJ : K.lookup fJ = some ⟨ocJ, odJ, .func (PySem.W.fnOf "join_blocks" "join_blocks" (defArgs sJoin) (defBody sJoin) (defScope sJoin) .none kVJ dcJ pmJ anJ cdJ ctJ), slJ⟩)
    (cJ : PySem.W.codeIn K cdJ "join_blocks" = true)
    (kJ : PySem.W.keepIn K (.ref fJ) = true)
    (gAr : PySem.W.nsIn K mainGlobals "read_area" = some (some (.ref fAr)))
    (lAr : K.lookup fAr = some ⟨ocAr, odAr, .func (PySem.W.fnOf "read_area" "read_area" (defArgs sArea) (defBody sArea) (defScope sArea) .none kVAr dcAr pmAr anAr cdAr ctAr), slAr⟩)
    (cAr : PySem.W.codeIn K cdAr "read_area" = true)
    (kAr : PySem.W.keepIn K (.ref fAr) = true)
    (gE : PySem.W.nsIn K mainGlobals "check_edge" = some (some (.ref fE)))
    (lE : K.lookup fE = some ⟨ocE, odE, .func (PySem.W.fnOf "check_edge" "check_edge" (defArgs sEdge) (defBody sEdge) (defScope sEdge) .none kVE dcE pmE anE cdE ctE), slE⟩)
    (cE : PySem.W.codeIn K cdE "check_edge" = true)
    (kE : PySem.W.keepIn K (.ref fE) = true)
    (z_len : PySem.W.nsIn K mainGlobals "len" = some none)
    (z_range : PySem.W.nsIn K mainGlobals "range" = some none)
    (z_tuple : PySem.W.nsIn K mainGlobals "tuple" = some none)
    (v_NOTE : PySem.W.nsIn K mainGlobals "NOTE" = some (some (.int 33 t_NOTE)))
    (v_PICTURE : PySem.W.nsIn K mainGlobals "PICTURE" = some (some (.int 44 t_PICTURE)))
    (v_LAST : PySem.W.nsIn K mainGlobals "LAST" = some (some (.int 59 t_LAST)))
    (v_PICTURE_NOTE : PySem.W.nsIn K mainGlobals "PICTURE_NOTE" = some (some (.int 249 t_PICTURE_NOTE)))
    (v_MOST_PLACES : PySem.W.nsIn K mainGlobals "MOST_PLACES" = some (some (.int 1048576 t_MOST_PLACES)))
    (v_MOST_PICTURES : PySem.W.nsIn K mainGlobals "MOST_PICTURES" = some (some (.int 4096 t_MOST_PICTURES)))
    (v_MOST_BYTES : PySem.W.nsIn K mainGlobals "MOST_BYTES" = some (some (.int 1048576 t_MOST_BYTES)))
    (gHd : PySem.W.nsIn K mainGlobals "HEADS" = some (some (.ref aH)))
    (lHd : K.lookup aH = some ⟨.type "tuple", odHd, .seq #[.ref a1, .ref a2] nHd, slHd⟩)
    (lH1 : K.lookup a1 = some ⟨.type "tuple", od1, .seq #[.int 71 t0, .int 73 t1, .int 70 t2, .int 56 t3, .int 55 t4, .int 97 t5] n1, sl1⟩)
    (lH2 : K.lookup a2 = some ⟨.type "tuple", od2, .seq #[.int 71 u0, .int 73 u1, .int 70 u2, .int 56 u3, .int 57 u4, .int 97 u5] n2, sl2⟩)
    (aCB : PySem.W.nsIn K mainGlobals "Bits" = some (some (.ref CB)))
    (pgCB : PySem.W.plainGet K CB Str.empty = true)
    (hdCB : PySem.W.hasDictIn K CB = true)
    (poCB : PySem.W.plainOver K CB = true)
    (saCB : PySem.W.findIn K (.ref CB) "__setattr__" = some (some (.builtin "object.__setattr__")))
    (mkCB : PySem.W.makesIn K CB = true)
    (kcCB : PySem.W.keepIn K (.ref CB) = true)
    (nCB_data : PySem.W.findIn K (.ref CB) "data" = some none)
    (nCB_place : PySem.W.findIn K (.ref CB) "place" = some none)
    (nCB_held : PySem.W.findIn K (.ref CB) "held" = some none)
    (nCB_held_bits : PySem.W.findIn K (.ref CB) "held_bits" = some none)
    (aCT : PySem.W.nsIn K mainGlobals "Table" = some (some (.ref CT)))
    (pgCT : PySem.W.plainGet K CT Str.empty = true)
    (hdCT : PySem.W.hasDictIn K CT = true)
    (poCT : PySem.W.plainOver K CT = true)
    (saCT : PySem.W.findIn K (.ref CT) "__setattr__" = some (some (.builtin "object.__setattr__")))
    (mkCT : PySem.W.makesIn K CT = true)
    (kcCT : PySem.W.keepIn K (.ref CT) = true)
    (nCT_size : PySem.W.findIn K (.ref CT) "size" = some none)
    (nCT_clear_code : PySem.W.findIn K (.ref CT) "clear_code" = some none)
    (nCT_end_code : PySem.W.findIn K (.ref CT) "end_code" = some none)
    (nCT_added : PySem.W.findIn K (.ref CT) "added" = some none)
    (nCT_code_bits : PySem.W.findIn K (.ref CT) "code_bits" = some none)
    (nCT_row_before : PySem.W.findIn K (.ref CT) "row_before" = some none)
    (aCU : PySem.W.nsIn K mainGlobals "Unpacked" = some (some (.ref CU)))
    (pgCU : PySem.W.plainGet K CU Str.empty = true)
    (hdCU : PySem.W.hasDictIn K CU = true)
    (poCU : PySem.W.plainOver K CU = true)
    (saCU : PySem.W.findIn K (.ref CU) "__setattr__" = some (some (.builtin "object.__setattr__")))
    (mkCU : PySem.W.makesIn K CU = true)
    (kcCU : PySem.W.keepIn K (.ref CU) = true)
    (nCU_numbers : PySem.W.findIn K (.ref CU) "numbers" = some none)
    (nCU_is_wrong : PySem.W.findIn K (.ref CU) "is_wrong" = some none)
    (aXW : PySem.W.nsIn K mainGlobals "WrongCode" = some (some (.ref XW)))
    (exXW : PySem.W.excIn K XW [.type "Exception", .type "BaseException", .type "object"] "Exception.__new__" = true)
    (gBi : PySem.W.findIn K (.ref CB) "__init__" = some (some (.ref fBi)))
    (iBi : PySem.W.isFn K (.ref fBi) = true)
    (lBi : K.lookup fBi = some ⟨ocBi, odBi, .func (PySem.W.fnOf "__init__" "Bits.__init__" (defArgs sBi) (defBody sBi) (defScope sBi) .none kVBi dcBi pmBi anBi cdBi ctBi), slBi⟩)
    (cBi : PySem.W.codeIn K cdBi "Bits.__init__" = true)
    (kBi : PySem.W.keepIn K (.ref fBi) = true)
    (gCo : PySem.W.findIn K (.ref CB) "take_code" = some (some (.ref fCo)))
    (iCo : PySem.W.isFn K (.ref fCo) = true)
    (lCo : K.lookup fCo = some ⟨ocCo, odCo, .func (PySem.W.fnOf "take_code" "Bits.take_code" (defArgs sCode) (defBody sCode) (defScope sCode) .none kVCo dcCo pmCo anCo cdCo ctCo), slCo⟩)
    (cCo : PySem.W.codeIn K cdCo "Bits.take_code" = true)
    (kCo : PySem.W.keepIn K (.ref fCo) = true)
    (gHo : PySem.W.findIn K (.ref CB) "hold_byte" = some (some (.ref fHo)))
    (iHo : PySem.W.isFn K (.ref fHo) = true)
    (lHo : K.lookup fHo = some ⟨ocHo, odHo, .func (PySem.W.fnOf "hold_byte" "Bits.hold_byte" (defArgs sHold) (defBody sHold) (defScope sHold) .none kVHo dcHo pmHo anHo cdHo ctHo), slHo⟩)
    (cHo : PySem.W.codeIn K cdHo "Bits.hold_byte" = true)
    (kHo : PySem.W.keepIn K (.ref fHo) = true)
    (gTi : PySem.W.findIn K (.ref CT) "__init__" = some (some (.ref fTi)))
    (iTi : PySem.W.isFn K (.ref fTi) = true)
    (lTi : K.lookup fTi = some ⟨ocTi, odTi, .func (PySem.W.fnOf "__init__" "Table.__init__" (defArgs sTi) (defBody sTi) (defScope sTi) .none kVTi dcTi pmTi anTi cdTi ctTi), slTi⟩)
    (cTi : PySem.W.codeIn K cdTi "Table.__init__" = true)
    (kTi : PySem.W.keepIn K (.ref fTi) = true)
    (gFo : PySem.W.findIn K (.ref CT) "forget" = some (some (.ref fFo)))
    (iFo : PySem.W.isFn K (.ref fFo) = true)
    (lFo : K.lookup fFo = some ⟨ocFo, odFo, .func (PySem.W.fnOf "forget" "Table.forget" (defArgs sForget) (defBody sForget) (defScope sForget) .none kVFo dcFo pmFo anFo cdFo ctFo), slFo⟩)
    (cFo : PySem.W.codeIn K cdFo "Table.forget" = true)
    (kFo : PySem.W.keepIn K (.ref fFo) = true)
    (gCn : PySem.W.findIn K (.ref CT) "count_rows" = some (some (.ref fCn)))
    (iCn : PySem.W.isFn K (.ref fCn) = true)
    (lCn : K.lookup fCn = some ⟨ocCn, odCn, .func (PySem.W.fnOf "count_rows" "Table.count_rows" (defArgs sCount) (defBody sCount) (defScope sCount) .none kVCn dcCn pmCn anCn cdCn ctCn), slCn⟩)
    (cCn : PySem.W.codeIn K cdCn "Table.count_rows" = true)
    (kCn : PySem.W.keepIn K (.ref fCn) = true)
    (gTk : PySem.W.findIn K (.ref CT) "take_row" = some (some (.ref fTk)))
    (iTk : PySem.W.isFn K (.ref fTk) = true)
    (lTk : K.lookup fTk = some ⟨ocTk, odTk, .func (PySem.W.fnOf "take_row" "Table.take_row" (defArgs sTake) (defBody sTake) (defScope sTake) .none kVTk dcTk pmTk anTk cdTk ctTk), slTk⟩)
    (cTk : PySem.W.codeIn K cdTk "Table.take_row" = true)
    (kTk : PySem.W.keepIn K (.ref fTk) = true)
    (gFd : PySem.W.findIn K (.ref CT) "find_row" = some (some (.ref fFd)))
    (iFd : PySem.W.isFn K (.ref fFd) = true)
    (lFd : K.lookup fFd = some ⟨ocFd, odFd, .func (PySem.W.fnOf "find_row" "Table.find_row" (defArgs sFind) (defBody sFind) (defScope sFind) .none kVFd dcFd pmFd anFd cdFd ctFd), slFd⟩)
    (cFd : PySem.W.codeIn K cdFd "Table.find_row" = true)
    (kFd : PySem.W.keepIn K (.ref fFd) = true)
    (gAd : PySem.W.findIn K (.ref CT) "add_row" = some (some (.ref fAd)))
    (iAd : PySem.W.isFn K (.ref fAd) = true)
    (lAd : K.lookup fAd = some ⟨ocAd, odAd, .func (PySem.W.fnOf "add_row" "Table.add_row" (defArgs sAdd) (defBody sAdd) (defScope sAdd) .none kVAd dcAd pmAd anAd cdAd ctAd), slAd⟩)
    (cAd : PySem.W.codeIn K cdAd "Table.add_row" = true)
    (kAd : PySem.W.keepIn K (.ref fAd) = true)
    (gIu : PySem.W.findIn K (.ref CU) "__init__" = some (some (.ref fIu)))
    (iIu : PySem.W.isFn K (.ref fIu) = true)
    (lIu : K.lookup fIu = some ⟨ocIu, odIu, .func (PySem.W.fnOf "__init__" "Unpacked.__init__" (defArgs sUnp) (defBody sUnp) (defScope sUnp) .none kVIu dcIu pmIu anIu cdIu ctIu), slIu⟩)
    (cIu : PySem.W.codeIn K cdIu "Unpacked.__init__" = true)
    (kIu : PySem.W.keepIn K (.ref fIu) = true)
    (gUn : PySem.W.nsIn K mainGlobals "unpack" = some (some (.ref fUn)))
    (lUn : K.lookup fUn = some ⟨ocUn, odUn, .func (PySem.W.fnOf "unpack" "unpack" (defArgs sUnpack) (defBody sUnpack) (defScope sUnpack) .none kVUn dcUn pmUn anUn cdUn ctUn), slUn⟩)
    (cUn : PySem.W.codeIn K cdUn "unpack" = true)
    (kUn : PySem.W.keepIn K (.ref fUn) = true)
    (gCl : PySem.W.nsIn K mainGlobals "collect_numbers" = some (some (.ref fCl)))
    (lCl : K.lookup fCl = some ⟨ocCl, odCl, .func (PySem.W.fnOf "collect_numbers" "collect_numbers" (defArgs sCollect) (defBody sCollect) (defScope sCollect) .none kVCl dcCl pmCl anCl cdCl ctCl), slCl⟩)
    (cCl : PySem.W.codeIn K cdCl "collect_numbers" = true)
    (kCl : PySem.W.keepIn K (.ref fCl) = true)
    (v_MOST_BITS : PySem.W.nsIn K mainGlobals "MOST_BITS" = some (some (.int 12 t_MOST_BITS)))
    (v_MOST_ROWS : PySem.W.nsIn K mainGlobals "MOST_ROWS" = some (some (.int 4096 t_MOST_ROWS)))
    (aCN : PySem.W.nsIn K mainGlobals "Canvas" = some (some (.ref CN)))
    (pgCN : PySem.W.plainGet K CN Str.empty = true)
    (hdCN : PySem.W.hasDictIn K CN = true)
    (poCN : PySem.W.plainOver K CN = true)
    (saCN : PySem.W.findIn K (.ref CN) "__setattr__" = some (some (.builtin "object.__setattr__")))
    (mkCN : PySem.W.makesIn K CN = true)
    (kcCN : PySem.W.keepIn K (.ref CN) = true)
    (nCN_width : PySem.W.findIn K (.ref CN) "width" = some none)
    (nCN_numbers : PySem.W.findIn K (.ref CN) "numbers" = some none)
    (aXP : PySem.W.nsIn K mainGlobals "NoPicture" = some (some (.ref XP)))
    (exXP : PySem.W.excIn K XP [.type "Exception", .type "BaseException", .type "object"] "Exception.__new__" = true)
    (h12 : PySem.W.exmOne K (.ref XP) (.ref X) = some false)
    (gCi : PySem.W.findIn K (.ref CN) "__init__" = some (some (.ref fCi)))
    (iCi : PySem.W.isFn K (.ref fCi) = true)
    (lCi : K.lookup fCi = some ⟨ocCi, odCi, .func (PySem.W.fnOf "__init__" "Canvas.__init__" (defArgs sCi) (defBody sCi) (defScope sCi) .none kVCi dcCi pmCi anCi cdCi ctCi), slCi⟩)
    (cCi : PySem.W.codeIn K cdCi "Canvas.__init__" = true)
    (kCi : PySem.W.keepIn K (.ref fCi) = true)
    (gPt : PySem.W.findIn K (.ref CN) "paint" = some (some (.ref fPt)))
    (iPt : PySem.W.isFn K (.ref fPt) = true)
    (lPt : K.lookup fPt = some ⟨ocPt, odPt, .func (PySem.W.fnOf "paint" "Canvas.paint" (defArgs sPaint) (defBody sPaint) (defScope sPaint) .none kVPt dcPt pmPt anPt cdPt ctPt), slPt⟩)
    (cPt : PySem.W.codeIn K cdPt "Canvas.paint" = true)
    (kPt : PySem.W.keepIn K (.ref fPt) = true)
    (gCr : PySem.W.findIn K (.ref CN) "clear_area" = some (some (.ref fCr)))
    (iCr : PySem.W.isFn K (.ref fCr) = true)
    (lCr : K.lookup fCr = some ⟨ocCr, odCr, .func (PySem.W.fnOf "clear_area" "Canvas.clear_area" (defArgs sClear) (defBody sClear) (defScope sClear) .none kVCr dcCr pmCr anCr cdCr ctCr), slCr⟩)
    (cCr : PySem.W.codeIn K cdCr "Canvas.clear_area" = true)
    (kCr : PySem.W.keepIn K (.ref fCr) = true)
    (gDp : PySem.W.nsIn K mainGlobals "draw_picture" = some (some (.ref fDp)))
    (lDp : K.lookup fDp = some ⟨ocDp, odDp, .func (PySem.W.fnOf "draw_picture" "draw_picture" (defArgs sDrawP) (defBody sDrawP) (defScope sDrawP) .none kVDp dcDp pmDp anDp cdDp ctDp), slDp⟩)
    (cDp : PySem.W.codeIn K cdDp "draw_picture" = true)
    (kDp : PySem.W.keepIn K (.ref fDp) = true)
    (gPp : PySem.W.nsIn K mainGlobals "prepare_canvas" = some (some (.ref fPp)))
    (lPp : K.lookup fPp = some ⟨ocPp, odPp, .func (PySem.W.fnOf "prepare_canvas" "prepare_canvas" (defArgs sPrep) (defBody sPrep) (defScope sPrep) .none kVPp dcPp pmPp anPp cdPp ctPp), slPp⟩)
    (cPp : PySem.W.codeIn K cdPp "prepare_canvas" = true)
    (kPp : PySem.W.keepIn K (.ref fPp) = true)
    (gDn : PySem.W.nsIn K mainGlobals "draw_numbers" = some (some (.ref fDn)))
    (lDn : K.lookup fDn = some ⟨ocDn, odDn, .func (PySem.W.fnOf "draw_numbers" "draw_numbers" (defArgs sDrawN) (defBody sDrawN) (defScope sDrawN) .none kVDn dcDn pmDn anDn cdDn ctDn), slDn⟩)
    (cDn : PySem.W.codeIn K cdDn "draw_numbers" = true)
    (kDn : PySem.W.keepIn K (.ref fDn) = true)
    (gRw : PySem.W.nsIn K mainGlobals "order_rows" = some (some (.ref fRw)))
    (lRw : K.lookup fRw = some ⟨ocRw, odRw, .func (PySem.W.fnOf "order_rows" "order_rows" (defArgs sRows) (defBody sRows) (defScope sRows) .none kVRw dcRw pmRw anRw cdRw ctRw), slRw⟩)
    (cRw : PySem.W.codeIn K cdRw "order_rows" = true)
    (kRw : PySem.W.keepIn K (.ref fRw) = true)
    (gFp : PySem.W.nsIn K mainGlobals "find_picture" = some (some (.ref fFp)))
    (lFp : K.lookup fFp = some ⟨ocFp, odFp, .func (PySem.W.fnOf "find_picture" "find_picture" (defArgs sFindP) (defBody sFindP) (defScope sFindP) .none kVFp dcFp pmFp anFp cdFp ctFp), slFp⟩)
    (cFp : PySem.W.codeIn K cdFp "find_picture" = true)
    (kFp : PySem.W.keepIn K (.ref fFp) = true)
    (z_list : PySem.W.nsIn K mainGlobals "list" = some none)
    (z_enumerate : PySem.W.nsIn K mainGlobals "enumerate" = some none)
    (v_CLEARED : PySem.W.nsIn K mainGlobals "CLEARED" = some (some (.int 2 t_CLEARED)))
    (v_BROUGHT_BACK : PySem.W.nsIn K mainGlobals "BROUGHT_BACK" = some (some (.int 3 t_BROUGHT_BACK)))
    (gNo : PySem.W.nsIn K mainGlobals "NOTHING" = some (some (.ref aNo)))
    (lNo : K.lookup aNo = some ⟨.type "tuple", odNo, .seq #[.int 0 w0, .int 0 w1, .int 0 w2, .int 0 w3] nNo, slNo⟩)
    (gPa : PySem.W.nsIn K mainGlobals "PASSES" = some (some (.ref aPa)))
    (lPa : K.lookup aPa = some ⟨.type "tuple", odPa, .seq #[.ref b1, .ref b2, .ref b3, .ref b4] nPa, slPa⟩)
    (lP1 : K.lookup b1 = some ⟨.type "tuple", odP1, .seq #[.int 0 x1, .int 8 y1] nP1, slP1⟩)
    (lP2 : K.lookup b2 = some ⟨.type "tuple", odP2, .seq #[.int 4 x2, .int 8 y2] nP2, slP2⟩)
    (lP3 : K.lookup b3 = some ⟨.type "tuple", odP3, .seq #[.int 2 x3, .int 4 y3] nP3, slP3⟩)
    (lP4 : K.lookup b4 = some ⟨.type "tuple", odP4, .seq #[.int 1 x4, .int 2 y4] nP4, slP4⟩)
    (gZ : PySem.W.nsIn K mainGlobals "draw" = some (some (.ref fZ)))
    (lZ : K.lookup fZ = some ⟨ocZ, odZ, .func (PySem.W.fnOf "draw" "draw" (defArgs sDraw) (defBody sDraw) (defScope sDraw) .none kVZ dcZ pmZ anZ cdZ ctZ), slZ⟩)
    (cZ : PySem.W.codeIn K cdZ "draw" = true)
    (kZ : PySem.W.keepIn K (.ref fZ) = true) :
    ∃ fd : FuncData, (∀ (s : Shared) (us : List Value), us.length = (["k", "file", "canvas", "saved"] : List Str).length → BindsTo s fd ⟨us, []⟩ ((["k", "file", "canvas", "saved"] : List Str).zip us)) ∧
      ∀ base : Heap, K.In base → base.Ns mainGlobals mg → FnOk P w K mg base (CXF P w) 8 fa fd ["k", "file", "canvas", "saved"] (spDraw K) := by
  have e := hfa.symm.trans (PySem.W.mg_of XK G gZ)
  cases e
  have neH : a1 ≠ a2 := by
    intro e
    rw [e, lH2] at lH1
    simp at lH1
  have T : Txt K mg ⟨C, CS, CM, CA, CP, CO, X⟩ := {
    cl := ⟨pgC, hdC, poC, saC⟩, nC_file := nC_file, nC_place := nC_place, mgC := PySem.W.mg_of XK G aC
    cs := ⟨pgCS, hdCS, poCS, saCS⟩, nCS_width := nCS_width, nCS_height := nCS_height, nCS_colours := nCS_colours, mgS := PySem.W.mg_of XK G aCS
    cm := ⟨pgCM, hdCM, poCM, saCM⟩, nCM_time := nCM_time, nCM_after := nCM_after, nCM_transparent := nCM_transparent, mgM := PySem.W.mg_of XK G aCM
    ca := ⟨pgCA, hdCA, poCA, saCA⟩, nCA_left := nCA_left, nCA_top := nCA_top, nCA_width := nCA_width, nCA_height := nCA_height, mgA := PySem.W.mg_of XK G aCA
    cp := ⟨pgCP, hdCP, poCP, saCP⟩, nCP_area := nCP_area, nCP_manner := nCP_manner, nCP_colours := nCP_colours, nCP_in_passes := nCP_in_passes, nCP_size := nCP_size, nCP_data := nCP_data, mgP := PySem.W.mg_of XK G aCP
    co := ⟨pgCO, hdCO, poCO, saCO⟩, nCO_screen := nCO_screen, nCO_pictures := nCO_pictures, nCO_length := nCO_length, mgO := PySem.W.mg_of XK G aCO
    xc := ⟨PySem.W.mg_of XK G aX, exX⟩
    len := PySem.W.mg_none_of XK G z_len, range := PySem.W.mg_none_of XK G z_range, tuple := PySem.W.mg_none_of XK G z_tuple
    note := ⟨_, PySem.W.mg_of XK G v_NOTE⟩, pict := ⟨_, PySem.W.mg_of XK G v_PICTURE⟩, last := ⟨_, PySem.W.mg_of XK G v_LAST⟩, pnote := ⟨_, PySem.W.mg_of XK G v_PICTURE_NOTE⟩
    mplaces := ⟨_, PySem.W.mg_of XK G v_MOST_PLACES⟩, mpict := ⟨_, PySem.W.mg_of XK G v_MOST_PICTURES⟩, mbytes := ⟨_, PySem.W.mg_of XK G v_MOST_BYTES⟩
    heads := ⟨aH, a1, a2, PySem.W.mg_of XK G gHd, neH, fun H => ⟨.inr ⟨_, _, _, lHd, rfl, rfl, by show 2 ≤ sizeLine; decide, .cons rfl (.cons rfl .nil)⟩, .inr ⟨_, _, _, lH1, rfl, rfl, by show 6 ≤ sizeLine; decide, vals_ints6 _ _ _ _ _ _⟩, .inr ⟨_, _, _, lH2, rfl, rfl, by show 6 ≤ sizeLine; decide, vals_ints6 _ _ _ _ _ _⟩⟩⟩ }
  have TC : TxtC K mg ⟨CB, CT, CU, XW⟩ := {
    cb := ⟨pgCB, hdCB, poCB, saCB⟩, nCB_data := nCB_data, nCB_place := nCB_place, nCB_held := nCB_held, nCB_held_bits := nCB_held_bits, mgB := PySem.W.mg_of XK G aCB
    ct := ⟨pgCT, hdCT, poCT, saCT⟩, nCT_size := nCT_size, nCT_clear_code := nCT_clear_code, nCT_end_code := nCT_end_code, nCT_added := nCT_added, nCT_code_bits := nCT_code_bits, nCT_row_before := nCT_row_before, mgT := PySem.W.mg_of XK G aCT
    cu := ⟨pgCU, hdCU, poCU, saCU⟩, nCU_numbers := nCU_numbers, nCU_is_wrong := nCU_is_wrong, mgU := PySem.W.mg_of XK G aCU
    xw := ⟨PySem.W.mg_of XK G aXW, exXW⟩, len := PySem.W.mg_none_of XK G z_len
    mbits := ⟨_, PySem.W.mg_of XK G v_MOST_BITS⟩, mrows := ⟨_, PySem.W.mg_of XK G v_MOST_ROWS⟩ }
  have TD : TxtD K mg CN := {
    cl := ⟨pgCN, hdCN, poCN, saCN⟩, nW := nCN_width, nN := nCN_numbers, mgC := PySem.W.mg_of XK G aCN
    len := PySem.W.mg_none_of XK G z_len, range := PySem.W.mg_none_of XK G z_range, list := PySem.W.mg_none_of XK G z_list, enum := PySem.W.mg_none_of XK G z_enumerate
    cleared := ⟨_, PySem.W.mg_of XK G v_CLEARED⟩, brought := ⟨_, PySem.W.mg_of XK G v_BROUGHT_BACK⟩
    nothing := ⟨aNo, PySem.W.mg_of XK G gNo, fun H => .inr ⟨_, _, _, lNo, rfl, rfl, by show 4 ≤ sizeLine; decide, .cons ⟨_, rfl⟩ (.cons ⟨_, rfl⟩ (.cons ⟨_, rfl⟩ (.cons ⟨_, rfl⟩ .nil)))⟩⟩
    passes := ⟨aPa, b1, b2, b3, b4, PySem.W.mg_of XK G gPa, fun H => ⟨.inr ⟨_, _, _, lPa, rfl, rfl, by show 4 ≤ sizeLine; decide, .cons rfl (.cons rfl (.cons rfl (.cons rfl .nil)))⟩, .inr ⟨_, _, _, lP1, rfl, rfl, by show 2 ≤ sizeLine; decide, .cons ⟨_, rfl⟩ (.cons ⟨_, rfl⟩ .nil)⟩, .inr ⟨_, _, _, lP2, rfl, rfl, by show 2 ≤ sizeLine; decide, .cons ⟨_, rfl⟩ (.cons ⟨_, rfl⟩ .nil)⟩, .inr ⟨_, _, _, lP3, rfl, rfl, by show 2 ≤ sizeLine; decide, .cons ⟨_, rfl⟩ (.cons ⟨_, rfl⟩ .nil)⟩, .inr ⟨_, _, _, lP4, rfl, rfl, by show 2 ≤ sizeLine; decide, .cons ⟨_, rfl⟩ (.cons ⟨_, rfl⟩ .nil)⟩⟩⟩ }
  have FI := fun_mk (st := sInit) lI cI kI
  have bI := FI.binds (ps := ["self", "file"]) fun _ _ _ _ _ _ us hl => match us, hl with | [_, _], _ => rfl
  have mI : Mk K C fI := ⟨mkC, gI, iI, kcC⟩
  have FB := fun_mk (st := sByte) lB cB kB
  have bB := FB.binds (ps := ["self"]) fun _ _ _ _ _ _ us hl => match us, hl with | [_], _ => rfl
  have mB : Meth K C "take_byte" fB := ⟨gB, iB, kB⟩
  have FP := fun_mk (st := sPair) lP cP kP
  have bP := FP.binds (ps := ["self"]) fun _ _ _ _ _ _ us hl => match us, hl with | [_], _ => rfl
  have mP : Meth K C "take_pair" fP := ⟨gP, iP, kP⟩
  have FY := fun_mk (st := sBytes) lY cY kY
  have bY := FY.binds (ps := ["self", "many"]) fun _ _ _ _ _ _ us hl => match us, hl with | [_, _], _ => rfl
  have mY : Meth K C "take_bytes" fY := ⟨gY, iY, kY⟩
  have FS := fun_mk (st := sSkip) lS cS kS
  have bS := FS.binds (ps := ["self", "many"]) fun _ _ _ _ _ _ us hl => match us, hl with | [_, _], _ => rfl
  have mS : Meth K C "skip" fS := ⟨gS, iS, kS⟩
  have FIs := fun_mk (st := sScr) lIs cIs kIs
  have bIs := FIs.binds (ps := ["self", "width", "height", "colours"]) fun _ _ _ _ _ _ us hl => match us, hl with | [_, _, _, _], _ => rfl
  have mIs : Mk K CS fIs := ⟨mkCS, gIs, iIs, kcCS⟩
  have FIm := fun_mk (st := sMan) lIm cIm kIm
  have bIm := FIm.binds (ps := ["self", "time", "after", "transparent"]) fun _ _ _ _ _ _ us hl => match us, hl with | [_, _, _, _], _ => rfl
  have mIm : Mk K CM fIm := ⟨mkCM, gIm, iIm, kcCM⟩
  have FIa := fun_mk (st := sAre) lIa cIa kIa
  have bIa := FIa.binds (ps := ["self", "left", "top", "width", "height"]) fun _ _ _ _ _ _ us hl => match us, hl with | [_, _, _, _, _], _ => rfl
  have mIa : Mk K CA fIa := ⟨mkCA, gIa, iIa, kcCA⟩
  have FIp := fun_mk (st := sPic) lIp cIp kIp
  have bIp := FIp.binds (ps := ["self", "area", "manner", "colours", "in_passes", "size", "data"]) fun _ _ _ _ _ _ us hl => match us, hl with | [_, _, _, _, _, _, _], _ => rfl
  have mIp : Mk K CP fIp := ⟨mkCP, gIp, iIp, kcCP⟩
  have FIo := fun_mk (st := sOut) lIo cIo kIo
  have bIo := FIo.binds (ps := ["self", "screen", "pictures", "length"]) fun _ _ _ _ _ _ us hl => match us, hl with | [_, _, _, _], _ => rfl
  have mIo : Mk K CO fIo := ⟨mkCO, gIo, iIo, kcCO⟩
  have FOl := fun_mk (st := sOutline) lOl cOl kOl
  have bOl := FOl.binds (ps := ["file"]) fun _ _ _ _ _ _ us hl => match us, hl with | [_], _ => rfl
  have mOl := PySem.W.mg_of XK G gOl
  have FH := fun_mk (st := sHead) lH cH kH
  have bH := FH.binds (ps := ["reader"]) fun _ _ _ _ _ _ us hl => match us, hl with | [_], _ => rfl
  have mH := PySem.W.mg_of XK G gH
  have FN := fun_mk (st := sScreen) lN cN kN
  have bN := FN.binds (ps := ["reader"]) fun _ _ _ _ _ _ us hl => match us, hl with | [_], _ => rfl
  have mN := PySem.W.mg_of XK G gN
  have FT := fun_mk (st := sTable) lT cT kT
  have bT := FT.binds (ps := ["reader", "marks"]) fun _ _ _ _ _ _ us hl => match us, hl with | [_, _], _ => rfl
  have mT := PySem.W.mg_of XK G gT
  have FPs := fun_mk (st := sPictures) lPs cPs kPs
  have bPs := FPs.binds (ps := ["reader", "screen"]) fun _ _ _ _ _ _ us hl => match us, hl with | [_, _], _ => rfl
  have mPs := PySem.W.mg_of XK G gPs
  have FPl := fun_mk (st := sPlain) lPl cPl kPl
  have bPl := FPl.binds (ps := ([] : List Str)) fun _ _ _ _ _ _ us hl => match us, hl with | [], _ => rfl
  have mPl := PySem.W.mg_of XK G gPl
  have FNt := fun_mk (st := sNote) lNt cNt kNt
  have bNt := FNt.binds (ps := ["reader", "manner"]) fun _ _ _ _ _ _ us hl => match us, hl with | [_, _], _ => rfl
  have mNt := PySem.W.mg_of XK G gNt
  have FMn := fun_mk (st := sManner) lMn cMn kMn
  have bMn := FMn.binds (ps := ["block"]) fun _ _ _ _ _ _ us hl => match us, hl with | [_], _ => rfl
  have mMn := PySem.W.mg_of XK G gMn
  have FL := fun_mk (st := sBlocks) lL cL kL
  have bL := FL.binds (ps := ["reader"]) fun _ _ _ _ _ _ us hl => match us, hl with | [_], _ => rfl
  have mL := PySem.W.mg_of XK G gL
  have FPi := fun_mk (st := sPicture) lPi cPi kPi
  have bPi := FPi.binds (ps := ["reader", "screen", "manner"]) fun _ _ _ _ _ _ us hl => match us, hl with | [_, _, _], _ => rfl
  have mPi := PySem.W.mg_of XK G gPi
  have FJ := fun_mk (st := sJoin) lJ cJ kJ
  have bJ := FJ.binds (ps := ["blocks"]) fun _ _ _ _ _ _ us hl => match us, hl with | [_], _ => rfl
  have mJ := PySem.W.mg_of XK G gJ
  have FAr := fun_mk (st := sArea) lAr cAr kAr
  have bAr := FAr.binds (ps := ["reader", "screen"]) fun _ _ _ _ _ _ us hl => match us, hl with | [_, _], _ => rfl
  have mAr := PySem.W.mg_of XK G gAr
  have FE := fun_mk (st := sEdge) lE cE kE
  have bE := FE.binds (ps := ["start", "extent", "room"]) fun _ _ _ _ _ _ us hl => match us, hl with | [_, _, _], _ => rfl
  have mE := PySem.W.mg_of XK G gE
  have FBi := fun_mk (st := sBi) lBi cBi kBi
  have bBi := FBi.binds (ps := ["self", "data"]) fun _ _ _ _ _ _ us hl => match us, hl with | [_, _], _ => rfl
  have mBi : Mk K CB fBi := ⟨mkCB, gBi, iBi, kcCB⟩
  have FCo := fun_mk (st := sCode) lCo cCo kCo
  have bCo := FCo.binds (ps := ["self", "many"]) fun _ _ _ _ _ _ us hl => match us, hl with | [_, _], _ => rfl
  have mCo : Meth K CB "take_code" fCo := ⟨gCo, iCo, kCo⟩
  have FHo := fun_mk (st := sHold) lHo cHo kHo
  have bHo := FHo.binds (ps := ["self"]) fun _ _ _ _ _ _ us hl => match us, hl with | [_], _ => rfl
  have mHo : Meth K CB "hold_byte" fHo := ⟨gHo, iHo, kHo⟩
  have FTi := fun_mk (st := sTi) lTi cTi kTi
  have bTi := FTi.binds (ps := ["self", "size"]) fun _ _ _ _ _ _ us hl => match us, hl with | [_, _], _ => rfl
  have mTi : Mk K CT fTi := ⟨mkCT, gTi, iTi, kcCT⟩
  have FFo := fun_mk (st := sForget) lFo cFo kFo
  have bFo := FFo.binds (ps := ["self"]) fun _ _ _ _ _ _ us hl => match us, hl with | [_], _ => rfl
  have mFo : Meth K CT "forget" fFo := ⟨gFo, iFo, kFo⟩
  have FCn := fun_mk (st := sCount) lCn cCn kCn
  have bCn := FCn.binds (ps := ["self"]) fun _ _ _ _ _ _ us hl => match us, hl with | [_], _ => rfl
  have mCn : Meth K CT "count_rows" fCn := ⟨gCn, iCn, kCn⟩
  have FTk := fun_mk (st := sTake) lTk cTk kTk
  have bTk := FTk.binds (ps := ["self", "code"]) fun _ _ _ _ _ _ us hl => match us, hl with | [_, _], _ => rfl
  have mTk : Meth K CT "take_row" fTk := ⟨gTk, iTk, kTk⟩
  have FFd := fun_mk (st := sFind) lFd cFd kFd
  have bFd := FFd.binds (ps := ["self", "code"]) fun _ _ _ _ _ _ us hl => match us, hl with | [_, _], _ => rfl
  have mFd : Meth K CT "find_row" fFd := ⟨gFd, iFd, kFd⟩
  have FAd := fun_mk (st := sAdd) lAd cAd kAd
  have bAd := FAd.binds (ps := ["self", "row"]) fun _ _ _ _ _ _ us hl => match us, hl with | [_, _], _ => rfl
  have mAd : Meth K CT "add_row" fAd := ⟨gAd, iAd, kAd⟩
  have FIu := fun_mk (st := sUnp) lIu cIu kIu
  have bIu := FIu.binds (ps := ["self", "numbers", "is_wrong"]) fun _ _ _ _ _ _ us hl => match us, hl with | [_, _, _], _ => rfl
  have mIu : Mk K CU fIu := ⟨mkCU, gIu, iIu, kcCU⟩
  have FUn := fun_mk (st := sUnpack) lUn cUn kUn
  have bUn := FUn.binds (ps := ["size", "most", "data"]) fun _ _ _ _ _ _ us hl => match us, hl with | [_, _, _], _ => rfl
  have mUn := PySem.W.mg_of XK G gUn
  have FCl := fun_mk (st := sCollect) lCl cCl kCl
  have bCl := FCl.binds (ps := ["numbers", "most", "bits", "table"]) fun _ _ _ _ _ _ us hl => match us, hl with | [_, _, _, _], _ => rfl
  have mCl := PySem.W.mg_of XK G gCl
  have FCi := fun_mk (st := sCi) lCi cCi kCi
  have bCi := FCi.binds (ps := ["self", "width", "numbers"]) fun _ _ _ _ _ _ us hl => match us, hl with | [_, _, _], _ => rfl
  have mCi : Mk K CN fCi := ⟨mkCN, gCi, iCi, kcCN⟩
  have FPt := fun_mk (st := sPaint) lPt cPt kPt
  have bPt := FPt.binds (ps := ["self", "area", "row", "column", "colour"]) fun _ _ _ _ _ _ us hl => match us, hl with | [_, _, _, _, _], _ => rfl
  have mPt : Meth K CN "paint" fPt := ⟨gPt, iPt, kPt⟩
  have FCr := fun_mk (st := sClear) lCr cCr kCr
  have bCr := FCr.binds (ps := ["self", "area"]) fun _ _ _ _ _ _ us hl => match us, hl with | [_, _], _ => rfl
  have mCr : Meth K CN "clear_area" fCr := ⟨gCr, iCr, kCr⟩
  have FDp := fun_mk (st := sDrawP) lDp cDp kDp
  have bDp := FDp.binds (ps := ["k", "outline", "canvas", "saved"]) fun _ _ _ _ _ _ us hl => match us, hl with | [_, _, _, _], _ => rfl
  have mDp := PySem.W.mg_of XK G gDp
  have FPp := fun_mk (st := sPrep) lPp cPp kPp
  have bPp := FPp.binds (ps := ["k", "outline", "canvas", "saved"]) fun _ _ _ _ _ _ us hl => match us, hl with | [_, _, _, _], _ => rfl
  have mPp := PySem.W.mg_of XK G gPp
  have FDn := fun_mk (st := sDrawN) lDn cDn kDn
  have bDn := FDn.binds (ps := ["drawn", "picture", "numbers"]) fun _ _ _ _ _ _ us hl => match us, hl with | [_, _, _], _ => rfl
  have mDn := PySem.W.mg_of XK G gDn
  have FRw := fun_mk (st := sRows) lRw cRw kRw
  have bRw := FRw.binds (ps := ["height", "in_passes"]) fun _ _ _ _ _ _ us hl => match us, hl with | [_, _], _ => rfl
  have mRw := PySem.W.mg_of XK G gRw
  have FFp := fun_mk (st := sFindP) lFp cFp kFp
  have bFp := FFp.binds (ps := ["k", "outline"]) fun _ _ _ _ _ _ us hl => match us, hl with | [_, _], _ => rfl
  have mFp := PySem.W.mg_of XK G gFp
  have FZ := fun_mk (st := sDraw) lZ cZ kZ
  have bZ := FZ.binds (ps := ["k", "file", "canvas", "saved"]) fun _ _ _ _ _ _ us hl => match us, hl with | [_, _, _, _], _ => rfl
  have mZ := PySem.W.mg_of XK G gZ
  refine ⟨PySem.W.fnOf "draw" "draw" (defArgs sDraw) (defBody sDraw) (defScope sDraw) .none kVZ dcZ pmZ anZ cdZ ctZ, fun s us hl => match us, hl with | [_, _, _, _], _ => .of_eq rfl, fun base _ _ => ?_⟩
  have GS : FnOk P w K mg base (CXF P w) 1 fS _ ["self", "many"] (spSkip K ⟨C, CS, CM, CA, CP, CO, X⟩) := ok_skip FS T
  have GB : FnOk P w K mg base (CXF P w) 2 fB _ ["self"] (spByte K ⟨C, CS, CM, CA, CP, CO, X⟩) := ok_byte FB T GS bS mS
  have GP : FnOk P w K mg base (CXF P w) 3 fP _ ["self"] (spPair K ⟨C, CS, CM, CA, CP, CO, X⟩) := ok_pair FP T GB bB mB
  have GY : FnOk P w K mg base (CXF P w) 2 fY _ ["self", "many"] (spBytes K ⟨C, CS, CM, CA, CP, CO, X⟩) := ok_bytes FY T GS bS mS
  have GI : FnOk P w K mg base CX0 1 fI _ ["self", "file"] (spInit ⟨C, CS, CM, CA, CP, CO, X⟩) := ok_init FI T
  have GIs : FnOk P w K mg base CX0 1 fIs _ ["self", "width", "height", "colours"] (spIScr ⟨C, CS, CM, CA, CP, CO, X⟩) := ok_iScr FIs T
  have GIm : FnOk P w K mg base CX0 1 fIm _ ["self", "time", "after", "transparent"] (spIMan ⟨C, CS, CM, CA, CP, CO, X⟩) := ok_iMan FIm T
  have GIa : FnOk P w K mg base CX0 1 fIa _ ["self", "left", "top", "width", "height"] (spIAre ⟨C, CS, CM, CA, CP, CO, X⟩) := ok_iAre FIa T
  have GIp : FnOk P w K mg base CX0 1 fIp _ ["self", "area", "manner", "colours", "in_passes", "size", "data"] (spIPic ⟨C, CS, CM, CA, CP, CO, X⟩) := ok_iPic FIp T
  have GIo : FnOk P w K mg base CX0 1 fIo _ ["self", "screen", "pictures", "length"] (spIOut ⟨C, CS, CM, CA, CP, CO, X⟩) := ok_iOut FIo T
  have GE : FnOk P w K mg base (CXF P w) 1 fE _ ["start", "extent", "room"] (spEdge ⟨C, CS, CM, CA, CP, CO, X⟩) := ok_edge FE T
  have GAr : FnOk P w K mg base (CXF P w) 4 fAr _ ["reader", "screen"] (spArea K ⟨C, CS, CM, CA, CP, CO, X⟩) := ok_area FAr T GP bP mP GE kE bE mE mIa GIa bIa
  have GT : FnOk P w K mg base (CXF P w) 3 fT _ ["reader", "marks"] (spTable K ⟨C, CS, CM, CA, CP, CO, X⟩) := ok_table FT T GY bY mY
  have GL : FnOk P w K mg base (CXF P w) 3 fL _ ["reader"] (spBlocks K ⟨C, CS, CM, CA, CP, CO, X⟩) := ok_blocks FL T GB bB mB GY bY mY
  have GJ : FnOk P w K mg base CX0 1 fJ _ ["blocks"] spJoin := ok_join FJ
  have GPl : FnOk P w K mg base CX0 3 fPl _ [] (spPlain ⟨C, CS, CM, CA, CP, CO, X⟩) := ok_plain FPl T mIm GIm bIm
  have GMn : FnOk P w K mg base (CXF P w) 4 fMn _ ["block"] (spManner ⟨C, CS, CM, CA, CP, CO, X⟩) := ok_manner FMn T mI GI bI GB bB mB GP bP mP mIm GIm bIm
  have GNt : FnOk P w K mg base (CXF P w) 5 fNt _ ["reader", "manner"] (spNote K ⟨C, CS, CM, CA, CP, CO, X⟩) := ok_note FNt T GB bB mB GL kL bL mL GMn kMn bMn mMn
  have GPi : FnOk P w K mg base (CXF P w) 5 fPi _ ["reader", "screen", "manner"] (spPicture K ⟨C, CS, CM, CA, CP, CO, X⟩) := ok_picture FPi T GAr kAr bAr mAr GB bB mB GT kT bT mT GJ kJ bJ mJ GL kL bL mL mIp GIp bIp
  have GH : FnOk P w K mg base (CXF P w) 3 fH _ ["reader"] (spHead K ⟨C, CS, CM, CA, CP, CO, X⟩) := ok_head FH T GY bY mY
  have GN : FnOk P w K mg base (CXF P w) 4 fN _ ["reader"] (spScreen K ⟨C, CS, CM, CA, CP, CO, X⟩) := ok_screen FN T GB bB mB GP bP mP GS bS mS GT kT bT mT mIs GIs bIs
  have GPs : FnOk P w K mg base (CXF P w) 6 fPs _ ["reader", "screen"] (spPictures K ⟨C, CS, CM, CA, CP, CO, X⟩) := ok_pictures FPs T GB bB mB GNt kNt bNt mNt GPi kPi bPi mPi GPl kPl bPl mPl
  have GOl : FnOk P w K mg base (CXF P w) 7 fOl _ ["file"] (spOutline K ⟨C, CS, CM, CA, CP, CO, X⟩) := ok_outline FOl T mI GI bI GH kH bH mH GN kN bN mN GPs kPs bPs mPs mIo GIo bIo
  have GBi : FnOk P w K mg base CX0 1 fBi _ ["self", "data"] (spBi ⟨CB, CT, CU, XW⟩) := ok_bi FBi TC
  have GHo : FnOk P w K mg base (CXF P w) 1 fHo _ ["self"] (spHold K ⟨CB, CT, CU, XW⟩) := ok_hold FHo TC
  have GCo : FnOk P w K mg base (CXF P w) 2 fCo _ ["self", "many"] (spCode K ⟨CB, CT, CU, XW⟩) := ok_code FCo TC GHo bHo mHo
  have GFo : FnOk P w K mg base CX0 1 fFo _ ["self"] (spForget ⟨CB, CT, CU, XW⟩) := ok_forget FFo TC
  have GTi : FnOk P w K mg base CX0 2 fTi _ ["self", "size"] (spTi ⟨CB, CT, CU, XW⟩) := ok_ti FTi TC GFo bFo mFo
  have GCn : FnOk P w K mg base CX0 1 fCn _ ["self"] (spCount ⟨CB, CT, CU, XW⟩) := ok_count FCn TC
  have GAd : FnOk P w K mg base CX0 2 fAd _ ["self", "row"] (spAdd ⟨CB, CT, CU, XW⟩) := ok_add FAd TC GCn bCn mCn
  have GFd : FnOk P w K mg base (CXF P w) 2 fFd _ ["self", "code"] (spFind ⟨CB, CT, CU, XW⟩) := ok_find FFd TC GCn bCn mCn
  have GTk : FnOk P w K mg base (CXF P w) 3 fTk _ ["self", "code"] (spTake ⟨CB, CT, CU, XW⟩) := ok_take FTk TC GCn bCn mCn GFd bFd mFd GAd bAd mAd
  have GIu : FnOkH P w K mg base 1 fIu _ ["self", "numbers", "is_wrong"] (spIUnp ⟨CB, CT, CU, XW⟩) := ok_iUnp FIu TC
  have GCl : FnOk P w K mg base (CXF P w) 4 fCl _ ["numbers", "most", "bits", "table"] (spCollect K ⟨CB, CT, CU, XW⟩) := ok_collect FCl TC GCo bCo mCo GFo bFo mFo GTk bTk mTk
  have GUn : FnOk P w K mg base (CXF P w) 5 fUn _ ["size", "most", "data"] (spUnpack K ⟨CB, CT, CU, XW⟩) := ok_unpack FUn TC GCl kCl bCl mCl mBi GBi bBi mTi GTi bTi mIu GIu bIu
  have GFp : FnOk P w K mg base (CXF P w) 1 fFp _ ["k", "outline"] (spFindP ⟨C, CS, CM, CA, CP, CO, X⟩ XP) := ok_findP FFp T ⟨PySem.W.mg_of XK G aXP, exXP⟩
  have GCi : FnOk P w K mg base CX0 1 fCi _ ["self", "width", "numbers"] (spCi K CN) := ok_ci FCi TD
  have GPt : FnOk P w K mg base CX0 1 fPt _ ["self", "area", "row", "column", "colour"] (spPaint K ⟨C, CS, CM, CA, CP, CO, X⟩ CN) := ok_paint FPt TD T
  have GCr : FnOk P w K mg base CX0 2 fCr _ ["self", "area"] (spClear K ⟨C, CS, CM, CA, CP, CO, X⟩ CN) := ok_clear FCr TD T GPt bPt mPt
  have GRw : FnOk P w K mg base CX0 1 fRw _ ["height", "in_passes"] spRows := ok_rows FRw TD
  have GDn : FnOk P w K mg base CX0 2 fDn _ ["drawn", "picture", "numbers"] (spDrawN K ⟨C, CS, CM, CA, CP, CO, X⟩ CN) := ok_drawN FDn TD T GRw kRw bRw mRw GPt bPt mPt
  have GPp : FnOk P w K mg base CX0 3 fPp _ ["k", "outline", "canvas", "saved"] (spPrep K ⟨C, CS, CM, CA, CP, CO, X⟩ CN) := ok_prep FPp TD T mCi GCi bCi GCr bCr mCr
  have GDp : FnOk P w K mg base (CXF P w) 6 fDp _ ["k", "outline", "canvas", "saved"] (spDrawP K ⟨C, CS, CM, CA, CP, CO, X⟩) := ok_drawP FDp TD T TC GPp kPp bPp mPp GUn kUn bUn mUn GDn kDn bDn mDn
  exact ok_draw FZ T ⟨PySem.W.mg_of XK G aXP, exXP⟩ h12 GOl kOl bOl mOl GFp kFp bFp mFp GDp kDp bDp mDp
/-! ### what is handed in, what is due -/
theorem said : PySem.Challenge.rw_tintfile_s03_draw.wellSaid = true := by decide +kernel
theorem go (P : Params) (h : Heap) (args : List PySem.W.WData) (vals : List Value) (hpre : PySem.Challenge.rw_tintfile_s03_draw.pre args = true) (hw : PySem.W.WellAll P h vals args) :
    ∃ (L : Ls) (vs : List V) (out : List Int), LOk h L ∧ Vals vs vals ∧ vals.length = (["k", "file", "canvas", "saved"] : List Str).length ∧ PySem.Challenge.rw_tintfile_s03_draw.post args (.list (out.map PySem.W.WData.int)) = true ∧
      ∀ (K : PySem.W.Frag) (H : Hp), (∀ p ∈ L, SqL K H p.1 (p.2.2.map V.int)) → spDraw K vs H (fun v H' => ∃ l, v = .ref l ∧ SqL K H' l (out.map V.int)) fun _ _ _ => False := by
  obtain ⟨a, h1, h2, rfl⟩ := (PySem.W.OpenSpec.pre_iff said args).mp hpre
  obtain ⟨kk, ns, cn, sn, u⟩ := a
  have hpost := (PySem.W.OpenSpec.post_iff said h1 (PySem.Challenge.rw_tintfile_s03_draw.ret.enc (PySw22.draw kk ns cn sn)) []).mpr rfl
  have one : ∀ l : List Int, PySem.W.Codec.inList 0 100000 (PySem.W.Codec.inInt 0 255) l = true → l.length ≤ 100000 ∧ ∀ x ∈ l, 0 ≤ x ∧ x ≤ 255 := fun l q => by
    have q2 := Bool.and_eq_true_iff.mp q
    exact ⟨(PySem.W.Codec.inNat_iff.mp q2.1).2, fun x hx => PySem.W.Codec.inInt_iff.mp (List.all_eq_true.mp q2.2 x hx)⟩
  have q : (PySem.W.Codec.inInt (-2147483648) 2147483647 kk && (PySem.W.Codec.inList 0 100000 (PySem.W.Codec.inInt 0 255) ns && (PySem.W.Codec.inList 0 100000 (PySem.W.Codec.inInt 0 255) cn && (PySem.W.Codec.inList 0 100000 (PySem.W.Codec.inInt 0 255) sn && true)))) = true := h1
  rw [Bool.and_true] at q
  have q1 := (Bool.and_eq_true_iff.mp q).2
  have q2 := (Bool.and_eq_true_iff.mp q1).2
  have hn := one ns (Bool.and_eq_true_iff.mp q1).1
  have hc := one cn (Bool.and_eq_true_iff.mp q2).1
  have hs := one sn (Bool.and_eq_true_iff.mp q2).2
  have ask : PySw22.draw_asked kk ns cn sn = true := h2
  have ask2 : cn.length = 4 * Sw22Neutral.places ns ∧ sn.length = 4 * Sw22Neutral.places ns := by
    have e : (Sw22Neutral.asked1 [[3, (ns.length : Int), kk], ns, cn, sn] && (decide (cn.length = 4 * Sw22Neutral.places ns) && decide (sn.length = 4 * Sw22Neutral.places ns))) = true := ask
    have e2 := Bool.and_eq_true_iff.mp (Bool.and_eq_true_iff.mp e).2
    exact ⟨of_decide_eq_true e2.1, of_decide_eq_true e2.2⟩
  have hw' : PySem.W.WellAll P h vals [.int kk, .list (ns.map PySem.W.WData.int), .list (cn.map PySem.W.WData.int), .list (sn.map PySem.W.WData.int)] := hw
  have hsl : (100000 : Nat) ≤ sizeLine := by decide
  cases hw' with
  | cons w1 w2 =>
    cases w2 with
    | cons w2 w3 =>
      cases w3 with
      | cons w3 w4 =>
        cases w4 with
        | cons w4 w5 =>
          cases w5
          cases w1 with
          | int _ t1 =>
            cases w2 with
            | @list ad vs _ ho hall =>
              cases w3 with
              | @list ad2 vs2 _ ho2 hall2 =>
                cases w4 with
                | @list ad3 vs3 _ ho3 hall3 =>
                  have ia := Att.ints_of_wellAll ns vs hall
                  have ia2 := Att.ints_of_wellAll cn vs2 hall2
                  have ia3 := Att.ints_of_wellAll sn vs3 hall3
                  refine ⟨[(ad, vs, ns), (ad2, vs2, cn), (ad3, vs3, sn)], [.int kk, .ref ad, .ref ad2, .ref ad3], PySw22.draw kk ns cn sn, ?_, .cons ⟨_, rfl⟩ (.cons rfl (.cons rfl (.cons rfl .nil))), rfl, hpost, fun K H hsq =>
                    ⟨kk, ad, ad2, ad3, Sw22Neutral.nats ns, Sw22Neutral.nats cn, Sw22Neutral.nats sn, rfl, ?_, ?_, ?_, nats_lt ns hn.2, by rw [nats_len]; exact hn.1, by rw [nats_len]; exact hc.1, ?_, fun H' l hl => ⟨l, rfl, SqL.of ?_⟩⟩⟩
                  · intro p hp
                    rcases List.mem_cons.mp hp with rfl | hp
                    · exact ⟨ho, ia, Nat.le_trans hn.1 hsl⟩
                    · rcases List.mem_cons.mp hp with rfl | hp
                      · exact ⟨ho2, ia2, Nat.le_trans hc.1 hsl⟩
                      · obtain rfl := List.mem_singleton.mp hp
                        exact ⟨ho3, ia3, Nat.le_trans hs.1 hsl⟩
                  · rw [← nats_bv ns hn.2]
                    exact hsq _ List.mem_cons_self
                  · rw [← nats_bv cn hc.2]
                    exact hsq _ (List.mem_cons_of_mem _ List.mem_cons_self)
                  · rw [← nats_bv sn hs.2]
                    exact hsq _ (List.mem_cons_of_mem _ (List.mem_cons_of_mem _ List.mem_cons_self))
                  · intro f e
                    rw [nats_len, nats_len, ← Gif.places_of e]
                    exact ask2
                  · rw [hl, Gif.draw_due kk ns cn sn hn.1 ask2.1 ask2.2]
                    unfold due
                    cases Sw22.read (Sw22Neutral.nats ns) with
                    | none => rfl
                    | some f =>
                      dsimp only
                      cases f.at_ kk with
                      | none => rfl
                      | some p =>
                        dsimp only
                        unfold drawn
                        rw [List.map_cons, List.map_append, ints_bv, ints_bv]
end Tf
open PySem PySem.W PyProof.Rows
set_option maxRecDepth 100000 in
set_option maxHeartbeats 0 in
theorem PySem.Challenge.cw_tintfile_s03_draw_holds : PySem.Challenge.rw_tintfile_s03_draw.Holds := by
  w_on; k_headS; (case hw => exact ⟨[.int 0, .list [], .list [], .list []], by decide +kernel, by decide +kernel⟩)
  k_fillS
  refine L2.walk_spec (r := PySem.Challenge.rw_tintfile_s03_draw) (k := 8) (ps := ["k", "file", "canvas", "saved"]) (sp := Tf.spDraw) rfl ⟨rfl, by decide, by decide⟩ (fun w h Y => PySem.W.kIn_of Y) ?F Tf.go
  case F =>
    intro w mg fa h KX G hmg
    refine' Tf.all_mk KX G hmg ?aC ?pgC ?hdC ?poC ?saC ?mkC ?kcC ?nC_file ?nC_place ?aCS ?pgCS ?hdCS ?poCS ?saCS ?mkCS ?kcCS ?nCS_width ?nCS_height ?nCS_colours ?aCM ?pgCM ?hdCM ?poCM ?saCM ?mkCM ?kcCM ?nCM_time ?nCM_after ?nCM_transparent ?aCA ?pgCA ?hdCA ?poCA ?saCA ?mkCA ?kcCA ?nCA_left ?nCA_top ?nCA_width ?nCA_height ?aCP ?pgCP ?hdCP ?poCP ?saCP ?mkCP ?kcCP ?nCP_area ?nCP_manner ?nCP_colours ?nCP_in_passes ?nCP_size ?nCP_data ?aCO ?pgCO ?hdCO ?poCO ?saCO ?mkCO ?kcCO ?nCO_screen ?nCO_pictures ?nCO_length ?aX ?exX ?gI ?iI ?lI ?cI ?kI ?gB ?iB ?lB ?cB ?kB ?gP ?iP ?lP ?cP ?kP ?gY ?iY ?lY ?cY ?kY ?gS ?iS ?lS ?cS ?kS ?gIs ?iIs ?lIs ?cIs ?kIs ?gIm ?iIm ?lIm ?cIm ?kIm ?gIa ?iIa ?lIa ?cIa ?kIa ?gIp ?iIp ?lIp ?cIp ?kIp ?gIo ?iIo ?lIo ?cIo ?kIo ?gOl ?lOl ?cOl ?kOl ?gH ?lH ?cH ?kH ?gN ?lN ?cN ?kN ?gT ?lT ?cT ?kT ?gPs ?lPs ?cPs ?kPs ?gPl ?lPl ?cPl ?kPl ?gNt ?lNt ?cNt ?kNt ?gMn ?lMn ?cMn ?kMn ?gL ?lL ?cL ?kL ?gPi ?lPi ?cPi ?kPi ?gJ ?lJ ?cJ ?kJ ?gAr ?lAr ?cAr ?kAr ?gE ?lE ?cE ?kE ?z_len ?z_range ?z_tuple ?v_NOTE ?v_PICTURE ?v_LAST ?v_PICTURE_NOTE ?v_MOST_PLACES ?v_MOST_PICTURES ?v_MOST_BYTES ?gHd ?lHd ?lH1 ?lH2 ?aCB ?pgCB ?hdCB ?poCB ?saCB ?mkCB ?kcCB ?nCB_data ?nCB_place ?nCB_held ?nCB_held_bits ?aCT ?pgCT ?hdCT ?poCT ?saCT ?mkCT ?kcCT ?nCT_size ?nCT_clear_code ?nCT_end_code ?nCT_added ?nCT_code_bits ?nCT_row_before ?aCU ?pgCU ?hdCU ?poCU ?saCU ?mkCU ?kcCU ?nCU_numbers ?nCU_is_wrong ?aXW ?exXW ?gBi ?iBi ?lBi ?cBi ?kBi ?gCo ?iCo ?lCo ?cCo ?kCo ?gHo ?iHo ?lHo ?cHo ?kHo ?gTi ?iTi ?lTi ?cTi ?kTi ?gFo ?iFo ?lFo ?cFo ?kFo ?gCn ?iCn ?lCn ?cCn ?kCn ?gTk ?iTk ?lTk ?cTk ?kTk ?gFd ?iFd ?lFd ?cFd ?kFd ?gAd ?iAd ?lAd ?cAd ?kAd ?gIu ?iIu ?lIu ?cIu ?kIu ?gUn ?lUn ?cUn ?kUn ?gCl ?lCl ?cCl ?kCl ?v_MOST_BITS ?v_MOST_ROWS ?aCN ?pgCN ?hdCN ?poCN ?saCN ?mkCN ?kcCN ?nCN_width ?nCN_numbers ?aXP ?exXP ?h12 ?gCi ?iCi ?lCi ?cCi ?kCi ?gPt ?iPt ?lPt ?cPt ?kPt ?gCr ?iCr ?lCr ?cCr ?kCr ?gDp ?lDp ?cDp ?kDp ?gPp ?lPp ?cPp ?kPp ?gDn ?lDn ?cDn ?kDn ?gRw ?lRw ?cRw ?kRw ?gFp ?lFp ?cFp ?kFp ?z_list ?z_enumerate ?v_CLEARED ?v_BROUGHT_BACK ?gNo ?lNo ?gPa ?lPa ?lP1 ?lP2 ?lP3 ?lP4 ?gZ ?lZ ?cZ ?kZ
    (case aC => k_is)
    (case pgC => k_is)
    (case hdC => k_is)
    (case poC => k_is)
    (case saC => k_is)
    (case mkC => k_is)
    (case kcC => k_is)
    (case nC_file => k_is)
    (case nC_place => k_is)
    (case aCS => k_is)
    (case pgCS => k_is)
    (case hdCS => k_is)
    (case poCS => k_is)
    (case saCS => k_is)
    (case mkCS => k_is)
    (case kcCS => k_is)
    (case nCS_width => k_is)
    (case nCS_height => k_is)
    (case nCS_colours => k_is)
    (case aCM => k_is)
    (case pgCM => k_is)
    (case hdCM => k_is)
    (case poCM => k_is)
    (case saCM => k_is)
    (case mkCM => k_is)
    (case kcCM => k_is)
    (case nCM_time => k_is)
    (case nCM_after => k_is)
    (case nCM_transparent => k_is)
    (case aCA => k_is)
    (case pgCA => k_is)
    (case hdCA => k_is)
    (case poCA => k_is)
    (case saCA => k_is)
    (case mkCA => k_is)
    (case kcCA => k_is)
    (case nCA_left => k_is)
    (case nCA_top => k_is)
    (case nCA_width => k_is)
    (case nCA_height => k_is)
    (case aCP => k_is)
    (case pgCP => k_is)
    (case hdCP => k_is)
    (case poCP => k_is)
    (case saCP => k_is)
    (case mkCP => k_is)
    (case kcCP => k_is)
    (case nCP_area => k_is)
    (case nCP_manner => k_is)
    (case nCP_colours => k_is)
    (case nCP_in_passes => k_is)
    (case nCP_size => k_is)
    (case nCP_data => k_is)
    (case aCO => k_is)
    (case pgCO => k_is)
    (case hdCO => k_is)
    (case poCO => k_is)
    (case saCO => k_is)
    (case mkCO => k_is)
    (case kcCO => k_is)
    (case nCO_screen => k_is)
    (case nCO_pictures => k_is)
    (case nCO_length => k_is)
    (case aX => k_is)
    (case exX => k_exc)
    (case gI => k_is)
    (case iI => k_is)
    (case lI => k_is)
    (case cI => k_is)
    (case kI => k_is)
    (case gB => k_is)
    (case iB => k_is)
    (case lB => k_is)
    (case cB => k_is)
    (case kB => k_is)
    (case gP => k_is)
    (case iP => k_is)
    (case lP => k_is)
    (case cP => k_is)
    (case kP => k_is)
    (case gY => k_is)
    (case iY => k_is)
    (case lY => k_is)
    (case cY => k_is)
    (case kY => k_is)
    (case gS => k_is)
    (case iS => k_is)
    (case lS => k_is)
    (case cS => k_is)
    (case kS => k_is)
    (case gIs => k_is)
    (case iIs => k_is)
    (case lIs => k_is)
    (case cIs => k_is)
    (case kIs => k_is)
    (case gIm => k_is)
    (case iIm => k_is)
    (case lIm => k_is)
    (case cIm => k_is)
    (case kIm => k_is)
    (case gIa => k_is)
    (case iIa => k_is)
    (case lIa => k_is)
    (case cIa => k_is)
    (case kIa => k_is)
    (case gIp => k_is)
    (case iIp => k_is)
    (case lIp => k_is)
    (case cIp => k_is)
    (case kIp => k_is)
    (case gIo => k_is)
    (case iIo => k_is)
    (case lIo => k_is)
    (case cIo => k_is)
    (case kIo => k_is)
    (case gOl => k_is)
    (case lOl => k_is)
    (case cOl => k_is)
    (case kOl => k_is)
    (case gH => k_is)
    (case lH => k_is)
    (case cH => k_is)
    (case kH => k_is)
    (case gN => k_is)
    (case lN => k_is)
    (case cN => k_is)
    (case kN => k_is)
    (case gT => k_is)
    (case lT => k_is)
    (case cT => k_is)
    (case kT => k_is)
    (case gPs => k_is)
    (case lPs => k_is)
    (case cPs => k_is)
    (case kPs => k_is)
    (case gPl => k_is)
    (case lPl => k_is)
    (case cPl => k_is)
    (case kPl => k_is)
    (case gNt => k_is)
    (case lNt => k_is)
    (case cNt => k_is)
    (case kNt => k_is)
    (case gMn => k_is)
    (case lMn => k_is)
    (case cMn => k_is)
    (case kMn => k_is)
    (case gL => k_is)
    (case lL => k_is)
    (case cL => k_is)
    (case kL => k_is)
    (case gPi => k_is)
    (case lPi => k_is)
    (case cPi => k_is)
    (case kPi => k_is)
    (case gJ => k_is)
    (case lJ => k_is)
    (case cJ => k_is)
    (case kJ => k_is)
    (case gAr => k_is)
    (case lAr => k_is)
    (case cAr => k_is)
    (case kAr => k_is)
    (case gE => k_is)
    (case lE => k_is)
    (case cE => k_is)
    (case kE => k_is)
    (case z_len => k_is)
    (case z_range => k_is)
    (case z_tuple => k_is)
    (case v_NOTE => k_is)
    (case v_PICTURE => k_is)
    (case v_LAST => k_is)
    (case v_PICTURE_NOTE => k_is)
    (case v_MOST_PLACES => k_is)
    (case v_MOST_PICTURES => k_is)
    (case v_MOST_BYTES => k_is)
    (case gHd => k_is)
    (case lHd => k_is)
    (case lH1 => k_is)
    (case lH2 => k_is)
    (case aCB => k_is)
    (case pgCB => k_is)
    (case hdCB => k_is)
    (case poCB => k_is)
    (case saCB => k_is)
    (case mkCB => k_is)
    (case kcCB => k_is)
    (case nCB_data => k_is)
    (case nCB_place => k_is)
    (case nCB_held => k_is)
    (case nCB_held_bits => k_is)
    (case aCT => k_is)
    (case pgCT => k_is)
    (case hdCT => k_is)
    (case poCT => k_is)
    (case saCT => k_is)
    (case mkCT => k_is)
    (case kcCT => k_is)
    (case nCT_size => k_is)
    (case nCT_clear_code => k_is)
    (case nCT_end_code => k_is)
    (case nCT_added => k_is)
    (case nCT_code_bits => k_is)
    (case nCT_row_before => k_is)
    (case aCU => k_is)
    (case pgCU => k_is)
    (case hdCU => k_is)
    (case poCU => k_is)
    (case saCU => k_is)
    (case mkCU => k_is)
    (case kcCU => k_is)
    (case nCU_numbers => k_is)
    (case nCU_is_wrong => k_is)
    (case aXW => k_is)
    (case exXW => k_exc)
    (case gBi => k_is)
    (case iBi => k_is)
    (case lBi => k_is)
    (case cBi => k_is)
    (case kBi => k_is)
    (case gCo => k_is)
    (case iCo => k_is)
    (case lCo => k_is)
    (case cCo => k_is)
    (case kCo => k_is)
    (case gHo => k_is)
    (case iHo => k_is)
    (case lHo => k_is)
    (case cHo => k_is)
    (case kHo => k_is)
    (case gTi => k_is)
    (case iTi => k_is)
    (case lTi => k_is)
    (case cTi => k_is)
    (case kTi => k_is)
    (case gFo => k_is)
    (case iFo => k_is)
    (case lFo => k_is)
    (case cFo => k_is)
    (case kFo => k_is)
    (case gCn => k_is)
    (case iCn => k_is)
    (case lCn => k_is)
    (case cCn => k_is)
    (case kCn => k_is)
    (case gTk => k_is)
    (case iTk => k_is)
    (case lTk => k_is)
    (case cTk => k_is)
    (case kTk => k_is)
    (case gFd => k_is)
    (case iFd => k_is)
    (case lFd => k_is)
    (case cFd => k_is)
    (case kFd => k_is)
    (case gAd => k_is)
    (case iAd => k_is)
    (case lAd => k_is)
    (case cAd => k_is)
    (case kAd => k_is)
    (case gIu => k_is)
    (case iIu => k_is)
    (case lIu => k_is)
    (case cIu => k_is)
    (case kIu => k_is)
    (case gUn => k_is)
    (case lUn => k_is)
    (case cUn => k_is)
    (case kUn => k_is)
    (case gCl => k_is)
    (case lCl => k_is)
    (case cCl => k_is)
    (case kCl => k_is)
    (case v_MOST_BITS => k_is)
    (case v_MOST_ROWS => k_is)
    (case aCN => k_is)
    (case pgCN => k_is)
    (case hdCN => k_is)
    (case poCN => k_is)
    (case saCN => k_is)
    (case mkCN => k_is)
    (case kcCN => k_is)
    (case nCN_width => k_is)
    (case nCN_numbers => k_is)
    (case aXP => k_is)
    (case exXP => k_exc)
    (case h12 => kts_exm)
    (case gCi => k_is)
    (case iCi => k_is)
    (case lCi => k_is)
    (case cCi => k_is)
    (case kCi => k_is)
    (case gPt => k_is)
    (case iPt => k_is)
    (case lPt => k_is)
    (case cPt => k_is)
    (case kPt => k_is)
    (case gCr => k_is)
    (case iCr => k_is)
    (case lCr => k_is)
    (case cCr => k_is)
    (case kCr => k_is)
    (case gDp => k_is)
    (case lDp => k_is)
    (case cDp => k_is)
    (case kDp => k_is)
    (case gPp => k_is)
    (case lPp => k_is)
    (case cPp => k_is)
    (case kPp => k_is)
    (case gDn => k_is)
    (case lDn => k_is)
    (case cDn => k_is)
    (case kDn => k_is)
    (case gRw => k_is)
    (case lRw => k_is)
    (case cRw => k_is)
    (case kRw => k_is)
    (case gFp => k_is)
    (case lFp => k_is)
    (case cFp => k_is)
    (case kFp => k_is)
    (case z_list => k_is)
    (case z_enumerate => k_is)
    (case v_CLEARED => k_is)
    (case v_BROUGHT_BACK => k_is)
    (case gNo => k_is)
    (case lNo => k_is)
    (case gPa => k_is)
    (case lPa => k_is)
    (case lP1 => k_is)
    (case lP2 => k_is)
    (case lP3 => k_is)
    (case lP4 => k_is)
    (case gZ => k_is)
    (case lZ => k_is)
    (case cZ => k_is)
    (case kZ => k_is)
    all_goals first | exact none | exact #[]
#print axioms PySem.Challenge.cw_tintfile_s03_draw_holds

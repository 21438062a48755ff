import PyProof.Rows.All
import Wide.All
import OpenK.AllK
import Wide.FinOn
import PyProof.EqAt
import PyProof.EqKinds
import PyProof.TupleCall
import KE.BitLaws
import PySv47
import KE.KDictList
import KE.OsHead
import Open.SpecLaws
import KE.OsGo
import PySem.Challenge.RW_coinagree_s01_answers
-- CHANGE: your row's module here, as the last of these rows
set_option Elab.async false
set_option linter.all false
set_option maxRecDepth 100000
/-! THE HAND LAYER, for ints, bools, texts, own classes, lists, tuples, dicts, comprehensions, walks over dicts, enumerate, zip, reversed, texts, calls, loops. Paste it whole ahead of your own text; what your proof does not reach may be deleted. -/
namespace L2
open PySem PySem.Spec PyProof.Rows

/-- a key: an int or a str -/
abbrev Key := Sum Int Str
def keyIs : Key → Value → Bool
  | .inl k, v => Value.isInt k v
  | .inr x, v => Value.isStrOf x v
def keyH (w : World) : Key → Int
  | .inl k => hashInt k
  | .inr x => hashStr w x
theorem keyIs_shape : ∀ {k : Key} {v : Value}, keyIs k v = true → (∃ i t, k = Sum.inl i ∧ v = Value.int i t) ∨ (∃ x t, k = Sum.inr x ∧ v = Value.str x t)
  | .inl i, v, h => by
    obtain ⟨t, e⟩ := Value.isInt_shape (k := i) (v := v) h
    exact .inl ⟨i, t, rfl, e⟩
  | .inr x, v, h => by
    obtain ⟨t, e⟩ := Value.isStrOf_shape (x := x) (v := v) h
    exact .inr ⟨x, t, rfl, e⟩
theorem keyIs_int (i : Int) (t : Tok) : keyIs (.inl i) (.int i t) = true := by simp [keyIs, Value.isInt]
theorem keyIs_str (x : Str) (t : Tok) : keyIs (.inr x) (.str x t) = true := by simp [keyIs, Value.isStrOf]
theorem key_ll (a b : Int) : decide ((Sum.inl a : Key) = Sum.inl b) = (a == b) := by
  by_cases e : a = b
  · subst e; simp
  · have h : ¬ (Sum.inl a : Key) = Sum.inl b := fun q => e (Sum.inl.inj q)
    rw [decide_eq_false h]
    exact (beq_eq_false_iff_ne.mpr e).symm
theorem key_rr (a b : Str) : decide ((Sum.inr a : Key) = Sum.inr b) = decide (a = b) := by
  by_cases e : a = b
  · subst e; simp
  · have h : ¬ (Sum.inr a : Key) = Sum.inr b := fun q => e (Sum.inr.inj q)
    rw [decide_eq_false h, decide_eq_false e]
theorem key_lr (a : Int) (b : Str) : decide ((Sum.inl a : Key) = Sum.inr b) = false := decide_eq_false (fun q => nomatch q)
theorem key_rl (a : Str) (b : Int) : decide ((Sum.inr a : Key) = Sum.inl b) = false := decide_eq_false (fun q => nomatch q)

def mixKind (prog : Program) (w : World) : PySem.KeyKind prog w Key where
  is := keyIs
  hash := keyH w
  inj := fun v a b ha hb => by
    rcases keyIs_shape ha with ⟨i, t, rfl, rfl⟩ | ⟨x, t, rfl, rfl⟩
    · rcases keyIs_shape hb with ⟨j, u, rfl, e⟩ | ⟨y, u, rfl, e⟩
      · injection e with e1 _; rw [e1]
      · exact nomatch e
    · rcases keyIs_shape hb with ⟨j, u, rfl, e⟩ | ⟨y, u, rfl, e⟩
      · exact nomatch e
      · injection e with e1 _; rw [e1]
  byValue := fun k v h => by
    rcases keyIs_shape h with ⟨i, t, rfl, rfl⟩ | ⟨x, t, rfl, rfl⟩ <;> rfl
  pyHash := fun hv h => by
    rcases keyIs_shape hv with ⟨i, t, rfl, rfl⟩ | ⟨x, t, rfl, rfl⟩
    · exact wpAny_pyHash_int h
    · exact wpAny_pyHash_str h
  eqBool := fun hu hv h => by
    rcases keyIs_shape hu with ⟨i, t, rfl, rfl⟩ | ⟨x, t, rfl, rfl⟩
    · rcases keyIs_shape hv with ⟨j, u, rfl, rfl⟩ | ⟨y, u, rfl, rfl⟩
      · rw [key_ll] at h; exact wpAny_eqBool_int h
      · rw [key_lr] at h; exact SeqAt.EqAt.int_str i t y u _ _ _ _ h
    · rcases keyIs_shape hv with ⟨j, u, rfl, rfl⟩ | ⟨y, u, rfl, rfl⟩
      · rw [key_rl] at h; exact SeqAt.EqAt.str_int x t j u _ _ _ _ h
      · rw [key_rr] at h; exact wpAny_eqBool_str h
  «strs» := fun k x t v h => by
    rcases keyIs_shape h with ⟨i, u, rfl, e⟩ | ⟨y, u, rfl, e⟩
    · exact nomatch e
    · injection e with e1 _
      subst e1
      cases v <;> rfl

theorem mixKind_int (prog : Program) (w : World) (i : Int) (t : Tok) : (mixKind prog w).is (.inl i) (.int i t) = true := keyIs_int i t
theorem mixKind_str (prog : Program) (w : World) (x : Str) (t : Tok) : (mixKind prog w).is (.inr x) (.str x t) = true := keyIs_str x t
end L2

namespace L2
open PySem PySem.Spec PyProof.Rows

/-- a value, without the heap -/
inductive V where
  | non | bl (b : Bool) | int (i : Int) | str (x : Str) | byt (b : Array UInt8) | flt (b : UInt64) | ref (a : Addr) | ty (n : String)
  deriving DecidableEq

def RelV : V → Value → Prop
  | .non, u => u = Value.none
  | .bl b, u => u = Value.bool b
  | .int i, u => ∃ t, u = Value.int i t
  | .str x, u => ∃ t, u = Value.str x t
  | .byt b, u => ∃ t, u = Value.bytes b t
  | .flt b, u => ∃ t, u = Value.float b t
  | .ref a, u => u = Value.ref a
  | .ty n, u => u = Value.type n

abbrev Vals : List V → List Value → Prop := Paired RelV
theorem Vals.length {xs : List V} {us : List Value} (r : Vals xs us) : xs.length = us.length := Paired.length r
theorem Vals.get : ∀ {xs : List V} {us : List Value} {i : Nat} {x : V}, Vals xs us → xs[i]? = some x → ∃ u, us[i]? = some u ∧ RelV x u
  | _, _, _, _, .nil, e => by simp at e
  | _, _, 0, _, .cons r _, e => by simp at e; subst e; exact ⟨_, rfl, r⟩
  | _, _, i + 1, x, .cons _ t, e => by
    obtain ⟨u, h1, h2⟩ := Vals.get (i := i) (x := x) t (by simpa using e)
    exact ⟨u, by simpa using h1, h2⟩
theorem Vals.set {x : V} {u : Value} (r : RelV x u) : ∀ {xs : List V} {us : List Value} (i : Nat), Vals xs us → Vals (xs.set i x) (us.set i u)
  | _, _, _, .nil => .nil
  | _, _, 0, .cons _ t => .cons r t
  | _, _, i + 1, .cons q t => .cons q (Vals.set r i t)
theorem Vals.append : ∀ {xs ys : List V} {us ws : List Value}, Vals xs us → Vals ys ws → Vals (xs ++ ys) (us ++ ws)
  | _, _, _, _, .nil, s => s
  | _, _, _, _, .cons r t, s => .cons r (Vals.append t s)
theorem Vals.take : ∀ {xs : List V} {us : List Value} (n : Nat), Vals xs us → Vals (xs.take n) (us.take n)
  | _, _, 0, _ => .nil
  | _, _, _ + 1, .nil => .nil
  | _, _, n + 1, .cons r t => .cons r (Vals.take n t)
theorem Vals.drop : ∀ {xs : List V} {us : List Value} (n : Nat), Vals xs us → Vals (xs.drop n) (us.drop n)
  | _, _, 0, r => r
  | _, _, _ + 1, .nil => .nil
  | _, _, n + 1, .cons _ t => Vals.drop n t
theorem Vals.none_of : ∀ {xs : List V} {us : List Value} {i : Nat}, Vals xs us → xs[i]? = none → us[i]? = none := fun {xs us i} r e => by
  have h1 := r.length
  have h2 : xs.length ≤ i := List.getElem?_eq_none_iff.mp e
  exact List.getElem?_eq_none_iff.mpr (by omega)

def RelO : Option V → Option Value → Prop
  | some v, some u => RelV v u
  | none, none => True
  | _, _ => False
def KV {κ : Type} : List (κ × V) → List (κ × Value) → Prop := Paired fun (p : κ × V) (q : κ × Value) => p.1 = q.1 ∧ RelV p.2 q.2

/-- a key of a dict (00_mix): an int or a text -/
def kV : Key → V
  | .inl i => .int i
  | .inr x => .str x

/-- what stands at a tracked address -/
inductive HO where
  /-- a list -/
  | lst (xs : List V)
  /-- a tuple (never changes) -/
  | tup (xs : List V)
  /-- a dict whose keys are ints and texts; one whose keys are tuples of ints and texts (the empty one is both) -/
  | dK (kvs : List (Key × V)) | dT (kvs : List (List Key × V))
  /-- a set of ints: its members, its size -/
  | set (S : Int → Bool) (n : Nat)
  /-- an instance of the class at C, its dict at dx, its attributes -/
  | ins (C dx : Addr) (fs : List (Str × V))
  /-- the dict of the instance at x -/
  | own (x : Addr)
  /-- the dict of an exception -/
  | xd (fs : List (Str × V))
  /-- a bound method, f of x -/
  | met (f x : Addr)
  /-- a range object lo, lo + 1, .. below hi -/
  | rng (lo hi : Int)
  /-- a thing that is known to the object (the script; a dict while a loop walks it): read, never written while it is so -/
  | frz (o : Obj) (u : HO)
  /-- a code object's table -/
  | tbl (ps : Array Value)
  /-- any other thing, by what is true of its one object (a def of one's own: SetO a S n := HO.ext fun h => ..) -/
  | ext (φ : Heap → Prop)

abbrev Hp := Addr → Option HO
def upd (H : Hp) (a : Addr) (o : HO) : Hp := fun b => if b = a then some o else H b
theorem upd_same {H : Hp} {a : Addr} {o : HO} : upd H a o a = some o := by unfold upd; rw [if_pos rfl]
theorem upd_ne {H : Hp} {a b : Addr} {o : HO} (h : b ≠ a) : upd H a o b = H b := by unfold upd; rw [if_neg h]
theorem upd_upd {H : Hp} {a : Addr} {o u : HO} : upd (upd H a o) a u = upd H a u := by
  funext b; unfold upd; split <;> rfl
/-- two objects of different content stand apart -/
theorem ne_of {H : Hp} {a b : Addr} {o u : HO} (h : H a = some o) (h' : H b = some u) (d : o ≠ u) : a ≠ b := by
  intro e; subst e; rw [h] at h'; exact d (Option.some.inj h')
theorem ne_of_none {H : Hp} {a b : Addr} {o : HO} (h : H a = some o) (h' : H b = none) : a ≠ b := by
  intro e; subst e; rw [h] at h'; cases h'

section
variable (P : Program) (w : World)
def ObjOk (H : Hp) (h : Heap) (a : Addr) : HO → Prop
  | .lst xs => xs.length ≤ sizeLine ∧ ∃ (its : List Value) (n : Nat), Vals xs its ∧ h.get? a = some { cls := .type "list", data := .seq its.toArray n }
  | .tup xs => xs.length ≤ sizeLine ∧ ∃ its : List Value, Vals xs its ∧ IsTup h a its.toArray
  | .dK kvs => kvs.length ≤ sizeLine ∧ (a == sysModules) = false ∧ ∃ vs, KV kvs vs ∧ h.DictOf (mixKind P w) a vs
  | .dT kvs => kvs.length ≤ sizeLine ∧ (a == sysModules) = false ∧ ∃ xs : List (List Key × Addr × Value),
      Paired (fun (p : List Key × V) (q : List Key × Addr × Value) => p.1 = q.1 ∧ H q.2.1 = some (.tup (p.1.map kV)) ∧ RelV p.2 q.2.2) kvs xs ∧
      ∃ o es ep, h.get? a = some o ∧ o.ExactDict ∧ o.data = .dict es ep ∧ es.toList = xs.map (entryOfKey (tupleKind (mixKind P w))) ∧ (xs.map (·.1)).Nodup
  | .set S n => h.SetOf (intKind P w) a S n
  | .ins C dx fs => H dx = some (.own a) ∧ fs.length ≤ 1000 ∧ dx ≠ a ∧ h.get? a = some (PySem.W.instObj C dx) ∧
      ∃ mA, h.Ns1 dx mA ∧ (∀ f, RelO (fs.lookup f) (mA f)) ∧ PySem.Within mA (fs.map (·.1))
  | .own _ => ∃ o, h.get? a = some o
  | .xd fs => ∃ mA, h.Ns1 a mA ∧ ∀ f, RelO (fs.lookup f) (mA f)
  | .rng lo hi => ∃ t u v, h.get? a = some { cls := .type "range", data := .fields #[.int lo t, .int hi u, .int 1 v] }
  | .frz o u => h.get? a = some o ∧ ObjOk H h a u
  | .tbl ps => h.get? a = some { cls := .none, data := .fields ps }
  | .met f x => h.get? a = some (PySem.W.methodObj (.ref f) (.ref x))
  | .ext φ => φ h ∧ (∃ o, h.get? a = some o) ∧ ∀ h1 h2 : Heap, φ h1 → (∀ o, h1.get? a = some o → h2.get? a = some o) → φ h2
/-- the abstract heap is held -/
def HOk (H : Hp) (h : Heap) : Prop := ∀ a o, H a = some o → ObjOk P w H h a o
end

section
variable {P : Program} {w : World} {H H' : Hp} {h h' : Heap} {a : Addr} {o : HO}
theorem ObjOk.lt (x : ObjOk P w H h a o) : a < h.objs.size := by
  cases o with
  | lst xs => obtain ⟨_, _, _, _, e⟩ := x; exact Heap.lt_size e
  | tup xs => obtain ⟨_, _, _, p⟩ := x; exact p.lt
  | dK kvs => obtain ⟨_, _, _, _, o, _, _, e, _⟩ := x; exact Heap.lt_size e
  | dT kvs => obtain ⟨_, _, _, _, o, _, _, e, _⟩ := x; exact Heap.lt_size e
  | set S n => obtain ⟨o, _, _, _, e, _⟩ := x; exact Heap.lt_size e
  | ins C dx fs => obtain ⟨_, _, _, e, _⟩ := x; exact Heap.lt_size e
  | own y => obtain ⟨_, e⟩ := x; exact Heap.lt_size e
  | xd fs => obtain ⟨_, ⟨_, _, _, e, _⟩, _⟩ := x; exact Heap.lt_size e
  | rng lo hi => obtain ⟨_, _, _, e⟩ := x; exact Heap.lt_size e
  | frz ob u => obtain ⟨e, _⟩ := x; exact Heap.lt_size e
  | tbl ps => exact Heap.lt_size (show h.get? a = some _ from x)
  | met f y => exact Heap.lt_size (show h.get? a = some _ from x)
  | ext φ => obtain ⟨_, ⟨_, e⟩, _⟩ := x; exact Heap.lt_size e
theorem Paired.mapP {α β : Type} {F G : α → β → Prop} : ∀ {l₁ : List α} {l₂ : List β}, Paired F l₁ l₂ → (∀ a b, F a b → G a b) → Paired G l₁ l₂
  | _, _, .nil, _ => .nil
  | _, _, .cons r t, f => .cons (f _ _ r) (Paired.mapP t f)
/-- what an object's description leans on: its own object, its own dict, the tuples -/
theorem ObjOk.stay (x : ObjOk P w H h a o) (k : ∀ b u, (b = a ∨ H b = some (.own a)) → h.get? b = some u → h'.get? b = some u)
    (ho : ∀ b, H b = some (.own a) → H' b = some (.own a)) (ht : ∀ b xs, H b = some (.tup xs) → H' b = some (.tup xs)) : ObjOk P w H' h' a o := by
  induction o with
  | lst xs => obtain ⟨z, its, n, r, e⟩ := x; exact ⟨z, its, n, r, k _ _ (.inl rfl) e⟩
  | tup xs => obtain ⟨z, its, r, ob, e, c⟩ := x; exact ⟨z, its, r, ob, k _ _ (.inl rfl) e, c⟩
  | dK kvs => obtain ⟨z, y, vs, r, ob, es, ep, e, c⟩ := x; exact ⟨z, y, vs, r, ob, es, ep, k _ _ (.inl rfl) e, c⟩
  | dT kvs =>
    obtain ⟨z, y, xs, r, ob, es, ep, e, c⟩ := x
    exact ⟨z, y, xs, Paired.mapP r fun p q z => ⟨z.1, ht _ _ z.2.1, z.2.2⟩, ob, es, ep, k _ _ (.inl rfl) e, c⟩
  | set S n => obtain ⟨ob, es, ep, t, e, c⟩ := x; exact ⟨ob, es, ep, t, k _ _ (.inl rfl) e, c⟩
  | ins C dx fs =>
    obtain ⟨d, z, ne, e, mA, ⟨od, es, ep, e2, c⟩, r⟩ := x
    exact ⟨ho _ d, z, ne, k _ _ (.inl rfl) e, mA, ⟨od, es, ep, k _ _ (.inr d) e2, c⟩, r⟩
  | own y => obtain ⟨ob, e⟩ := x; exact ⟨ob, k _ _ (.inl rfl) e⟩
  | xd fs => obtain ⟨mA, ⟨od, es, ep, e, c⟩, r⟩ := x; exact ⟨mA, ⟨od, es, ep, k _ _ (.inl rfl) e, c⟩, r⟩
  | rng lo hi => obtain ⟨t, u, v, e⟩ := x; exact ⟨t, u, v, k _ _ (.inl rfl) e⟩
  | frz ob u ih => obtain ⟨e, q⟩ := x; exact ⟨k _ _ (.inl rfl) e, ih q⟩
  | tbl ps =>
    have e : h.get? a = some { cls := .none, data := .fields ps } := x
    show h'.get? a = some { cls := .none, data := .fields ps }
    exact k a _ (.inl rfl) e
  | met f y =>
    have e : h.get? a = some (PySem.W.methodObj (.ref f) (.ref y)) := x
    show h'.get? a = some (PySem.W.methodObj (.ref f) (.ref y))
    exact k a _ (.inl rfl) e
  | ext φ => obtain ⟨p, ⟨o, e⟩, st⟩ := x; exact ⟨st _ _ p fun o q => k _ _ (.inl rfl) q, ⟨o, k _ _ (.inl rfl) e⟩, st⟩
theorem HOk.lt (x : HOk P w H h) (e : H a = some o) : a < h.objs.size := (x a o e).lt
theorem HOk.fresh (x : HOk P w H h) (e : h.objs.size ≤ a) : H a = none := by
  cases q : H a with
  | none => rfl
  | some u => exact absurd (Nat.lt_of_lt_of_le (x.lt q) e) (Nat.lt_irrefl _)
/-- every object of the heap is kept -/
theorem HOk.kept (x : HOk P w H h) (k : ∀ b u, h.get? b = some u → h'.get? b = some u) : HOk P w H h' := fun a o e =>
  (x a o e).stay (fun b u _ q => k b u q) (fun _ q => q) fun _ _ q => q
/-- a new object is laid and tracked -/
theorem HOk.laid (x : HOk P w H h) (k : ∀ b u, h.get? b = some u → h'.get? b = some u) (hp : h.objs.size ≤ a) (new : ObjOk P w (upd H a o) h' a o) : HOk P w (upd H a o) h' := fun b u e => by
  have hn := x.fresh hp
  by_cases hb : b = a
  · subst hb; rw [upd_same] at e; cases e; exact new
  · rw [upd_ne hb] at e
    exact (x b u e).stay (fun c v _ q => k c v q) (fun c q => by rw [upd_ne (ne_of_none q hn)]; exact q) fun c xs q => by rw [upd_ne (ne_of_none q hn)]; exact q
end

/-- what may be read as u: it is u, or a known u -/
def Rd (H : Hp) (a : Addr) (u : HO) : Prop := H a = some u ∨ ∃ o, H a = some (.frz o u)
theorem Rd.of {H : Hp} {a : Addr} {u : HO} (h : H a = some u) : Rd H a u := .inl h
theorem Rd.ok {P : Program} {w : World} {H : Hp} {h : Heap} {a : Addr} {u : HO} (r : Rd H a u) (x : HOk P w H h) : ObjOk P w H h a u := by
  rcases r with r | ⟨o, r⟩
  · exact x a u r
  · obtain ⟨_, q⟩ := x a _ r
    exact q
/-- what may be written -/
def Mut : Option HO → Prop
  | some (.lst _) => True
  | some (.dK _) => True
  | some (.dT _) => True
  | some (.set _ _) => True
  | some (.ins _ _ _) => True
  | some (.ext _) => True
  | _ => False
section
variable {P : Program} {w : World} {H : Hp} {h h' : Heap} {x e : Addr} {o' : HO}
/-- the object at e is changed: x itself, or the dict of the instance x -/
theorem HOk.write (ok : HOk P w H h) (mu : Mut (H x)) (he : e = x ∨ H e = some (.own x)) (k : ∀ b u, b ≠ e → h.get? b = some u → h'.get? b = some u) (heo : ∃ u, h'.get? e = some u)
    (new : ObjOk P w (upd H x o') h' x o') : HOk P w (upd H x o') h' := fun b u q => by
  have nown : ∀ c y, H c = some (.own y) → c ≠ x := fun c y r z => by subst z; rw [r] at mu; exact mu
  have ntup : ∀ c xs, H c = some (.tup xs) → c ≠ x := fun c xs r z => by subst z; rw [r] at mu; exact mu
  by_cases hb : b = x
  · subst hb; rw [upd_same] at q; cases q; exact new
  · rw [upd_ne hb] at q
    by_cases hbe : b = e
    · have q' : H b = some (.own x) := by
        rcases he with z | z
        · exact absurd (hbe.trans z) hb
        · rw [hbe]; exact z
      rw [q] at q'; cases q'
      obtain ⟨v, hv⟩ := heo
      exact ⟨v, by rw [hbe]; exact hv⟩
    · refine (ok b u q).stay (fun c v hc r => k c v ?_ r) (fun c r => by rw [upd_ne (nown c b r)]; exact r) fun c xs r => by rw [upd_ne (ntup c xs r)]; exact r
      rcases hc with rfl | hc
      · exact hbe
      · rintro rfl
        rcases he with z | z
        · exact nown c b hc z
        · rw [hc] at z; cases z; exact hb rfl
end

/-! ### kept unless tracked; of the frames at fs (the callers') the slots may change (an exception that passes writes there); of the records at ex (iterators) nothing is said -/
structure Un (fs ex : List Addr) (H H' : Hp) (h h' : Heap) : Prop where
  keep : ∀ b o, h.get? b = some o → H b = none → b ∉ fs → b ∉ ex → h'.get? b = some o
  slot : ∀ b o, h.get? b = some o → H b = none → b ∈ fs → b ∉ ex → ∃ sl, h'.get? b = some { o with slots := sl }
  free : ∀ b o, h.get? b = some o → H b = none → b ∉ ex → H' b = none
  there : ∀ b o, h.get? b = some o → b ∉ ex → ∃ o', h'.get? b = some o'
  tups : ∀ b xs, H b = some (.tup xs) → H' b = some (.tup xs)
  frzs : ∀ b o u, H b = some (.frz o u) → H' b = some (.frz o u)
  tbls : ∀ b ps, H b = some (.tbl ps) → ∃ more, H' b = some (.tbl (ps ++ more))
section
variable {fs fs' ex ex' : List Addr} {H H1 H2 : Hp} {h h1 h2 h' : Heap} {a x e : Addr} {o : HO}
theorem Un.any (u : Un fs ex H H1 h h1) {b : Addr} {ob : Obj} (q : h.get? b = some ob) (n : H b = none) (hx : b ∉ ex) : ∃ sl, h1.get? b = some { ob with slots := sl } := by
  by_cases hb : b ∈ fs
  · exact u.slot b ob q n hb hx
  · exact ⟨ob.slots, u.keep b ob q n hb hx⟩
theorem Un.trans (a : Un fs ex H H1 h h1) (b : Un fs ex H1 H2 h1 h2) : Un fs ex H H2 h h2 where
  keep := fun c ob q n hc hx => b.keep c ob (a.keep c ob q n hc hx) (a.free c ob q n hx) hc hx
  slot := fun c ob q n hc hx => by
    obtain ⟨sl, e1⟩ := a.slot c ob q n hc hx
    obtain ⟨sl', e2⟩ := b.slot c _ e1 (a.free c ob q n hx) hc hx
    exact ⟨sl', e2⟩
  free := fun c ob q n hx => by
    obtain ⟨o', e1⟩ := a.there c ob q hx
    exact b.free c o' e1 (a.free c ob q n hx) hx
  there := fun c ob q hx => by
    obtain ⟨o', e1⟩ := a.there c ob q hx
    exact b.there c o' e1 hx
  tups := fun c xs q => b.tups c xs (a.tups c xs q)
  frzs := fun c ob xs q => b.frzs c ob xs (a.frzs c ob xs q)
  tbls := fun c ps q => by
    obtain ⟨m1, e1⟩ := a.tbls c ps q
    obtain ⟨m2, e2⟩ := b.tbls c _ e1
    exact ⟨m1 ++ m2, by rw [e2, Array.append_assoc]⟩
theorem Un.kept (k : ∀ b u, h.get? b = some u → h'.get? b = some u) : Un fs ex H H h h' :=
  ⟨fun b ob q _ _ _ => k b ob q, fun b ob q _ _ _ => ⟨ob.slots, k b ob q⟩, fun _ _ _ n _ => n, fun b ob q _ => ⟨ob, k b ob q⟩, fun _ _ q => q, fun _ _ _ q => q, fun _ ps q => ⟨#[], by rw [q]; simp⟩⟩
theorem Un.refl : Un fs ex H H h h := Un.kept fun _ _ q => q
theorem Un.laid (k : ∀ b u, h.get? b = some u → h'.get? b = some u) (hp : h.objs.size ≤ a) (hn : H a = none) : Un fs ex H (upd H a o) h h' where
  keep := fun b u q _ _ _ => k b u q
  slot := fun b u q _ _ _ => ⟨u.slots, k b u q⟩
  free := fun b u q n _ => by rw [upd_ne (Nat.ne_of_lt (Nat.lt_of_lt_of_le (Heap.lt_size q) hp))]; exact n
  there := fun b u q _ => ⟨u, k b u q⟩
  tups := fun b xs q => by rw [upd_ne (ne_of_none q hn)]; exact q
  frzs := fun b u xs q => by rw [upd_ne (ne_of_none q hn)]; exact q
  tbls := fun b ps q => ⟨#[], by rw [upd_ne (ne_of_none q hn), q]; simp⟩
theorem Un.write (mu : Mut (H x)) (he : e = x ∨ H e = some (.own x)) (k : ∀ b u, b ≠ e → h.get? b = some u → h'.get? b = some u) (heo : ∃ u, h'.get? e = some u) : Un fs ex H (upd H x o) h h' := by
  have hx : ∀ b, H b = none → b ≠ x := fun b n z => by subst z; rw [n] at mu; exact mu
  have hb : ∀ b, H b = none → b ≠ e := fun b n z => by
    subst z
    rcases he with r | r
    · exact hx b n r
    · rw [n] at r; cases r
  have hm : ∀ b u, H b = some u → ¬ Mut (some u) → b ≠ x := fun b u q nm z => by subst z; rw [q] at mu; exact nm mu
  refine ⟨fun b u q n _ _ => k b u (hb b n) q, fun b u q n _ _ => ⟨u.slots, k b u (hb b n) q⟩, fun b u q n _ => by rw [upd_ne (hx b n)]; exact n, fun b u q _ => ?_,
    fun b xs q => by rw [upd_ne (hm b _ q fun z => z)]; exact q, fun b u xs q => by rw [upd_ne (hm b _ q fun z => z)]; exact q, fun b ps q => ⟨#[], by rw [upd_ne (hm b _ q fun z => z), q]; simp⟩⟩
  by_cases hbe : b = e
  · subst hbe; exact heo
  · exact ⟨u, k b u hbe q⟩
theorem Un.mono (u : Un fs ex H H1 h h1) (hs : ∀ b ∈ fs, b ∈ fs') (hx : ∀ b ∈ ex, b ∈ ex') : Un fs' ex' H H1 h h1 :=
  ⟨fun b ob q n hb he => u.keep b ob q n (fun z => hb (hs b z)) fun z => he (hx b z), fun _ _ q n _ he => u.any q n fun z => he (hx _ z), fun b ob q n he => u.free b ob q n fun z => he (hx b z), fun b ob q he => u.there b ob q fun z => he (hx b z), u.tups, u.frzs, u.tbls⟩
end

/-! ### the heap without what is tracked -/
def trk (h : Heap) (H : Hp) : List Addr := (List.range h.objs.size).filter fun a => (H a).isSome
def hidT (h : Heap) (H : Hp) : Heap := PySem.W.hideAll h (trk h H)
theorem hidT_size (h : Heap) (H : Hp) : (hidT h H).objs.size = h.objs.size := PySem.W.hideAll_size _ _
theorem hidT_get {h : Heap} {H : Hp} {b : Addr} {o : Obj} (e : h.get? b = some o) (n : H b = none) : (hidT h H).get? b = some o :=
  PySem.W.hideAll_get _ e fun hm => by
    have q : (H b).isSome = true := (List.mem_filter.mp hm).2
    rw [n] at q; simp at q
theorem of_hidT {h : Heap} {H : Hp} {b : Addr} {o : Obj} (e : (hidT h H).get? b = some o) : h.get? b = some o ∧ H b = none := by
  have e' : h.get? b = some o := PySem.W.of_hideAll (trk h H) e
  refine ⟨e', ?_⟩
  cases q : H b with
  | none => rfl
  | some x =>
    have hm : b ∈ trk h H := List.mem_filter.mpr ⟨List.mem_range.mpr (Heap.lt_size e'), by simp [q]⟩
    have z : (hidT h H).get? b = none := PySem.W.hideAll_none (trk h H) hm
    rw [z] at e; cases e

/-! ### OpenK's ledger, filled with every new object but one -/
def allNews (g h : Heap) (L : Addr) : List (Addr × Obj) := (List.range h.objs.size).filterMap fun a => if a = L ∨ (g.get? a).isSome = true then none else (h.get? a).map fun o => (a, o)
def rest (g h : Heap) (L d : Addr) : List (Addr × Obj) := (allNews g h L).filter fun p => decide (p.1 ≠ d)
end L2

namespace L2
open PySem PySem.Spec PyProof.Rows

/-- the module's facts, over the base: the heap at the law's entry without what is tracked there -/
structure Mod (K : PySem.W.Frag) (mg : Str → Option Value) (base : Heap) : Prop where
  kin : K.In base
  glob : base.Ns mainGlobals mg
  blt : ∃ mb, base.Ns builtinsNs mb ∧ ∀ x : Str, x ≠ "__name__" → mb x = bootBuiltins x
  nolimit : base.NoLimit

/-- the context: a def's body (or a comprehension's block) running. base: fixed through the whole law; s₀, H₀: the entry; outer: the frames whose slots others may change (a def's callers); stack: all frames that run;
   ex: iterators that were made ahead of the entry and are walked here (a comprehension's); fn: the names whose cells were made at the entry (a def: all; a comprehension's block: its own); calm: not within an except suite; pn: pins that every state bears; xe: what is wanted of an exception that leaves the code -/
structure Cx where
  prog : Program
  w : World
  K : PySem.W.Frag
  mg : Str → Option Value
  base : Heap
  A : Around
  N : List Str
  s_0 : Shared
  H_0 : Hp
  env : Env
  outer : List Env
  stack : List Env
  ex : List Addr
  fn : Str → Bool
  calm : Bool
  pn : List (Addr × Obj)
  xe : Value → Shared → Prop
/-- the callers' frames -/
def frs (l : List Env) : List Addr := l.filterMap (·.frame)
abbrev Cx.fs (X : Cx) : List Addr := frs X.outer

def Vis (sc : Scope) (x : Str) : Prop := sc.names.lookup x = some .local ∨ sc.names.lookup x = some .cell ∨ sc.names.lookup x = some .free
def Loc (sc : Scope) (x : Str) : Prop := sc.names.lookup x = some .local ∨ sc.names.lookup x = some .cell
def Look (env : Env) (h : Heap) (m : Str → Option Value) (x : Str) (u : Value) : Prop :=
  (env.kindOf x = some .local ∧ m x = some u) ∨ ((env.kindOf x = some .cell ∨ env.kindOf x = some .free) ∧ ∃ c, env.cells.lookup x = some c ∧ h.IsCell c (some u))

structure Cx.Ok (X : Cx) : Prop where
  mod : Mod X.K X.mg X.base
  kind : X.env.scope.kind = .function
  glob : X.env.globals = mainGlobals
  blt : X.env.builtins = builtinsNs
  above : X.s_0.heap.objs.size ≤ X.env.locals
  inj : ∀ x y c, X.env.cells.lookup x = some c → X.env.cells.lookup y = some c → x = y
  has : ∀ x, (X.env.kindOf x = some .cell ∨ X.env.kindOf x = some .free) → ∃ c, X.env.cells.lookup x = some c
  cab : ∀ x c, X.fn x = true → X.env.cells.lookup x = some c → X.s_0.heap.objs.size ≤ c
  hd : X.calm = true → X.A.handled = none
  frames : X.A.frames = some X.stack
  stk : X.stack = X.outer ∨ (X.stack = X.env :: X.outer ∧ X.env.frame = some X.env.locals)
  exf : ∀ b ∈ X.ex, b ≠ X.env.locals ∧ ∀ x c, X.env.cells.lookup x = some c → c ≠ b
  bs : ∀ b o, X.base.get? b = some o → X.s_0.heap.get? b = some o ∧ X.H_0 b = none
  bsz : X.base.objs.size ≤ X.s_0.heap.objs.size
  noex : ∀ b o, X.base.get? b = some o → b ∉ X.ex
  exfs : ∀ b ∈ X.ex, b ∉ X.fs
  funs : X.s_0.heap.FunFrames X.base X.outer
  frf : ∀ b ∈ X.fs, X.H_0 b = none

structure Inv (X : Cx) (pins : List (Addr × Obj)) (σ : List (Option V)) (H : Hp) (s : Shared) : Prop where
  ok : X.Ok
  os : s.os = X.s_0.os
  bare : AllBare s.gens
  base : Un X.fs X.ex X.H_0 H X.s_0.heap s.heap
  loc : ∃ m, s.heap.Ns X.env.locals m ∧ ∀ (i : Nat) (x : Str) (v : V), X.N[i]? = some x → σ[i]? = some (some v) → Vis X.env.scope x → ∃ u, RelV v u ∧ Look X.env s.heap m x u
  cell : ∀ x c, X.env.cells.lookup x = some c → ∃ v, s.heap.IsCell c v
  free : H X.env.locals = none
  freeC : ∀ x c, X.env.cells.lookup x = some c → H c = none
  pin : ∀ p ∈ X.pn ++ pins, s.heap.get? p.1 = some p.2 ∧ H p.1 = none ∧ p.1 ≠ X.env.locals ∧ p.1 ∉ X.fs ∧ ∀ v, p.2.data ≠ .cell v
  hok : HOk X.prog X.w H s.heap
  len : σ.length = X.N.length

section
variable {X : Cx} {pins : List (Addr × Obj)} {σ : List (Option V)} {H H' : Hp} {s : Shared} {h' : Heap}

theorem Cx.Ok.nofr (ok : X.Ok) {b : Addr} {o : Obj} (e : X.base.get? b = some o) : b ∉ X.fs := fun hb => by
  have := (ok.funs.mem hb).1
  rw [e] at this; cases this
theorem Inv.bs (I : Inv X pins σ H s) : ∀ b o, X.base.get? b = some o → s.heap.get? b = some o ∧ H b = none := fun b o e =>
  ⟨I.base.keep b o (I.ok.bs b o e).1 (I.ok.bs b o e).2 (I.ok.nofr e) (I.ok.noex b o e), I.base.free b o (I.ok.bs b o e).1 (I.ok.bs b o e).2 (I.ok.noex b o e)⟩
theorem Inv.bk (I : Inv X pins σ H s) : ∀ b o, X.base.get? b = some o → s.heap.get? b = some o := fun b o e => (I.bs b o e).1
theorem Inv.mod (I : Inv X pins σ H s) : Mod X.K X.mg X.base := I.ok.mod
theorem Inv.kIn (I : Inv X pins σ H s) : X.K.In s.heap := I.ok.mod.kin.keeps I.bk
theorem Inv.nolimit (I : Inv X pins σ H s) : s.heap.NoLimit := I.ok.mod.nolimit.keeps I.bk
/-- the frame over the base: for OpenK's rules (K.In X.base is I.mod.kin) -/
theorem Inv.fr (I : Inv X pins σ H s) : ∃ m, Fr X.base X.env.locals s.heap m :=
  let ⟨m, hn, _⟩ := I.loc
  ⟨m, hn, I.bk, Nat.le_trans I.ok.bsz I.ok.above⟩
theorem Inv.lt (I : Inv X pins σ H s) : X.env.locals < s.heap.objs.size := let ⟨_, hn, _⟩ := I.loc; hn.lt
theorem Inv.sz (I : Inv X pins σ H s) : X.s_0.heap.objs.size ≤ s.heap.objs.size := Nat.le_trans I.ok.above (Nat.le_of_lt I.lt)
theorem Inv.nofs (I : Inv X pins σ H s) {a : Addr} (h : s.heap.objs.size ≤ a) : a ∉ X.fs := fun hb => by
  obtain ⟨_, o, ho, _⟩ := I.ok.funs.mem hb
  exact absurd (Nat.lt_of_lt_of_le (Heap.lt_size ho) (Nat.le_trans I.sz h)) (Nat.lt_irrefl _)
theorem Inv.cne (I : Inv X pins σ H s) : ∀ x c, X.env.cells.lookup x = some c → c ≠ X.env.locals := fun x c e z => by
  obtain ⟨v, o, ho, hd⟩ := I.cell x c e
  obtain ⟨m, ⟨o', es, ep, ho', hd', _⟩, _⟩ := I.loc
  rw [z, ho'] at ho; cases ho; rw [hd'] at hd; cases hd
theorem Inv.funs (I : Inv X pins σ H s) : s.heap.FunFrames X.base X.outer := by
  have all : ∀ (l : List Env), (∀ b ∈ frs l, b ∈ X.fs) → X.s_0.heap.FunFrames X.base l → s.heap.FunFrames X.base l := by
    intro l
    induction l with
    | nil => intro _ _; trivial
    | cons env r ih =>
      intro hs hl
      obtain ⟨hk, ⟨L, o, hf, hn, ho, hd⟩, hr⟩ := hl
      have hL : L ∈ X.fs := hs L (by unfold frs; rw [List.filterMap_cons, hf]; exact List.mem_cons_self)
      obtain ⟨sl, e⟩ := I.base.slot L o ho (I.ok.frf L hL) hL fun z => I.ok.exfs L z hL
      exact ⟨hk, ⟨L, _, hf, hn, e, hd⟩, ih (fun b hb => hs b (by unfold frs; rw [List.filterMap_cons, hf]; exact List.mem_cons_of_mem _ hb)) hr⟩
  exact all X.outer (fun _ hb => hb) I.ok.funs

/-- the frames that run, for a call -/
theorem Inv.stack (I : Inv X pins σ H s) : s.heap.FunFrames X.base X.stack := by
  rcases I.ok.stk with e | ⟨e, hf⟩
  · rw [e]; exact I.funs
  · rw [e]
    obtain ⟨m, hn, _⟩ := I.loc
    refine .cons (by rw [I.ok.kind]; decide) hf hn ?_ I.funs
    exact Heap.get?_none_of_le (Nat.le_trans I.ok.bsz I.ok.above)
theorem Inv.stkSub (I : Inv X pins σ H s) : ∀ b ∈ frs X.stack, b ∈ X.env.locals :: X.fs := fun b hb => by
  rcases I.ok.stk with e | ⟨e, hf⟩
  · rw [e] at hb; exact List.mem_cons_of_mem _ hb
  · rw [e] at hb
    unfold frs at hb
    rw [List.filterMap_cons, hf] at hb
    exact hb
theorem Inv.stkFree (I : Inv X pins σ H s) : ∀ b ∈ frs X.stack, H b = none := fun b hb => by
  rcases List.mem_cons.mp (I.stkSub b hb) with e | hb
  · rw [e]; exact I.free
  · obtain ⟨_, o, ho, _⟩ := I.ok.funs.mem hb
    exact I.base.free b o ho (I.ok.frf b hb) fun z => I.ok.exfs b z hb

/-- THE STEP: the untracked objects but the frame and the records at ch are kept (the callers' frames up to slots), the frame's map is kept, the new abstract heap is held -/
theorem Inv.step {g' : Array GenState} {t' : Nat} {d' : Drawn} {ch : List Addr} (I : Inv X pins σ H s)
    (hch : ∀ b ∈ ch, (b ∈ X.ex ∨ X.s_0.heap.objs.size ≤ b) ∧ b ≠ X.env.locals ∧ (∀ x c, X.env.cells.lookup x = some c → c ≠ b) ∧ ∀ p ∈ X.pn ++ pins, p.1 ≠ b)
    (keep : ∀ b o, b ≠ X.env.locals → b ∉ X.fs → b ∉ ch → s.heap.get? b = some o → H b = none → h'.get? b = some o)
    (slot : ∀ b o, b ≠ X.env.locals → b ∈ X.fs → b ∉ ch → s.heap.get? b = some o → H b = none → ∃ sl, h'.get? b = some { o with slots := sl }) (free : ∀ b o, b ∉ ch → s.heap.get? b = some o → H b = none → H' b = none)
    (there : ∀ b o, b ∉ ch → s.heap.get? b = some o → ∃ o', h'.get? b = some o')
    (tups : ∀ b xs, H b = some (.tup xs) → H' b = some (.tup xs)) (frzs : ∀ b o u, H b = some (.frz o u) → H' b = some (.frz o u)) (tbls : ∀ b ps, H b = some (.tbl ps) → ∃ more, H' b = some (.tbl (ps ++ more)))
    (ns : ∀ m, s.heap.Ns X.env.locals m → h'.Ns X.env.locals m) (hok : HOk X.prog X.w H' h') (hg : AllBare g') :
    Inv X pins σ H' { s with heap := h', gens := g', drawn := d', toks := t' } := by
  have neL : ∀ b o, X.s_0.heap.get? b = some o → b ≠ X.env.locals := fun b o e => Nat.ne_of_lt (Nat.lt_of_lt_of_le (Heap.lt_size e) I.ok.above)
  have neC : ∀ b o, X.s_0.heap.get? b = some o → b ∉ X.ex → b ∉ ch := fun b o e hx hb => by
    rcases (hch b hb).1 with z | z
    · exact hx z
    · exact absurd (Nat.lt_of_lt_of_le (Heap.lt_size e) z) (Nat.lt_irrefl _)
  have cellK : ∀ x c, X.env.cells.lookup x = some c → ∀ v, s.heap.IsCell c v → h'.IsCell c v := fun x c e v ⟨o, ho, hd⟩ => by
    have nch : c ∉ ch := fun z => (hch c z).2.2.1 x c e rfl
    by_cases hc : c ∈ X.fs
    · obtain ⟨sl, q⟩ := slot c o (I.cne x c e) hc nch ho (I.freeC x c e)
      exact ⟨_, q, hd⟩
    · exact ⟨o, keep c o (I.cne x c e) hc nch ho (I.freeC x c e), hd⟩
  refine ⟨I.ok, I.os, hg, ⟨fun b o e n hb hx => ?_, fun b o e n hb hx => ?_, fun b o e n hx => ?_, fun b o e hx => ?_, fun b xs e => tups b xs (I.base.tups b xs e), fun b o xs e => frzs b o xs (I.base.frzs b o xs e), fun b ps e => ?_⟩, ?_, fun x c e => ?_, ?_, fun x c e => ?_, fun p hp => ?_, hok, I.len⟩
  · exact keep b o (neL b o e) hb (neC b o e hx) (I.base.keep b o e n hb hx) (I.base.free b o e n hx)
  · obtain ⟨sl, e1⟩ := I.base.slot b o e n hb hx
    obtain ⟨sl', e2⟩ := slot b _ (neL b o e) hb (neC b o e hx) e1 (I.base.free b o e n hx)
    exact ⟨sl', e2⟩
  · obtain ⟨o', e1⟩ := I.base.there b o e hx
    exact free b o' (neC b o e hx) e1 (I.base.free b o e n hx)
  · obtain ⟨o', e1⟩ := I.base.there b o e hx
    exact there b o' (neC b o e hx) e1
  · obtain ⟨m1, e1⟩ := I.base.tbls b ps e
    obtain ⟨m2, e2⟩ := tbls b _ e1
    exact ⟨m1 ++ m2, by rw [e2, Array.append_assoc]⟩
  · obtain ⟨m, hn, hl⟩ := I.loc
    refine ⟨m, ns m hn, fun i x v e1 e2 e3 => ?_⟩
    obtain ⟨u, r, l⟩ := hl i x v e1 e2 e3
    refine ⟨u, r, ?_⟩
    rcases l with l | ⟨k, c, e, z⟩
    · exact .inl l
    · exact .inr ⟨k, c, e, cellK x c e _ z⟩
  · obtain ⟨v, z⟩ := I.cell x c e
    exact ⟨v, cellK x c e v z⟩
  · obtain ⟨m, ⟨o, _, _, ho, _⟩, _⟩ := I.loc
    exact free _ o (fun z => (hch _ z).2.1 rfl) ho I.free
  · obtain ⟨v, o, ho, hd⟩ := I.cell x c e
    exact free c o (fun z => (hch c z).2.2.1 x c e rfl) ho (I.freeC x c e)
  · obtain ⟨e, n, ne, nf, d⟩ := I.pin p hp
    have nch : p.1 ∉ ch := fun z => (hch p.1 z).2.2.2 p hp rfl
    exact ⟨keep p.1 p.2 ne nf nch e n, free p.1 p.2 nch e n, ne, nf, d⟩
/-- .. where the frame's own object is kept too -/
theorem Inv.un {t' : Nat} (I : Inv X pins σ H s) (u : Un X.fs [] H H' s.heap h') (hok : HOk X.prog X.w H' h') : Inv X pins σ H' { s with heap := h', toks := t' } := by
  obtain ⟨m, ⟨o, es, ep, ho, r⟩, _⟩ := id I.loc
  obtain ⟨sl, hL⟩ := u.any ho I.free (by simp)
  exact I.step (g' := s.gens) (d' := s.drawn) (ch := []) (fun _ z => nomatch z) (fun b o _ hb _ e n => u.keep b o e n hb (by simp)) (fun b o _ hb _ e n => u.slot b o e n hb (by simp)) (fun b o _ e n => u.free b o e n (by simp)) (fun b o _ e => u.there b o e (by simp)) u.tups u.frzs u.tbls (fun m' hm => by
    obtain ⟨o', es', ep', ho', r'⟩ := hm
    rw [ho] at ho'; cases ho'
    exact ⟨_, es', ep', hL, r'⟩) hok I.bare
/-- behind a call (or a comprehension's block): the slots of this frame may have changed too, the records at ch may have turned -/
theorem Inv.call {g' : Array GenState} {t' : Nat} {d' : Drawn} {ch : List Addr} (I : Inv X pins σ H s) (u : Un (frs X.stack) ch H H' s.heap h') (hok : HOk X.prog X.w H' h') (hg : AllBare g')
    (hch : ∀ b ∈ ch, (b ∈ X.ex ∨ X.s_0.heap.objs.size ≤ b) ∧ b ≠ X.env.locals ∧ (∀ x c, X.env.cells.lookup x = some c → c ≠ b) ∧ ∀ p ∈ X.pn ++ pins, p.1 ≠ b) :
    Inv X pins σ H' { s with heap := h', gens := g', drawn := d', toks := t' } := by
  obtain ⟨m, ⟨o, es, ep, ho, r⟩, _⟩ := id I.loc
  obtain ⟨sl, hL⟩ := u.any ho I.free fun z => (hch _ z).2.1 rfl
  exact I.step (ch := ch) hch (fun b o hL hb hc e n => u.keep b o e n (fun z => (List.mem_cons.mp (I.stkSub b z)).elim hL hb) hc) (fun b o _ _ hc e n => u.any e n hc) (fun b o hc e n => u.free b o e n hc) (fun b o hc e => u.there b o e hc) u.tups u.frzs u.tbls (fun m' hm => by
    obtain ⟨o', es', ep', ho', r'⟩ := hm
    rw [ho] at ho'; cases ho'
    exact ⟨_, es', ep', hL, r'⟩) hok hg
/-- an untracked record of ours (an iterator) has turned -/
theorem Inv.turned {t' : Nat} {it : Addr} (I : Inv X pins σ H s) (k : ∀ b o, b ≠ it → s.heap.get? b = some o → h'.get? b = some o) (hn : H it = none) (hL : it ≠ X.env.locals)
    (h1 : it ∈ X.ex ∨ X.s_0.heap.objs.size ≤ it) (h2 : ∀ x c, X.env.cells.lookup x = some c → c ≠ it) (h3 : ∀ p ∈ X.pn ++ pins, p.1 ≠ it) : Inv X pins σ H { s with heap := h', toks := t' } := by
  have nit : ∀ b u, H b = some u → b ≠ it := fun b u e z => by rw [z, hn] at e; cases e
  refine I.step (g' := s.gens) (d' := s.drawn) (ch := [it]) (fun b hb => ?_) (fun b o _ _ hc e _ => k b o (fun z => hc (by simp [z])) e) (fun b o _ _ hc e _ => ⟨o.slots, k b o (fun z => hc (by simp [z])) e⟩) (fun _ _ _ _ n => n)
    (fun b o hc e => ⟨o, k b o (fun z => hc (by simp [z])) e⟩) (fun _ _ e => e) (fun _ _ _ e => e) (fun b ps e => ⟨#[], by rw [e]; simp⟩) (fun m hm => ?_) (fun b u e => ?_) I.bare
  · have e : b = it := by simpa using hb
    subst e
    exact ⟨h1, hL, h2, h3⟩
  · obtain ⟨o, es, ep, ho, r⟩ := hm
    exact ⟨o, es, ep, k _ o (Ne.symm hL) ho, r⟩
  · refine (I.hok b u e).stay (fun c v hc q => k c v ?_ q) (fun _ q => q) fun _ _ q => q
    rcases hc with z | z
    · rw [z]; exact nit b u e
    · exact nit c _ z
theorem Inv.tok (I : Inv X pins σ H s) (t : Nat) : Inv X pins σ H { s with toks := t } := I.un (h' := s.heap) (t' := t) Un.refl I.hok
/-- all objects kept -/
theorem Inv.kept {t' : Nat} (I : Inv X pins σ H s) (k : ∀ b u, s.heap.get? b = some u → h'.get? b = some u) : Inv X pins σ H { s with heap := h', toks := t' } := I.un (Un.kept k) (I.hok.kept k)
/-- a new object laid and tracked -/
theorem Inv.laid {a : Addr} {o : HO} {t' : Nat} (I : Inv X pins σ H s) (k : ∀ b u, s.heap.get? b = some u → h'.get? b = some u) (hp : s.heap.objs.size ≤ a) (new : ObjOk X.prog X.w (upd H a o) h' a o) :
    Inv X pins σ (upd H a o) { s with heap := h', toks := t' } := I.un (Un.laid k hp (I.hok.fresh hp)) (I.hok.laid k hp new)
/-- an object written -/
theorem Inv.write {x e : Addr} {o : HO} {t' : Nat} (I : Inv X pins σ H s) (mu : Mut (H x)) (he : e = x ∨ H e = some (.own x)) (k : ∀ b u, b ≠ e → s.heap.get? b = some u → h'.get? b = some u) (heo : ∃ u, h'.get? e = some u)
    (new : ObjOk X.prog X.w (upd H x o) h' x o) : Inv X pins σ (upd H x o) { s with heap := h', toks := t' } := I.un (Un.write mu he k heo) (I.hok.write mu he k heo new)
/-- forgetting slots, pins -/
theorem Inv.weak {σ' : List (Option V)} (I : Inv X pins σ H s) (hl : σ'.length = σ.length) (w : ∀ (i : Nat) v, σ'[i]? = some (some v) → σ[i]? = some (some v)) : Inv X pins σ' H s :=
  ⟨I.ok, I.os, I.bare, I.base, let ⟨m, hn, hl'⟩ := I.loc; ⟨m, hn, fun i x v e1 e2 e3 => hl' i x v e1 (w i v e2) e3⟩, I.cell, I.free, I.freeC, I.pin, I.hok, hl.trans I.len⟩
theorem Inv.pins_of {pins' : List (Addr × Obj)} (I : Inv X pins σ H s) (h : ∀ p ∈ pins', s.heap.get? p.1 = some p.2 ∧ H p.1 = none ∧ p.1 ≠ X.env.locals ∧ p.1 ∉ X.fs ∧ ∀ v, p.2.data ≠ .cell v) : Inv X pins' σ H s :=
  ⟨I.ok, I.os, I.bare, I.base, I.loc, I.cell, I.free, I.freeC, fun p hp => (List.mem_append.mp hp).elim (fun z => I.pin p (List.mem_append_left _ z)) (h p), I.hok, I.len⟩

theorem nodup_ix {N : List Str} (hN : N.Nodup) {i j : Nat} {x : Str} (a : N[i]? = some x) (b : N[j]? = some x) : i = j := by
  obtain ⟨h1, e1⟩ := List.getElem?_eq_some_iff.mp a
  obtain ⟨h2, e2⟩ := List.getElem?_eq_some_iff.mp b
  exact (List.getElem_inj hN).mp (e1.trans e2.symm)

/-- a name is stored; what changed -/
theorem store_ok2 {M : Model} {A : Around} {E : Value → Shared → Prop} {i : Nat} {x : Str} {v : V} {u : Value} {Q : Unit → Shared → Prop} (I : Inv X pins σ H s) (hN : X.N.Nodup) (hi : X.N[i]? = some x) (hx : Loc X.env.scope x) (r : RelV v u)
    (h : ∀ s', Inv X pins (σ.set i (some v)) H s' → (∃ a, Heap.SameBut a s.heap s'.heap ∧ (a = X.env.locals ∨ X.env.cells.lookup x = some a)) → Q () s') (hf : X.fn x = true ∨ X.env.scope.names.lookup x = some .local := by first | exact .inl rfl | exact .inr rfl | assumption) : wpAny M A (storeName X.env x u) Q E s := by
  obtain ⟨m, hn, hl⟩ := id I.loc
  have hcls : (X.env.scope.kind == .class || (X.env.scope.kind == .module && X.env.locals != X.env.globals)) = false := by rw [I.ok.kind]; rfl
  have hiσ : i < σ.length := by rw [I.len]; exact (List.getElem?_eq_some_iff.mp hi).1
  have cne := I.cne
  have tracked : ∀ {a : Addr} {h' : Heap}, (∃ o, s.heap.get? a = some o ∧ H a = none) → Heap.SameBut a s.heap h' → HOk X.prog X.w H h' := fun {a h'} ha hs b ob e => by
    obtain ⟨_, _, hfree⟩ := ha
    refine (I.hok b ob e).stay (fun c w' hc q => (hs.2 c ?_).trans q) (fun _ q => q) fun _ _ q => q
    rintro rfl
    rcases hc with rfl | hc
    · rw [hfree] at e; cases e
    · rw [hfree] at hc; cases hc
  rcases hx with hk | hk
  · refine wpAny_storeName_local hk hn (fun h' hn' hs => ?_) hcls
    obtain ⟨oL, _, _, hoL, _⟩ := id hn
    refine h _ ⟨I.ok, I.os, I.bare, ⟨fun b o e n hb hx => ?_, fun b o e n hb hx => ?_, I.base.free, fun b o e hx => ?_, I.base.tups, I.base.frzs, I.base.tbls⟩, ⟨_, hn', fun j y v' e1 e2 e3 => ?_⟩, fun y c e => ?_, I.free, I.freeC, fun p hp => ?_, tracked ⟨oL, hoL, I.free⟩ hs, by simpa using I.len⟩ ⟨_, hs, .inl rfl⟩
    · exact (hs.2 b (Nat.ne_of_lt (Nat.lt_of_lt_of_le (Heap.lt_size e) I.ok.above))).trans (I.base.keep b o e n hb hx)
    · obtain ⟨sl, e1⟩ := I.base.slot b o e n hb hx
      exact ⟨sl, (hs.2 b (Nat.ne_of_lt (Nat.lt_of_lt_of_le (Heap.lt_size e) I.ok.above))).trans e1⟩
    · obtain ⟨o', e1⟩ := I.base.there b o e hx
      exact ⟨o', (hs.2 b (Nat.ne_of_lt (Nat.lt_of_lt_of_le (Heap.lt_size e) I.ok.above))).trans e1⟩
    · by_cases hj : j = i
      · subst hj
        rw [hi] at e1; cases e1
        rw [List.getElem?_set_self hiσ] at e2
        cases e2
        exact ⟨u, r, .inl ⟨hk, by simp⟩⟩
      · rw [List.getElem?_set_ne (Ne.symm hj)] at e2
        obtain ⟨u', r', q⟩ := hl j y v' e1 e2 e3
        refine ⟨u', r', ?_⟩
        rcases q with ⟨k, e⟩ | ⟨k, c, e, z⟩
        · refine .inl ⟨k, ?_⟩
          have : y ≠ x := fun e => hj (nodup_ix hN e1 (e ▸ hi))
          simp [this, e]
        · exact .inr ⟨k, c, e, z.sameBut hs (cne y c e)⟩
    · obtain ⟨w', z⟩ := I.cell y c e
      exact ⟨w', z.sameBut hs (cne y c e)⟩
    · obtain ⟨e, n, ne, nf, d⟩ := I.pin p hp
      exact ⟨(hs.2 p.1 ne).trans e, n, ne, nf, d⟩
  · have hfn : X.fn x = true := by
      rcases hf with z | z
      · exact z
      · rw [z] at hk; cases hk
    obtain ⟨c, hc⟩ := I.ok.has x (.inl hk)
    obtain ⟨w', z⟩ := I.cell x c hc
    refine wpAny_storeName_cell I.ok.kind hk hc z (fun h' hc' hs => ?_)
    obtain ⟨oc, hoc, hocd⟩ := id z
    refine h { s with heap := h' } ⟨I.ok, I.os, I.bare, ⟨fun b o e n hb hx => ?_, fun b o e n hb hx => ?_, I.base.free, fun b o e hx => ?_, I.base.tups, I.base.frzs, I.base.tbls⟩, ⟨m, hn.sameBut hs (Ne.symm (cne x c hc)), fun j y v' e1 e2 e3 => ?_⟩, fun y c' e => ?_, I.free, I.freeC, fun p hp => ?_, tracked ⟨oc, hoc, I.freeC x c hc⟩ hs, by simpa using I.len⟩ ⟨c, hs, .inr hc⟩
    · exact (hs.2 b (Nat.ne_of_lt (Nat.lt_of_lt_of_le (Heap.lt_size e) (I.ok.cab x c hfn hc)))).trans (I.base.keep b o e n hb hx)
    · obtain ⟨sl, e1⟩ := I.base.slot b o e n hb hx
      exact ⟨sl, (hs.2 b (Nat.ne_of_lt (Nat.lt_of_lt_of_le (Heap.lt_size e) (I.ok.cab x c hfn hc)))).trans e1⟩
    · obtain ⟨o', e1⟩ := I.base.there b o e hx
      exact ⟨o', (hs.2 b (Nat.ne_of_lt (Nat.lt_of_lt_of_le (Heap.lt_size e) (I.ok.cab x c hfn hc)))).trans e1⟩
    · by_cases hj : j = i
      · subst hj
        rw [hi] at e1; cases e1
        rw [List.getElem?_set_self hiσ] at e2
        cases e2
        exact ⟨u, r, .inr ⟨.inl hk, c, hc, hc'⟩⟩
      · rw [List.getElem?_set_ne (Ne.symm hj)] at e2
        obtain ⟨u', r', q⟩ := hl j y v' e1 e2 e3
        refine ⟨u', r', ?_⟩
        rcases q with q | ⟨k, c', e, z'⟩
        · exact .inl q
        · refine .inr ⟨k, c', e, z'.sameBut hs ?_⟩
          rintro rfl
          exact hj (nodup_ix hN e1 (I.ok.inj _ _ _ e hc ▸ hi))
    · by_cases hcc : c' = c
      · subst hcc; exact ⟨_, hc'⟩
      · obtain ⟨w2, z2⟩ := I.cell y c' e
        exact ⟨w2, z2.sameBut hs hcc⟩
    · obtain ⟨e, n, ne, nf, d⟩ := I.pin p hp
      refine ⟨(hs.2 p.1 ?_).trans e, n, ne, nf, d⟩
      intro q
      rw [q, hoc] at e
      have q' : oc = p.2 := Option.some.inj e
      exact d w' (by rw [← q']; exact hocd)
theorem store_ok {M : Model} {A : Around} {E : Value → Shared → Prop} {i : Nat} {x : Str} {v : V} {u : Value} {Q : Unit → Shared → Prop} (I : Inv X pins σ H s) (hN : X.N.Nodup) (hi : X.N[i]? = some x) (hx : Loc X.env.scope x) (r : RelV v u)
    (h : ∀ s', Inv X pins (σ.set i (some v)) H s' → Q () s') (hf : X.fn x = true ∨ X.env.scope.names.lookup x = some .local := by first | exact .inl rfl | exact .inr rfl | assumption) : wpAny M A (storeName X.env x u) Q E s :=
  store_ok2 I hN hi hx r (fun s' I' _ => h s' I') hf
/-- behind a call or a block, the state as it is -/
theorem Inv.call' {s' : Shared} {ch : List Addr} (I : Inv X pins σ H s) (ho : s'.os = s.os) (u : Un (frs X.stack) ch H H' s.heap s'.heap) (hok : HOk X.prog X.w H' s'.heap) (hg : AllBare s'.gens)
    (hch : ∀ b ∈ ch, (b ∈ X.ex ∨ X.s_0.heap.objs.size ≤ b) ∧ b ≠ X.env.locals ∧ (∀ x c, X.env.cells.lookup x = some c → c ≠ b) ∧ ∀ p ∈ X.pn ++ pins, p.1 ≠ b) : Inv X pins σ H' s' := by
  obtain ⟨h', g', d', t', o'⟩ := s'
  have e : o' = s.os := ho
  subst e
  exact I.call (g' := g') (t' := t') (d' := d') u hok hg hch
end

/-! ### the judgements -/
/-- an exception: its class, its own dict's address (where it has one), the abstract heap behind it -/
abbrev XK := Value → Option Addr → Hp → Prop
abbrev St := List (Option V)
abbrev VK := V → Hp → Prop
/-- an expression's reading; a test's; an argument list's -/
abbrev TE := St → Hp → VK → Prop
abbrev TT := St → Hp → (Bool → Hp → Prop) → Prop
abbrev TA := St → Hp → (List V → Hp → Prop) → Prop
/-- what is wanted behind a statement -/
structure Ends where
  nx : St → Hp → Prop
  rt : VK
  bk : St → Hp → Prop := fun _ _ => False
  ct : St → Hp → Prop := fun _ _ => False
abbrev TS := Ends → St → Hp → Prop

def EP (X : Cx) (pins : List (Addr × Obj)) (σ : St) (Q : VK) (u : Value) (s' : Shared) : Prop := ∃ v H', Inv X pins σ H' s' ∧ RelV v u ∧ Q v H'
def TP (X : Cx) (pins : List (Addr × Obj)) (σ : St) (Q : Bool → Hp → Prop) (b : Bool) (s' : Shared) : Prop := ∃ H', Inv X pins σ H' s' ∧ Q b H'
def AP (X : Cx) (pins : List (Addr × Obj)) (σ : St) (Q : List V → Hp → Prop) (us : List Value) (s' : Shared) : Prop := ∃ vs H', Inv X pins σ H' s' ∧ Vals vs us ∧ Q vs H'
def SP (X : Cx) (pins : List (Addr × Obj)) (D : Ends) (f : Flow) (s' : Shared) : Prop :=
  match f with
  | .next => ∃ σ' H', Inv X pins σ' H' s' ∧ D.nx σ' H'
  | .brk => ∃ σ' H', Inv X pins σ' H' s' ∧ D.bk σ' H'
  | .cont => ∃ σ' H', Inv X pins σ' H' s' ∧ D.ct σ' H'
  | .ret u => ∃ v σ' H', Inv X pins σ' H' s' ∧ RelV v u ∧ D.rt v H'

def PE (X : Cx) (e : Expr) (t : TE) : Prop :=
  ∀ (pins : List (Addr × Obj)) (s : Shared) (σ : St) (H : Hp) (Q : VK), Inv X pins σ H s → t σ H Q → wpAny (model X.prog X.w) X.A (eval e X.env) (EP X pins σ Q) X.xe s
def PT (X : Cx) (e : Expr) (t : TT) : Prop :=
  ∀ (pins : List (Addr × Obj)) (s : Shared) (σ : St) (H : Hp) (Q : Bool → Hp → Prop), Inv X pins σ H s → t σ H Q → wpAny (model X.prog X.w) X.A (isTrue e X.env (eval e X.env)) (TP X pins σ Q) X.xe s
/-- a test whatever its 'whole' is (and, or) -/
def PW (X : Cx) (e : Expr) (t : TT) : Prop :=
  ∀ (whole : Sem Value) (pins : List (Addr × Obj)) (s : Shared) (σ : St) (H : Hp) (Q : Bool → Hp → Prop), Inv X pins σ H s → t σ H Q → wpAny (model X.prog X.w) X.A (isTrue e X.env whole) (TP X pins σ Q) X.xe s
theorem PW.pt {X : Cx} {e : Expr} {t : TT} (h : PW X e t) : PT X e t := h _
/-- an argument list (no star), from the left -/
def PA (X : Cx) (es : List Expr) (t : TA) : Prop :=
  ∀ (pos : Pos) (pins : List (Addr × Obj)) (s : Shared) (σ : St) (H : Hp) (Q : List V → Hp → Prop), Inv X pins σ H s → t σ H Q → wpAny (model X.prog X.w) X.A (spliced (backTo pos (starEach es X.env))) (AP X pins σ Q) X.xe s
def PS (X : Cx) (st : Stmt) (t : TS) : Prop :=
  ∀ (pins : List (Addr × Obj)) (s : Shared) (σ : St) (H : Hp) (D : Ends), Inv X pins σ H s → t D σ H → wpAny (model X.prog X.w) X.A (exec st X.env) (SP X pins D) X.xe s
def PSs (X : Cx) (st : List Stmt) (t : TS) : Prop :=
  ∀ (pins : List (Addr × Obj)) (s : Shared) (σ : St) (H : Hp) (D : Ends), Inv X pins σ H s → t D σ H → wpAny (model X.prog X.w) X.A (execs st X.env) (SP X pins D) X.xe s
/-- weaken the end -/
theorem thn {α : Type} {t : Sem α} {Q Q' : α → Shared → Prop} {M : Model} {A : Around} {E : Value → Shared → Prop} {s : Shared} (h : wpAny M A t Q E s) (hQ : ∀ a s, Q a s → Q' a s) : wpAny M A t Q' E s := wpAny_mono h hQ fun _ _ x => x
end L2

namespace L2
open PySem PySem.Spec PyProof.Rows
section
variable {X : Cx}

/-! ### names and constants -/
def tVar (i : Nat) : TE := fun σ H Q => ∃ v, σ[i]? = some (some v) ∧ Q v H
def tC (v : V) : TE := fun _ H Q => Q v H
theorem pe_var {i : Nat} {x : Str} {pos : Pos} (hN : X.N[i]? = some x) (hv : Vis X.env.scope x) (hd : (x == ("__debug__" : Str)) = false := by decide) (hcd : (x == ("__classdict__" : Str)) = false := by decide) : PE X (.Name x pos) (tVar i) := by
  intro pins s σ H Q I h
  obtain ⟨v, e, h⟩ := h
  obtain ⟨m, hn, hl⟩ := I.loc
  obtain ⟨u, r, l⟩ := hl i x v hN e hv
  have fin : EP X pins σ Q u s := ⟨v, H, I, r, h⟩
  rcases l with ⟨hk, hm⟩ | ⟨hk, c, hc, hcell⟩
  · exact wpAny_Name (wpAny_loadName_local I.ok.kind hk hn hm fin) hd
  · rcases hk with hk | hk
    · exact wpAny_Name (wpAny_loadName_cell I.ok.kind hk hc hcell fin) hd
    · exact wpAny_Name (wpAny_loadName_free I.ok.kind hk hc hcell fin hcd) hd
theorem pe_int {i j pos} : PE X (.Constant (.int i) j pos) (tC (.int i)) := fun _ _ _ H _ I h => wpAny_Constant_int ⟨.int i, H, I.tok _, ⟨_, rfl⟩, h⟩
theorem pe_bl {b j pos} : PE X (.Constant (.bool b) j pos) (tC (.bl b)) := fun _ _ _ H _ I h => Constant_bool ⟨.bl b, H, I, rfl, h⟩
theorem pe_non {j pos} : PE X (.Constant .none j pos) (tC .non) := fun _ _ _ H _ I h => Constant_none ⟨.non, H, I, rfl, h⟩
/-- a global name of the def -/
def Gl (X : Cx) (x : Str) : Prop := X.env.kindOf x = some .globalImplicit
theorem ld_glob {E : Value → Shared → Prop} {pins : List (Addr × Obj)} {s : Shared} {σ : St} {H : Hp} {x : Str} {u : Value} {pos : Pos} {Q : Value → Shared → Prop} (I : Inv X pins σ H s) (hg : Gl X x) (hm : X.mg x = some u) (h : Q u s)
    (hd : (x == ("__debug__" : Str)) = false := by decide) : wpAny (model X.prog X.w) X.A (eval (.Name x pos) X.env) Q E s :=
  Calls.Name_function_global I.ok.kind hg (Calls.loadGlobal_global (by rw [I.ok.glob]; exact I.mod.glob.keeps I.bk) hm h) hd
theorem ld_blt {E : Value → Shared → Prop} {pins : List (Addr × Obj)} {s : Shared} {σ : St} {H : Hp} {x : Str} {u : Value} {pos : Pos} {Q : Value → Shared → Prop} (I : Inv X pins σ H s) (hg : Gl X x) (hm : X.mg x = none) (hv : bootBuiltins x = some u) (h : Q u s)
    (hn : x ≠ "__name__" := by decide) (hd : (x == ("__debug__" : Str)) = false := by decide) : wpAny (model X.prog X.w) X.A (eval (.Name x pos) X.env) Q E s := by
  obtain ⟨mb, h1, h2⟩ := I.mod.blt
  exact Calls.Name_function_global I.ok.kind hg (Calls.loadGlobal_builtin (by rw [I.ok.glob]; exact I.mod.glob.keeps I.bk) hm (by rw [I.ok.blt]; exact h1.keeps I.bk) ((h2 x hn).trans hv) h) hd
/-- a module's constant, a class, a function, as a value -/
theorem pe_glob {x : Str} {v : V} {u : Value} {pos : Pos} (hg : Gl X x) (hm : X.mg x = some u) (r : RelV v u) (hd : (x == ("__debug__" : Str)) = false := by decide) : PE X (.Name x pos) (tC v) :=
  fun _ _ _ H _ I h => ld_glob I hg hm ⟨v, H, I, r, h⟩ hd
/-! ### arithmetic -/
variable {a b : Expr} {ta tb : TE} {pos : Pos}
/-! ### comparisons -/
def PC (X : Cx) (op : CmpOp) (a b : Expr) (t : TE) : Prop :=
  ∀ (pins : List (Addr × Obj)) (s : Shared) (σ : St) (H : Hp) (Q : VK), Inv X pins σ H s → t σ H Q →
    wpAny (model X.prog X.w) X.A (eval a X.env) (fun v s₁ => wpAny (model X.prog X.w) X.A (eval b X.env) (fun u s₂ => wpAny (model X.prog X.w) X.A (compareOp op v u) (EP X pins σ Q) X.xe s₂) X.xe s₁) X.xe s
theorem nobehind (b : Expr) {op : CmpOp} (h : op ≠ .In) (h2 : op ≠ .NotIn) : behindInMarks op b = false := by
  have e1 : (op == CmpOp.In) = false := by cases op <;> first | rfl | exact absurd rfl h
  have e2 : (op == CmpOp.NotIn) = false := by cases op <;> first | rfl | exact absurd rfl h2
  cases b <;> simp [behindInMarks, e1, e2]
/-- is None -/
def tIsN (ta : TE) : TE := fun σ H Q => ta σ H fun x H1 => Q (.bl (decide (x = .non))) H1
theorem RelV.none_iff {x : V} {v : Value} (r : RelV x v) : (v == Value.none) = decide (x = .non) := by
  cases x with
  | non => cases r; rfl
  | bl _ => cases r; rfl
  | int _ => obtain ⟨t, rfl⟩ := r; rfl
  | str _ => obtain ⟨t, rfl⟩ := r; rfl
  | byt _ => obtain ⟨t, rfl⟩ := r; rfl
  | flt _ => obtain ⟨t, rfl⟩ := r; rfl
  | ref _ => cases r; rfl
  | ty _ => cases r; rfl
theorem pc_isN {j pos'} (ha : PE X a ta) : PC X .Is a (.Constant .none j pos') (tIsN ta) := by
  intro pins s σ H Q I h
  refine thn (ha pins s σ H _ I h) fun v s1 ⟨x, H1, I1, r1, q1⟩ => ?_
  exact Constant_none (is_none_gen ⟨.bl _, H1, I1, by rw [r1.none_iff]; rfl, q1⟩)
/-- a comparison as a value, as a test -/
def tB (t : TE) : TT := fun σ H Q => t σ H fun x H1 => ∃ c, x = .bl c ∧ Q c H1
theorem pe_cmp {op : CmpOp} {t : TE} (h : PC X op a b t) (h1 : behindInMarks op b = false := by first | exact nobehind _ (by decide) (by decide) | rfl) : PE X (.Compare a [op] [b] pos) t := fun pins s σ H Q I hw => wpAny_Compare1 (h pins s σ H Q I hw) h1
theorem pt_cmp {op : CmpOp} {t : TE} (h : PC X op a b t) (h1 : behindInMarks op b = false := by first | exact nobehind _ (by decide) (by decide) | rfl) : PT X (.Compare a [op] [b] pos) (tB t) := by
  intro pins s σ H Q I hw
  refine wpAny_isTrue_Compare1 (thn (h pins s σ H _ I hw) fun v s1 h1 => thn h1 fun u s2 h2 => thn h2 fun c s3 ⟨x, H1, I1, r1, q1⟩ => ?_) h1
  obtain ⟨d, rfl, q⟩ := q1
  cases r1
  exact wpAny_truthy_bool ⟨H1, I1, q⟩
/-- an expression whose value is a bool, as a test -/
theorem pt_val {e : Expr} {t : TE} (h : PE X e t) (he : ∀ whole, isTrue e X.env whole = (do let v ← whole; standAt e.pos; holding [v] (truthy v)) := by intro _; rfl) : PT X e (tB t) := by
  intro pins s σ H Q I hw
  refine isTrue_plain (thn (h pins s σ H _ I hw) fun v s1 ⟨x, H1, I1, r1, q1⟩ => ?_) (he _)
  obtain ⟨d, rfl, q⟩ := q1
  cases r1
  exact wpAny_truthy_bool ⟨H1, I1, q⟩

/-! ### and, or, not -/
variable {tA tB' : TT} {rest : List Expr}
def tOr (t u : TT) : TT := fun σ H Q => t σ H fun c H1 => if c = true then Q true H1 else u σ H1 Q
def tNot (t : TT) : TT := fun σ H Q => t σ H fun c H1 => Q (!c) H1
theorem pw_or1 (ha : PT X a tA) : PW X (.BoolOp .Or [a] pos) tA := by
  intro wh pins s σ H Q I h
  refine isTrue_or (thn (ha pins s σ H Q I h) fun c s1 e => ?_)
  cases c with
  | false => exact isTrue_or_nil e
  | true => exact e
theorem pw_or (ha : PT X a tA) (hb : PW X (.BoolOp .Or (b :: rest) pos) tB') : PW X (.BoolOp .Or (a :: b :: rest) pos) (tOr tA tB') := by
  intro wh pins s σ H Q I h
  refine isTrue_or (thn (ha pins s σ H _ I h) fun c s1 ⟨H1, I1, q1⟩ => ?_)
  cases c with
  | true => exact ⟨H1, I1, q1⟩
  | false => exact hb wh pins s1 σ H1 Q I1 q1
theorem pt_not (ha : PT X a tA) : PT X (.UnaryOp .Not a pos) (tNot tA) := by
  intro pins s σ H Q I h
  exact isTrue_not (ha pins s σ H (fun c H1 => Q (!c) H1) I h)
/-- .. as values (bools) -/
def tAndV (ta tb : TE) : TE := fun σ H Q => ta σ H fun x H1 => ∃ c, x = .bl c ∧ if c = true then tb σ H1 Q else Q (.bl false) H1
def tOrV (ta tb : TE) : TE := fun σ H Q => ta σ H fun x H1 => ∃ c, x = .bl c ∧ if c = true then Q (.bl true) H1 else tb σ H1 Q
def tNotV (ta : TE) : TE := fun σ H Q => ta σ H fun x H1 => ∃ c, x = .bl c ∧ Q (.bl (!c)) H1
theorem pe_one {op} {t : TE} (h : PE X a t) : PE X (.BoolOp op [a] pos) t := fun pins s σ H Q I hw => BoolOp_one (h pins s σ H Q I hw)
theorem pe_and (ha : PE X a ta) (hb : PE X (.BoolOp .And (b :: rest) pos) tb) : PE X (.BoolOp .And (a :: b :: rest) pos) (tAndV ta tb) := by
  intro pins s σ H Q I h
  refine BoolOp_and (thn (ha pins s σ H _ I h) fun v s1 ⟨x, H1, I1, r1, q1⟩ => ?_)
  obtain ⟨c, rfl, q1⟩ := q1
  cases r1
  refine wpAny_truthy_bool ?_
  cases c with
  | true => exact hb pins s1 σ H1 Q I1 q1
  | false => exact ⟨.bl false, H1, I1, rfl, q1⟩
theorem pe_or (ha : PE X a ta) (hb : PE X (.BoolOp .Or (b :: rest) pos) tb) : PE X (.BoolOp .Or (a :: b :: rest) pos) (tOrV ta tb) := by
  intro pins s σ H Q I h
  refine BoolOp_or (thn (ha pins s σ H _ I h) fun v s1 ⟨x, H1, I1, r1, q1⟩ => ?_)
  obtain ⟨c, rfl, q1⟩ := q1
  cases r1
  refine wpAny_truthy_bool ?_
  cases c with
  | false => exact hb pins s1 σ H1 Q I1 q1
  | true => exact ⟨.bl true, H1, I1, rfl, q1⟩
theorem pe_not (ha : PE X a ta) : PE X (.UnaryOp .Not a pos) (tNotV ta) := by
  intro pins s σ H Q I h
  refine UnaryOp_ (thn (ha pins s σ H _ I h) fun v s1 ⟨x, H1, I1, r1, q1⟩ => ?_)
  obtain ⟨c, rfl, q1⟩ := q1
  cases r1
  exact not_of (wpAny_truthy_bool ⟨.bl (!c), H1, I1, rfl, q1⟩)
/-- a if t else b -/
def tIf (t : TT) (ta tb : TE) : TE := fun σ H Q => t σ H fun c H1 => if c = true then ta σ H1 Q else tb σ H1 Q
theorem pe_ifExp {c : Expr} (hc : PT X c tA) (ha : PE X a ta) (hb : PE X b tb) : PE X (.IfExp c a b pos) (tIf tA ta tb) := by
  intro pins s σ H Q I h
  refine wpAny_IfExp (thn (hc pins s σ H _ I h) fun d s1 ⟨H1, I1, q1⟩ => ?_)
  cases d with
  | true => exact ha pins s1 σ H1 Q I1 q1
  | false => exact hb pins s1 σ H1 Q I1 q1
end
end L2

namespace L2
open PySem PySem.Spec PyProof.Rows

/-! ### a list, a tuple that is read: tracked, frozen, or an object of the module -/
def SqL (K : PySem.W.Frag) (H : Hp) (a : Addr) (xs : List V) : Prop :=
  Rd H a (.lst xs) ∨
    ∃ (o : Obj) (its : Array Value) (n : Nat), K.lookup a = some o ∧ o.cls = .type "list" ∧ o.dict = none ∧ o.data = .seq its n ∧ its.size ≤ sizeLine ∧ Vals xs its.toList
def SqT (K : PySem.W.Frag) (H : Hp) (a : Addr) (xs : List V) : Prop :=
  Rd H a (.tup xs) ∨
    ∃ (o : Obj) (its : Array Value) (n : Nat), K.lookup a = some o ∧ o.cls = .type "tuple" ∧ o.data = .seq its n ∧ its.size ≤ sizeLine ∧ Vals xs its.toList
def absV : Value → Option V
  | .none => some .non
  | .bool b => some (.bl b)
  | .int i _ => some (.int i)
  | .str x _ => some (.str x)
  | .bytes b _ => some (.byt b)
  | .float b _ => some (.flt b)
  | .ref a => some (.ref a)
  | .type n => some (.ty n)
  | _ => none
theorem RelV.abs {x : V} {u : Value} (r : RelV x u) : absV u = some x := by
  cases x with
  | non => cases r; rfl
  | bl _ => cases r; rfl
  | int _ => obtain ⟨t, rfl⟩ := r; rfl
  | str _ => obtain ⟨t, rfl⟩ := r; rfl
  | byt _ => obtain ⟨t, rfl⟩ := r; rfl
  | flt _ => obtain ⟨t, rfl⟩ := r; rfl
  | ref _ => cases r; rfl
  | ty _ => cases r; rfl
theorem RelV.inj {x y : V} {u : Value} (r : RelV x u) (q : RelV y u) : x = y := Option.some.inj (r.abs.symm.trans q.abs)
theorem Vals.inj : ∀ {xs ys : List V} {us : List Value}, Vals xs us → Vals ys us → xs = ys
  | _, _, _, .nil, .nil => rfl
  | _, _, _, .cons r t, .cons r' t' => by rw [r.inj r', Vals.inj t t']
section
variable {X : Cx} {pins : List (Addr × Obj)} {σ : St} {H : Hp} {s : Shared} {a : Addr} {xs ys : List V}
theorem SqL.of {K : PySem.W.Frag} (h : H a = some (.lst xs)) : SqL K H a xs := .inl (.inl h)
theorem SqT.of {K : PySem.W.Frag} (h : H a = some (.tup xs)) : SqT K H a xs := .inl (.inl h)
theorem Inv.list (I : Inv X pins σ H s) (h : SqL X.K H a xs) : ∃ its : List Value, Vals xs its ∧ PlainL s.heap a its.toArray ∧ xs.length ≤ sizeLine := by
  rcases h with h | ⟨o, its, n, hk, hc, hd, hs, hz, r⟩
  · obtain ⟨z, its, n, r, e⟩ := h.ok I.hok
    exact ⟨its, r, ⟨_, n, e, rfl, rfl, rfl⟩, z⟩
  · refine ⟨its.toList, r, ⟨o, n, I.kIn a o hk, hc, hd, by simpa using hs⟩, ?_⟩
    have e := r.length
    simp only [Array.length_toList] at e
    omega
theorem Inv.tuple (I : Inv X pins σ H s) (h : SqT X.K H a xs) : ∃ its : List Value, Vals xs its ∧ IsTup s.heap a its.toArray ∧ xs.length ≤ sizeLine := by
  rcases h with h | ⟨o, its, n, hk, hc, hs, hz, r⟩
  · obtain ⟨z, its, r, p⟩ := h.ok I.hok
    exact ⟨its, r, p, z⟩
  · refine ⟨its.toList, r, ⟨o, I.kIn a o hk, hc, n, by simpa using hs⟩, ?_⟩
    have e := r.length
    simp only [Array.length_toList] at e
    omega
theorem Inv.list_inj (I : Inv X pins σ H s) (h : SqL X.K H a xs) (h' : SqL X.K H a ys) : xs = ys := by
  obtain ⟨its, r, ⟨o, n, e, _, _, d⟩, _⟩ := I.list h
  obtain ⟨its', r', ⟨o', n', e', _, _, d'⟩, _⟩ := I.list h'
  rw [e] at e'; cases e'
  rw [d] at d'
  injection d' with d1 _
  have : its = its' := by simpa using congrArg Array.toList d1
  subst this
  exact r.inj r'
end

/-! ### another wish about exceptions -/
abbrev Cx.wish (X : Cx) (E : Value → Shared → Prop) : Cx := { X with xe := E }
/-- no exception leaves -/
abbrev Cx.nox (X : Cx) : Cx := X.wish fun _ _ => False
theorem Cx.Ok.wish {X : Cx} (ok : X.Ok) (E : Value → Shared → Prop) : (X.wish E).Ok :=
  ⟨ok.mod, ok.kind, ok.glob, ok.blt, ok.above, ok.inj, ok.has, ok.cab, ok.hd, ok.frames, ok.stk, ok.exf, ok.bs, ok.bsz, ok.noex, ok.exfs, ok.funs, ok.frf⟩
theorem Cx.Ok.unwish {X : Cx} {E : Value → Shared → Prop} (ok : (X.wish E).Ok) : X.Ok :=
  ⟨ok.mod, ok.kind, ok.glob, ok.blt, ok.above, ok.inj, ok.has, ok.cab, ok.hd, ok.frames, ok.stk, ok.exf, ok.bs, ok.bsz, ok.noex, ok.exfs, ok.funs, ok.frf⟩
section
variable {X : Cx} {pins : List (Addr × Obj)} {σ : St} {H : Hp} {s : Shared} {E : Value → Shared → Prop}
theorem Inv.wish (I : Inv X pins σ H s) (E : Value → Shared → Prop) : Inv (X.wish E) pins σ H s := ⟨I.ok.wish E, I.os, I.bare, I.base, I.loc, I.cell, I.free, I.freeC, I.pin, I.hok, I.len⟩
theorem Inv.unwish (I : Inv (X.wish E) pins σ H s) : Inv X pins σ H s := ⟨I.ok.unwish, I.os, I.bare, I.base, I.loc, I.cell, I.free, I.freeC, I.pin, I.hok, I.len⟩
theorem SP.unwish {D : Ends} {f : Flow} {s' : Shared} (h : SP (X.wish E) pins D f s') : SP X pins D f s' := by
  cases f with
  | next => obtain ⟨σ', H', I, q⟩ := h; exact ⟨σ', H', I.unwish, q⟩
  | brk => obtain ⟨σ', H', I, q⟩ := h; exact ⟨σ', H', I.unwish, q⟩
  | cont => obtain ⟨σ', H', I, q⟩ := h; exact ⟨σ', H', I.unwish, q⟩
  | ret u => obtain ⟨v, σ', H', I, r, q⟩ := h; exact ⟨v, σ', H', I.unwish, r, q⟩
theorem PE.nox {e : Expr} {t : TE} (h : PE X.nox e t) : PE X e t := fun pins s σ H Q I hw =>
  wpAny_mono (h pins s σ H Q (I.wish _) hw) (fun _ _ ⟨v, H', I', r, q⟩ => ⟨v, H', I'.unwish, r, q⟩) fun _ _ z => False.elim z
theorem PT.nox {e : Expr} {t : TT} (h : PT X.nox e t) : PT X e t := fun pins s σ H Q I hw =>
  wpAny_mono (h pins s σ H Q (I.wish _) hw) (fun _ _ ⟨H', I', q⟩ => ⟨H', I'.unwish, q⟩) fun _ _ z => False.elim z
theorem PSs.nox {st : List Stmt} {t : TS} (h : PSs X.nox st t) : PSs X st t := fun pins s σ H D I hw =>
  wpAny_mono (h pins s σ H D (I.wish _) hw) (fun _ _ q => q.unwish) fun _ _ z => False.elim z
end

/-! ### blocks and small statements -/
section
variable {X : Cx} {st : Stmt} {rest : List Stmt} {t u : TS} {e : Expr} {te : TE} {pos : Pos}
def tNext : TS := fun D σ H => D.nx σ H
def tSeq (t u : TS) : TS := fun D σ H => t { D with nx := u D } σ H
theorem pss_nil : PSs X [] tNext := fun _ _ σ H _ I h => wpAny_execs_nil ⟨σ, H, I, h⟩
theorem pss_cons (h1 : PS X st t) (h2 : PSs X rest u) : PSs X (st :: rest) (tSeq t u) := by
  intro pins s σ H D I h
  refine wpAny_execs_cons (thn (h1 pins s σ H { D with nx := u D } I h) fun f s1 q => ?_)
  cases f with
  | next =>
    obtain ⟨σ', H', I', q⟩ := q
    exact h2 pins s1 σ' H' D I' q
  | ret v => exact q
  | brk => exact q
  | cont => exact q
theorem pss_one (h1 : PS X st t) : PSs X [st] t := by
  intro pins s σ H D I h
  refine wpAny_execs_cons (thn (h1 pins s σ H D I h) fun f s1 q => ?_)
  cases f with
  | next => exact wpAny_execs_nil q
  | ret v => exact q
  | brk => exact q
  | cont => exact q
/-- in a def's body nothing is shown -/
theorem Inv.quiet {pins : List (Addr × Obj)} {σ : St} {H : Hp} {s : Shared} (I : Inv X pins σ H s) : interactive X.env = false := by simp [interactive, I.ok.kind]
/-- an expression whose value is dropped -/
def tDrop (te : TE) : TS := fun D σ H => te σ H fun _ H1 => D.nx σ H1
theorem ps_expr (he : PE X e te) (hs : swapsWith e none pos.line X.env = pure false := by rfl) : PS X (.Expr e pos) (tDrop te) := by
  intro pins s σ H D I h
  exact wpAny_Expr_any (thn (he pins s σ H _ I h) fun v s1 ⟨x, H1, I1, r1, q1⟩ => ⟨σ, H1, I1, q1⟩) I.quiet hs
def tRet (te : TE) : TS := fun D σ H => te σ H D.rt
theorem ps_ret (he : PE X e te) : PS X (.Return (some e) pos) (tRet te) := by
  intro pins s σ H D I h
  exact wpAny_Return_some (thn (he pins s σ H _ I h) fun v s1 ⟨x, H1, I1, r1, q1⟩ => ⟨x, σ, H1, I1, r1, q1⟩)
def tIfS (c : TT) (t u : TS) : TS := fun D σ H => c σ H fun b H1 => if b = true then t D σ H1 else u D σ H1
theorem ps_if {c : Expr} {a b : List Stmt} {tc : TT} (hc : PT X c tc) (ha : PSs X a t) (hb : PSs X b u) : PS X (.If c a b pos) (tIfS tc t u) := by
  intro pins s σ H D I h
  refine wpAny_If (thn (hc pins s σ H _ I h) fun d s1 ⟨H1, I1, q1⟩ => ?_)
  cases d with
  | true => exact ha pins s1 σ H1 D I1 q1
  | false => exact hb pins s1 σ H1 D I1 q1
end

/-! ### targets -/
abbrev TG := V → St → Hp → (St → Hp → Prop) → Prop
abbrev TGs := List V → St → Hp → (St → Hp → Prop) → Prop
def PG (X : Cx) (target : Expr) (t : TG) : Prop :=
  ∀ (pins : List (Addr × Obj)) (s : Shared) (σ : St) (H : Hp) (v : V) (u : Value) (Q : St → Hp → Prop), Inv X pins σ H s → RelV v u → t v σ H Q →
    wpAny (model X.prog X.w) X.A (assign target X.env u) (fun _ s' => ∃ σ' H', Inv X pins σ' H' s' ∧ Q σ' H') X.xe s
/-- several targets, one after another -/
def PGs (X : Cx) (ts : List Expr) (t : TGs) : Prop :=
  ∀ (pins : List (Addr × Obj)) (s : Shared) (σ : St) (H : Hp) (vs : List V) (us : List Value) (Q : St → Hp → Prop), Inv X pins σ H s → Vals vs us → t vs σ H Q →
    wpAny (model X.prog X.w) X.A (assignInOrder ((assignEach ts X.env).map (·.2)) us) (fun _ s' => ∃ σ' H', Inv X pins σ' H' s' ∧ Q σ' H') X.xe s
/-- o[i] = v, by values -/
abbrev TSet := V → V → V → Hp → (Hp → Prop) → Prop
def PSet (X : Cx) (t : TSet) : Prop :=
  ∀ (pins : List (Addr × Obj)) (s : Shared) (σ : St) (H : Hp) (o i v : V) (ov iv u : Value) (Q : Hp → Prop), Inv X pins σ H s → RelV o ov → RelV i iv → RelV v u → t o i v H Q →
    wpAny (model X.prog X.w) X.A (setItem ov iv u) (fun _ s' => ∃ H', Inv X pins σ H' s' ∧ Q H') X.xe s
section
variable {X : Cx} {pos : Pos}
def gName (i : Nat) : TG := fun v σ H Q => Q (σ.set i (some v)) H
theorem pg_name {i : Nat} {x : Str} (hN : X.N.Nodup) (hi : X.N[i]? = some x) (hx : Loc X.env.scope x) (hf : X.fn x = true ∨ X.env.scope.names.lookup x = some .local := by first | exact .inl rfl | exact .inr rfl | assumption) : PG X (.Name x pos) (gName i) := by
  intro pins s σ H v u Q I r h
  exact wpAny_assign_Name (store_ok I hN hi hx r (fun s' I' => ⟨_, H, I', h⟩) hf)
def gNil : TGs := fun vs σ H Q => vs = [] ∧ Q σ H
def gCons (t : TG) (u : TGs) : TGs := fun vs σ H Q => ∃ v r, vs = v :: r ∧ t v σ H fun σ' H' => u r σ' H' Q
theorem pgs_nil : PGs X [] gNil := by
  intro pins s σ H vs us Q I r h
  obtain ⟨e, h⟩ := h
  subst e
  cases r
  exact assignInOrder_nil ⟨σ, H, I, h⟩
theorem pgs_cons {e : Expr} {es : List Expr} {t : TG} {u : TGs} (h1 : PG X e t) (h2 : PGs X es u)
    (hs : (assignEach (e :: es) X.env).map (·.2) = assign e X.env :: (assignEach es X.env).map (·.2) := by rfl) : PGs X (e :: es) (gCons t u) := by
  intro pins s σ H vs us Q I r h
  obtain ⟨v, vr, e1, h⟩ := h
  subst e1
  cases r with
  | cons r rr =>
    rw [hs]
    refine assignInOrder_cons (thn (h1 pins s σ H _ _ _ I r h) fun _ s1 ⟨σ1, H1, I1, q1⟩ => ?_)
    exact h2 pins s1 σ1 H1 _ _ Q I1 rr q1
/-- (a, b, ..) = a tuple of that length -/
def gTup (K : PySem.W.Frag) (n : Nat) (t : TGs) : TG := fun v σ H Q => ∃ a xs, v = .ref a ∧ SqT K H a xs ∧ xs.length = n ∧ t xs σ H Q
theorem pg_tup {es : List Expr} {k : Nat} {t : TGs} {n : Nat} (hc : X.calm = true) (h : PGs X es t)
    (hn : (assignEach es X.env).length = n := by rfl) (hst : (assignEach es X.env).findIdx? (·.1) = none := by rfl) : PG X (.Tuple es k pos) (gTup X.K n t) := by
  intro pins s σ H v u Q I r hw
  obtain ⟨a, xs, e1, hq, hl, hw⟩ := hw
  subst e1
  cases r
  obtain ⟨its, rv, ht, hz⟩ := I.tuple hq
  refine assign_Tuple_tuple (I.ok.hd hc) ht (by simp [hn, ← hl, rv.length]) hst fun h' hx => ?_
  have I1 : Inv X pins σ H { s with heap := h' } := I.kept (t' := s.toks) fun b o e => hx b o (Nat.ne_of_lt (Heap.lt_size e)) e
  exact h pins _ σ H xs _ Q I1 (by simpa using rv) hw
/-- o[i] = .. -/
def gSub (to ti : TE) (t : TSet) : TG := fun v σ H Q => to σ H fun o H1 => ti σ H1 fun i H2 => t o i v H2 fun H3 => Q σ H3
theorem pg_sub {o i : Expr} {to ti : TE} {t : TSet} (ho : PE X o to) (hi : PE X i ti) (hs : PSet X t)
    (ha : ∀ v, assign (.Subscript o i pos) X.env v = (do
      let ov ← holding [v] (eval o X.env)
      let iv ← holding [v, ov] (eval i X.env)
      standAt pos
      holding [v, ov, iv] (setItem ov iv v)
      release [v, ov, iv] []) := by intro _; rfl) : PG X (.Subscript o i pos) (gSub to ti t) := by
  intro pins s σ H v u Q I r h
  rw [ha]
  refine wpAny_bind (wpAny_holding (thn (ho pins s σ H _ I h) fun ov s1 ⟨x, H1, I1, r1, q1⟩ => ?_))
  refine wpAny_bind (wpAny_holding (thn (hi pins s1 σ H1 _ I1 q1) fun iv s2 ⟨y, H2, I2, r2, q2⟩ => ?_))
  refine wpAny_bind (wpAny_standAt (wpAny_bind (wpAny_holding (thn (hs pins s2 σ H2 x y v ov iv u _ I2 r1 r2 r q2) fun _ s3 ⟨H3, I3, q3⟩ => ?_))))
  exact wpAny_release ⟨σ, H3, I3, q3⟩
/-- target = value -/
def tAsg (te : TE) (g : TG) : TS := fun D σ H => te σ H fun x H1 => g x σ H1 D.nx
theorem ps_asg {tg e : Expr} {te : TE} {g : TG} (he : PE X e te) (hg : PG X tg g) (hs : swapsWithSole [tg] e pos.line X.env = pure false := by rfl) (hw : swappedStores [tg] e X.env = pure none := by rfl)
    (h1 : (assignEach [tg] X.env).map (·.2) = [assign tg X.env] := by rfl) : PS X (.Assign [tg] e pos) (tAsg te g) := by
  intro pins s σ H D I h
  refine wpAny_Assign_stores (thn (he pins s σ H _ I h) fun v s1 ⟨x, H1, I1, r1, q1⟩ => ?_) hs hw
  rw [h1]
  exact thn (hg pins s1 σ H1 x v _ I1 r1 q1) fun _ s2 q => q
/-- name = value -/
theorem ps_set {i : Nat} {x : Str} {e : Expr} {te : TE} {pos' : Pos} (hN : X.N.Nodup) (hi : X.N[i]? = some x) (hx : Loc X.env.scope x) (he : PE X e te) (hs : swapsWith e (some (.Name x pos')) pos.line X.env = pure false := by rfl) (hf : X.fn x = true ∨ X.env.scope.names.lookup x = some .local := by first | exact .inl rfl | exact .inr rfl | assumption) :
    PS X (.Assign [.Name x pos'] e pos) (tAsg te (gName i)) := by
  intro pins s σ H D I h
  refine wpAny_Assign_Name (thn (he pins s σ H _ I h) fun v s1 ⟨y, H1, I1, r1, q1⟩ => ?_) hs
  exact store_ok I1 hN hi hx r1 (fun s2 I2 => ⟨_, H1, I2, q1⟩) hf
end

/-! ### while -/
section
variable {X : Cx} {pos : Pos}
/-- the invariant W with its measure -/
def tWhile (c : TT) (tb : TS) : TS := fun D σ H => ∃ W : Nat → St → Hp → Prop, (∃ m, W m σ H) ∧ ∀ m σ H, W m σ H →
  c σ H fun b H1 => if b = true then ∃ N : St → Hp → Prop, (∀ σ' H', N σ' H' → ∃ m', m' < m ∧ W m' σ' H') ∧ tb { D with nx := N, ct := N, bk := D.nx } σ H1 else D.nx σ H1
theorem ps_while {c : Expr} {body : List Stmt} {tc : TT} {tb : TS} (hp : PassesOwn (model X.prog X.w) X.A X.env X.xe) (hc : PT X c tc) (hb : PSs X body tb) : PS X (.While c body [] pos) (tWhile tc tb) := by
  intro pins s σ H D I h
  obtain ⟨W, ⟨m0, w0⟩, turn⟩ := h
  refine wpAny_While (codeAny_whileLoop (fun n s' => ∃ σ' H', Inv X pins σ' H' s' ∧ W n σ' H') ?_ m0 ⟨σ, H, I, w0⟩)
  rintro n s1 ⟨σ1, H1, I1, w1⟩
  refine wpAny_passesOwn hp (thn (hc pins s1 σ1 H1 _ I1 (turn n σ1 H1 w1)) fun b s2 ⟨H2, I2, q2⟩ => ?_)
  cases b with
  | true =>
    obtain ⟨N, hN, q2⟩ := q2
    rw [if_pos rfl]
    refine wpAny_passesOwn hp (thn (hb pins s2 σ1 H2 _ I2 q2) fun f s3 q3 => ?_)
    cases f with
    | next =>
      obtain ⟨σ3, H3, I3, n3⟩ := q3
      obtain ⟨m', hm, w3⟩ := hN σ3 H3 n3
      exact ⟨m', hm, σ3, H3, I3, w3⟩
    | cont =>
      obtain ⟨σ3, H3, I3, n3⟩ := q3
      obtain ⟨m', hm, w3⟩ := hN σ3 H3 n3
      exact ⟨m', hm, σ3, H3, I3, w3⟩
    | brk => exact q3
    | ret v => exact q3
  | false =>
    rw [if_neg Bool.false_ne_true]
    exact wpAny_execs_nil ⟨σ1, H2, I2, q2⟩
end

/-! ### what a loop or a comprehension walks -/
/-- at turn i: it yields x (the heap may grow), or it stops -/
structure It where
  go : Nat → Hp → Prop
  yld : Nat → Hp → V → Hp → Prop
  stop : Nat → Hp → Prop
/-- the iterator's own objects may turn: they are not the frame's, not pinned, younger than the entry (or a comprehension's own) -/
def FpOk (X : Cx) (pins : List (Addr × Obj)) (H : Hp) (b : Addr) : Prop :=
  H b = none ∧ b ≠ X.env.locals ∧ b ∉ X.fs ∧ (b ∈ X.ex ∨ X.s_0.heap.objs.size ≤ b) ∧ (∀ x c, X.env.cells.lookup x = some c → c ≠ b) ∧ ∀ p ∈ X.pn ++ pins, p.1 ≠ b
theorem Inv.fpOk {X : Cx} {pins : List (Addr × Obj)} {σ : St} {H H' : Hp} {s : Shared} {b : Addr} (I : Inv X pins σ H s) (hb : s.heap.objs.size ≤ b) (hn : H' b = none) : FpOk X pins H' b := by
  refine ⟨hn, Nat.ne_of_gt (Nat.lt_of_lt_of_le I.lt hb), I.nofs hb, .inr (Nat.le_trans I.sz hb), fun x c e z => ?_, fun p hp z => ?_⟩
  · obtain ⟨v, q⟩ := I.cell x c e
    exact absurd (Nat.lt_of_lt_of_le q.lt (by rw [z]; exact hb)) (Nat.lt_irrefl _)
  · exact absurd (Nat.lt_of_lt_of_le (Heap.lt_size (I.pin p hp).1) (by rw [z]; exact hb)) (Nat.lt_irrefl _)
structure Turn (P : Program) (w : World) (K : PySem.W.Frag) (tg : Expr) (J : It) (fp : List Addr) (it : Addr) (tn : Nat → Heap → Prop) : Prop where
  mem : it ∈ fp
  obj : ∀ i h, tn i h → ∀ b ∈ fp, ∃ o, h.get? b = some o ∧ ∀ v, o.data ≠ .cell v
  keep : ∀ i h h', tn i h → (∀ b ∈ fp, ∀ o, h.get? b = some o → h'.get? b = some o) → tn i h'
  item : ∀ (X : Cx), X.prog = P → X.w = w → X.K = K → X.calm = true → ∀ (i : Nat) (pins : List (Addr × Obj)) (s : Shared) (σ : St) (H : Hp) (E : Value → Shared → Prop), Inv X pins σ H s → (∀ b ∈ fp, FpOk X pins H b) → tn i s.heap → J.go i H →
    wpAny (model P w) X.A (pyNext (.ref it)) (fun r s1 => ∃ u, r = some u ∧
      wpAny (model P w) X.A (letOwnedTupleGo tg (.ref it) u) (fun _ s2 => ∃ x H', Inv X pins σ H' s2 ∧ RelV x u ∧ J.yld i H x H' ∧ tn (i + 1) s2.heap ∧ ∀ b ∈ fp, H' b = none) E s1) E s
  done : ∀ (X : Cx), X.prog = P → X.w = w → X.K = K → X.calm = true → ∀ (i : Nat) (pins : List (Addr × Obj)) (s : Shared) (σ : St) (H : Hp) (E : Value → Shared → Prop), Inv X pins σ H s → (∀ b ∈ fp, FpOk X pins H b) → tn i s.heap → J.stop i H →
    wpAny (model P w) X.A (pyNext (.ref it)) (fun r s1 => r = none ∧ Inv X pins σ H s1) E s
  self : ∀ (A : Around) (i : Nat) (s : Shared) (Q : Value → Shared → Prop) (E : Value → Shared → Prop), tn i s.heap → Q (.ref it) s → wpAny (model P w) A (pyIter (.ref it)) Q E s
abbrev TI := St → Hp → (It → Hp → Prop) → Prop
/-- an iterator has come -/
def PIE (X : Cx) (pins : List (Addr × Obj)) (σ : St) (tg : Expr) (R : It → Hp → Prop) (itv : Value) (s2 : Shared) : Prop :=
  ∃ (it : Addr) (fp : List Addr) (tn : Nat → Heap → Prop) (J : It) (H' : Hp), itv = .ref it ∧ Inv X pins σ H' s2 ∧ Turn X.prog X.w X.K tg J fp it tn ∧ tn 0 s2.heap ∧ (∀ b ∈ fp, FpOk X pins H' b) ∧ R J H'
def PI (X : Cx) (tg iter : Expr) (wi : TI) : Prop :=
  ∀ (pins : List (Addr × Obj)) (s : Shared) (σ : St) (H : Hp) (R : It → Hp → Prop), Inv X pins σ H s → wi σ H R →
    wpAny (model X.prog X.w) X.A (eval iter X.env) (fun v s1 => wpAny (model X.prog X.w) X.A (pyIter v) (PIE X pins σ tg R) X.xe s1) X.xe s

/-- the step ahead of the store is nothing for an iterator that keeps no tuple -/
theorem go_of {M : Model} {A : Around} {E : Value → Shared → Prop} {s : Shared} {tg : Expr} {it : Addr} {u : Value} {o : Obj} {n : String} {vs : Array Value} {Q : Unit → Shared → Prop} (ho : s.heap.get? it = some o) (hc : o.cls = .type n) (hd : o.data = .fields vs)
    (hn : ["enumerate", "zip", "dict_itemiterator", "dict_reverseitemiterator", "odict_iterator", "itertools.zip_longest", "itertools.pairwise"].contains n = false) (hQ : Q () s) : wpAny M A (letOwnedTupleGo tg (.ref it) u) Q E s := by
  unfold letOwnedTupleGo
  cases tg <;> first
    | exact wpAny_pure hQ
    | (cases u <;> first
        | exact wpAny_pure hQ
        | (refine wpAny_bind (wpAny_load ho ?_)
           rw [hc, hd]
           show wpAny M A (if (["enumerate", "zip", "dict_itemiterator", "dict_reverseitemiterator", "odict_iterator", "itertools.zip_longest", "itertools.pairwise"].contains n && vs[0]? == some (rawInt _)) = true then _ else _) Q E s
           rw [if_neg (by intro h; rw [hn, Bool.false_and] at h; cases h)]
           exact wpAny_pure hQ))

/-- the list at a, as it stands at each turn (a loop may append to it) -/
def Itl (K : PySem.W.Frag) (a : Addr) : It :=
  ⟨fun i H => ∃ xs x, SqL K H a xs ∧ xs[i]? = some x, fun i H x H' => H' = H ∧ ∀ xs, SqL K H a xs → xs[i]? = some x, fun i H => ∃ xs, SqL K H a xs ∧ xs.length ≤ i⟩
/-- lo, lo + 1, .. (n of them) -/
def Itr (lo : Int) (n : Nat) : It := ⟨fun i _ => i < n, fun i H x H' => H' = H ∧ x = .int (lo + i), fun i _ => n ≤ i⟩
theorem turn_list {P : Program} {w : World} {K : PySem.W.Frag} {tg : Expr} (a it : Addr) : Turn P w K tg (Itl K a) [it] it (fun i h => h.IsListIter it a i) where
  mem := by simp
  obj := fun i h st b hb => by
    have e : b = it := by simpa using hb
    subst e
    obtain ⟨o, e, c, d⟩ := st
    exact ⟨o, e, fun v z => by rw [d] at z; cases z⟩
  keep := fun i h h' st k => st.at fun o e => k it (by simp) o e
  item := by
    intro X hP hw hK hc i pins s σ H E I hf st hg
    subst hP hw hK
    obtain ⟨xs, x, hq, hx⟩ := hg
    obtain ⟨its, rv, p, hz⟩ := I.list hq
    obtain ⟨u, hu, ru⟩ := rv.get hx
    obtain ⟨f0, f1, f2, f3, f4, f5⟩ := hf it (by simp)
    refine wpAny_pyNext_list_item st p.isList (x := u) (by simpa using hu) fun h' st' sb => ?_
    have I1 : Inv X pins σ H { s with heap := h' } := I.turned (t' := s.toks) (fun b o hb e => (sb.2 b hb).trans e) f0 f1 f3 f4 f5
    obtain ⟨o, e, c, d⟩ := id st'
    exact ⟨u, rfl, go_of (s := { s with heap := h' }) e c d (by decide) ⟨x, H, I1, ru, ⟨rfl, fun ys hy => by rw [I.list_inj hy hq]; exact hx⟩, st', fun b hb => (hf b hb).1⟩⟩
  done := by
    intro X hP hw hK hc i pins s σ H E I hf st hg
    subst hP hw hK
    obtain ⟨xs, hq, hx⟩ := hg
    obtain ⟨its, rv, p, hz⟩ := I.list hq
    obtain ⟨f0, f1, f2, f3, f4, f5⟩ := hf it (by simp)
    have hl := rv.length
    exact wpAny_pyNext_list_end (I.ok.hd hc) st p.isList (by simp; omega) fun h' eb => ⟨rfl, I.turned (t' := s.toks) (fun b o hb e => eb b o hb e) f0 f1 f3 f4 f5⟩
  self := fun _ _ _ _ _ st h => wpAny_pyIter_listiter st h
theorem turn_range {P : Program} {w : World} {K : PySem.W.Frag} {tg : Expr} (it : Addr) (lo : Int) (n : Nat) : Turn P w K tg (Itr lo n) [it] it (fun i h => IsRangeIter h it (lo + (i : Nat) * 1) ((n : Int) - (i : Nat)) 1) where
  mem := by simp
  obj := fun i h st b hb => by
    have e : b = it := by simpa using hb
    subst e
    exact ⟨_, st, fun v z => by
      have z' : Data.fields _ = Data.cell v := z
      cases z'⟩
  keep := fun i h h' st k => k it (by simp) _ st
  item := by
    intro X hP hw hK hc i pins s σ H E I hf st hg
    subst hP hw hK
    obtain ⟨f0, f1, f2, f3, f4, f5⟩ := hf it (by simp)
    have W := Walks.range (prog := X.prog) (w := X.w) (I.ok.hd hc) it lo 1 n
    refine W.item i s _ _ hg st fun v h' tk hv st' kk => ?_
    obtain ⟨t, rfl⟩ := hv
    have I1 : Inv X pins σ H { s with heap := h', toks := tk } := I.turned (fun b o hb e => kk b o (by simpa using hb) e) f0 f1 f3 f4 f5
    refine ⟨_, rfl, go_of (s := { s with heap := h', toks := tk }) (n := "range_iterator") st' rfl rfl (by decide) ⟨.int (lo + i), H, I1, ⟨t, ?_⟩, ⟨rfl, rfl⟩, st', fun b hb => (hf b hb).1⟩⟩
    rw [Int.mul_one]
  done := by
    intro X hP hw hK hc i pins s σ H E I hf st hg
    subst hP hw hK
    obtain ⟨f0, f1, f2, f3, f4, f5⟩ := hf it (by simp)
    exact wpAny_pyNext_range_end (I.ok.hd hc) st (by have : n ≤ i := hg; omega) fun h' eb => ⟨rfl, I.turned (t' := s.toks) (fun b o hb e => eb b o hb e) f0 f1 f3 f4 f5⟩
  self := fun _ _ _ _ _ st h => wpAny_pyIter_rangeiter st h
end L2

namespace L2
open PySem PySem.Spec PyProof.Rows
section
variable {X : Cx} {tg : Expr}
def iList (K : PySem.W.Frag) (tl : TE) : TI := fun σ H R => tl σ H fun x H1 => ∃ a, x = .ref a ∧ (∃ xs, SqL K H1 a xs) ∧ R (Itl K a) H1
theorem pi_list {l : Expr} {tl : TE} (hl : PE X l tl) : PI X tg l (iList X.K tl) := by
  intro pins s σ H R I h
  refine thn (hl pins s σ H _ I h) fun v s1 ⟨x, H1, I1, r1, q1⟩ => ?_
  obtain ⟨a, e, ⟨xs, hq⟩, q⟩ := q1
  subst e
  cases r1
  obtain ⟨its, rv, p, hz⟩ := I1.list hq
  refine wpAny_pyIter_list p.isList ?_
  refine ⟨s1.heap.objs.size, [s1.heap.objs.size], _, _, H1, rfl, I1.kept (t' := s1.toks) fun b o e => Heap.get?_push_of_some _ e, turn_list a _, ⟨_, Heap.get?_push_size _ rfl, rfl, rfl⟩, fun b hb => ?_, q⟩
  have e : b = s1.heap.objs.size := by simpa using hb
  subst e
  exact I1.fpOk (Nat.le_refl _) (I1.hok.fresh (Nat.le_refl _))
/-- a range object just made, walked -/
theorem range_it {pins : List (Addr × Obj)} {σ : St} {H : Hp} {s : Shared} {R : It → Hp → Prop} {E : Value → Shared → Prop} {lo hi : Int} {t u v : Tok} {tk : Nat} (I : Inv X pins σ H s) (h1 : -(2 ^ 62) ≤ lo) (h2 : lo < 2 ^ 62) (h3 : -(2 ^ 62) ≤ hi) (h4 : hi < 2 ^ 62)
    (q : R (Itr lo (hi - lo).toNat) H) : wpAny (model X.prog X.w) X.A (pyIter (.ref s.heap.objs.size)) (PIE X pins σ tg R) E { s with heap := s.heap.push { cls := .type "range", data := .fields #[.int lo t, .int hi u, .int 1 v] }, toks := tk } := by
  refine wpAny_pyIter_range (IsRange.new ..) (small_one h1 h2 h3 h4) ?_
  have I1 : Inv X pins σ H { s with heap := s.heap.push { cls := .type "range", data := .fields #[.int lo t, .int hi u, .int 1 v] }, toks := tk } := I.kept fun b o e => Heap.get?_push_of_some _ e
  refine ⟨(s.heap.push { cls := .type "range", data := .fields #[.int lo t, .int hi u, .int 1 v] }).objs.size, [(s.heap.push { cls := .type "range", data := .fields #[.int lo t, .int hi u, .int 1 v] }).objs.size], _, _, H, rfl,
    I1.kept (t' := tk) fun b o e => Heap.get?_push_of_some _ e, turn_range _ lo (hi - lo).toNat, ?_, fun b hb => ?_, q⟩
  · have e1 : lo + ((0 : Nat) : Int) * 1 = lo := by simp
    have e2 : (((hi - lo).toNat : Nat) : Int) - ((0 : Nat) : Int) = Builtin.Range.rangeSize lo hi 1 := by rw [rangeSize_one]; split <;> omega
    show IsRangeIter _ _ (lo + ((0 : Nat) : Int) * 1) ((((hi - lo).toNat : Nat) : Int) - ((0 : Nat) : Int)) 1
    rw [e1, e2]
    exact Heap.get?_push_size _ rfl
  · have e : b = (s.heap.push { cls := .type "range", data := .fields #[.int lo t, .int hi u, .int 1 v] }).objs.size := by simpa using hb
    subst e
    exact I1.fpOk (Nat.le_refl _) (I1.hok.fresh (Nat.le_refl _))
def iRng1 (ta : TA) : TI := fun σ H R => ta σ H fun vs H1 => ∃ j : Int, vs = [.int j] ∧ -(2 ^ 62) ≤ j ∧ j < 2 ^ 62 ∧ R (Itr 0 j.toNat) H1
def iRng2 (ta : TA) : TI := fun σ H R => ta σ H fun vs H1 => ∃ i j : Int, vs = [.int i, .int j] ∧ (-(2 ^ 62) ≤ i ∧ i < 2 ^ 62 ∧ -(2 ^ 62) ≤ j ∧ j < 2 ^ 62) ∧ R (Itr i (j - i).toNat) H1
theorem pi_range1 {a : Expr} {ta : TA} {p pos : Pos} (hg : Gl X "range") (hm : X.mg "range" = none) (ha : PA X [a] ta) (hs : starEach [a] X.env = [(false, eval a X.env)] := by rfl) : PI X tg (.Call (.Name "range" p) [a] [] pos) (iRng1 ta) := by
  intro pins s σ H R I h
  refine Call_ (ld_blt I hg hm boot_range (PyProof.Rows.callWith_type1 (thn (ha pos pins s σ H _ I h) fun us s1 ⟨vs, H1, I1, r1, q1⟩ => ?_) hs rfl))
  obtain ⟨j, e, q1, q2, q⟩ := q1
  subst e
  cases r1 with
  | cons r rr =>
    cases rr
    obtain ⟨t, rfl⟩ := r
    exact call_range_1 (range_it I1 (by omega) (by omega) q1 q2 (by simpa using q))
theorem pi_range2 {a b : Expr} {ta : TA} {p pos : Pos} (hg : Gl X "range") (hm : X.mg "range" = none) (ha : PA X [a, b] ta) (hs : starEach [a, b] X.env = [(false, eval a X.env), (false, eval b X.env)] := by rfl) (hs2 : starEach [b] X.env = [(false, eval b X.env)] := by rfl) :
    PI X tg (.Call (.Name "range" p) [a, b] [] pos) (iRng2 ta) := by
  intro pins s σ H R I h
  refine Call_ (ld_blt I hg hm boot_range (PyProof.Rows.callWith_type1 (thn (ha pos pins s σ H _ I h) fun us s1 ⟨vs, H1, I1, r1, q1⟩ => ?_) (by rw [hs, hs2]) (by rw [hs2]; rfl)))
  obtain ⟨i, j, e, ⟨q1, q2, q3, q4⟩, q⟩ := q1
  subst e
  cases r1 with
  | cons r rr =>
    cases rr with
    | cons r' rr =>
      cases rr
      obtain ⟨t, rfl⟩ := r
      obtain ⟨t', rfl⟩ := r'
      exact call_range_2 (range_it I1 q1 q2 q3 q4 q)

/-! ### for -/
/-- W: the invariant by the turn and a measure; N: what the body is to reach -/
def tFor (wi : TI) (g : TG) (tb : TS) : TS := fun D σ H => wi σ H fun J H1 => ∃ W : Nat → Nat → St → Hp → Prop, (∃ m, W 0 m σ H1) ∧ ∀ i m σ H, W i m σ H →
  (J.stop i H ∧ D.nx σ H) ∨ (J.go i H ∧ ∃ N : St → Hp → Prop, (∀ σ' H', N σ' H' → ∃ m', m' < m ∧ W (i + 1) m' σ' H') ∧ ∀ x H', J.yld i H x H' → g x σ H' fun σ2 H2 => tb { D with nx := N, ct := N, bk := D.nx } σ2 H2)
/-- the records at fp as they stand -/
def pinsAt (fp : List Addr) (h : Heap) : List (Addr × Obj) := fp.filterMap fun b => (h.get? b).map fun o => (b, o)
theorem mem_pinsAt {fp : List Addr} {h : Heap} {b : Addr} {o : Obj} (hb : b ∈ fp) (e : h.get? b = some o) : (b, o) ∈ pinsAt fp h := List.mem_filterMap.mpr ⟨b, hb, by rw [e]; rfl⟩
theorem of_pinsAt {fp : List Addr} {h : Heap} {p : Addr × Obj} (hp : p ∈ pinsAt fp h) : p.1 ∈ fp ∧ h.get? p.1 = some p.2 := by
  obtain ⟨b, hb, e⟩ := List.mem_filterMap.mp hp
  cases q : h.get? b with
  | none => rw [q] at e; cases e
  | some o =>
    rw [q] at e
    have e' : (b, o) = p := Option.some.inj e
    subst e'
    exact ⟨hb, q⟩
theorem Inv.pinned {pins : List (Addr × Obj)} {σ : St} {H : Hp} {s : Shared} {fp : List Addr} (I : Inv X pins σ H s) (hf : ∀ b ∈ fp, FpOk X pins H b) (ho : ∀ b ∈ fp, ∃ o, s.heap.get? b = some o ∧ ∀ v, o.data ≠ .cell v) : Inv X (pins ++ pinsAt fp s.heap) σ H s :=
  I.pins_of fun p hp => (List.mem_append.mp hp).elim (fun z => I.pin p (List.mem_append_right _ z)) fun z => by
    obtain ⟨hb, e⟩ := of_pinsAt z
    obtain ⟨f0, f1, f2, _⟩ := hf p.1 hb
    obtain ⟨o, e', d⟩ := ho p.1 hb
    rw [e] at e'; cases e'
    exact ⟨e, f0, f1, f2, d⟩
theorem Inv.unpinned {pins pl : List (Addr × Obj)} {σ : St} {H : Hp} {s : Shared} (I : Inv X (pins ++ pl) σ H s) : Inv X pins σ H s := I.pins_of fun p hp => I.pin p (List.mem_append_right _ (List.mem_append_left _ hp))
theorem ps_for {iter : Expr} {body : List Stmt} {wi : TI} {g : TG} {tb : TS} {pos : Pos} (hp : PassesOwn (model X.prog X.w) X.A X.env X.xe) (hc : X.calm = true) (hi : PI X tg iter wi) (hg : PG X tg g) (hb : PSs X body tb)
    (hs : ∀ x, foldedSetIterable iter X.env x = pure x := by intro _; rfl) : PS X (.For tg iter body [] pos) (tFor wi g tb) := by
  intro pins s σ H D I h
  refine wpAny_For (thn (hi pins s σ H _ I h) fun v s1 h1 => thn h1 fun itv s2 h2 => ?_) hs
  obtain ⟨it, fp, tn, J, H2, e, I2, T, st2, f2, W, ⟨m0, w0⟩, turn⟩ := h2
  subst e
  -- what stays true of the iterator's objects through the loop
  have stat : ∀ {H' : Hp}, (∀ b ∈ fp, H' b = none) → ∀ b ∈ fp, FpOk X pins H' b := fun hn b hb => ⟨hn b hb, (f2 b hb).2⟩
  refine codeAny_forLoop_any (fun n s' => ∃ i σ' H', Inv X pins σ' H' s' ∧ tn i s'.heap ∧ (∀ b ∈ fp, H' b = none) ∧ W i n σ' H') ?_ m0 ⟨0, σ, H2, I2, st2, fun b hb => (f2 b hb).1, w0⟩
  rintro n s3 ⟨i, σ3, H3, I3, st3, fr3, w3⟩
  rcases turn i n σ3 H3 w3 with ⟨stop, qn⟩ | ⟨go, N, hN, step⟩
  · refine wpAny_passesOwn hp (thn (T.done X rfl rfl rfl hc i pins s3 σ3 H3 X.xe I3 (stat fr3) st3 stop) fun r s4 ⟨hr, I4⟩ => ?_)
    subst hr
    exact wpAny_execs_nil ⟨σ3, H3, I4, qn⟩
  · refine wpAny_passesOwn hp (thn (T.item X rfl rfl rfl hc i pins s3 σ3 H3 X.xe I3 (stat fr3) st3 go) fun r s4 ⟨u, hr, h4⟩ => ?_)
    subst hr
    refine wpAny_passesOwn hp (thn h4 fun _ s5 ⟨x, H5, I5, r5, y5, st5, fr5⟩ => ?_)
    have I5' := I5.pinned (stat fr5) (T.obj _ _ st5)
    refine wpAny_passesOwn hp (thn (hg _ s5 σ3 H5 x u _ I5' r5 (step x H5 y5)) fun _ s6 ⟨σ6, H6, I6, q6⟩ => ?_)
    refine wpAny_passesOwn hp (thn (hb _ s6 σ6 H6 _ I6 q6) fun f s7 q7 => ?_)
    have again : ∀ {σ7 : St} {H7 : Hp}, Inv X (pins ++ pinsAt fp s5.heap) σ7 H7 s7 → N σ7 H7 → ∃ m, m < n ∧ ∃ i σ' H', Inv X pins σ' H' s7 ∧ tn i s7.heap ∧ (∀ b ∈ fp, H' b = none) ∧ W i m σ' H' := fun {σ7 H7} I7 n7 => by
      obtain ⟨m', hm, w7⟩ := hN σ7 H7 n7
      refine ⟨m', hm, i + 1, σ7, H7, I7.unpinned, T.keep _ _ _ st5 fun b hb o e => (I7.pin (b, o) (List.mem_append_right _ (List.mem_append_right _ (mem_pinsAt hb e)))).1, fun b hb => ?_, w7⟩
      obtain ⟨o, e, d⟩ := T.obj _ _ st5 b hb
      exact (I7.pin (b, o) (List.mem_append_right _ (List.mem_append_right _ (mem_pinsAt hb e)))).2.1
    cases f with
    | next => obtain ⟨σ7, H7, I7, n7⟩ := q7; exact again I7 n7
    | cont => obtain ⟨σ7, H7, I7, n7⟩ := q7; exact again I7 n7
    | brk => obtain ⟨σ7, H7, I7, q7⟩ := q7; exact ⟨σ7, H7, I7.unpinned, q7⟩
    | ret v => obtain ⟨x7, σ7, H7, I7, r7, q7⟩ := q7; exact ⟨x7, σ7, H7, I7.unpinned, r7, q7⟩
end

/-! ### the forms one uses -/
/-- over a list that the body leaves as it is -/
theorem for_list {K : PySem.W.Frag} {a : Addr} {xs : List V} {g : TG} {tb : TS} {D : Ends} {σ : St} {H : Hp} (Pv : Nat → St → Hp → Prop) (h0 : Pv 0 σ H) (hl : ∀ i σ H, i ≤ xs.length → Pv i σ H → SqL K H a xs)
    (hs : ∀ i x σ H, xs[i]? = some x → Pv i σ H → g x σ H fun σ2 H2 => tb { D with nx := Pv (i + 1), ct := Pv (i + 1), bk := D.nx } σ2 H2) (hd : ∀ σ H, Pv xs.length σ H → D.nx σ H) :
    ∃ W : Nat → Nat → St → Hp → Prop, (∃ m, W 0 m σ H) ∧ ∀ i m σ H, W i m σ H →
      ((Itl K a).stop i H ∧ D.nx σ H) ∨ ((Itl K a).go i H ∧ ∃ N : St → Hp → Prop, (∀ σ' H', N σ' H' → ∃ m', m' < m ∧ W (i + 1) m' σ' H') ∧ ∀ x H', (Itl K a).yld i H x H' → g x σ H' fun σ2 H2 => tb { D with nx := N, ct := N, bk := D.nx } σ2 H2) := by
  refine ⟨fun i m σ H => m = xs.length - i ∧ i ≤ xs.length ∧ Pv i σ H, ⟨xs.length, by simp, Nat.zero_le _, h0⟩, ?_⟩
  rintro i m σ H ⟨rfl, hi, p⟩
  have q := hl i σ H hi p
  by_cases hlt : i < xs.length
  · refine .inr ⟨⟨xs, xs[i], q, by simp [hlt]⟩, Pv (i + 1), fun σ' H' p' => ⟨xs.length - (i + 1), by omega, rfl, hlt, p'⟩, fun x H' y => ?_⟩
    obtain ⟨e, y⟩ := y
    subst e
    exact hs i x σ _ (y xs q) p
  · have e : i = xs.length := by omega
    subst e
    exact .inl ⟨⟨xs, q, Nat.le_refl _⟩, hd σ H p⟩
theorem for_range {lo : Int} {n : Nat} {g : TG} {tb : TS} {D : Ends} {σ : St} {H : Hp} (Pv : Nat → St → Hp → Prop) (h0 : Pv 0 σ H)
    (hs : ∀ i σ H, i < n → Pv i σ H → g (.int (lo + i)) σ H fun σ2 H2 => tb { D with nx := Pv (i + 1), ct := Pv (i + 1), bk := D.nx } σ2 H2) (hd : ∀ σ H, Pv n σ H → D.nx σ H) :
    ∃ W : Nat → Nat → St → Hp → Prop, (∃ m, W 0 m σ H) ∧ ∀ i m σ H, W i m σ H →
      ((Itr lo n).stop i H ∧ D.nx σ H) ∨ ((Itr lo n).go i H ∧ ∃ N : St → Hp → Prop, (∀ σ' H', N σ' H' → ∃ m', m' < m ∧ W (i + 1) m' σ' H') ∧ ∀ x H', (Itr lo n).yld i H x H' → g x σ H' fun σ2 H2 => tb { D with nx := N, ct := N, bk := D.nx } σ2 H2) := by
  refine ⟨fun i m σ H => m = n - i ∧ i ≤ n ∧ Pv i σ H, ⟨n, by simp, Nat.zero_le _, h0⟩, ?_⟩
  rintro i m σ H ⟨rfl, hi, p⟩
  by_cases hlt : i < n
  · refine .inr ⟨hlt, Pv (i + 1), fun σ' H' p' => ⟨n - (i + 1), by omega, rfl, hlt, p'⟩, fun x H' y => ?_⟩
    obtain ⟨e, y⟩ := y
    subst e y
    exact hs i σ _ hlt p
  · have e : i = n := by omega
    subst e
    exact .inl ⟨Nat.le_refl _, hd σ H p⟩
end L2

namespace L2
open PySem PySem.Spec PyProof.Rows

abbrev R2 := V → V → Hp → VK → Prop
/-- a two-place operation on values: f is binaryOp op, inplaceOp op or compareOp op -/
def OpR (X : Cx) (f : Value → Value → Sem Value) (r : R2) : Prop :=
  ∀ (pins : List (Addr × Obj)) (s : Shared) (σ : St) (H : Hp) (x y : V) (v u : Value) (Q : VK), Inv X pins σ H s → RelV x v → RelV y u → r x y H Q →
    wpAny (model X.prog X.w) X.A (f v u) (EP X pins σ Q) X.xe s
/-- a call of a value that is known (a builtin, a type) with values -/
def CallR (X : Cx) (f : Value) (r : List V → Hp → VK → Prop) : Prop :=
  ∀ (pins : List (Addr × Obj)) (s : Shared) (σ : St) (H : Hp) (xs : List V) (us : List Value) (Q : VK), Inv X pins σ H s → Vals xs us → r xs H Q →
    wpAny (model X.prog X.w) X.A (call f us) (EP X pins σ Q) X.xe s
def tOp (r : R2) (ta tb : TE) : TE := fun σ H Q => ta σ H fun x H1 => tb σ H1 fun y H2 => r x y H2 Q
/-- ints in, under C, and a value out -/
def rI (C : Int → Int → Prop) (g : Int → Int → V) : R2 := fun x y H Q => ∃ i j, x = .int i ∧ y = .int j ∧ C i j ∧ Q (g i j) H
def rI0 (g : Int → Int → V) : R2 := fun x y H Q => ∃ i j, x = .int i ∧ y = .int j ∧ Q (g i j) H
section
variable {X : Cx} {a b c : Expr} {ta tb tc : TE} {pos : Pos}

theorem binT (ha : PE X a ta) (hb : PE X b tb) {pins : List (Addr × Obj)} {s : Shared} {σ : St} {H : Hp} {R : V → V → Hp → Prop} (I : Inv X pins σ H s)
    (h : ta σ H fun x H1 => tb σ H1 fun y H2 => R x y H2) {Q : Value → Shared → Prop} {f : Value → Value → Sem Value}
    (hf : ∀ v u s2 x y H2, Inv X pins σ H2 s2 → RelV x v → RelV y u → R x y H2 → wpAny (model X.prog X.w) X.A (f v u) Q X.xe s2) :
    wpAny (model X.prog X.w) X.A (eval a X.env) (fun v s₁ => wpAny (model X.prog X.w) X.A (eval b X.env) (fun u s₂ => wpAny (model X.prog X.w) X.A (f v u) Q X.xe s₂) X.xe s₁) X.xe s := by
  refine thn (ha pins s σ H _ I h) fun v s1 ⟨x, H1, I1, r1, q1⟩ => ?_
  refine thn (hb pins s1 σ H1 _ I1 q1) fun u s2 ⟨y, H2, I2, r2, q2⟩ => ?_
  exact hf v u s2 x y H2 I2 r1 r2 q2

theorem pe_op {op : Operator} {r : R2} (ho : OpR X (binaryOp op) r) (ha : PE X a ta) (hb : PE X b tb) : PE X (.BinOp a op b pos) (tOp r ta tb) := by
  intro pins s σ H Q I h
  exact wpAny_BinOp (binT ha hb I h fun v u s2 x y H2 I2 rx ry q => ho pins s2 σ H2 x y v u Q I2 rx ry q)
/-! ### ints -/
theorem opI {f : Value → Value → Sem Value} {C : Int → Int → Prop} {g : Int → Int → Int}
    (rule : ∀ (i j : Int) (t u : Tok) (s : Shared) (Q : Value → Shared → Prop) (E : Value → Shared → Prop), C i j → Q (.int (g i j) s.toks) { s with toks := s.toks + 1 } → wpAny (model X.prog X.w) X.A (f (.int i t) (.int j u)) Q E s) :
    OpR X f (rI C fun i j => .int (g i j)) := by
  intro pins s σ H x y v u Q I rx ry h
  obtain ⟨i, j, rfl, rfl, hc, q⟩ := h
  obtain ⟨t, rfl⟩ := rx
  obtain ⟨t', rfl⟩ := ry
  exact rule i j t t' s _ _ hc ⟨.int (g i j), H, I.tok _, ⟨_, rfl⟩, q⟩
theorem opI0 {f : Value → Value → Sem Value} {g : Int → Int → Int}
    (rule : ∀ (i j : Int) (t u : Tok) (s : Shared) (Q : Value → Shared → Prop) (E : Value → Shared → Prop), Q (.int (g i j) s.toks) { s with toks := s.toks + 1 } → wpAny (model X.prog X.w) X.A (f (.int i t) (.int j u)) Q E s) :
    OpR X f (rI0 fun i j => .int (g i j)) := by
  intro pins s σ H x y v u Q I rx ry h
  obtain ⟨i, j, rfl, rfl, q⟩ := h
  obtain ⟨t, rfl⟩ := rx
  obtain ⟨t', rfl⟩ := ry
  exact rule i j t t' s _ _ ⟨.int (g i j), H, I.tok _, ⟨_, rfl⟩, q⟩
theorem opB0 {f : Value → Value → Sem Value} {g : Int → Int → Bool}
    (rule : ∀ (i j : Int) (t u : Tok) (s : Shared) (Q : Value → Shared → Prop) (E : Value → Shared → Prop), Q (.bool (g i j)) s → wpAny (model X.prog X.w) X.A (f (.int i t) (.int j u)) Q E s) :
    OpR X f (rI0 fun i j => .bl (g i j)) := by
  intro pins s σ H x y v u Q I rx ry h
  obtain ⟨i, j, rfl, rfl, q⟩ := h
  obtain ⟨t, rfl⟩ := rx
  obtain ⟨t', rfl⟩ := ry
  exact rule i j t t' s _ _ ⟨.bl (g i j), H, I, rfl, q⟩

def CDiv (i j : Int) : Prop := 0 < j ∧ j < 1073741824
def CMul (i j : Int) : Prop := (-(2 ^ 64) < i ∧ i < 2 ^ 64) ∨ (-(2 ^ 64) < j ∧ j < 2 ^ 64)
theorem CMul.ok {i j : Int} (h : CMul i j) : IntMulOk i j := by
  rcases h with ⟨h1, h2⟩ | ⟨h1, h2⟩
  · exact .of_left (intBits_le_64 h1 h2)
  · exact .of_right (intBits_le_64 h1 h2)
theorem two_pow_nn (k : Nat) : (0 : Int) ≤ 2 ^ k := by
  rw [two_pow_cast]
  exact Int.natCast_nonneg _

theorem op_add : OpR X (binaryOp .Add) (rI0 fun i j => .int (i + j)) := opI0 fun _ _ _ _ _ _ _ q => add_int q
theorem op_sub : OpR X (binaryOp .Sub) (rI0 fun i j => .int (i - j)) := opI0 fun _ _ _ _ _ _ _ q => sub_int q
theorem op_mul : OpR X (binaryOp .Mult) (rI CMul fun i j => .int (i * j)) := opI fun _ _ _ _ _ _ _ hc q => mul_int q hc.ok
/-- // by a positive divisor -/
theorem op_fdiv : OpR X (binaryOp .FloorDiv) (rI CDiv fun i j => .int (i / j)) := opI fun i j _ _ _ _ _ hc q => by
  have h1 : (0 : Int) < j := hc.1
  have h2 : j < 1073741824 := hc.2
  exact floordiv_int (by omega) (by rw [Int.fdiv_eq_ediv_of_nonneg i (by omega)]; exact q) (.inl (PyProof.noPylong_small (by omega)))
/-- % by a positive divisor of any size -/
theorem op_mod : OpR X (binaryOp .Mod) (rI (fun _ j => 0 < j) fun i j => .int (i % j)) := opI fun i j _ _ _ _ _ hc q => by
  have h1 : (0 : Int) < j := hc
  exact mod_int' (by omega) (by rw [Int.fmod_eq_emod_of_nonneg i (by omega)]; exact q)
theorem op_shr : OpR X (binaryOp .RShift) (rI (fun _ j => 0 ≤ j) fun i j => .int (i / 2 ^ j.toNat)) := opI fun i j _ _ _ _ _ hc q =>
  rshift_int hc (by rw [Int.fdiv_eq_ediv_of_nonneg i (two_pow_nn _)]; exact q)
theorem op_and : OpR X (binaryOp .BitAnd) (rI0 fun i j => .int (Builtin.bitAnd i j)) := opI0 fun _ _ _ _ _ _ _ q => and_int q
/-! ### bools among ints: n += (a < b) -/
end

/-! ### comparisons -/
/-- the scalars that == tells apart as data does -/
def scal : V → V → Bool
  | .non, .non => true | .non, .int _ => true | .int _, .non => true | .non, .bl _ => true | .bl _, .non => true | .non, .str _ => true | .str _, .non => true
  | .int _, .int _ => true | .bl _, .bl _ => true | .str _, .str _ => true | .byt _, .byt _ => true
  | .int _, .str _ => true | .str _, .int _ => true | .bl _, .str _ => true | .str _, .bl _ => true
  | _, _ => false
def rEq : R2 := fun x y H Q => scal x y = true ∧ Q (.bl (decide (x = y))) H
def rNe : R2 := fun x y H Q => scal x y = true ∧ Q (.bl (!decide (x = y))) H

theorem dec_int {i j : Int} : decide (V.int i = V.int j) = (i == j) := by
  rw [Bool.eq_iff_iff]
  simp
theorem dec_bl {i j : Bool} : decide (V.bl i = V.bl j) = (i == j) := by
  rw [Bool.eq_iff_iff]
  simp
theorem dec_str {i j : Str} : decide (V.str i = V.str j) = (i == j) := by
  rw [Bool.eq_iff_iff]
  simp
theorem dec_byt {i j : Array UInt8} : decide (V.byt i = V.byt j) = (i.toList == j.toList) := by
  rw [Bool.eq_iff_iff]
  cases i
  cases j
  simp

section
variable {X : Cx} {a b c : Expr} {ta tb tc : TE} {pos : Pos}
theorem fin_bl {pins : List (Addr × Obj)} {σ : St} {H : Hp} {s : Shared} {Q : VK} {k k' : Bool} (I : Inv X pins σ H s) (q : Q (.bl k) H) (e : k = k') : EP X pins σ Q (.bool k') s := by
  subst e
  exact ⟨.bl k, H, I, rfl, q⟩
theorem op_eq : OpR X (compareOp .Eq) rEq := by
  intro pins s σ H x y v u Q I rx ry h
  obtain ⟨hs, q⟩ := h
  cases x with
  | non =>
    cases rx
    cases y with
    | non => cases ry; exact PySem.EqNone.eq_none_none (fin_bl I q (by simp))
    | bl j => cases ry; exact PySem.EqNone.eq_none_bool (fin_bl I q (by simp))
    | int j => obtain ⟨t', rfl⟩ := ry; exact PySem.EqNone.eq_none_int (fin_bl I q (by simp))
    | str j => obtain ⟨t', rfl⟩ := ry; exact PySem.EqNone.eq_none_str (fin_bl I q (by simp))
    | _ => exact absurd (show false = true from hs) Bool.false_ne_true
  | bl i =>
    cases rx
    cases y with
    | non => cases ry; exact PySem.EqNone.eq_bool_none (fin_bl I q (by simp))
    | bl j => cases ry; exact eq_bool (fin_bl I q dec_bl)
    | str j => obtain ⟨t', rfl⟩ := ry; exact PySem.EqMixed.eq_bool_str (fin_bl I q (by simp))
    | _ => exact absurd (show false = true from hs) Bool.false_ne_true
  | int i =>
    obtain ⟨t, rfl⟩ := rx
    cases y with
    | non => cases ry; exact PySem.EqNone.eq_int_none (fin_bl I q (by simp))
    | int j => obtain ⟨t', rfl⟩ := ry; exact eq_int (fin_bl I q dec_int)
    | str j => obtain ⟨t', rfl⟩ := ry; exact PySem.EqMixed.eq_int_str (fin_bl I q (by simp))
    | _ => exact absurd (show false = true from hs) Bool.false_ne_true
  | str i =>
    obtain ⟨t, rfl⟩ := rx
    cases y with
    | non => cases ry; exact PySem.EqNone.eq_str_none (fin_bl I q (by simp))
    | bl j => cases ry; exact PySem.EqMixed.eq_str_bool (fin_bl I q (by simp))
    | int j => obtain ⟨t', rfl⟩ := ry; exact PySem.EqMixed.eq_str_int (fin_bl I q (by simp))
    | str j => obtain ⟨t', rfl⟩ := ry; exact eq_str (fin_bl I q dec_str)
    | _ => exact absurd (show false = true from hs) Bool.false_ne_true
  | byt i =>
    obtain ⟨t, rfl⟩ := rx
    cases y with
    | byt j => obtain ⟨t', rfl⟩ := ry; exact PySem.W.eq_bytes (fin_bl I q dec_byt)
    | _ => exact absurd (show false = true from hs) Bool.false_ne_true
  | _ => cases y <;> exact absurd (show false = true from hs) Bool.false_ne_true
theorem op_ne : OpR X (compareOp .NotEq) rNe := by
  intro pins s σ H x y v u Q I rx ry h
  obtain ⟨hs, q⟩ := h
  cases x with
  | non =>
    cases rx
    cases y with
    | non => cases ry; exact PySem.EqNone.ne_none_none (fin_bl I q (by simp))
    | bl j => cases ry; exact PySem.EqNone.ne_none_bool (fin_bl I q (by simp))
    | int j => obtain ⟨t', rfl⟩ := ry; exact PySem.EqNone.ne_none_int (fin_bl I q (by simp))
    | str j => obtain ⟨t', rfl⟩ := ry; exact PySem.EqNone.ne_none_str (fin_bl I q (by simp))
    | _ => exact absurd (show false = true from hs) Bool.false_ne_true
  | bl i =>
    cases rx
    cases y with
    | non => cases ry; exact PySem.EqNone.ne_bool_none (fin_bl I q (by simp))
    | bl j => cases ry; exact ne_bool (fin_bl I q (congrArg not dec_bl))
    | str j => obtain ⟨t', rfl⟩ := ry; exact PySem.EqMixed.ne_bool_str (fin_bl I q (by simp))
    | _ => exact absurd (show false = true from hs) Bool.false_ne_true
  | int i =>
    obtain ⟨t, rfl⟩ := rx
    cases y with
    | non => cases ry; exact PySem.EqNone.ne_int_none (fin_bl I q (by simp))
    | int j => obtain ⟨t', rfl⟩ := ry; exact ne_int (fin_bl I q (congrArg not dec_int))
    | str j => obtain ⟨t', rfl⟩ := ry; exact PySem.EqMixed.ne_int_str (fin_bl I q (by simp))
    | _ => exact absurd (show false = true from hs) Bool.false_ne_true
  | str i =>
    obtain ⟨t, rfl⟩ := rx
    cases y with
    | non => cases ry; exact PySem.EqNone.ne_str_none (fin_bl I q (by simp))
    | bl j => cases ry; exact PySem.EqMixed.ne_str_bool (fin_bl I q (by simp))
    | int j => obtain ⟨t', rfl⟩ := ry; exact PySem.EqMixed.ne_str_int (fin_bl I q (by simp))
    | str j => obtain ⟨t', rfl⟩ := ry; exact ne_str (fin_bl I q (congrArg not dec_str))
    | _ => exact absurd (show false = true from hs) Bool.false_ne_true
  | byt i =>
    obtain ⟨t, rfl⟩ := rx
    cases y with
    | byt j => obtain ⟨t', rfl⟩ := ry; exact PySem.W.ne_bytes (fin_bl I q (congrArg not dec_byt))
    | _ => exact absurd (show false = true from hs) Bool.false_ne_true
  | _ => cases y <;> exact absurd (show false = true from hs) Bool.false_ne_true

theorem op_lt : OpR X (compareOp .Lt) (rI0 fun i j => .bl (decide (i < j))) := opB0 fun _ _ _ _ _ _ _ q => lt_int q
theorem op_le : OpR X (compareOp .LtE) (rI0 fun i j => .bl (decide (i ≤ j))) := opB0 fun _ _ _ _ _ _ _ q => le_int q
theorem op_gt : OpR X (compareOp .Gt) (rI0 fun i j => .bl (decide (j < i))) := opB0 fun _ _ _ _ _ _ _ q => gt_int q
theorem op_ge : OpR X (compareOp .GtE) (rI0 fun i j => .bl (decide (j ≤ i))) := opB0 fun _ _ _ _ _ _ _ q => ge_int q
/-- two rules for one operation: by cases -/
theorem OpR.or {f : Value → Value → Sem Value} {r r' : R2} (h : OpR X f r) (h' : OpR X f r') : OpR X f (fun x y H Q => r x y H Q ∨ r' x y H Q) := by
  intro pins s σ H x y v u Q I rx ry q
  rcases q with q | q
  · exact h pins s σ H x y v u Q I rx ry q
  · exact h' pins s σ H x y v u Q I rx ry q

theorem nomark (b : Expr) {op : CmpOp} (h : op ≠ .In := by decide) (h2 : op ≠ .NotIn := by decide) : behindInMarks op b = false := by
  have e1 : (op == CmpOp.In) = false := by cases op <;> first | rfl | exact absurd rfl h
  have e2 : (op == CmpOp.NotIn) = false := by cases op <;> first | rfl | exact absurd rfl h2
  cases b <;> simp [behindInMarks, e1, e2]
/-- a comparison as a value; hm: nomark b, or (for in, not in) by with_unfolding_all rfl -/
theorem pe_cmpR {op : CmpOp} {r : R2} (ho : OpR X (compareOp op) r) (ha : PE X a ta) (hb : PE X b tb) (hm : behindInMarks op b = false) : PE X (.Compare a [op] [b] pos) (tOp r ta tb) := by
  intro pins s σ H Q I h
  exact wpAny_Compare1 (binT ha hb I h fun v u s2 x y H2 I2 rx ry q => ho pins s2 σ H2 x y v u Q I2 rx ry q) hm
/-- a reading of a value as a test -/
def tTest (t : TE) : TT := fun σ H Q => t σ H fun x H' => ∃ k, x = .bl k ∧ Q k H'
theorem pt_cmpR {op : CmpOp} {r : R2} (ho : OpR X (compareOp op) r) (ha : PE X a ta) (hb : PE X b tb) (hm : behindInMarks op b = false) : PT X (.Compare a [op] [b] pos) (tTest (tOp r ta tb)) := by
  intro pins s σ H Q I h
  refine wpAny_isTrue_Compare1 (thn (ha pins s σ H _ I h) fun v s1 ⟨x, H1, I1, r1, q1⟩ => thn (hb pins s1 σ H1 _ I1 q1) fun u s2 ⟨y, H2, I2, r2, q2⟩ =>
    thn (ho pins s2 σ H2 x y v u _ I2 r1 r2 q2) fun c s3 ⟨z, H3, I3, r3, k, e, q3⟩ => ?_) hm
  subst e
  cases r3
  exact wpAny_truthy_bool ⟨H3, I3, q3⟩
/-- a op1 b op2 c -/
def tChain (r r' : R2) (ta tb tc : TE) : TE := fun σ H Q => ta σ H fun x H1 => tb σ H1 fun y H2 => r x y H2 fun z H3 => ∃ k, z = .bl k ∧
  (if k = true then tc σ H3 fun w' H4 => r' y w' H4 Q else Q (.bl false) H3)
theorem pe_chain {op op' : CmpOp} {r r' : R2} (ho : OpR X (compareOp op) r) (ho' : OpR X (compareOp op') r') (ha : PE X a ta) (hb : PE X b tb) (hc : PE X c tc)
    (hm : lastMarks [op, op'] [b, c] = false := by with_unfolding_all rfl) : PE X (.Compare a [op, op'] [b, c] pos) (tChain r r' ta tb tc) := by
  intro pins s σ H Q I h
  refine Compare_chain (thn (ha pins s σ H _ I h) fun v s1 ⟨x, H1, I1, r1, q1⟩ => chain_link (thn (hb pins s1 σ H1 _ I1 q1) fun u s2 ⟨y, H2, I2, r2, q2⟩ =>
    thn (ho pins s2 σ H2 x y v u _ I2 r1 r2 q2) fun d s3 ⟨z, H3, I3, r3, k, e, q3⟩ => ?_)) hm
  subst e
  cases r3
  refine wpAny_truthy_bool ?_
  cases k with
  | false => exact ite_ff ⟨.bl false, H3, I3, rfl, q3⟩
  | true => exact ite_tt (chain_last (thn (hc pins s3 σ H3 _ I3 q3) fun w' s4 ⟨z', H4, I4, r4, q4⟩ => ho' pins s4 σ H4 y z' u w' Q I4 r2 r4 q4))
theorem pt_chain {op op' : CmpOp} {r r' : R2} (ho : OpR X (compareOp op) r) (ho' : OpR X (compareOp op') r') (ha : PE X a ta) (hb : PE X b tb) (hc : PE X c tc)
    (hm : lastMarks [op, op'] [b, c] = false := by with_unfolding_all rfl) : PT X (.Compare a [op, op'] [b, c] pos) (tTest (tChain r r' ta tb tc)) := by
  intro pins s σ H Q I h
  refine isTrue_chain (thn (ha pins s σ H _ I h) fun v s1 ⟨x, H1, I1, r1, q1⟩ => test_link (thn (hb pins s1 σ H1 _ I1 q1) fun u s2 ⟨y, H2, I2, r2, q2⟩ =>
    thn (ho pins s2 σ H2 x y v u _ I2 r1 r2 q2) fun d s3 ⟨z, H3, I3, r3, k, e, q3⟩ => ?_)) hm
  subst e
  cases r3
  refine wpAny_truthy_bool ?_
  cases k with
  | false =>
    obtain ⟨k', e', q'⟩ := q3
    cases e'
    exact ite_ff ⟨H3, I3, q'⟩
  | true =>
    refine ite_tt (test_last (thn (hc pins s3 σ H3 _ I3 q3) fun w' s4 ⟨z', H4, I4, r4, q4⟩ => thn (ho' pins s4 σ H4 y z' u w' _ I4 r2 r4 q4) fun d' s5 ⟨z2, H5, I5, r5, k2, e2, q5⟩ => ?_))
    subst e2
    cases r5
    exact wpAny_truthy_bool ⟨H5, I5, q5⟩

/-! ### truth -/
theorem isEmpty_kv {κ : Type} {kvs : List (κ × V)} {vs : List (κ × Value)} (r : KV kvs vs) : (!vs.isEmpty) = !kvs.isEmpty := by
  cases r <;> rfl
theorem line63 : (sizeLine : Nat) < 2 ^ 63 := by rw [sizeLine_eq]; decide
/-! ### strs and bytes -/
/-! ### scalar builtins, by CallR -/
theorem vals1 {x : V} {us : List Value} (r : Vals [x] us) : ∃ u, us = [u] ∧ RelV x u := by
  cases r with
  | cons r1 r2 => cases r2; exact ⟨_, rfl, r1⟩
end
end L2

namespace L2
open PySem PySem.Spec PyProof.Rows

/-! ### an instance, its attributes a map -/
structure ObjM (h : Heap) (x dx C : Addr) (mA : Str → Option Value) : Prop where
  obj : h.get? x = some (PySem.W.instObj C dx)
  ns : h.Ns1 dx mA
  ne : dx ≠ x

theorem lookIn_ns {h : Heap} {dx : Addr} {mA : Str → Option Value} (n : h.Ns1 dx mA) : ∃ od, h.get? dx = some od ∧ ∀ name, PySem.W.lookIn name od = some (mA name) := by
  obtain ⟨o, es, ep, ho, hd, hk, _, hm⟩ := n
  refine ⟨o, ho, fun name => ?_⟩
  have e := hm name
  unfold nsFind findBy at e
  rw [← Array.find?_toList] at e
  unfold PySem.W.lookIn
  rw [hd]
  dsimp only
  split
  · rename_i y q
    rw [q] at e
    exact congrArg some e
  · rename_i q
    rw [q] at e
    have a : es.toList.any (·.refKey) = false := by
      rw [List.any_eq_false]
      intro y hy
      obtain ⟨z, t, hkey⟩ := hk y (Array.mem_toList_iff.mp hy)
      simp [DictEntry.refKey, hkey]
    have a' : ¬ es.toList.any (·.refKey) = true := by rw [a]; exact Bool.false_ne_true
    rw [if_neg a']
    exact congrArg some e

theorem ObjM.look {h : Heap} {x dx C : Addr} {mA : Str → Option Value} (I : ObjM h x dx C mA) : ∃ od, PySem.W.InstAt h x (PySem.W.instObj C dx) C (some od) ∧ ∀ name, PySem.W.lookIn name od = some (mA name) :=
  let ⟨od, ho, hl⟩ := lookIn_ns I.ns
  ⟨od, ⟨I.obj, rfl, rfl, ho⟩, hl⟩

section
variable {prog : Program} {w : World} {A : Around} {E : Value → Shared → Prop} {s : Shared} {K : PySem.W.Frag} {x dx C f : Addr} {mA : Str → Option Value} {name : Str} {v : Value}

theorem get_map {expr : Bool} {Q : Value → Shared → Prop} (X : K.In s.heap) (I : ObjM s.heap x dx C mA) (hg : PySem.W.plainGet K C name = true) (hh : PySem.W.hasDictIn K C = true)
    (ha : PySem.W.findIn K (.ref C) name = some none) (hv : mA name = some v) (hv' : PySem.W.handedIn v = true) (h : Q v { s with toks := s.toks + 1 }) :
    wpAny (model prog w) A (getAttr (.ref x) name expr) Q E s := by
  obtain ⟨od, J, hl⟩ := I.look
  exact PySem.W.get_value X J (PySem.W.plainGet_of hg).1 (PySem.W.findObj_own hh ha rfl (by rw [hl, hv])) hv' h

theorem get_meth {pl : Sem Bool} {Q : Value × List Value → Shared → Prop} (X : K.In s.heap) (I : ObjM s.heap x dx C mA) (hg : PySem.W.plainGet K C name = true)
    (hf : PySem.W.findIn K (.ref C) name = some (some (.ref f))) (ht : PySem.W.isFn K (.ref f) = true) (hv : mA name = none) (h : Q (.ref f, [.ref x]) s) :
    wpAny (model prog w) A (getMethod (.ref x) name pl) Q E s := by
  obtain ⟨od, J, hl⟩ := I.look
  exact PySem.W.method_fn X J (PySem.W.plainGet_of hg).1 (PySem.W.plainGet_of hg).2 hf (beq_iff_eq.mp ht) (by show (PySem.W.lookIn name od).map (·.isSome) = some false; rw [hl, hv]; rfl) h

theorem set_map {ns : List Str} {Q : Unit → Shared → Prop} (X : K.In s.heap) (I : ObjM s.heap x dx C mA)
    (hs : PySem.W.findIn K (.ref C) "__setattr__" = some (some (.builtin "object.__setattr__"))) (hp : PySem.W.plainOver K C = true) (ht : PySem.W.takerIn K C name = some none) (hh : PySem.W.hasDictIn K C = true)
    (hw : PySem.Within mA ns) (hsz : ns.length ≤ sizeLine)
    (h : ∀ h', ObjM h' x dx C (fun y => if y = name then some v else mA y) → Heap.SameBut dx s.heap h' → Q () { s with heap := h', toks := s.toks + 2 }) :
    wpAny (model prog w) A (setAttr (.ref x) name v) Q E s := by
  obtain ⟨od, J, hl⟩ := I.look
  refine PySem.W.set_plain X J hs (PySem.W.osa_open (s := { s with toks := s.toks + 1 }) (r := none) X J hp ht fun b => ?_)
  obtain ⟨cd, hc, hd'⟩ := PySem.W.any_some hh
  have hx : s.heap.get? x = some ⟨.ref C, some dx, .plain, #[]⟩ := I.obj
  refine wpAny_bind (wpAny_pure (wpAny_bind (wpAny_bind (wpAny_loadPart hx (wpAny_bind (PySem.W.Looks.here (s := { s with toks := s.toks + 1 }) (PySem.W.looks_clsIn X hc) ?_))))))
  rw [hd']
  refine wpAny_pure (a := some dx) (wpAny_bind (wpAny_pure (wpAny_bind ?_)))
  refine wpAny_nsSet1 (s := { s with toks := s.toks + 1 }) I.ns fun h' hn2 hs2 => ?_
  obtain ⟨oD, esD, epD, hoD, hdD, hcD⟩ := hn2.count (PySem.Within.cons name v hw)
  refine wpAny_bind (wpAny_lookBehind hoD (by rw [hdD]; exact pastItsLine_dict (Nat.le_trans hcD (by rw [List.length_cons]; omega))) ?_)
  exact wpAny_pure (h _ ⟨(hs2.2 _ (Ne.symm I.ne)).trans I.obj, hn2, I.ne⟩ hs2)

/-- C(..): the dict at the heap's end, the instance behind it; then its __init__ -/
theorem make_map {R : Result → Shared → Prop} {vs : List Value} {kw : List (Str × Value)} (X : K.In s.heap) (hm : PySem.W.makesIn K C = true)
    (hi : PySem.W.findIn K (.ref C) "__init__" = some (some (.ref f))) (hf : PySem.W.typeIn K (.ref f) = some (.type "function"))
    (h : codeAny (model prog w) (A.under (.builtin "type.__call__" ⟨.ref C :: vs, kw⟩)) (.call (.ref f) ⟨.ref (s.heap.objs.size + 1) :: vs, kw⟩) (PySem.W.InitBack (s.heap.objs.size + 1) R)
      { s with heap := (s.heap.push PySem.W.emptyDict).push (PySem.W.instObj C s.heap.objs.size) }) :
    codeAny (model prog w) A (.call (.ref C) ⟨vs, kw⟩) R s := by
  obtain ⟨hh, g, d, t, os⟩ := s
  exact PySem.W.make_core (PySem.W.makes_of X hm) (PySem.W.looks_findIn X hi) (fun self => PySem.W.bind_fn X self hf) (.inl rfl) h
end

/-! ### the attributes as a list of pairs -/
def putF (f : Str) (v : V) : List (Str × V) → List (Str × V)
  | [] => [(f, v)]
  | (g, x) :: r => if g = f then (g, v) :: r else (g, x) :: putF f v r
theorem lookup_putF (f g : Str) (v : V) : ∀ fs : List (Str × V), (putF f v fs).lookup g = if g = f then some v else fs.lookup g
  | [] => by
    show List.lookup g [(f, v)] = _
    by_cases h : g = f
    · have hb : (g == f) = true := beq_iff_eq.mpr h
      simp only [List.lookup, hb, if_pos h]
    · have hb : (g == f) = false := beq_eq_false_iff_ne.mpr h
      simp only [List.lookup, hb, if_neg h]
  | (k, x) :: r => by
    have ih := lookup_putF f g v r
    rw [show putF f v ((k, x) :: r) = (if k = f then (k, v) :: r else (k, x) :: putF f v r) from rfl]
    by_cases hk : k = f
    · rw [if_pos hk]
      by_cases h : g = k
      · have hb : (g == k) = true := beq_iff_eq.mpr h
        simp only [List.lookup, hb, if_pos (h.trans hk)]
      · have hb : (g == k) = false := beq_eq_false_iff_ne.mpr h
        simp only [List.lookup, hb, if_neg (fun e : g = f => h (e.trans hk.symm))]
    · rw [if_neg hk]
      by_cases h : g = k
      · have hb : (g == k) = true := beq_iff_eq.mpr h
        simp only [List.lookup, hb, if_neg (fun e : g = f => hk (h.symm.trans e))]
      · have hb : (g == k) = false := beq_eq_false_iff_ne.mpr h
        simp only [List.lookup, hb]
        exact ih
theorem keys_putF (f : Str) (v : V) : ∀ fs : List (Str × V), f ∈ (putF f v fs).map (·.1) ∧ ∀ g, g ∈ fs.map (·.1) → g ∈ (putF f v fs).map (·.1)
  | [] => ⟨by simp [putF], fun g h => by simp at h⟩
  | (k, x) :: r => by
    obtain ⟨i1, i2⟩ := keys_putF f v r
    rw [show putF f v ((k, x) :: r) = (if k = f then (k, v) :: r else (k, x) :: putF f v r) from rfl]
    by_cases hk : k = f
    · rw [if_pos hk]
      subst hk
      exact ⟨by simp, fun g h => by simpa using h⟩
    · rw [if_neg hk]
      refine ⟨?_, fun g h => ?_⟩
      · rw [List.map_cons]
        exact List.mem_cons_of_mem _ i1
      · rw [List.map_cons] at h ⊢
        rcases List.mem_cons.mp h with e | e
        · exact List.mem_cons.mpr (.inl e)
        · exact List.mem_cons_of_mem _ (i2 g e)
theorem length_putF (f : Str) (v : V) : ∀ fs : List (Str × V), (putF f v fs).length ≤ fs.length + 1
  | [] => by simp [putF]
  | (k, x) :: r => by
    have ih := length_putF f v r
    rw [show putF f v ((k, x) :: r) = (if k = f then (k, v) :: r else (k, x) :: putF f v r) from rfl]
    by_cases hk : k = f
    · rw [if_pos hk, List.length_cons, List.length_cons]; omega
    · rw [if_neg hk, List.length_cons, List.length_cons]; omega

theorem RelO.some_of {v : V} {o : Option Value} (r : RelO (some v) o) : ∃ u, o = some u ∧ RelV v u := by
  cases o with
  | none => exact (show False from r).elim
  | some u => exact ⟨u, rfl, r⟩
theorem RelO.none_of {o : Option Value} (r : RelO none o) : o = none := by
  cases o with
  | none => rfl
  | some u => exact (show False from r).elim
theorem handed_of {v : V} {u : Value} (r : RelV v u) : PySem.W.handedIn u = true := by
  cases v with
  | non => cases (show u = Value.none from r); rfl
  | bl b => cases (show u = Value.bool b from r); rfl
  | int i => obtain ⟨t, e⟩ := (show ∃ t, u = Value.int i t from r); cases e; rfl
  | str x => obtain ⟨t, e⟩ := (show ∃ t, u = Value.str x t from r); cases e; rfl
  | byt b => obtain ⟨t, e⟩ := (show ∃ t, u = Value.bytes b t from r); cases e; rfl
  | flt b => obtain ⟨t, e⟩ := (show ∃ t, u = Value.float b t from r); cases e; rfl
  | ref a => cases (show u = Value.ref a from r); rfl
  | ty n => cases (show u = Value.type n from r); rfl

section
variable {P : Program} {w : World} {H H' : Hp} {h h' : Heap} {a C dx : Addr} {fs fs' : List (Str × V)}
theorem ins_get (hok : HOk P w H h) (e : H a = some (.ins C dx fs)) : ∃ mA, ObjM h a dx C mA ∧ (∀ f, RelO (fs.lookup f) (mA f)) ∧ PySem.Within mA (fs.map (·.1)) ∧ fs.length ≤ 1000 ∧ H dx = some (.own a) := by
  obtain ⟨d, z, ne, ob, mA, n, r, q⟩ := (show ObjOk P w H h a (.ins C dx fs) from hok a _ e)
  exact ⟨mA, ⟨ob, n, ne⟩, r, q, z, d⟩
end

/-! ### what of the text a class must have -/
structure Cls (K : PySem.W.Frag) (C : Addr) : Prop where
  pg : PySem.W.plainGet K C Str.empty = true
  hd : PySem.W.hasDictIn K C = true
  po : PySem.W.plainOver K C = true
  sa : PySem.W.findIn K (.ref C) "__setattr__" = some (some (.builtin "object.__setattr__"))
theorem Cls.get {K : PySem.W.Frag} {C : Addr} (c : Cls K C) (f : Str) : PySem.W.plainGet K C f = true := c.pg
/-- no class of it has the name -/
def NoAttr (K : PySem.W.Frag) (C : Addr) (f : Str) : Prop := PySem.W.findIn K (.ref C) f = some none
theorem NoAttr.taker {K : PySem.W.Frag} {C : Addr} {f : Str} (n : NoAttr K C f) : PySem.W.takerIn K C f = some none := by
  unfold PySem.W.takerIn
  rw [show PySem.W.findIn K (.ref C) f = some none from n]
  rfl
/-- a constant of the class -/
structure Con (K : PySem.W.Frag) (C : Addr) (f : Str) (v : V) (u : Value) : Prop where
  at_ : PySem.W.findIn K (.ref C) f = some (some u)
  rel : RelV v u
  get : PySem.W.specialIn K u "__get__" = some none
  cp : PySem.W.copiedNames.contains f = false
/-- a method: a plain def of the class or of one above it -/
structure Meth (K : PySem.W.Frag) (C : Addr) (m : Str) (f : Addr) : Prop where
  at_ : PySem.W.findIn K (.ref C) m = some (some (.ref f))
  fn : PySem.W.isFn K (.ref f) = true
  kp : PySem.W.keepIn K (.ref f) = true

section
variable {X : Cx} {pins : List (Addr × Obj)} {σ : St} {H : Hp} {s : Shared} {a C dx : Addr} {fs : List (Str × V)} {f : Str} {v : V} {A : Around} {E : Value → Shared → Prop}

theorem getattr_ok {b : Bool} {Q : Value → Shared → Prop} (I : Inv X pins σ H s) (e : H a = some (.ins C dx fs)) (c : Cls X.K C) (n : NoAttr X.K C f) (l : fs.lookup f = some v)
    (h : ∀ u s', Inv X pins σ H s' → RelV v u → Q u s') : wpAny (model X.prog X.w) A (getAttr (.ref a) f b) Q E s := by
  obtain ⟨mA, O, r, _, _, _⟩ := ins_get I.hok e
  obtain ⟨u, hu, ru⟩ := RelO.some_of (v := v) (o := mA f) (by rw [← l]; exact r f)
  exact get_map I.kIn O (c.get f) c.hd n hu (handed_of ru) (h u _ (I.tok _) ru)

theorem getmeth_ok {m : Str} {g : Addr} {pl : Sem Bool} {Q : Value × List Value → Shared → Prop} (I : Inv X pins σ H s) (e : H a = some (.ins C dx fs)) (c : Cls X.K C) (k : Meth X.K C m g) (l : fs.lookup m = none)
    (h : Q (.ref g, [.ref a]) s) : wpAny (model X.prog X.w) A (getMethod (.ref a) m pl) Q E s := by
  obtain ⟨mA, O, r, _, _, _⟩ := ins_get I.hok e
  have hn : mA m = none := RelO.none_of (by rw [← l]; exact r m)
  exact get_meth I.kIn O (c.get m) k.at_ k.fn hn h

theorem setattr_ok {y : V} {u : Value} {Q : Unit → Shared → Prop} (I : Inv X pins σ H s) (e : H a = some (.ins C dx fs)) (c : Cls X.K C) (n : NoAttr X.K C f) (hl : fs.length < 1000) (ry : RelV y u)
    (h : ∀ s', Inv X pins σ (upd H a (.ins C dx (putF f y fs))) s' → Q () s') : wpAny (model X.prog X.w) A (setAttr (.ref a) f u) Q E s := by
  obtain ⟨mA, O, r, wi, _, ho⟩ := ins_get I.hok e
  have hz : (fs.map (·.1)).length ≤ sizeLine := by rw [List.length_map, sizeLine_eq]; omega
  refine set_map I.kIn O c.sa c.po n.taker c.hd wi hz fun h' O' sb => h _ ?_
  have hd : ∃ o, h'.get? dx = some o := let ⟨o, _, _, e', _⟩ := O'.ns; ⟨o, e'⟩
  refine I.write (x := a) (e := dx) (by rw [e]; exact True.intro) (.inr ho) (fun b q hb z => (sb.2 b hb).trans z) hd ?_
  refine ⟨by rw [upd_ne O.ne]; exact ho, ?_, O.ne, O'.obj, _, O'.ns, fun g => ?_, fun g hg => ?_⟩
  · have := length_putF f y fs; omega
  · show RelO ((putF f y fs).lookup g) (if g = f then some u else mA g)
    rw [lookup_putF]
    by_cases q : g = f
    · rw [if_pos q, if_pos q]; exact ry
    · rw [if_neg q, if_neg q]; exact r g
  · by_cases q : g = f
    · rw [q]; exact (keys_putF f y fs).1
    · refine (keys_putF f y fs).2 g (wi g fun z => hg ?_)
      show (if g = f then some u else mA g) = none
      rw [if_neg q]; exact z

/-- a new instance, tracked, without attributes -/
theorem Inv.made (I : Inv X pins σ H s) : Inv X pins σ (upd (upd H s.heap.objs.size (.own (s.heap.objs.size + 1))) (s.heap.objs.size + 1) (.ins C s.heap.objs.size []))
    { s with heap := (s.heap.push PySem.W.emptyDict).push (PySem.W.instObj C s.heap.objs.size) } := by
  have e1 : (s.heap.push PySem.W.emptyDict).get? s.heap.objs.size = some PySem.W.emptyDict := Heap.get?_push_size s.heap rfl
  have e2 : ((s.heap.push PySem.W.emptyDict).push (PySem.W.instObj C s.heap.objs.size)).get? (s.heap.objs.size + 1) = some (PySem.W.instObj C s.heap.objs.size) := by
    have := Heap.get?_push_size (s.heap.push PySem.W.emptyDict) (o := PySem.W.instObj C s.heap.objs.size) rfl
    rwa [Heap.size_push] at this
  have e3 : (s.heap.push PySem.W.emptyDict).Ns s.heap.objs.size (fun _ => none) := ⟨PySem.W.emptyDict, #[], _, e1, rfl, (fun e he => absurd he (by simp)), fun _ => rfl⟩
  have I1 := I.laid (a := s.heap.objs.size) (o := .own (s.heap.objs.size + 1)) (h' := s.heap.push PySem.W.emptyDict) (t' := s.toks) (fun b u q => Heap.get?_push_of_some _ q) (Nat.le_refl _) ⟨_, e1⟩
  refine I1.laid (a := s.heap.objs.size + 1) (o := .ins C s.heap.objs.size []) (t' := s.toks) (fun b u q => Heap.get?_push_of_some _ q) (Nat.le_of_eq (Heap.size_push _ _)) ?_
  have ne : s.heap.objs.size ≠ s.heap.objs.size + 1 := Nat.ne_of_lt (Nat.lt_succ_self _)
  refine ⟨by rw [upd_ne ne, upd_same], Nat.zero_le _, ne, e2, fun _ => none, (Heap.Ns1.of_empty e3).at fun o q => Heap.get?_push_of_some _ q, fun _ => True.intro, fun y hy => absurd rfl hy⟩

/-- e.f where nothing but the object is asked: through attributeBase (super) and the last hold -/
theorem attr_of {prog : Program} {w : World} {env : Env} {e : Expr} {f : Str} {pos : Pos} {s : Shared} {Q : Value → Shared → Prop} (hb : attributeBase e f env (eval e env) = eval e env)
    (h : wpAny (model prog w) A (eval e env) (fun o s₁ => wpAny (model prog w) A (getAttr o f true) Q E s₁) E s) : wpAny (model prog w) A (eval (.Attribute e f pos) env) Q E s :=
  Attribute_any_ h (by rw [arm_eval_Attribute, hb])
end

/-! ### readings and rules -/
/-- e.f, an attribute of the instance -/
def tFld (K : PySem.W.Frag) (ta : TE) (f : Str) : TE := fun σ H Q => ta σ H fun x H1 => ∃ a C dx fs v, x = .ref a ∧ H1 a = some (.ins C dx fs) ∧ Cls K C ∧ NoAttr K C f ∧ fs.lookup f = some v ∧ Q v H1
/-- e.f = value -/
def sFld (K : PySem.W.Frag) (ta tv : TE) (f : Str) : TS := fun D σ H => tv σ H fun y H1 => ta σ H1 fun x H2 => ∃ a C dx fs, x = .ref a ∧ H2 a = some (.ins C dx fs) ∧ Cls K C ∧ NoAttr K C f ∧ fs.length < 1000 ∧
  D.nx σ (upd H2 a (.ins C dx (putF f y fs)))
/-- an augmented operator on two values -/
def InOp (X : Cx) (op : Operator) (rd : V → V → Hp → VK → Prop) : Prop :=
  ∀ (pins : List (Addr × Obj)) (s : Shared) (σ : St) (H : Hp) (x y : V) (u v : Value) (Q : VK), Inv X pins σ H s → RelV x u → RelV y v → rd x y H Q → wpAny (model X.prog X.w) X.A (inplaceOp op u v) (EP X pins σ Q) X.xe s
/-- e.f op= value -/
def sFldAug (K : PySem.W.Frag) (ta tv : TE) (rd : V → V → Hp → VK → Prop) (f : Str) : TS := fun D σ H => ta σ H fun x H1 => ∃ a C dx fs v, x = .ref a ∧ H1 a = some (.ins C dx fs) ∧ Cls K C ∧ NoAttr K C f ∧ fs.lookup f = some v ∧
  tv σ H1 fun y H2 => rd v y H2 fun z H3 => ∃ dx' fs', H3 a = some (.ins C dx' fs') ∧ fs'.length < 1000 ∧ D.nx σ (upd H3 a (.ins C dx' (putF f z fs')))

section
variable {X : Cx} {o e value : Expr} {f : Str} {pos pos' tpos : Pos} {ta tv : TE}
theorem pe_fld (he : PE X e ta) (hb : attributeBase e f X.env (eval e X.env) = eval e X.env) : PE X (.Attribute e f pos) (tFld X.K ta f) := by
  intro pins s σ H Q I h
  refine attr_of hb (thn (he pins s σ H _ I h) fun u s1 ⟨x, H1, I1, rx, a, C, dx, fs, v, ex, ea, c, n, l, q⟩ => ?_)
  subst ex
  obtain rfl : u = Value.ref a := rx
  exact getattr_ok I1 ea c n l fun u' s2 I2 ru => ⟨v, H1, I2, ru, q⟩
theorem ps_fld (ha : PE X o ta) (hv : PE X value tv) (hs : swapsWith value (some (.Attribute o f pos')) pos.line X.env = pure false) : PS X (.Assign [.Attribute o f pos'] value pos) (sFld X.K ta tv f) := by
  intro pins s σ H D I h
  refine plainObj_wpAny_Assign_Attribute (thn (hv pins s σ H _ I h) fun u s1 ⟨y, H1, I1, ry, q⟩ => thn (ha pins s1 σ H1 _ I1 q) fun ov s2 ⟨x, H2, I2, rx, a, C, dx, fs, ex, ea, c, n, l, q2⟩ => ?_) hs
  subst ex
  obtain rfl : ov = Value.ref a := rx
  exact setattr_ok I2 ea c n l ry fun s3 I3 => ⟨σ, _, I3, q2⟩
theorem ps_fldaug {op : Operator} {rd : V → V → Hp → VK → Prop} (ha : PE X o ta) (hv : PE X value tv) (hop : InOp X op rd) : PS X (.AugAssign (.Attribute o f tpos) op value pos) (sFldAug X.K ta tv rd f) := by
  intro pins s σ H D I h
  refine wpAny_AugAssign_AttributeAny (thn (ha pins s σ H _ I h) fun ov s1 ⟨x, H1, I1, rx, a, C, dx, fs, v, ex, ea, c, n, l, q⟩ => ?_)
  subst ex
  obtain rfl : ov = Value.ref a := rx
  refine getattr_ok I1 ea c n l fun u s2 I2 ru => thn (hv pins s2 σ H1 _ I2 q) fun w3 s3 ⟨y, H2, I3, ry, q3⟩ => thn (hop pins s3 σ H2 v y u w3 _ I3 ru ry q3) fun w4 s4 ⟨z, H3, I4, rz, dx', fs', ea', l', q4⟩ => ?_
  exact setattr_ok I4 ea' c n l' rz fun s5 I5 => ⟨σ, _, I5, q4⟩
def rAdd : V → V → Hp → VK → Prop := fun x y H Q => ∃ i j, x = .int i ∧ y = .int j ∧ Q (.int (i + j)) H
theorem in_add : InOp X .Add rAdd := by
  rintro pins s σ H x y u v Q I rx ry ⟨i, j, rfl, rfl, q⟩
  obtain ⟨t, rfl⟩ := (show ∃ t, u = Value.int i t from rx)
  obtain ⟨t', rfl⟩ := (show ∃ t', v = Value.int j t' from ry)
  exact PyProof.Rows.iadd_int ⟨.int (i + j), H, I.tok _, ⟨_, rfl⟩, q⟩
end

/-! ### isinstance -/
section
variable {X : Cx} {pins : List (Addr × Obj)} {σ : St} {H : Hp} {s : Shared} {A : Around} {E : Value → Shared → Prop} {Q : Value → Shared → Prop} {c : Value} {b : Bool}
/-- the type of a value, as the fragment's deciders take it; for an instance its class -/
inductive TyOf (K : PySem.W.Frag) (H : Hp) : V → Value → Prop where
  | non : TyOf K H .non (.type "NoneType")
  | bl (x : Bool) : TyOf K H (.bl x) (.type "bool")
  | int (i : Int) : TyOf K H (.int i) (.type "int")
  | str (x : Str) : TyOf K H (.str x) (.type "str")
  | flt (x : UInt64) : TyOf K H (.flt x) (.type "float")
  | lst {a : Addr} {xs : List V} (e : H a = some (.lst xs)) : TyOf K H (.ref a) (.type "list")
  | frz {a : Addr} {o : Obj} {xs : List V} (e : H a = some (.frz o (.lst xs))) : TyOf K H (.ref a) (.type "list")
  | tup {a : Addr} {xs : List V} (e : H a = some (.tup xs)) : TyOf K H (.ref a) (.type "tuple")
  | dK {a : Addr} {kvs : List (Key × V)} (e : H a = some (.dK kvs)) : TyOf K H (.ref a) (.type "dict")
  | dT {a : Addr} {kvs : List (List Key × V)} (e : H a = some (.dT kvs)) : TyOf K H (.ref a) (.type "dict")
  | ins {a C dx : Addr} {fs : List (Str × V)} (e : H a = some (.ins C dx fs)) (cl : Cls K C) (ha : PySem.W.findIn K (.ref C) "__class__" = some (some (.builtin "object.__class__")))
      (hn : PySem.W.specialIn K (.builtin "object.__class__") "__get__" = some (some (.builtin "getset_descriptor.__get__"))) (htk : PySem.W.takesIn K (.builtin "object.__class__") = some true)
      (hm : PySem.W.mroIn K C (.type "object") = some true) : TyOf K H (.ref a) (.ref C)
end
end L2

namespace L2
open PySem PySem.Spec PyProof.Rows

/-! ### room -/
structure Room (k : Nat) (A : Around) : Prop where
  hd : A.handled = none
  dp : A.depth + 3 * k + 5 < recursionLimit
  un : A.units + 16 * k + 200 < cLine
theorem Room.mono {j k : Nat} {A : Around} (r : Room k A) (h : j ≤ k) : Room j A := ⟨r.hd, by have := r.dp; omega, by have := r.un; omega⟩
theorem Room.deeper {k : Nat} {A : Around} (r : Room (k + 1) A) (env : Env) : Room k (A.deeper env) :=
  ⟨r.hd, by have := r.dp; show A.depth + 1 + 3 * k + 5 < _; omega, by have := r.un; show A.units + 3 + 16 * k + 200 < _; omega⟩
theorem Room.in1 {k : Nat} {A : Around} (r : Room (k + 1) A) : Room k A.in1 :=
  ⟨r.hd, by have := r.dp; show A.depth + 3 * k + 5 < _; omega, by have := r.un; show A.units + 1 + 16 * k + 200 < _; omega⟩
theorem make_depth {A : Around} {C : Addr} {us : List Value} {kw : List (Str × Value)} : (A.under (.builtin "type.__call__" ⟨.ref C :: us, kw⟩)).depth = A.depth + 1 := by
  first | rfl | simp [Around.under, Code.weight, Code.isCreation, Code.isGuard, Code.isCaller, Code.frames, Code.isFrame, guardIds]
theorem make_units {A : Around} {C : Addr} {us : List Value} {kw : List (Str × Value)} : (A.under (.builtin "type.__call__" ⟨.ref C :: us, kw⟩)).units = A.units + 1 := by
  first | rfl | simp [Around.under, Code.cUnits, Code.frames, Code.isFrame]
theorem Room.make {k : Nat} {A : Around} (r : Room (k + 1) A) (C : Addr) (us : List Value) (kw : List (Str × Value)) : Room k (A.under (.builtin "type.__call__" ⟨.ref C :: us, kw⟩)) :=
  ⟨r.hd, by have := r.dp; rw [make_depth]; omega, by have := r.un; rw [make_units]; omega⟩
theorem Room.depth {k : Nat} {A : Around} (r : Room k A) : A.depth < recursionLimit := by have := r.dp; omega
theorem Room.units {k : Nat} {A : Around} (r : Room k A) : A.units + 64 < cLine := by have := r.un; omega
/-! ### argument lists and displays -/
def tNil : TA := fun _ H Q => Q [] H
def tCons (ta : TE) (tr : TA) : TA := fun σ H Q => ta σ H fun x H1 => tr σ H1 fun xs H2 => Q (x :: xs) H2
section
variable {X : Cx} {e : Expr} {es : List Expr} {te : TE} {t : TA} {pos : Pos}
theorem pa_nil : PA X [] tNil := fun _ _ _ _ H Q I h => Calls.spliced_nil ⟨[], H, I, .nil, h⟩
theorem pa_cons (ha : PE X e te) (hr : PA X es t) (hs : starEach (e :: es) X.env = (false, eval e X.env) :: starEach es X.env := by rfl) : PA X (e :: es) (tCons te t) := by
  intro pos pins s σ H Q I h
  rw [hs]
  show wpAny _ _ (spliced ((false, eval e X.env) :: backTo pos (starEach es X.env))) _ _ s
  refine Calls.spliced_cons (thn (ha pins s σ H _ I h) fun u s1 ⟨x, H1, I1, r1, q1⟩ => ?_)
  exact thn (hr pos pins s1 σ H1 _ I1 q1) fun us s2 ⟨xs, H2, I2, r2, q2⟩ => ⟨x :: xs, H2, I2, .cons r1 r2, q2⟩

def tLst (t : TA) : TE := fun σ H Q => t σ H fun xs H1 => xs.length ≤ sizeLine ∧ ∀ p, H1 p = none → Q (.ref p) (upd H1 p (.lst xs))
theorem pe_lst (h : PA X es t) : PE X (.List es pos) (tLst t) := by
  intro pins s σ H Q I hq
  refine wpAny_List_spliced (thn (h pos pins s σ H _ I hq) fun us s1 ⟨xs, H1, I1, r, z, q⟩ => ⟨by rw [← r.length]; exact z, ?_⟩)
  have hf : H1 s1.heap.objs.size = none := I1.hok.fresh (Nat.le_refl _)
  refine ⟨.ref s1.heap.objs.size, upd H1 s1.heap.objs.size (.lst xs), I1.laid (t' := s1.toks) (fun b u e => Heap.get?_push_of_some _ e) (Nat.le_refl _) ?_, rfl, q _ hf⟩
  exact ⟨z, us, 0, r, Heap.get?_push_size _ rfl⟩
end

/-! ### what a def promises -/
/-- a def's promise: the bound arguments in the parameters' order, the heap, the wanted end, the wanted exception -/
abbrev Sp := List V → Hp → VK → XK → Prop
/-- how an exception lies behind a call (file 08 gives it): the callers' frames, abstract heap and state ahead of the call, the wish, the exception, the state -/
abbrev CXT := List Env → Hp → Shared → XK → Value → Shared → Prop

/-- the state at a call -/
structure Env0 (P : Program) (w : World) (K : PySem.W.Frag) (mg : Str → Option Value) (base : Heap) (A : Around) (outer : List Env) (s : Shared) (H : Hp) : Prop where
  frames : A.frames = some outer
  mod : Mod K mg base
  bs : ∀ b o, base.get? b = some o → s.heap.get? b = some o ∧ H b = none
  bsz : base.objs.size ≤ s.heap.objs.size
  funs : s.heap.FunFrames base outer
  frf : ∀ b ∈ frs outer, H b = none
  hok : HOk P w H s.heap
  bare : AllBare s.gens
/-- a call's end -/
def CE (outer : List Env) (P : Program) (w : World) (H : Hp) (s : Shared) (Q : VK) (u : Value) (s' : Shared) : Prop :=
  ∃ v H', s'.os = s.os ∧ AllBare s'.gens ∧ Un (frs outer) [] H H' s.heap s'.heap ∧ HOk P w H' s'.heap ∧ RelV v u ∧ Q v H'
def CR (CX : CXT) (outer : List Env) (P : Program) (w : World) (H : Hp) (s : Shared) (Q : VK) (E : XK) (r : Result) (s' : Shared) : Prop :=
  match r with
  | .ok (.ret u) => CE outer P w H s Q u s'
  | .ok _ => False
  | .error e => CX outer H s E e s'
structure FnOk (P : Program) (w : World) (K : PySem.W.Frag) (mg : Str → Option Value) (base : Heap) (CX : CXT) (k : Nat) (f : Addr) (fd : FuncData) (ps : List Str) (sp : Sp) : Prop where
  len : ∀ vs H Q E, sp vs H Q E → vs.length = ps.length
  run : ∀ (A : Around) (outer : List Env) (s : Shared) (H : Hp) (args : Args) (us : List Value) (vs : List V) (Q : VK) (E : XK), Room k A → Env0 P w K mg base A outer s H → BindsTo s fd args (ps.zip us) → Vals vs us → sp vs H Q E →
    codeAny (model P w) A (.call (.ref f) args) (CR CX outer P w H s Q E) s
theorem FnOk.mono {P : Program} {w : World} {K : PySem.W.Frag} {mg : Str → Option Value} {base : Heap} {CX : CXT} {j k : Nat} {f : Addr} {fd : FuncData} {ps : List Str} {sp : Sp} (F : FnOk P w K mg base CX j f fd ps sp) (h : j ≤ k) :
    FnOk P w K mg base CX k f fd ps sp := ⟨F.len, fun A outer s H args us vs Q E hr => F.run A outer s H args us vs Q E (hr.mono h)⟩
theorem Env0.make {P : Program} {w : World} {K : PySem.W.Frag} {mg : Str → Option Value} {base : Heap} {A : Around} {outer : List Env} {s : Shared} {H : Hp} (e : Env0 P w K mg base A outer s H) (C : Addr) (us : List Value) (kw : List (Str × Value)) :
    Env0 P w K mg base (A.under (.builtin "type.__call__" ⟨.ref C :: us, kw⟩)) outer s H := ⟨by first | exact e.frames | (simpa [Around.under, Code.envs, Code.isFrame, pushEnvs] using e.frames), e.mod, e.bs, e.bsz, e.funs, e.frf, e.hok, e.bare⟩
theorem Env0.in1 {P : Program} {w : World} {K : PySem.W.Frag} {mg : Str → Option Value} {base : Heap} {A : Around} {outer : List Env} {s : Shared} {H : Hp} (e : Env0 P w K mg base A outer s H) :
    Env0 P w K mg base A.in1 outer s H := ⟨e.frames, e.mod, e.bs, e.bsz, e.funs, e.frf, e.hok, e.bare⟩

section
variable {X : Cx} {pins : List (Addr × Obj)} {σ : St} {H : Hp} {s s' : Shared}
/-- from a body: what a callee wants -/
theorem Inv.env0 (I : Inv X pins σ H s) : Env0 X.prog X.w X.K X.mg X.base X.A X.stack s H :=
  ⟨I.ok.frames, I.ok.mod, I.bs, Nat.le_trans I.ok.bsz I.sz, I.stack, I.stkFree, I.hok, I.bare⟩
/-- behind a call -/
theorem Inv.after {Q : VK} {u : Value} (I : Inv X pins σ H s) (h : CE X.stack X.prog X.w H s Q u s') : EP X pins σ Q u s' := by
  obtain ⟨v, H', os, bare, un, hok, r, q⟩ := h
  obtain ⟨hh, g, d, t, os'⟩ := s'
  obtain rfl : os' = s.os := os
  exact ⟨v, H', I.call (h' := hh) (g' := g) (d' := d) (t' := t) (ch := []) un hok bare (fun b z => absurd z (by simp)), r, q⟩
end

/-! ### calls -/
/-- f(..): the written arguments, then the defaults dvs; E: what is wanted of an exception -/
def tCall (sp : Sp) (dvs : List V) (E : XK) (t : TA) : TE := fun σ H Q => t σ H fun vs H1 => sp (vs ++ dvs) H1 Q E
/-- o.m(..) of an instance of the class at C -/
def tMeth (C : Addr) (m : Str) (sp : Sp) (dvs : List V) (E : XK) (ta : TE) (t : TA) : TE := fun σ H Q => ta σ H fun x H1 => ∃ a dx fs, x = .ref a ∧ H1 a = some (.ins C dx fs) ∧ fs.lookup m = none ∧
  t σ H1 fun vs H2 => sp (x :: (vs ++ dvs)) H2 Q E
/-- C(..): a new instance and its dict, then __init__ -/
def tMake (C : Addr) (sp : Sp) (dvs : List V) (E : XK) (t : TA) : TE := fun σ H Q => t σ H fun vs H1 => ∀ x dx, H1 x = none → H1 dx = none → dx ≠ x →
  sp (.ref x :: (vs ++ dvs)) (upd (upd H1 dx (.own x)) x (.ins C dx [])) (fun v H2 => v = .non ∧ Q (.ref x) H2) E

/-- how the parameters are bound: us the positional arguments, kw the keywords' values by name, ds the defaults that fill up -/
def Binds (K : PySem.W.Frag) (fd : FuncData) (ps : List Str) (ds : List Value) : Prop :=
  ∀ (s : Shared) (us : List Value), K.In s.heap → (us ++ ds).length = ps.length → BindsTo s fd ⟨us, []⟩ (ps.zip (us ++ ds))
/-- every parameter is given -/
theorem Binds.all {K : PySem.W.Frag} {fd : FuncData} {ps : List Str} (h : ∀ us : List Value, us.length = ps.length → bindArgs fd ⟨us, []⟩ = pure (ps.zip us)) : Binds K fd ps [] := fun s us _ hl => by
  rw [List.append_nil] at hl ⊢
  exact .of_eq (h us hl)

/-- an exception of a callee reaches what this body wants of exceptions -/
def Passes (CX : CXT) (X : Cx) (E : XK) : Prop := ∀ (pins : List (Addr × Obj)) (σ : St) (H : Hp) (s : Shared) (e : Value) (s' : Shared), Inv X pins σ H s → CX X.stack H s E e s' → X.xe e s'

section
variable {X : Cx} {CX : CXT} {k : Nat} {f C : Addr} {fd : FuncData} {ps : List Str} {sp : Sp} {dvs : List V} {ds : List Value} {E : XK} {x m : Str} {p pos apos : Pos} {e o : Expr} {es : List Expr} {ta : TE} {t : TA}

/-- the callee runs -/
theorem run_fn {pins : List (Addr × Obj)} {σ : St} {H : Hp} {s : Shared} {Q : VK} {us : List Value} {vs : List V} (F : FnOk X.prog X.w X.K X.mg X.base CX k f fd ps sp) (hr : Room k X.A) (hb : Binds X.K fd ps ds) (hd : Vals dvs ds) (hx : Passes CX X E)
    (I : Inv X pins σ H s) (r : Vals vs us) (h : sp (vs ++ dvs) H Q E) : wpAny (model X.prog X.w) X.A (call (.ref f) us) (EP X pins σ Q) X.xe s := by
  have r2 : Vals (vs ++ dvs) (us ++ ds) := r.append hd
  have hl : (us ++ ds).length = ps.length := by rw [← r2.length]; exact F.len _ _ _ _ h
  refine wpAny_call (codeAny_mono (F.run X.A X.stack s H ⟨us, []⟩ (us ++ ds) (vs ++ dvs) Q E hr I.env0 (hb s us I.kIn hl) r2 h) fun r s' hq => ?_)
  cases r with
  | error e => exact hx pins σ H s e s' I hq
  | ok fl =>
    cases fl with
    | ret u => exact I.after hq
    | next => exact False.elim hq
    | brk => exact False.elim hq
    | cont => exact False.elim hq

theorem pe_call (F : FnOk X.prog X.w X.K X.mg X.base CX k f fd ps sp) (hr : Room k X.A) (hg : Gl X x) (hm : X.mg x = some (.ref f)) (hk : PySem.W.keepIn X.K (.ref f) = true) (hb : Binds X.K fd ps ds) (hd : Vals dvs ds) (hx : Passes CX X E)
    (ha : PA X (e :: es) t) (hdb : (x == ("__debug__" : Str)) = false := by decide) (he : starEach (e :: es) X.env = (false, eval e X.env) :: starEach es X.env := by rfl) (hpl : (backTo pos (starEach es X.env)).any (·.1) = false := by rfl) :
    PE X (.Call (.Name x p) (e :: es) [] pos) (tCall sp dvs E t) := by
  intro pins s σ H Q I h
  refine wpAny_Call_Name_kw (ld_glob I hg hm ?_ hdb)
  refine PySem.W.callWith_K (h₀ := X.base) I.ok.mod.kin hk (thn (ha pos pins s σ H _ I h) fun us s1 ⟨vs, H1, I1, r, q⟩ => ⟨I1.kIn, ?_⟩) he hpl
  exact run_fn F hr hb hd hx I1 r q
/-- o.m() -/
theorem pe_meth0 {pl : Sem Bool} (he : PE X o ta) (c : Cls X.K C) (hm : Meth X.K C m f) (F : FnOk X.prog X.w X.K X.mg X.base CX k f fd ps sp) (hr : Room k X.A) (hb : Binds X.K fd ps ds) (hd : Vals dvs ds) (hx : Passes CX X E)
    (ht : eval (.Call (.Attribute o m apos) [] [] pos) X.env = (do
      let ov ← eval o X.env
      standAt apos.atName
      let (f, first) ← holding [ov] (getMethod ov m pl)
      callWith pos f first (backTo pos (starEach [] X.env)) (backToKw pos (keywordEach [] X.env))) := by rfl) :
    PE X (.Call (.Attribute o m apos) [] [] pos) (tMeth C m sp dvs E ta tNil) := by
  intro pins s σ H Q I h
  refine PySem.W.methodCall_KW (pl := pl) (thn (he pins s σ H _ I h) fun u s1 ⟨x, H1, I1, rx, a, dx, fs, ex, ea, l, q⟩ => ?_) ht
  subst ex
  obtain rfl : u = Value.ref a := rx
  refine getmeth_ok I1 ea c hm l ?_
  exact PySem.W.callWith_K0 (first := [.ref a]) I1.kIn hm.kp (run_fn (us := [.ref a]) (vs := [.ref a]) F hr hb hd hx I1 (.cons rfl .nil) q)

/-- what a class must have to be made -/
structure Mk (K : PySem.W.Frag) (C f : Addr) : Prop where
  makes : PySem.W.makesIn K C = true
  init : PySem.W.findIn K (.ref C) "__init__" = some (some (.ref f))
  fn : PySem.W.isFn K (.ref f) = true
  kp : PySem.W.keepIn K (.ref C) = true

theorem run_make {pins : List (Addr × Obj)} {σ : St} {H : Hp} {s : Shared} {Q : VK} {us : List Value} {vs : List V} (M : Mk X.K C f) (F : FnOk X.prog X.w X.K X.mg X.base CX k f fd ps sp) (hr : Room (k + 1) X.A) (hb : Binds X.K fd ps ds) (hd : Vals dvs ds)
    (hx : Passes CX X E) (I : Inv X pins σ H s) (r : Vals vs us)
    (h : ∀ x dx, H x = none → H dx = none → dx ≠ x → sp (.ref x :: (vs ++ dvs)) (upd (upd H dx (.own x)) x (.ins C dx [])) (fun v H2 => v = .non ∧ Q (.ref x) H2) E) :
    wpAny (model X.prog X.w) X.A (call (.ref C) us) (EP X pins σ Q) X.xe s := by
  have hq := h (s.heap.objs.size + 1) s.heap.objs.size (I.hok.fresh (Nat.le_succ _)) (I.hok.fresh (Nat.le_refl _)) (Nat.ne_of_lt (Nat.lt_succ_self _))
  have I2 := Inv.made (C := C) I
  have r2 : Vals (V.ref (s.heap.objs.size + 1) :: (vs ++ dvs)) (Value.ref (s.heap.objs.size + 1) :: (us ++ ds)) := .cons rfl (r.append hd)
  have hl : (Value.ref (s.heap.objs.size + 1) :: us ++ ds).length = ps.length := by
    have e := r2.length
    rw [F.len _ _ _ _ hq] at e
    exact e.symm
  refine wpAny_call (make_map (f := f) I.kIn M.makes M.init (beq_iff_eq.mp M.fn) (codeAny_mono (F.run _ X.stack _ _ ⟨Value.ref (s.heap.objs.size + 1) :: us, []⟩ (Value.ref (s.heap.objs.size + 1) :: (us ++ ds)) _ _ E (hr.make C us [])
    (I2.env0.make C us []) (hb _ (Value.ref (s.heap.objs.size + 1) :: us) I2.kIn hl) r2 hq) fun r s' hq' => ?_))
  cases r with
  | error e => exact hx pins σ _ _ e s' I2 hq'
  | ok fl =>
    cases fl with
    | ret u =>
      obtain ⟨v, H', I3, rv, ev, q3⟩ := I2.after hq'
      subst ev
      exact ⟨rv, ⟨V.ref (s.heap.objs.size + 1), H', I3, rfl, q3⟩⟩
    | next => exact False.elim hq'
    | brk => exact False.elim hq'
    | cont => exact False.elim hq'
theorem pe_make (M : Mk X.K C f) (F : FnOk X.prog X.w X.K X.mg X.base CX k f fd ps sp) (hr : Room (k + 1) X.A) (hg : Gl X x) (hm : X.mg x = some (.ref C)) (hb : Binds X.K fd ps ds) (hd : Vals dvs ds) (hx : Passes CX X E)
    (ha : PA X (e :: es) t) (hdb : (x == ("__debug__" : Str)) = false := by decide) (he : starEach (e :: es) X.env = (false, eval e X.env) :: starEach es X.env := by rfl) (hpl : (backTo pos (starEach es X.env)).any (·.1) = false := by rfl) :
    PE X (.Call (.Name x p) (e :: es) [] pos) (tMake C sp dvs E t) := by
  intro pins s σ H Q I h
  refine wpAny_Call_Name_kw (ld_glob I hg hm ?_ hdb)
  refine PySem.W.callWith_K (h₀ := X.base) I.ok.mod.kin M.kp (thn (ha pos pins s σ H _ I h) fun us s1 ⟨vs, H1, I1, r, q⟩ => ⟨I1.kIn, ?_⟩) he hpl
  exact run_make M F hr hb hd hx I1 r q
end

/-! ### keywords -/
section
variable {X : Cx} {CX : CXT} {k : Nat} {f C : Addr} {fd : FuncData} {ps ks : List Str} {sp : Sp} {E : XK} {x m : Str} {p pos apos kpos : Pos} {e o : Expr} {es : List Expr} {kws : List Keyword} {te ta : TE} {t tk : TA} {nm : Option Str}
/-- how a call with keywords binds: g puts the positional values us and the keywords' values ws (names ks) in the parameters' order, defaults among them -/
structure KBinds (K : PySem.W.Frag) (fd : FuncData) (ps ks : List Str) (g : List Value → List Value → List Value) (gV : List V → List V → List V) : Prop where
  to : ∀ (s : Shared) (us ws : List Value), K.In s.heap → (g us ws).length = ps.length → BindsTo s fd ⟨us, ks.zip ws⟩ (ps.zip (g us ws))
  rel : ∀ {vs : List V} {us : List Value} {zs : List V} {ws : List Value}, Vals vs us → Vals zs ws → Vals (gV vs zs) (g us ws)
variable {g : List Value → List Value → List Value} {gV : List V → List V → List V}
end

/-! ### a def's body keeps its promise -/
/-- names: the parameters first -/
structure FnScope (N P : List Str) (sc : Scope) : Prop where
  kind : sc.kind = .function
  co : sc.isCoroutine = false
  gen : sc.isGenerator = false
  nd : N.Nodup
  pre : N.take P.length = P
  par : ∀ x ∈ P, sc.names.lookup x = some .local ∨ sc.names.lookup x = some .cell
  nofree : ∀ y ∈ sc.names, y.2 ≠ .free

theorem bindL_out {kindOf : Str → Option NameKind} {x : Str} : ∀ {binds : List (Str × Value)} {m : Str → Option Value}, (∀ v, (x, v) ∉ binds) → bindL kindOf binds m x = m x
  | [], _, _ => rfl
  | (n, v) :: r, m, h => by
    unfold bindL
    rw [bindL_out fun w hw => h w (List.mem_cons_of_mem _ hw)]
    split
    · have : x ≠ n := by rintro rfl; exact h v List.mem_cons_self
      simp [this]
    · rfl
theorem bindC_out {kindOf : Str → Option NameKind} {x : Str} : ∀ {binds : List (Str × Value)} {m : Str → Option Value}, (∀ v, (x, v) ∉ binds) → bindC kindOf binds m x = m x
  | [], _, _ => rfl
  | (n, v) :: r, m, h => by
    unfold bindC
    rw [bindC_out fun w hw => h w (List.mem_cons_of_mem _ hw)]
    split
    · rfl
    · have : x ≠ n := by rintro rfl; exact h v List.mem_cons_self
      simp [this]
theorem bindL_get {kindOf : Str → Option NameKind} {x : Str} {v : Value} : ∀ {P : List Str} {vs : List Value} {i : Nat} {m : Str → Option Value}, P.Nodup → P[i]? = some x → vs[i]? = some v → kindOf x = some .local →
    bindL kindOf (P.zip vs) m x = some v
  | [], _, _, _, _, h, _, _ => by simp at h
  | _ :: _, [], _, _, _, _, h, _ => by simp at h
  | p :: P, w :: vs, 0, m, nd, h1, h2, hk => by
    simp at h1 h2; subst h1; subst h2
    show bindL kindOf ((p, w) :: P.zip vs) m p = _
    unfold bindL
    rw [bindL_out fun v hv => (List.nodup_cons.mp nd).1 (List.of_mem_zip hv).1, if_pos hk]
    simp
  | p :: P, w :: vs, i + 1, m, nd, h1, h2, hk => by
    show bindL kindOf ((p, w) :: P.zip vs) m x = _
    unfold bindL
    exact bindL_get (i := i) (List.nodup_cons.mp nd).2 (by simpa using h1) (by simpa using h2) hk
theorem bindC_get {kindOf : Str → Option NameKind} {x : Str} {v : Value} : ∀ {P : List Str} {vs : List Value} {i : Nat} {m : Str → Option Value}, P.Nodup → P[i]? = some x → vs[i]? = some v → kindOf x ≠ some .local →
    bindC kindOf (P.zip vs) m x = some v
  | [], _, _, _, _, h, _, _ => by simp at h
  | _ :: _, [], _, _, _, _, h, _ => by simp at h
  | p :: P, w :: vs, 0, m, nd, h1, h2, hk => by
    simp at h1 h2; subst h1; subst h2
    show bindC kindOf ((p, w) :: P.zip vs) m p = _
    unfold bindC
    rw [bindC_out fun v hv => (List.nodup_cons.mp nd).1 (List.of_mem_zip hv).1, if_neg hk]
    simp
  | p :: P, w :: vs, i + 1, m, nd, h1, h2, hk => by
    show bindC kindOf ((p, w) :: P.zip vs) m x = _
    unfold bindC
    exact bindC_get (i := i) (List.nodup_cons.mp nd).2 (by simpa using h1) (by simpa using h2) hk

/-- the names' values at the entry -/
def start (N : List Str) (vs : List V) : St := vs.map some ++ List.replicate (N.length - vs.length) none

/-- the context of a def's body, at its entry; an exception leaves the frame, then lies as CX says -/
def cxOf (CX : CXT) (P : Program) (w : World) (K : PySem.W.Frag) (mg : Str → Option Value) (base : Heap) (N : List Str) (qual : Str) (scope : Scope) (f : Addr) (cd : Value) (A : Around) (outer : List Env) (s : Shared) (H : Hp) (E : XK) : Cx where
  prog := P
  w := w
  K := K
  mg := mg
  base := base
  A := A.deeper (envOfC qual scope s.heap.objs.size f cd)
  N := N
  s_0 := s
  H_0 := H
  env := envOfC qual scope s.heap.objs.size f cd
  outer := outer
  stack := envOfC qual scope s.heap.objs.size f cd :: outer
  ex := []
  calm := true
  fn := fun _ => true
  pn := []
  xe := fun e s' => wpAny (model P w) (A.deeper (envOfC qual scope s.heap.objs.size f cd)) (leaving (envOfC qual scope s.heap.objs.size f cd) e) (fun _ s'' => CX outer H s E e s'') (fun e' s'' => CX outer H s E e' s'') s'

theorem cell_has {sc : Scope} {n : Nat} {x : Str} (h : sc.names.lookup x = some .cell) : ∃ c, (cellsFrom n sc.names []).lookup x = some c := by
  have q := PySem.W.cellsFrom_some sc.names n [] (.inl h)
  exact Option.isSome_iff_exists.mp q

theorem inv_start {CX : CXT} {P : Program} {w : World} {K : PySem.W.Frag} {mg : Str → Option Value} {base : Heap} {N ps : List Str} {qual : Str} {scope : Scope} {f : Addr} {cd : Value} {A : Around} {outer : List Env} {s s1 : Shared} {H : Hp} {E : XK} {us : List Value} {vs : List V}
    (S : FnScope N ps scope) (hd : A.handled = none) (e0 : Env0 P w K mg base A outer s H) (hl : vs.length = ps.length) (r : Vals vs us)
    (x : InCallC s s.heap.objs.size (bindL (envOfC qual scope s.heap.objs.size f cd).kindOf (ps.zip us) fun _ => none) (cellsFrom (s.heap.objs.size + 1) scope.names []) (bindC (envOfC qual scope s.heap.objs.size f cd).kindOf (ps.zip us) fun _ => none) s1) :
    Inv (cxOf CX P w K mg base N qual scope f cd A outer s H E) [] (start N vs) H s1 := by
  have hpl : ps.length ≤ N.length := by have := congrArg List.length S.pre; rw [List.length_take] at this; omega
  obtain ⟨h1, tk, rfl, hk⟩ := x.done
  have noA : ∀ b : Addr, b ∉ (cxOf CX P w K mg base N qual scope f cd A outer s H E).ex := fun b z => absurd (show b ∈ ([] : List Addr) from z) (by simp)
  refine ⟨⟨e0.mod, S.kind, rfl, rfl, Nat.le_refl _, fun y z c h1 h2 => ?_, fun y hy => ?_, fun y c _ h => ?_, fun _ => hd, Around.frames_deeper e0.frames, .inr ⟨rfl, rfl⟩, fun b z => absurd z (noA b), e0.bs, e0.bsz, fun b _ _ => noA b, fun b z => absurd z (noA b), e0.funs, e0.frf⟩,
    rfl, e0.bare, Un.kept hk, ⟨_, x.toInCall.ns, fun i y v h1 h2 h3 => ?_⟩, fun y c h => ⟨_, x.cell y c h⟩, e0.hok.fresh (Nat.le_refl _), fun y c h => ?_, fun p hp => absurd (show p ∈ ([] : List (Addr × Obj)) from hp) (by simp), e0.hok.kept hk, ?_⟩
  · exact name_of_addr x.apart (PySem.mem_of_lookup h1) (PySem.mem_of_lookup h2)
  · have hy : scope.names.lookup y = some .cell ∨ scope.names.lookup y = some .free := hy
    rcases hy with hy | hy
    · exact cell_has hy
    · exact absurd rfl (S.nofree _ (PySem.mem_of_lookup hy))
  · exact Nat.le_of_lt (x.above y c (PySem.mem_of_lookup h))
  · have hi : i < vs.length := by
      unfold start at h2
      by_cases hi : i < vs.length
      · exact hi
      · rw [List.getElem?_append_right (by simpa using hi)] at h2
        rw [List.getElem?_replicate] at h2
        split at h2 <;> cases h2
    have ha : vs[i]? = some v := by
      unfold start at h2
      rw [List.getElem?_append_left (by simpa using hi), List.getElem?_map] at h2
      cases e : vs[i]? with
      | none => rw [e] at h2; cases h2
      | some a => rw [e] at h2; cases h2; rfl
    obtain ⟨u, hu, rv⟩ := r.get ha
    have hp : ps[i]? = some y := by
      rw [← S.pre, List.getElem?_take_of_lt (by omega)]; exact h1
    have ndP : ps.Nodup := by rw [← S.pre]; exact S.nd.sublist (List.take_sublist _ _)
    refine ⟨u, rv, ?_⟩
    rcases S.par y (List.mem_of_getElem? hp) with k | k
    · exact .inl ⟨k, bindL_get ndP hp hu k⟩
    · obtain ⟨c, e⟩ := cell_has (n := s.heap.objs.size + 1) k
      refine .inr ⟨.inl k, c, e, ?_⟩
      have q := x.cell y c e
      rw [bindC_get ndP hp hu (by show scope.names.lookup y ≠ _; rw [k]; decide)] at q
      exact q
  · exact e0.hok.fresh (Nat.le_of_lt (x.above y c (PySem.mem_of_lookup h)))
  · unfold start
    show _ = N.length
    rw [List.length_append, List.length_map, List.length_replicate]
    omega

/-- THE RULE: a def (or a method) of the text, by its body. The body's reading t is chosen for each entry; it is run at the parameters' values -/
theorem fn_of {CX : CXT} {P : Program} {w : World} {K : PySem.W.Frag} {mg : Str → Option Value} {base : Heap} {k : Nat} {f : Addr} {name qual : Str} {params : Arguments} {body : List Stmt} {scope : Scope} {dV kV doc pm cdv ct oc : Value} {an od : Option Addr}
    {osl : Array (Option Value)} {N ps : List Str} {sp : Sp} (lk : K.lookup f = some ⟨oc, od, .func (PySem.W.fnOf name qual params body scope dV kV doc pm an cdv ct), osl⟩) (hcd : PySem.W.codeIn K cdv qual = true) (S : FnScope N ps scope)
    (len : ∀ vs H Q E, sp vs H Q E → vs.length = ps.length)
    (hbody : ∀ (A : Around) (outer : List Env) (s : Shared) (H : Hp) (vs : List V) (Q : VK) (E : XK), Room k (A.deeper (envOfC qual scope s.heap.objs.size f cdv)) → sp vs H Q E →
      ∃ t, PSs (cxOf CX P w K mg base N qual scope f cdv A outer s H E) body t ∧ t { nx := fun _ H' => Q .non H', rt := Q } (start N vs) H) :
    FnOk P w K mg base CX (k + 1) f (PySem.W.fnOf name qual params body scope dV kV doc pm an cdv ct) ps sp := by
  refine ⟨len, fun A outer s H args us vs Q E hr e0 hb r hsp => ?_⟩
  have hl := len _ _ _ _ hsp
  have KX : K.In s.heap := e0.mod.kin.keeps fun b o e => (e0.bs b o e).1
  have lim : s.heap.NoLimit := e0.mod.nolimit.keeps fun b o e => (e0.bs b o e).1
  have hkind : ∀ y ∈ ps.zip us, scope.names.lookup y.1 = some .local ∨ (scope.names.lookup y.1 = some .cell ∧ ((cellsFrom (s.heap.objs.size + 1) scope.names []).lookup y.1).isSome = true) := fun ⟨n, v⟩ hy => by
    rcases S.par n (List.of_mem_zip hy).1 with q | q
    · exact .inl q
    · exact .inr ⟨q, PySem.W.cellsFrom_some _ _ _ (.inl q)⟩
  refine codeAny_call_function hr.depth (KX _ _ lk) rfl S.co S.gen rfl (PySem.W.codeRec_of KX hcd) (hb _ _ _ _ ?_)
  refine wpAny_newFunctionEnv_cells S.kind hkind fun env he s1 x => ?_
  subst he
  refine ⟨lim.keeps x.toInCall.keep, codeAny_func ?_⟩
  obtain ⟨t, ht, hq⟩ := hbody A outer s H vs Q E (hr.deeper _) hsp
  have I : Inv (cxOf CX P w K mg base N qual scope f cdv A outer s H E) [] (start N vs) H s1 := inv_start S hr.hd e0 hl r x
  refine wpAny_mono (ht [] s1 (start N vs) H _ I hq) (fun fl s' hs => ?_) fun e s' hs => hs
  have fin : ∀ {σ' : St} {H' : Hp} {v : V} {u : Value}, Inv (cxOf CX P w K mg base N qual scope f cdv A outer s H E) [] σ' H' s' → RelV v u → Q v H' → CE outer P w H s Q u s' :=
    fun {σ' H' v u} J rv q => ⟨v, H', J.os, J.bare, J.base, J.hok, rv, q⟩
  cases fl with
  | ret u =>
    obtain ⟨v, σ', H', J, rv, q⟩ := hs
    exact fin J rv q
  | next =>
    obtain ⟨σ', H', J, q⟩ := hs
    exact fin (v := V.non) (u := Value.none) J rfl q
  | brk =>
    obtain ⟨_, _, _, q⟩ := hs
    exact False.elim q
  | cont =>
    obtain ⟨_, _, _, q⟩ := hs
    exact False.elim q
end L2

namespace L2
open PySem PySem.Spec PyProof.Rows
section
variable {X : Cx} {x : Str} {p pos : Pos} {e : Expr} {es : List Expr} {t : TA} {id T : String} {r : List V → Hp → VK → Prop}

def tCB (r : List V → Hp → VK → Prop) (t : TA) : TE := fun σ H Q => t σ H fun vs H1 => r vs H1 Q
/-- f(e, ..), f a built-in function -/
theorem pe_callB (hc : CallR X (.builtin id) r) (hg : Gl X x) (hm : X.mg x = none) (hv : bootBuiltins x = some (.builtin id)) (ha : PA X (e :: es) t) (hn : x ≠ "__name__" := by decide) (hdb : (x == ("__debug__" : Str)) = false := by decide)
    (he : starEach (e :: es) X.env = (false, eval e X.env) :: starEach es X.env := by rfl) (hpl : (backTo pos (starEach es X.env)).any (·.1) = false := by rfl) : PE X (.Call (.Name x p) (e :: es) [] pos) (tCB r t) := by
  intro pins s σ H Q I h
  refine wpAny_Call_Name_kw (ld_blt I hg hm hv ?_ hn hdb)
  exact PyProof.Rows.callWith_builtin1 (thn (ha pos pins s σ H _ I h) fun us s1 ⟨vs, H1, I1, r1, q1⟩ => hc pins s1 σ H1 vs us Q I1 r1 q1) he hpl
/-- T(e, ..), T a built-in type -/
theorem pe_callTy (hc : CallR X (.type T) r) (hg : Gl X x) (hm : X.mg x = none) (hv : bootBuiltins x = some (.type T)) (ha : PA X (e :: es) t) (hn : x ≠ "__name__" := by decide) (hdb : (x == ("__debug__" : Str)) = false := by decide)
    (he : starEach (e :: es) X.env = (false, eval e X.env) :: starEach es X.env := by rfl) (hpl : (backTo pos (starEach es X.env)).any (·.1) = false := by rfl) : PE X (.Call (.Name x p) (e :: es) [] pos) (tCB r t) := by
  intro pins s σ H Q I h
  refine wpAny_Call_Name_kw (ld_blt I hg hm hv ?_ hn hdb)
  exact PyProof.Rows.callWith_type1 (thn (ha pos pins s σ H _ I h) fun us s1 ⟨vs, H1, I1, r1, q1⟩ => hc pins s1 σ H1 vs us Q I1 r1 q1) he hpl
end
end L2

namespace HT
open PySem PyProof.Rows

section
open PySem.SeqAt
open PySem.AutoSeq1 (wpAny_loadPart')
open PySem.MeetsSeq PySem.MeetsSeq2 PySem.MeetsSeq3

end

section
variable {prog : Program} {w : World} {A : Around} {E : Value → Shared → Prop} {s : Shared}

/-! ### t[a:b], not the whole -/
/-- a slice's bound as a place among n (d where it is left out) -/
def sIx (n d : Nat) : Option Int → Nat
  | none => d
  | some v => if v < 0 then (v + (n : Int)).toNat else min v.toNat n
theorem sIx_nat (n d k : Nat) : sIx n d (some (k : Int)) = min k n := by
  show (if (k : Int) < 0 then ((k : Int) + (n : Int)).toNat else min (k : Int).toNat n) = min k n
  rw [if_neg (by omega), Int.toNat_natCast]
end
end HT

namespace L2
open PySem PySem.Spec PyProof.Rows

/-! ### the parts of a slice -/
abbrev TO := St → Hp → (Option Int → Hp → Prop) → Prop
/-- a slice's part (left out, or an int) -/
def PO (X : Cx) (e : Option Expr) (t : TO) : Prop :=
  ∀ (pins : List (Addr × Obj)) (s : Shared) (σ : St) (H : Hp) (Q : Option Int → Hp → Prop), Inv X pins σ H s → t σ H Q →
    wpAny (model X.prog X.w) X.A (evalPart e X.env) (fun u s' => ∃ o H', Inv X pins σ H' s' ∧ IsPart u o ∧ Q o H') X.xe s
def tNoPart : TO := fun _ H Q => Q none H
def tPart (t : TE) : TO := fun σ H Q => t σ H fun x H1 => ∃ i, x = .int i ∧ Q (some i) H1

section
variable {X : Cx} {e : Expr} {te : TE} {lo hi : Option Expr} {tl th : TO} {pos p2 : Pos}

theorem po_none : PO X none tNoPart := by
  intro pins s σ H Q I h
  rw [evalPart_none]
  exact wpAny_pure ⟨none, H, I, .none, h⟩
theorem po_some (h : PE X e te) : PO X (some e) (tPart te) := by
  intro pins s σ H Q I hw
  rw [evalPart_some]
  refine thn (h pins s σ H _ I hw) fun u s1 ⟨x, H1, I1, r1, q1⟩ => ?_
  obtain ⟨i, rfl, q⟩ := q1
  obtain ⟨t, rfl⟩ := r1
  exact ⟨some i, H1, I1, .int i t, q⟩

/-- what a slice of a value is, by values: the slice object stands at sl -/
def SlR (X : Cx) (r : V → Option Int → Option Int → Hp → VK → Prop) : Prop :=
  ∀ (pins : List (Addr × Obj)) (s : Shared) (σ : St) (H : Hp) (x : V) (v vl vu : Value) (lo hi : Option Int) (sl : Addr) (Q : VK), Inv X pins σ H s → RelV x v → s.heap.IsSliceOf sl vl vu .none → IsPart vl lo → IsPart vu hi → r x lo hi H Q →
    ∃ T id, typeLookup (.type T) "__getitem__" = pure (some (.builtin id)) ∧ s.TypeIs v T ∧ wpAny (model X.prog X.w) X.A (getItem v (.ref sl)) (EP X pins σ Q) X.xe s
theorem SlR.or {r r' : V → Option Int → Option Int → Hp → VK → Prop} (h : SlR X r) (h' : SlR X r') : SlR X (fun x lo hi H Q => r x lo hi H Q ∨ r' x lo hi H Q) := by
  intro pins s σ H x v vl vu lo hi sl Q I rx hs pl pu q
  rcases q with q | q
  · exact h pins s σ H x v vl vu lo hi sl Q I rx hs pl pu q
  · exact h' pins s σ H x v vl vu lo hi sl Q I rx hs pl pu q
def tSl (r : V → Option Int → Option Int → Hp → VK → Prop) (te : TE) (tl th : TO) : TE := fun σ H Q => te σ H fun x H1 => tl σ H1 fun l H2 => th σ H2 fun u H3 => r x l u H3 Q
/-- a[lo:hi], any a -/
theorem pe_slice {r : V → Option Int → Option Int → Hp → VK → Prop} (hr : SlR X r) (he : PE X e te) (hl : PO X lo tl) (hu : PO X hi th) : PE X (.Subscript e (.Slice lo hi none p2) pos) (tSl r te tl th) := by
  intro pins s σ H Q I h
  refine Subscript_ (thn (he pins s σ H _ I h) fun v s1 ⟨x, H1, I1, r1, q1⟩ => ?_)
  refine wpAny_Slice (thn (hl pins s1 σ H1 _ I1 q1) fun vl s2 ⟨l, H2, I2, pl, q2⟩ => thn (hu pins s2 σ H2 _ I2 q2) fun vu s3 ⟨u, H3, I3, pu, q3⟩ => ?_)
  rw [evalPart_none]
  refine wpAny_pure ?_
  have I4 : Inv X pins σ H3 { s3 with heap := s3.heap.push { cls := .type "slice", data := .fields #[vl, vu, .none] } } := I3.kept (t' := s3.toks) fun b ob q => Heap.get?_push_of_some _ q
  obtain ⟨T, id, hT, ht, hg⟩ := hr pins { s3 with heap := s3.heap.push { cls := .type "slice", data := .fields #[vl, vu, .none] } } σ H3 x v vl vu l u s3.heap.objs.size Q I4 r1 (Heap.IsSliceOf.new ..) pl pu q3
  show wpAny (model X.prog X.w) X.A (subscriptTail e (.Slice lo hi none p2) v (.ref s3.heap.objs.size)) (EP X pins σ Q) X.xe { s3 with heap := s3.heap.push { cls := .type "slice", data := .fields #[vl, vu, .none] } }
  exact tail_any (ops := [.ref s3.heap.objs.size, v]) ht hT hg (by with_unfolding_all rfl)

/-- the items of xs[lo:hi] -/
def cutV (xs : List V) (lo hi : Option Int) : List V := (xs.drop (HT.sIx xs.length 0 lo)).take (HT.sIx xs.length xs.length hi - HT.sIx xs.length 0 lo)
theorem cutV_length (xs : List V) (lo hi : Option Int) : (cutV xs lo hi).length ≤ xs.length := by
  unfold cutV
  rw [List.length_take, List.length_drop]
  omega
/-! ### t < u, t + u -/
end
end L2

namespace L2
open PySem PySem.Spec PyProof.Rows

/-! ### places -/
/-- the place that an index of any sign means -/
def ixN (n : Nat) (i : Int) : Option Nat := if 0 ≤ i then (if i < n then some i.toNat else none) else if -(n : Int) ≤ i then some (i + n).toNat else none
def atI {α : Type} (xs : List α) (i : Int) : Option α := (ixN xs.length i).bind fun j => xs[j]?
theorem ixN_seq {n : Nat} {i : Int} {j : Nat} (h : ixN n i = some j) : seqIndex? i n = some j ∧ j < n ∧ -(n : Int) ≤ i ∧ i < n := by
  unfold ixN at h
  by_cases h0 : 0 ≤ i
  · rw [if_pos h0] at h
    by_cases h1 : i < n
    · rw [if_pos h1] at h
      have e : i.toNat = j := Option.some.inj h
      exact ⟨by rw [seqIndex_of h0 h1, e], by omega, by omega, h1⟩
    · rw [if_neg h1] at h; cases h
  · rw [if_neg h0] at h
    by_cases h1 : -(n : Int) ≤ i
    · rw [if_pos h1] at h
      have e : (i + n).toNat = j := Option.some.inj h
      exact ⟨by rw [seqIndex_neg (by omega) h1, e], by omega, h1, by omega⟩
    · rw [if_neg h1] at h; cases h
theorem atI_get {α : Type} {xs : List α} {i : Int} {v : α} (h : atI xs i = some v) : ∃ j, seqIndex? i xs.length = some j ∧ xs[j]? = some v ∧ j < xs.length ∧ -(xs.length : Int) ≤ i ∧ i < xs.length := by
  unfold atI at h
  cases e : ixN xs.length i with
  | none => rw [e] at h; cases h
  | some j =>
    rw [e] at h
    obtain ⟨h1, h2, h3, h4⟩ := ixN_seq e
    exact ⟨j, h1, h, h2, h3, h4⟩
theorem atI_nat {α : Type} {xs : List α} {j : Nat} {v : α} (h : xs[j]? = some v) : atI xs (j : Int) = some v := by
  have hj : j < xs.length := (List.getElem?_eq_some_iff.mp h).1
  have e : ixN xs.length (j : Int) = some j := by
    unfold ixN
    rw [if_pos (by omega), if_pos (by omega)]; simp
  unfold atI; rw [e]; exact h
/-! ### what may be subscripted -/
/-- what stands as an index of a plain subscript -/
def PlainIx (b : Expr) : Prop := ∀ o i, subscripted b false o i = operate [o, i] (getItem o i)
/-- a subscript by values -/
def IxR (X : Cx) (r : R2) : Prop :=
  ∀ (value slice : Expr) (pins : List (Addr × Obj)) (s : Shared) (σ : St) (H : Hp) (x y : V) (v u : Value) (Q : VK), Inv X pins σ H s → RelV x v → RelV y u → r x y H Q →
    subscripted slice false v u = operate [v, u] (getItem v u) → wpAny (model X.prog X.w) X.A (subscriptTail value slice v u) (EP X pins σ Q) X.xe s
/-- a call of a builtin's method by values: the receiver, the arguments -/
def MtR (X : Cx) (id : String) (r : V → List V → Hp → VK → Prop) : Prop :=
  ∀ (pins : List (Addr × Obj)) (s : Shared) (σ : St) (H : Hp) (x : V) (xs : List V) (v : Value) (us : List Value) (Q : VK), Inv X pins σ H s → RelV x v → Vals xs us → r x xs H Q →
    wpAny (model X.prog X.w) X.A (call (.builtin id) (v :: us)) (EP X pins σ Q) X.xe s
section
variable {X : Cx} {a b : Expr} {ta tb : TE} {pos : Pos}
theorem IxR.or {r r' : R2} (h : IxR X r) (h' : IxR X r') : IxR X (fun x y H Q => r x y H Q ∨ r' x y H Q) := by
  intro value slice pins s σ H x y v u Q I rx ry q hs
  rcases q with q | q
  · exact h value slice pins s σ H x y v u Q I rx ry q hs
  · exact h' value slice pins s σ H x y v u Q I rx ry q hs
theorem MtR.or {id : String} {r r' : V → List V → Hp → VK → Prop} (h : MtR X id r) (h' : MtR X id r') : MtR X id (fun x xs H Q => r x xs H Q ∨ r' x xs H Q) := by
  intro pins s σ H x xs v us Q I rx rs q
  rcases q with q | q
  · exact h pins s σ H x xs v us Q I rx rs q
  · exact h' pins s σ H x xs v us Q I rx rs q
/-- a[b] -/
theorem pe_ix {r : R2} (hr : IxR X r) (ha : PE X a ta) (hb : PE X b tb) (hs : PlainIx b) : PE X (.Subscript a b pos) (tOp r ta tb) := by
  intro pins s σ H Q I h
  exact Subscript_ (binT ha hb I h fun v u s2 x y H2 I2 rx ry q => hr a b pins s2 σ H2 x y v u Q I2 rx ry q (hs _ _))

def rIxL (K : PySem.W.Frag) : R2 := fun x y H Q => ∃ p xs i v, x = .ref p ∧ y = .int i ∧ SqL K H p xs ∧ atI xs i = some v ∧ Q v H
theorem ix_list : IxR X (rIxL X.K) := by
  intro value slice pins s σ H x y v u Q I rx ry h hs
  obtain ⟨p, xs, i, z, rfl, rfl, hq, he, q⟩ := h
  cases rx
  obtain ⟨t, rfl⟩ := ry
  obtain ⟨its, r, pl, hz⟩ := I.list hq
  obtain ⟨j, h1, h2, h3, h4, h5⟩ := atI_get he
  obtain ⟨w, ew, rw'⟩ := r.get h2
  have hl := r.length
  have hn := line63
  have fin : EP X pins σ Q w s := ⟨z, H, I, rw', q⟩
  by_cases h0 : 0 ≤ i
  · have hj : i.toNat = j := by
      rw [seqIndex_of h0 h5] at h1
      exact Option.some.inj h1
    exact item_listR pl.isList h0 (by omega) (by rw [hj]; simpa using ew) fin hs
  · have hj : (i + (its.toArray.size : Int)).toNat = j := by
      rw [seqIndex_neg (by omega) h4] at h1
      rw [List.size_toArray, ← hl]
      exact Option.some.inj h1
    exact subscriptTail_builtinR (x := w) pl.isList.typeIs slot_list_getitem.lookup
      (wpAny_getItem_list_neg (Q := fun r s' => r = w ∧ EP X pins σ Q r s') pl.isList (by omega) (by rw [List.size_toArray] <;> omega) (by omega) (by rw [hj]; simpa using ew) ⟨rfl, fin⟩) hs
/-! ### xs[i] = v, any sign -/
/-- the list's object behind a store -/
theorem mapSeq_set (its : List Value) (n j : Nat) (u : Value) : Obj.mapSeq (·.setIfInBounds j u) { cls := .type "list", data := .seq its.toArray n } = { cls := .type "list", data := .seq (its.set j u).toArray n } := by
  simp [Obj.mapSeq]
theorem Inv.lst {pins : List (Addr × Obj)} {σ : St} {H : Hp} {s : Shared} {p : Addr} {xs : List V} (I : Inv X pins σ H s) (h : H p = some (.lst xs)) :
    ∃ (its : List Value) (n : Nat), Vals xs its ∧ s.heap.get? p = some { cls := .type "list", data := .seq its.toArray n } ∧ xs.length ≤ sizeLine := by
  obtain ⟨z, its, n, r, e⟩ := I.hok p _ h
  exact ⟨its, n, r, e, z⟩
/-- the list at p is written by an update of its object -/
theorem Inv.lstUpd {pins : List (Addr × Obj)} {σ : St} {H : Hp} {s : Shared} {p : Addr} {xs ys : List V} {its its' : List Value} {n n' : Nat} {f : Obj → Obj} (I : Inv X pins σ H s) (h : H p = some (.lst xs))
    (ho : s.heap.get? p = some { cls := .type "list", data := .seq its.toArray n }) (hf : f { cls := .type "list", data := .seq its.toArray n } = { cls := .type "list", data := .seq its'.toArray n' }) (r : Vals ys its') (hz : ys.length ≤ sizeLine) (t : Nat) :
    Inv X pins σ (upd H p (.lst ys)) { s with heap := s.heap.update p f, toks := t } := by
  have e : (s.heap.update p f).get? p = some { cls := .type "list", data := .seq its'.toArray n' } := by
    rw [Heap.get?_update_self f ho (by rw [hf] <;> rfl), hf]
  refine I.write (x := p) (e := p) (by rw [h]; trivial) (.inl rfl) (fun b u hb q => (Heap.get?_update_other _ _ (Ne.symm hb)).trans q) ⟨_, e⟩ ?_
  exact ⟨hz, its', n', r, e⟩
def rSetL : V → V → V → Hp → (Hp → Prop) → Prop := fun o i v H Q => ∃ p xs k j, o = .ref p ∧ i = .int k ∧ H p = some (.lst xs) ∧ ixN xs.length k = some j ∧ Q (upd H p (.lst (xs.set j v)))
theorem set_list : PSet X rSetL := by
  intro pins s σ H o i v ov iv u Q I ro ri rv h
  obtain ⟨p, xs, k, j, rfl, rfl, hp, hj, q⟩ := h
  cases ro
  obtain ⟨t, rfl⟩ := ri
  obtain ⟨its, n, r, ho, hz⟩ := I.lst hp
  obtain ⟨h1, h2, h3, h4⟩ := ixN_seq hj
  have hl := r.length
  have hn := line63
  have I' : Inv X pins σ (upd H p (.lst (xs.set j v))) { s with heap := s.heap.update p (Obj.mapSeq (·.setIfInBounds j u)) } :=
    I.lstUpd hp ho (mapSeq_set its n j u) (r.set rv j) (by rw [List.length_set]; exact hz) s.toks
  by_cases h0 : 0 ≤ k
  · have hk : k.toNat = j := by
      rw [seqIndex_of h0 h4] at h1
      exact Option.some.inj h1
    exact PySem.W.ki_setAt ho h0 (by omega) (by rw [List.size_toArray, ← hl]; exact h4) (by rw [hk]; exact ⟨_, I', q⟩)
  · have hk : (k + (its.toArray.size : Int)).toNat = j := by
      rw [seqIndex_neg (by omega) h3] at h1
      rw [List.size_toArray, ← hl]
      exact Option.some.inj h1
    exact PySem.W.ki_setBack ho (by omega) (by rw [List.size_toArray, ← hl]; exact h3) (by omega) (by rw [hk]; exact ⟨_, I', q⟩)

/-! ### slices -/
theorem slice_bounds (lo hi : Option Int) (n : Nat) : (sliceBounds lo hi none n).1 = ((HT.sIx n 0 lo : Nat) : Int) ∧ (sliceBounds lo hi none n).2.1 = ((HT.sIx n n hi : Nat) : Int) ∧ (sliceBounds lo hi none n).2.2 = 1 := by
  refine ⟨?_, ?_, rfl⟩
  · cases lo with
    | none => simp [sliceBounds, HT.sIx]
    | some i =>
      simp only [sliceBounds, HT.sIx, Option.getD_none, show (1 : Int) > 0 by decide, if_true]
      by_cases h : i < 0
      · simp only [h, if_true] <;> omega
      · simp only [h, if_false] <;> omega
  · cases hi with
    | none => simp [sliceBounds, HT.sIx]
    | some i =>
      simp only [sliceBounds, HT.sIx, Option.getD_none, show (1 : Int) > 0 by decide, if_true]
      by_cases h : i < 0
      · simp only [h, if_true] <;> omega
      · simp only [h, if_false] <;> omega
theorem slicePick_cut (its : List Value) (lo hi : Option Int) : slicePick its.toArray lo hi none = ((its.drop (HT.sIx its.length 0 lo)).take (HT.sIx its.length its.length hi - HT.sIx its.length 0 lo)).toArray := by
  obtain ⟨h1, h2, h3⟩ := slice_bounds lo hi its.toArray.size
  unfold slicePick
  rw [h1, h2, h3]
  simp only [sliceRange_one, pick_run, List.size_toArray] <;> rfl
/-- xs[lo:hi] of a list: a new list -/
def rSlL (K : PySem.W.Frag) : V → Option Int → Option Int → Hp → VK → Prop := fun x lo hi H Q => ∃ a xs, x = .ref a ∧ SqL K H a xs ∧ ∀ p, H p = none → Q (.ref p) (upd H p (.lst (cutV xs lo hi)))
theorem sl_list : SlR X (rSlL X.K) := by
  intro pins s σ H x v vl vu lo hi sl Q I rx hs pl pu h
  obtain ⟨a, xs, rfl, hx, q⟩ := h
  cases rx
  obtain ⟨its, r, ht, hz⟩ := I.list hx
  have hlen := r.length
  refine ⟨"list", _, slot_list_getitem.lookup, ht.isList.typeIs, ?_⟩
  refine wpAny_getItem_list_slice ht.isList hs pl pu .none (by simp) ?_ (by rw [List.size_toArray] <;> omega)
  rw [slicePick_cut, ← hlen]
  refine ⟨.ref s.heap.objs.size, _, I.laid (t' := s.toks) (o := .lst (cutV xs lo hi)) (fun b ob q => Heap.get?_push_of_some _ q) (Nat.le_refl _) ?_, rfl, q _ (I.hok.fresh (Nat.le_refl _))⟩
  exact ⟨Nat.le_trans (cutV_length xs lo hi) hz, _, 0, (r.drop (HT.sIx xs.length 0 lo)).take (HT.sIx xs.length xs.length hi - HT.sIx xs.length 0 lo), Heap.get?_push_size _ rfl⟩

/-! ### in, not in: flat items -/
def flatV : V → Bool
  | .non => true
  | .bl _ => true
  | .int _ => true
  | .str _ => true
  | _ => false
/-- == of flat values -/
def eqV : V → V → Bool
  | .non, .non => true
  | .bl a, .bl b => a == b
  | .bl a, .int b => (if a then 1 else 0) == b
  | .int a, .bl b => a == (if b then 1 else 0)
  | .int a, .int b => a == b
  | .str a, .str b => a == b
  | _, _ => false
theorem eqAt_V {A : Around} {s : Shared} {y x : V} {u v : Value} (ry : RelV y u) (rx : RelV x v) (fy : flatV y = true) (fx : flatV x = true) : SeqAt.EqAt A s u v (eqV y x) := by
  cases y with
  | non =>
    cases ry
    cases x with
    | non => cases rx; exact SeqAt.EqAt.same _
    | bl b => cases rx; exact SeqAt.EqAt.none_bool b
    | int b => obtain ⟨t, rfl⟩ := rx; exact SeqAt.EqAt.none_int b t
    | str b => obtain ⟨t, rfl⟩ := rx; exact SeqAt.EqAt.none_str b t
    | _ => exact absurd (show false = true from fx) Bool.false_ne_true
  | bl a =>
    cases ry
    cases x with
    | non => cases rx; exact SeqAt.EqAt.bool_none a
    | bl b => cases rx; exact SeqAt.EqAt.bool_bool a b
    | int b => obtain ⟨t, rfl⟩ := rx; exact SeqAt.EqAt.bool_int a b t
    | str b => obtain ⟨t, rfl⟩ := rx; exact SeqAt.EqAt.bool_str a b t
    | _ => exact absurd (show false = true from fx) Bool.false_ne_true
  | int a =>
    obtain ⟨t', rfl⟩ := ry
    cases x with
    | non => cases rx; exact SeqAt.EqAt.int_none a t'
    | bl b => cases rx; exact SeqAt.EqAt.int_bool a t' b
    | int b => obtain ⟨t, rfl⟩ := rx; exact SeqAt.EqAt.int_int a t' b t
    | str b => obtain ⟨t, rfl⟩ := rx; exact SeqAt.EqAt.int_str a t' b t
    | _ => exact absurd (show false = true from fx) Bool.false_ne_true
  | str a =>
    obtain ⟨t', rfl⟩ := ry
    cases x with
    | non => cases rx; exact SeqAt.EqAt.str_none a t'
    | bl b => cases rx; exact SeqAt.EqAt.str_bool a t' b
    | int b => obtain ⟨t, rfl⟩ := rx; exact SeqAt.EqAt.str_int a t' b t
    | str b => obtain ⟨t, rfl⟩ := rx; exact SeqAt.EqAt.str_str a t' b t
    | _ => exact absurd (show false = true from fx) Bool.false_ne_true
  | _ => exact absurd (show false = true from fy) Bool.false_ne_true
/-- the items' answers, read off the values (a value's own answer does not lean on its token) -/
def eqU (x : V) (u : Value) : Bool := match u with
  | .none => eqV .non x
  | .bool b => eqV (.bl b) x
  | .int i _ => eqV (.int i) x
  | .str z _ => eqV (.str z) x
  | _ => false
theorem eqU_of {x y : V} {u : Value} (r : RelV y u) (f : flatV y = true) : eqU x u = eqV y x := by
  cases y with
  | non => cases r; rfl
  | bl b => cases r; rfl
  | int i => obtain ⟨t, rfl⟩ := r; rfl
  | str z => obtain ⟨t, rfl⟩ := r; rfl
  | _ => exact absurd (show false = true from f) Bool.false_ne_true
theorem any_eqU {x : V} : ∀ {xs : List V} {us : List Value}, Vals xs us → xs.all flatV = true → us.any (eqU x) = xs.any fun y => eqV y x
  | _, _, .nil, _ => rfl
  | y :: xs, u :: us, .cons r t, f => by
    rw [List.all_cons, Bool.and_eq_true] at f
    rw [List.any_cons, List.any_cons, eqU_of r f.1, any_eqU t f.2]
theorem mem_eqAt {A : Around} {s : Shared} {x : V} {v : Value} (rx : RelV x v) (fx : flatV x = true) : ∀ {xs : List V} {us : List Value}, Vals xs us → xs.all flatV = true → ∀ u ∈ us, SeqAt.EqAt A s u v (eqU x u)
  | _, _, .nil, _ => fun u hu => by cases hu
  | y :: xs, u :: us, .cons r t, f => fun u' hu => by
    rw [List.all_cons, Bool.and_eq_true] at f
    rcases List.mem_cons.mp hu with rfl | hu
    · rw [eqU_of r f.1]; exact eqAt_V r rx f.1 fx
    · exact mem_eqAt rx fx t f.2 u' hu
def inV (x : V) (xs : List V) : Bool := xs.any fun y => eqV y x
/-- x in a list or tuple of flat items -/
def rIn (K : PySem.W.Frag) (neg : Bool) : R2 := fun x y H Q => ∃ p xs, y = .ref p ∧ (SqL K H p xs ∨ SqT K H p xs) ∧ flatV x = true ∧ xs.all flatV = true ∧ Q (.bl (if neg then !inV x xs else inV x xs)) H
theorem op_in_seq : OpR X (compareOp .In) (rIn X.K false) := by
  intro pins s σ H x y v u Q I rx ry h
  obtain ⟨p, xs, rfl, hq, fx, fs, q⟩ := h
  cases ry
  rcases hq with hq | hq
  · obtain ⟨its, r, pl, hz⟩ := I.list hq
    refine SeqAt.in_listAt (eqU x) pl.isList (fun w hw => mem_eqAt rx fx r fs w (by simpa using hw)) ⟨.bl _, H, I, rfl, ?_⟩
    rw [show its.toArray.any (eqU x) = its.any (eqU x) by simp, any_eqU r fs]
    exact q
  · obtain ⟨its, r, pl, hz⟩ := I.tuple hq
    refine SeqAt.in_tupleAt (eqU x) pl (fun w hw => mem_eqAt rx fx r fs w (by simpa using hw)) ⟨.bl _, H, I, rfl, ?_⟩
    rw [show its.toArray.any (eqU x) = its.any (eqU x) by simp, any_eqU r fs]
    exact q
/-! ### len, list(x), tuple(x) of any list or tuple that is read -/
theorem call_len_seq : CallR X (.builtin "len") (fun xs H Q => ∃ p ys, xs = [.ref p] ∧ (SqL X.K H p ys ∨ SqT X.K H p ys) ∧ Q (.int ys.length) H) := by
  intro pins s σ H xs us Q I r h
  obtain ⟨p, ys, rfl, hq, q⟩ := h
  obtain ⟨u, rfl, rx⟩ := vals1 r
  cases rx
  have hn := line63
  rcases hq with hq | hq
  · obtain ⟨its, r', pl, hz⟩ := I.list hq
    have hlen := r'.length
    exact Calls.call_len_list pl.isList (by simp only [List.size_toArray] <;> omega) ⟨.int ys.length, H, I.tok _, ⟨s.toks + 1, by rw [List.size_toArray, hlen]⟩, q⟩
  · obtain ⟨its, r', pl, hz⟩ := I.tuple hq
    have hlen := r'.length
    exact len_tuple pl (by simp only [List.size_toArray] <;> omega) ⟨.int ys.length, H, I.tok _, ⟨s.toks + 1, by rw [List.size_toArray, hlen]⟩, q⟩
theorem CallR.or {f : Value} {r r' : List V → Hp → VK → Prop} (h : CallR X f r) (h' : CallR X f r') : CallR X f (fun xs H Q => r xs H Q ∨ r' xs H Q) := by
  intro pins s σ H xs us Q I rs q
  rcases q with q | q
  · exact h pins s σ H xs us Q I rs q
  · exact h' pins s σ H xs us Q I rs q
theorem call_list_of : CallR X (.type "list") (fun xs H Q => ∃ p ys, xs = [.ref p] ∧ (SqL X.K H p ys ∨ SqT X.K H p ys) ∧ ∀ l, H l = none → Q (.ref l) (upd H l (.lst ys))) := by
  intro pins s σ H xs us Q I r h
  obtain ⟨p, ys, rfl, hq, q⟩ := h
  obtain ⟨u, rfl, rx⟩ := vals1 r
  cases rx
  have fin : ∀ (its : List Value), Vals ys its → ys.length ≤ sizeLine → ∀ (h' : Heap) (c' : Nat), (∀ b o', s.heap.get? b = some o' → h'.get? b = some o') →
      h'.get? s.heap.objs.size = some { cls := .type "list", dict := none, data := .seq its.toArray c', slots := #[] } → EP X pins σ Q (.ref s.heap.objs.size) { s with heap := h' } := fun its r' hz h' c' kp e =>
    ⟨.ref s.heap.objs.size, _, I.laid (t' := s.toks) kp (Nat.le_refl _) (show ObjOk X.prog X.w _ h' _ (.lst ys) from ⟨hz, its, c', r', e⟩), rfl, q _ (I.hok.fresh (Nat.le_refl _))⟩
  rcases hq with hq | hq
  · obtain ⟨its, r', pl, hz⟩ := I.list hq
    have hlen := r'.length
    obtain ⟨o, ho, hc, n, hd⟩ := pl.isList
    exact call_list_seq p (.inl rfl) ho hc hd (fun h' c' kp e => fin its r' hz h' c' kp e) (by simp only [List.size_toArray] <;> omega)
  · obtain ⟨its, r', pl, hz⟩ := I.tuple hq
    have hlen := r'.length
    obtain ⟨o, ho, hc, n, hd⟩ := pl
    exact call_list_seq p (.inr rfl) ho hc hd (fun h' c' kp e => fin its r' hz h' c' kp e) (by simp only [List.size_toArray] <;> omega)
/-! ### the call of a builtin's method: o.m(..) -/
/-- the value is of that builtin type -/
def tyV (K : PySem.W.Frag) (T : String) (x : V) (H : Hp) : Prop := match x with
  | .str _ => T = "str"
  | .int _ => T = "int"
  | .ref p => (T = "list" ∧ ∃ xs, SqL K H p xs) ∨ (T = "tuple" ∧ ∃ o, K.lookup p = some o ∧ o.cls = .type "tuple" ∧ o.dict = none) ∨
      (T = "dict" ∧ ((∃ kvs, H p = some (.dK kvs)) ∨ ∃ kvs, H p = some (.dT kvs))) ∨ (T = "set" ∧ ∃ S n, H p = some (.set S n))
  | _ => False
theorem tyV_is {pins : List (Addr × Obj)} {σ : St} {H : Hp} {s : Shared} {T : String} {x : V} {v : Value} (I : Inv X pins σ H s) (r : RelV x v) (ty : tyV X.K T x H) :
    s.TypeIs v T ∧ ∀ a, v = .ref a → ∃ ob, s.heap.get? a = some ob ∧ ob.dict = none := by
  cases x with
  | str z =>
    obtain ⟨t, rfl⟩ := r
    cases (show T = "str" from ty)
    exact ⟨typeIs_str s z t, fun _ e => nomatch e⟩
  | int i =>
    obtain ⟨t, rfl⟩ := r
    cases (show T = "int" from ty)
    exact ⟨typeIs_int s i t, fun _ e => nomatch e⟩
  | ref p =>
    cases r
    rcases ty with ⟨rfl, xs, hq⟩ | ⟨rfl, o, hk, hc, hd⟩ | ⟨rfl, hk⟩ | ⟨rfl, S, n, hk⟩
    · obtain ⟨its, _, pl, _⟩ := I.list hq
      refine ⟨pl.isList.typeIs, fun a e => ?_⟩
      cases e
      obtain ⟨o, n, e, c, hd, _⟩ := pl
      exact ⟨o, e, hd⟩
    · refine ⟨⟨o, I.kIn p o hk, hc⟩, fun a e => ?_⟩
      cases e
      exact ⟨o, I.kIn _ o hk, hd⟩
    · have z : ∃ o, s.heap.get? p = some o ∧ o.ExactDict := by
        rcases hk with ⟨kvs, hk⟩ | ⟨kvs, hk⟩
        · obtain ⟨_, _, _, _, o, _, _, e, ex, _⟩ := I.hok p _ hk
          exact ⟨o, e, ex⟩
        · obtain ⟨_, _, _, _, o, _, _, e, ex, _⟩ := I.hok p _ hk
          exact ⟨o, e, ex⟩
      obtain ⟨o, e, ex⟩ := z
      refine ⟨⟨o, e, ex.1⟩, fun a e2 => ?_⟩
      cases e2
      exact ⟨o, e, ex.2.1⟩
    · obtain ⟨o, _, _, _, e, ex, _⟩ := I.hok p _ hk
      refine ⟨⟨o, e, ex.1⟩, fun a e2 => ?_⟩
      cases e2
      exact ⟨o, e, ex.2.1⟩
  | _ => exact False.elim ty
def tBM (K : PySem.W.Frag) (T : String) (r : V → List V → Hp → VK → Prop) (to : TE) (t : TA) : TE := fun σ H Q => to σ H fun x H1 => tyV K T x H1 ∧ t σ H1 fun xs H2 => r x xs H2 Q
variable {o e : Expr} {es : List Expr} {to : TE} {t : TA} {name : Str} {apos cpos : Pos} {T id : String} {r : V → List V → Hp → VK → Prop}
theorem pe_bm (pa : PlainAttrs T) (slot : Slot T name id) (hty : typeOf (.builtin id) = pure (.type "method_descriptor")) (hm : MtR X id r) (ho : PE X o to) (ha : PA X (e :: es) t)
    (hbase : attributeBase o name X.env (eval o X.env) = eval o X.env := by rfl)
    (hfew : ((backTo cpos (starEach (e :: es) X.env)).all (fun x => !x.1) && (backToKw cpos (keywordEach [] X.env)).all (fun x => x.1.isSome)
      && decide ((e :: es).length + ([] : List Keyword).length + (if ([] : List Keyword).isEmpty then 0 else 1) < 30)) = true := by rfl)
    (hline : (apos.endLine == cpos.line) = true := by rfl) (hs : starEach (e :: es) X.env = (false, eval e X.env) :: starEach es X.env := by rfl) (hplain : (backTo cpos (starEach es X.env)).any (·.1) = false := by rfl) :
    PE X (.Call (.Attribute o name apos) (e :: es) [] cpos) (tBM X.K T r to t) := by
  intro pins s σ H Q I h
  refine wpAny_Call_method_late hbase hfew hline rfl (thn (ho pins s σ H _ I h) fun v s1 ⟨x, H1, I1, r1, ty, q1⟩ => ?_)
  obtain ⟨h1, h2⟩ := tyV_is I1 r1 ty
  refine ⟨T, id, pa, slot, hty, h1, h2, ?_⟩
  have hA := ha cpos pins s1 σ H1 _ I1 q1
  rw [hs] at hA ⊢
  refine Calls.callWith_builtin (by show (false || (backTo cpos (starEach es X.env)).any (·.1)) = false; rw [hplain] <;> rfl) (Calls.evalArgs_plain ?_)
  exact thn hA fun us s2 ⟨vs, H2, I2, r2, q2⟩ => hm pins s2 σ H2 x vs v us Q I2 r1 r2 q2
/- xs.append(e), list.index on a module's tuple .. are MtR facts of 06m -/
end
end L2

namespace L2
open PySem PySem.Spec PyProof.Rows

def MtM (X : Cx) (id : String) (r : V → List V → Hp → VK → Prop) : Prop :=
  ∀ (pins : List (Addr × Obj)) (s : Shared) (σ : St) (H : Hp) (x : V) (xs : List V) (v : Value) (us : List Value) (Q : VK), Inv X pins σ H s → RelV x v → Vals xs us → r x xs H Q →
    wpAny (model X.prog X.w) X.A (call (.builtin id) (v :: us)) (EP X pins σ Q) X.xe s

/-! ### lists of values -/
theorem Vals.one : ∀ {x : V} {us : List Value}, Vals [x] us → ∃ u, us = [u] ∧ RelV x u
  | _, _, .cons r .nil => ⟨_, rfl, r⟩
theorem Vals.two : ∀ {x y : V} {us : List Value}, Vals [x, y] us → ∃ u v, us = [u, v] ∧ RelV x u ∧ RelV y v
  | _, _, _, .cons r (.cons q .nil) => ⟨_, _, rfl, r, q⟩
theorem Vals.zero : ∀ {us : List Value}, Vals [] us → us = []
  | _, .nil => rfl
theorem Vals.rep {xs : List V} {us : List Value} (h : Vals xs us) : ∀ k : Nat, Vals (List.replicate k xs).flatten (List.replicate k us).flatten
  | 0 => .nil
  | k + 1 => by
    rw [List.replicate_succ, List.replicate_succ, List.flatten_cons, List.flatten_cons]
    exact Vals.append h (Vals.rep h k)
theorem foldl_rep (its : List Value) : ∀ (k : Nat) (acc : List Value),
    List.foldl (fun x1 x2 => x1 ++ x2) acc.toArray (List.replicate k its.toArray) = (acc ++ (List.replicate k its).flatten).toArray
  | 0, acc => by simp
  | k + 1, acc => by
    have e : acc.toArray ++ its.toArray = (acc ++ its).toArray := by simp
    have e2 : (acc ++ its) ++ (List.replicate k its).flatten = acc ++ (List.replicate (k + 1) its).flatten := by
      rw [List.replicate_succ, List.flatten_cons, List.append_assoc]
    rw [← e2, ← foldl_rep its k (acc ++ its), ← e, List.replicate_succ, List.foldl_cons]

section
variable {X : Cx} {pins : List (Addr × Obj)} {σ : St} {H : Hp} {s : Shared} {l b : Addr} {xs ys zs : List V}

/-! ### the two steps: a tracked list is rewritten, a new list is laid -/
theorem Inv.lset {its its' : List Value} {n : Nat} {f : Array Value → Array Value} {t' : Nat} (I : Inv X pins σ H s) (hH : H l = some (.lst xs))
    (e : s.heap.get? l = some { cls := .type "list", data := .seq its.toArray n }) (hf : f its.toArray = its'.toArray) (hv : Vals ys its') (hz : ys.length ≤ sizeLine) :
    Inv X pins σ (upd H l (.lst ys)) { s with heap := s.heap.update l (Obj.mapSeq f), toks := t' } := by
  have q := PySem.IsL.update e f
  rw [hf] at q
  refine I.write (x := l) (e := l) (by rw [hH]; exact trivial) (.inl rfl) (fun b' u hb hu => (Heap.get?_update_other s.heap (Obj.mapSeq f) (Ne.symm hb)).trans hu) ⟨_, q⟩ ?_
  exact ⟨hz, its', _, hv, q⟩
theorem Inv.lnew {its : List Value} {t' : Nat} (I : Inv X pins σ H s) (hv : Vals ys its) (hz : ys.length ≤ sizeLine) :
    Inv X pins σ (upd H s.heap.objs.size (.lst ys)) { s with heap := s.heap.push { cls := .type "list", data := .seq its.toArray }, toks := t' } :=
  I.laid (fun _ _ q => Heap.get?_push_of_some _ q) (Nat.le_refl _) ⟨hz, its, 0, hv, Heap.get?_push_size _ rfl⟩
theorem Inv.fresh (I : Inv X pins σ H s) : H s.heap.objs.size = none := I.hok.fresh (Nat.le_refl _)
theorem Inv.lstM (I : Inv X pins σ H s) (hH : H l = some (.lst xs)) : xs.length ≤ sizeLine ∧ ∃ (its : List Value) (n : Nat), Vals xs its ∧ xs.length = its.length ∧ s.heap.get? l = some { cls := .type "list", data := .seq its.toArray n } := by
  obtain ⟨z, its, n, r, e⟩ := I.hok l _ hH
  exact ⟨z, its, n, r, r.length, e⟩

theorem notLongL {n : Nat} (h : n ≤ sizeLine) : Builtin.List.listTooLong n = false := by
  unfold Builtin.List.listTooLong
  exact decide_eq_false (by omega)
end

section
variable {X : Cx}

/-! ### methods -/
def rAppend : V → List V → Hp → VK → Prop := fun x vs H Q => ∃ l xs y, x = .ref l ∧ vs = [y] ∧ H l = some (.lst xs) ∧ xs.length < sizeLine ∧ Q .non (upd H l (.lst (xs ++ [y])))
theorem mt_append : MtM X "list.append" rAppend := by
  intro pins s σ H x vs v us Q I rx rv h
  obtain ⟨l, xs, y, rfl, rfl, hH, hz, q⟩ := h
  cases rx
  obtain ⟨u, rfl, ru⟩ := rv.one
  obtain ⟨z, its, n, r, hl, e⟩ := I.lstM hH
  refine call_meets F.slot_list_append ⟨_, e, rfl⟩ F.entry_list_append (F.args_list_append_2 _ _) (PySem.list_append l its.toArray n u (by rw [List.size_toArray]; omega)) ⟨e, ?_⟩
  refine ⟨.non, _, I.lset (its' := its ++ [u]) hH e (by simp) (r.append (.cons ru .nil)) ?_, rfl, q⟩
  rw [List.length_append, List.length_singleton]
  omega

def rExtend : V → List V → Hp → VK → Prop := fun x vs H Q => ∃ l b xs zs, x = .ref l ∧ vs = [.ref b] ∧ H l = some (.lst xs) ∧ H b = some (.lst zs) ∧ xs.length + zs.length ≤ sizeLine ∧ Q .non (upd H l (.lst (xs ++ zs)))
theorem mt_extend : MtM X "list.extend" rExtend := by
  intro pins s σ H x vs v us Q I rx rv h
  obtain ⟨l, b, xs, zs, rfl, rfl, hH, hB, hz, q⟩ := h
  cases rx
  obtain ⟨u, rfl, ru⟩ := rv.one
  cases ru
  obtain ⟨z, its, n, r, hl, e⟩ := I.lstM hH
  obtain ⟨z2, its2, n2, r2, hl2, e2⟩ := I.lstM hB
  have hsz : its.toArray.size + its2.toArray.size ≤ sizeLine := by rw [List.size_toArray, List.size_toArray]; omega
  have hlong : ¬ (!its.toArray.isEmpty && Builtin.List.listTooLong (its.toArray.size + its2.toArray.size)) = true := by
    rw [notLongL hsz, Bool.and_false]
    exact Bool.false_ne_true
  refine call_meets F.slot_list_extend ⟨_, e, rfl⟩ F.entry_list_extend (F.args_list_extend_2 _ _)
    (AutoSeq1.list_extend_list_list_0 l its.toArray n b its2.toArray n2 hlong (by rw [List.size_toArray]; omega) (by omega)) ⟨e, e2, ?_⟩
  refine ⟨.non, _, I.lset (its' := its ++ its2) hH e (by simp) (r.append r2) ?_, rfl, q⟩
  rw [List.length_append]
  omega

/-! ### list + list, list += list, list * int -/
def rCat : R2 := fun x y H Q => ∃ l b xs zs, x = .ref l ∧ y = .ref b ∧ H l = some (.lst xs) ∧ H b = some (.lst zs) ∧ xs.length + zs.length ≤ sizeLine ∧ ∀ p, H p = none → Q (.ref p) (upd H p (.lst (xs ++ zs)))
theorem op_cat : OpR X (binaryOp .Add) rCat := by
  intro pins s σ H x y v u Q I rx ry h
  obtain ⟨l, b, xs, zs, rfl, rfl, hH, hB, hz, q⟩ := h
  cases rx
  cases ry
  obtain ⟨z, its, n, r, hl, e⟩ := I.lstM hH
  obtain ⟨z2, its2, n2, r2, hl2, e2⟩ := I.lstM hB
  refine PySem.P.add_list e e2 ?_ (by rw [List.size_toArray, List.size_toArray]; omega)
  have ea : its.toArray ++ its2.toArray = (its ++ its2).toArray := by simp
  rw [ea]
  exact ⟨.ref _, _, I.lnew (t' := s.toks) (r.append r2) (by rw [List.length_append]; omega), rfl, q _ I.fresh⟩
/-- a list times an int (a negative one is nothing) -/
def rRep : R2 := fun x y H Q => ∃ l k xs, x = .ref l ∧ y = .int k ∧ H l = some (.lst xs) ∧ -(2 ^ 63) ≤ k ∧ k < 2 ^ 63 ∧ xs.length * k.toNat ≤ sizeLine ∧
  ∀ p, H p = none → Q (.ref p) (upd H p (.lst (List.replicate k.toNat xs).flatten))
theorem len_rep {α : Type} (xs : List α) (k : Nat) : (List.replicate k xs).flatten.length = k * xs.length := by
  induction k with
  | zero => simp
  | succ k ih => rw [List.replicate_succ, List.flatten_cons, List.length_append, ih, Nat.succ_mul, Nat.add_comm]
theorem op_rep : OpR X (binaryOp .Mult) rRep := by
  intro pins s σ H x y v u Q I rx ry h
  obtain ⟨l, k, xs, rfl, rfl, hH, h1, h2, hz, q⟩ := h
  cases rx
  obtain ⟨t, rfl⟩ := ry
  obtain ⟨z, its, n, r, hl, e⟩ := I.lstM hH
  have hlen : its.toArray.size * k.toNat ≤ sizeLine := by rw [List.size_toArray, ← hl]; exact hz
  have hcap : ¬ its.toArray.size * k.toNat > (2 ^ 63 - 1) / 8 := by
    have : (sizeLine : Nat) ≤ (2 ^ 63 - 1) / 8 := by decide
    omega
  have hfit : ¬ (!Builtin.List.listFitsIndex k) = true := by
    rw [fitsIndex_both h1 h2]
    exact Bool.false_ne_true
  have hlong : ¬ Builtin.List.listTooLong (its.toArray.size * k.toNat) = true := by
    rw [notLongL hlen]
    exact Bool.false_ne_true
  have hnew : List.foldl (fun x1 x2 => x1 ++ x2) #[] (List.replicate (if its.toArray.isEmpty = true then 0 else k.toNat) its.toArray) = (List.replicate k.toNat its).flatten.toArray := by
    have f0 : ∀ m : Nat, List.foldl (fun x1 x2 => x1 ++ x2) #[] (List.replicate m its.toArray) = (List.replicate m its).flatten.toArray := fun m => by
      have := foldl_rep its m []
      rw [List.nil_append] at this
      exact this
    rw [f0]
    cases its with
    | nil => simp
    | cons a r' => rw [if_neg (by simp)]
  refine wpAny_binaryOp_repeat_ref (T := "list") (U := "int") (by decide) ⟨_, e, rfl⟩ (fun s' => typeIs_int s' k t) noFill_list_mul F.fills_int_mul F.slot_int_rmul repeat_list F.slot_int_index.lookup
    (call_meets F.slot_int_rmul (typeIs_int s k t) F.entry_int_rmul (F.args_int_rmul_2 _ _) (int___rmul___int_list k t l its.toArray n)
      ⟨e, rfl, ⟨_, e, rfl⟩, call_meets F.slot_list_mul ⟨_, e, rfl⟩ F.entry_list_mul (F.args_list_mul_2 _ _) (AutoListH.list___mul___list_int_3 l its.toArray n k t hfit hcap hlong) ⟨e, ?_⟩⟩)
  rw [hnew]
  exact ⟨.ref _, _, I.lnew (t' := s.toks) (r.rep k.toNat) (by rw [len_rep, Nat.mul_comm]; exact hz), rfl, q _ I.fresh⟩

/-! ### del xs[i] -/
end

/-! ### xs[a:b] = ys -/
section
variable {prog : Program} {w : World} {A : Around} {E : Value → Shared → Prop} {s : Shared}
end

section
variable {X : Cx}
end
end L2

namespace L2
open PySem PySem.Spec PyProof.Rows

theorem Vals.ints : ∀ {ns : List Int} {us : List Value}, Vals (ns.map V.int) us → IntsAre us ns
  | [], us, h => by
    rw [List.map_nil] at h
    cases h
    exact IntsAre.nil
  | n :: ns, us, h => by
    rw [List.map_cons] at h
    cases h with
    | cons r t =>
      obtain ⟨k, rfl⟩ := r
      exact IntsAre.cons n k (Vals.ints t)
theorem Vals.strs : ∀ {xs : List Str} {us : List Value}, Vals (xs.map V.str) us → StrsAre us xs
  | [], us, h => by
    rw [List.map_nil] at h
    cases h
    exact StrsAre.nil
  | x :: xs, us, h => by
    rw [List.map_cons] at h
    cases h with
    | cons r t =>
      obtain ⟨k, rfl⟩ := r
      exact StrsAre.cons x k (Vals.strs t)
theorem Vals.bls : ∀ {bs : List Bool} {us : List Value}, Vals (bs.map V.bl) us → us = bs.map Value.bool
  | [], us, h => by
    rw [List.map_nil] at h
    cases h
    rfl
  | b :: bs, us, h => by
    rw [List.map_cons] at h
    cases h with
    | cons r t =>
      cases r
      rw [Vals.bls t, List.map_cons]
theorem Vals.ref1 {a : Addr} {us : List Value} (r : Vals [V.ref a] us) : us = [Value.ref a] := by
  cases r with
  | cons r t =>
    cases t
    cases r
    rfl
/-! ### the library's walks over a list of ints, kept objects alone -/
section
variable {prog : Program} {w : World} {A : Around} {E : Value → Shared → Prop} {s : Shared} {l : Addr} {its : List Value} {ns : List Int} {Q : Value → Shared → Prop}
end

/-! ### the calls, by values (CallR of 03t; MtR of 06l) -/
section
variable {X : Cx}
/-! sorted, sort (fewer than 64 items: the library's own bound) -/
end

/-! ### list.index, flat items -/
section
variable {X : Cx}
end

/-! ### type(x) of an own instance; is, is not of a module's class -/
section
variable {X : Cx}
end

/-! ### any(xs), all(xs) of a list of bools -/
theorem iter_any {prog : Program} {w : World} {A : Around} {E : Value → Shared → Prop} {s : Shared} {l : Addr} {items : Array Value} {Q : Value → Shared → Prop} (hl : s.heap.IsList l items)
    (h : ∀ s₂ : Shared, s₂ = { s with heap := s.heap.push { cls := .type "list_iterator", data := .fields #[.ref l, .int 0 0] } } →
      (s₂.heap.IsListIter s.heap.objs.size l 0 ∧ s₂.heap.IsList l items) → l ≠ s.heap.objs.size → Q (.ref s.heap.objs.size) s₂) : wpAny (model prog w) A (pyIter (.ref l)) Q E s := by
  have hlt : l < s.heap.objs.size := by obtain ⟨_, e, _⟩ := hl; exact Heap.lt_size e
  exact wpAny_pyIter_list hl (h _ rfl ⟨⟨_, Heap.get?_push_size _ rfl, rfl, rfl⟩, hl.push _⟩ (Nat.ne_of_lt hlt))
theorem truth_bools {prog : Program} {w : World} {A : Around} {bs : List Bool} {its : List Value} (e : its = bs.map Value.bool) :
    TruthOf prog w A (fun i v => its.toArray[i]? = some v) (fun i => bs.getD i false) := fun i v s Q E hv hq => by
  have hv' : its[i]? = some v := by simpa using hv
  rw [e, List.getElem?_map] at hv'
  obtain ⟨b, hb, rfl⟩ := Option.map_eq_some_iff.mp hv'
  have hg : bs.getD i false = b := by rw [List.getD_eq_getElem?_getD, hb] <;> rfl
  have hq' : Q (bs.getD i false) s := hq
  rw [hg] at hq'
  exact wpAny_truthy_bool hq'
theorem all_range : ∀ bs : List Bool, (List.range bs.length).all (fun i => bs.getD i false) = bs.all id
  | [] => rfl
  | b :: bs => by
    rw [List.length_cons, List.range_succ_eq_map, List.all_cons, List.all_map, List.all_cons, ← all_range bs]
    all_goals rfl
section
variable {X : Cx}
def rAll (K : PySem.W.Frag) : List V → Hp → VK → Prop := fun vs H Q => ∃ (a : Addr) (bs : List Bool), vs = [V.ref a] ∧ SqL K H a (bs.map V.bl) ∧ Q (.bl (bs.all id)) H
theorem cr_all (hc : X.calm = true) : CallR X (.builtin "all") (rAll X.K) := by
  intro pins s σ H vs us Q I r h
  obtain ⟨a, bs, rfl, hs, q⟩ := h
  obtain ⟨its, rv, hl, _⟩ := I.list hs
  rw [Vals.ref1 r]
  have hb := rv.bls
  refine call_all_walk (iter_any hl.isList fun s₂ e2 st hne => ?_)
  subst e2
  refine ⟨_, _, _, _, _, _, _, rfl, Walks.list (A := X.A.in1) (I.ok.hd hc) _ a hne its.toArray, st, truth_bools hb, fun h' tk hk => ?_⟩
  refine ⟨.bl _, H, I.kept fun b o eo => hk b o (fun hmem => ?_) (Heap.get?_push_of_some _ eo), ?_, q⟩
  · rcases List.mem_cons.mp hmem with e1 | hmem
    · exact absurd (e1 ▸ Heap.lt_size eo) (Nat.lt_irrefl _)
    · cases hmem
  · show Value.bool _ = Value.bool _
    rw [← all_range, hb, List.size_toArray, List.length_map]
end

/-! ### == and != of data at any depth: none, bools, ints, texts, lists, tuples -/
mutual
inductive Dp (K : PySem.W.Frag) (H : Hp) : V → PyData → Prop
  | non : Dp K H .non .none
  | bl (b : Bool) : Dp K H (.bl b) (.bool b)
  | int (i : Int) : Dp K H (.int i) (.int i)
  | str (x : Str) : Dp K H (.str x) (.str x)
  | lst {a : Addr} {xs : List V} {ds : List PyData} : SqL K H a xs → DpAll K H xs ds → Dp K H (.ref a) (.list ds)
  | tup {a : Addr} {xs : List V} {ds : List PyData} : SqT K H a xs → DpAll K H xs ds → Dp K H (.ref a) (.tuple ds)
inductive DpAll (K : PySem.W.Frag) (H : Hp) : List V → List PyData → Prop
  | nil : DpAll K H [] []
  | cons {v : V} {vs : List V} {d : PyData} {ds : List PyData} : Dp K H v d → DpAll K H vs ds → DpAll K H (v :: vs) (d :: ds)
end
section
variable {X : Cx} {pins : List (Addr × Obj)} {σ : St} {H : Hp} {s : Shared}
end
section
variable {X : Cx}
end
end L2

namespace L2
open PySem PySem.Spec PyProof.Rows
abbrev CellAt (h : Heap) (c : Addr) (v : Option Value) : Prop := h.IsCell c v
def relS (scope sc : Scope) : Scope :=
  { scope with names := scope.names.map fun (n, k) => if (k == .free && sc.kind == .function && sc.names.lookup n == some .cell) then (n, .cell) else (n, k) }

def cloFrom (cells : List (Str × Addr)) : List (Str × NameKind) → List (Str × Addr) → List (Str × Addr)
  | [], acc => acc
  | (n, k) :: r, acc => if k == .free then cloFrom cells r ((n, (cells.lookup n).getD 0) :: acc) else cloFrom cells r acc

theorem closure_loop (env : Env) (f : Str × NameKind → List (Str × Addr) → Sem (ForInStep (List (Str × Addr))))
    (hf : ∀ n k c, f (n, k) c = if k == .free then (do let a ← cellOf env n; pure (.yield ((n, a) :: c))) else pure (.yield c)) :
    ∀ (names : List (Str × NameKind)) (acc : List (Str × Addr)), (∀ y ∈ names, y.2 = .free → ∃ c, env.cells.lookup y.1 = some c) → forIn names acc f = pure (cloFrom env.cells names acc)
  | [], acc, _ => by rw [List.forIn_nil]; rfl
  | (n, k) :: r, acc, h => by
    rw [List.forIn_cons, hf]
    have ih := fun acc => closure_loop env f hf r acc fun y hy => h y (List.mem_cons_of_mem _ hy)
    unfold cloFrom
    by_cases hk : (k == NameKind.free) = true
    · rw [if_pos hk, if_pos hk]
      obtain ⟨c, hc⟩ := h (n, k) List.mem_cons_self (by simpa using hk)
      have e : cellOf env n = pure c := by unfold cellOf; rw [hc]
      rw [e]
      have e2 : (env.cells.lookup n).getD 0 = c := by rw [hc]; rfl
      rw [e2]
      exact ih _
    · rw [if_neg hk, if_neg hk]
      exact ih _
theorem closure_ok {scope : Scope} {env : Env} (h : ∀ y ∈ scope.names, y.2 = .free → ∃ c, env.cells.lookup y.1 = some c) : closureFor scope env = pure (cloFrom env.cells scope.names []) := by
  simp only [closureFor]
  rw [closure_loop env _ (fun n k c => rfl) scope.names [] h]
  rfl

theorem mem_lookup {α : Type} : ∀ {l : List (Str × α)} {n : Str} {c : α}, (n, c) ∈ l → ∃ c', l.lookup n = some c'
  | (k, v) :: r, n, c, h => by
    rw [List.lookup_cons]
    cases hb : n == k with
    | true => exact ⟨_, rfl⟩
    | false =>
      rcases List.mem_cons.mp h with e | h
      · cases e; simp at hb
      · exact mem_lookup h

theorem cloFrom_mem {cells : List (Str × Addr)} : ∀ {names : List (Str × NameKind)} {acc : List (Str × Addr)} {n : Str} {c : Addr}, (n, c) ∈ cloFrom cells names acc → (n, c) ∈ acc ∨ ((n, .free) ∈ names ∧ c = (cells.lookup n).getD 0)
  | [], _, _, _, h => .inl h
  | (m, k) :: r, acc, n, c, h => by
    unfold cloFrom at h
    split at h
    · rename_i hk
      have hk : k = .free := by simpa using hk
      rcases cloFrom_mem h with h | ⟨h1, h2⟩
      · rcases List.mem_cons.mp h with e | h
        · cases e; exact .inr ⟨hk ▸ List.mem_cons_self, rfl⟩
        · exact .inl h
      · exact .inr ⟨List.mem_cons_of_mem _ h1, h2⟩
    · rcases cloFrom_mem h with h | ⟨h1, h2⟩
      · exact .inl h
      · exact .inr ⟨List.mem_cons_of_mem _ h1, h2⟩
theorem cloFrom_acc {cells : List (Str × Addr)} : ∀ {names : List (Str × NameKind)} {acc : List (Str × Addr)} {p : Str × Addr}, p ∈ acc → p ∈ cloFrom cells names acc
  | [], _, _, h => h
  | (m, k) :: r, acc, p, h => by
    unfold cloFrom
    split
    · exact cloFrom_acc (List.mem_cons_of_mem _ h)
    · exact cloFrom_acc h
theorem cloFrom_has {cells : List (Str × Addr)} : ∀ {names : List (Str × NameKind)} {acc : List (Str × Addr)} {n : Str}, (n, .free) ∈ names → (n, (cells.lookup n).getD 0) ∈ cloFrom cells names acc
  | (m, k) :: r, acc, n, h => by
    unfold cloFrom
    rcases List.mem_cons.mp h with e | h
    · cases e
      exact cloFrom_acc List.mem_cons_self
    · split
      · exact cloFrom_has h
      · exact cloFrom_has h

theorem cells_mem : ∀ {names : List (Str × NameKind)} {h : Heap} {acc : List (Str × Addr)} {x : Str} {c : Addr}, (x, c) ∈ cellsFrom h.objs.size names acc →
    (x, c) ∈ acc ∨ ((x, .cell) ∈ names ∧ h.objs.size ≤ c ∧ CellAt (pushCells h names) c none)
  | [], _, _, _, _, h => .inl h
  | (n, k) :: r, h, acc, x, c, hm => by
    unfold cellsFrom at hm
    unfold pushCells
    split at hm
    · rename_i hk
      rw [if_pos hk]
      have hk : k = .cell := by simpa using hk
      rw [← Heap.size_push h { cls := .type "cell", data := .cell none }] at hm
      rcases cells_mem hm with hm | ⟨h1, h2, h3⟩
      · rcases List.mem_cons.mp hm with e | hm
        · cases e
          exact .inr ⟨hk ▸ List.mem_cons_self, Nat.le_refl _, _, pushCells_keeps r _ _ _ (Heap.get?_push_size _ rfl), rfl⟩
        · exact .inl hm
      · rw [Heap.size_push] at h2
        exact .inr ⟨List.mem_cons_of_mem _ h1, Nat.le_of_succ_le h2, h3⟩
    · rename_i hk
      rw [if_neg hk]
      rcases cells_mem hm with hm | ⟨h1, h2, h3⟩
      · exact .inl hm
      · exact .inr ⟨List.mem_cons_of_mem _ h1, h2, h3⟩
theorem cells_acc : ∀ {names : List (Str × NameKind)} {n : Nat} {acc : List (Str × Addr)} {p : Str × Addr}, p ∈ acc → p ∈ cellsFrom n names acc
  | [], _, _, _, h => h
  | (m, k) :: r, n, acc, p, h => by
    unfold cellsFrom
    split
    · exact cells_acc (List.mem_cons_of_mem _ h)
    · exact cells_acc h
theorem cells_has : ∀ {names : List (Str × NameKind)} {n : Nat} {acc : List (Str × Addr)} {x : Str}, (x, .cell) ∈ names → ∃ c, (x, c) ∈ cellsFrom n names acc
  | (m, k) :: r, n, acc, x, h => by
    unfold cellsFrom
    rcases List.mem_cons.mp h with e | h
    · cases e
      exact ⟨n, cells_acc List.mem_cons_self⟩
    · split
      · exact cells_has h
      · exact cells_has h
theorem cells_inj : ∀ {names : List (Str × NameKind)} {h : Heap} {acc : List (Str × Addr)} {x y : Str} {c : Addr}, (∀ p ∈ acc, p.2 < h.objs.size) → (∀ x y c, (x, c) ∈ acc → (y, c) ∈ acc → x = y) →
    (x, c) ∈ cellsFrom h.objs.size names acc → (y, c) ∈ cellsFrom h.objs.size names acc → x = y
  | [], _, _, _, _, _, _, hi, h1, h2 => hi _ _ _ h1 h2
  | (n, k) :: r, h, acc, x, y, c, hl, hi, h1, h2 => by
    unfold cellsFrom at h1 h2
    split at h1
    · rename_i hk
      rw [if_pos hk] at h2
      rw [← Heap.size_push h { cls := .type "cell", data := .cell none }] at h1 h2
      refine cells_inj (h := h.push _) (fun p hp => ?_) (fun x y c a b => ?_) h1 h2
      · rw [Heap.size_push]
        rcases List.mem_cons.mp hp with rfl | hp
        · exact Nat.lt_succ_self _
        · exact Nat.lt_succ_of_lt (hl p hp)
      · rcases List.mem_cons.mp a with e | a <;> rcases List.mem_cons.mp b with e' | b
        · cases e; cases e'; rfl
        · cases e; exact absurd (hl _ b) (Nat.lt_irrefl _)
        · cases e'; exact absurd (hl _ a) (Nat.lt_irrefl _)
        · exact hi _ _ _ a b
    · rename_i hk
      rw [if_neg hk] at h2
      exact cells_inj hl hi h1 h2

theorem newEnv_comp {M : Model} {A : Around} {E : Value → Shared → Prop} {s : Shared} {scope : Scope} {globals : Addr} {closure : List (Str × Addr)} {qual : Str} {func : Option Addr} {code : Value} {around : Env} {builtins : Addr} {Q : Env → Shared → Prop}
    (h : Q (newEnv scope s.heap.objs.size globals (cellsFrom (s.heap.objs.size + 1) scope.names closure) qual func code (some around) builtins)
      { s with heap := pushCells (s.heap.push { cls := .type "dict", data := .dict #[] }) scope.names }) :
    wpAny M A (newFunctionEnv scope globals closure [] qual func code (some around) builtins) Q E s := by
  simp only [newFunctionEnv, Option.isSome_some, if_true]
  refine wpAny_bind (wpAny_alloc ?_)
  refine wpAny_bind (wpAny_layCells _ (fun n k c => rfl) scope.names closure _ _ ?_)
  rw [show ({ s with heap := s.heap.push { cls := .type "dict", data := .dict #[] } } : Shared).heap.objs.size = s.heap.objs.size + 1 from Heap.size_push ..]
  rw [List.forIn_nil]
  exact wpAny_bind (wpAny_pure (wpAny_pure h))

/-- every name of the written scope, in the scope that runs -/
theorem lookup_relS {sc : Scope} : ∀ {names : List (Str × NameKind)} {x : Str} {k : NameKind},
    (names.map fun (n, k) => if (k == NameKind.free && sc.kind == .function && sc.names.lookup n == some .cell) then (n, NameKind.cell) else (n, k)).lookup x = some k →
    ∃ k', names.lookup x = some k' ∧ (k = k' ∨ (k' = .free ∧ k = .cell))
  | [], _, _, h => by simp at h
  | (n, k₀) :: r, x, k, h => by
    have ih := @lookup_relS sc r x k
    have h' : List.lookup x ((if (k₀ == NameKind.free && sc.kind == .function && sc.names.lookup n == some .cell) = true then (n, NameKind.cell) else (n, k₀)) :: (r.map _)) = some k := h
    cases hx : x == n with
    | true =>
      simp only [List.lookup_cons, hx]
      by_cases hc : (k₀ == NameKind.free && sc.kind == .function && sc.names.lookup n == some .cell) = true
      · rw [if_pos hc] at h'
        simp only [List.lookup_cons, hx] at h'
        cases h'
        simp only [Bool.and_eq_true, beq_iff_eq] at hc
        exact ⟨k₀, rfl, .inr ⟨hc.1.1, rfl⟩⟩
      · rw [if_neg hc] at h'
        simp only [List.lookup_cons, hx] at h'
        cases h'
        exact ⟨_, rfl, .inl rfl⟩
    | false =>
      simp only [List.lookup_cons, hx]
      by_cases hc : (k₀ == NameKind.free && sc.kind == .function && sc.names.lookup n == some .cell) = true
      · rw [if_pos hc] at h'
        simp only [List.lookup_cons, hx] at h'
        exact ih h'
      · rw [if_neg hc] at h'
        simp only [List.lookup_cons, hx] at h'
        exact ih h'
/-- the names of a comprehension's block: its own (with their places in N), or captured -/
structure BlkOk (N : List Str) (sc scope : Scope) (own : List (Str × Nat)) : Prop where
  kind : scope.kind = .function
  uniq : ∀ y ∈ scope.names, scope.names.lookup y.1 = some y.2
  ix : ∀ p ∈ own, N[p.2]? = some p.1
  free : ∀ y ∈ scope.names, y.2 = .free → sc.names.lookup y.1 = some .cell ∨ sc.names.lookup y.1 = some .free
  own : ∀ y ∈ scope.names, y.2 = .local ∨ y.2 = .cell → y.1 ∈ own.map (·.1) ∨ y.1 ∉ N
/-- the slots of the block's own names forgotten -/
def wipe (σ : St) : List Nat → St
  | [] => σ
  | v :: vs => (wipe σ vs).set v none
theorem wipe_length (σ : St) : ∀ vs : List Nat, (wipe σ vs).length = σ.length
  | [] => rfl
  | v :: vs => by unfold wipe; rw [List.length_set, wipe_length σ vs]
theorem wipe_some {σ : St} {i : Nat} {x : V} : ∀ {vs : List Nat}, (wipe σ vs)[i]? = some (some x) → σ[i]? = some (some x) ∧ i ∉ vs
  | [], h => ⟨h, by simp⟩
  | v :: vs, h => by
    unfold wipe at h
    by_cases hi : v = i
    · subst hi
      by_cases hv : v < (wipe σ vs).length
      · rw [List.getElem?_set_self hv] at h; cases h
      · rw [List.getElem?_eq_none (by simpa using hv)] at h; cases h
    · rw [List.getElem?_set_ne hi] at h
      obtain ⟨h1, h2⟩ := wipe_some h
      exact ⟨h1, by simp only [List.mem_cons, not_or]; exact ⟨fun e => hi e.symm, h2⟩⟩

/-- the context of a block that starts at s, its iterator's objects at fp -/
abbrev Cx.blk (X : Cx) (s : Shared) (H : Hp) (scope : Scope) (cenv : Env) (fp : List Addr) : Cx := { X with s_0 := s, H_0 := H, env := cenv, outer := X.stack, ex := fp, fn := fun x => scope.names.lookup x == some .cell, pn := [], xe := fun _ _ => False }
section
variable {X : Cx} {pins : List (Addr × Obj)} {σ : St} {H : Hp} {s : Shared}
theorem block_start {scope : Scope} {own : List (Str × Nat)} {fp : List Addr} (I : Inv X pins σ H s) (ok : BlkOk X.N X.env.scope scope own) (hN : X.N.Nodup) (hfp : ∀ b ∈ fp, FpOk X pins H b ∧ b < s.heap.objs.size) :
    Inv (X.blk s H scope (compEnvC scope (cellsFrom (s.heap.objs.size + 1) scope.names (cloFrom X.env.cells scope.names [])) s.heap.objs.size X.env) fp) [] (wipe σ (own.map (·.2))) H { s with heap := pushCells (s.heap.push { cls := .type "dict", data := .dict #[] }) scope.names } := by
  have hfree : ∀ y ∈ scope.names, y.2 = .free → ∃ c, X.env.cells.lookup y.1 = some c := fun y hy e => by
    rcases ok.free y hy e with k | k
    · exact I.ok.has _ (.inl k)
    · exact I.ok.has _ (.inr k)
  generalize hcenv : compEnvC scope (cellsFrom (s.heap.objs.size + 1) scope.names (cloFrom X.env.cells scope.names [])) s.heap.objs.size X.env = cenv
  have kp : ∀ b o, s.heap.get? b = some o → (pushCells (s.heap.push { cls := .type "dict", data := .dict #[] }) scope.names).get? b = some o := fun b o e => pushCells_keeps _ _ _ _ (Heap.get?_push_of_some _ e)
  have hL : cenv.locals = s.heap.objs.size := by rw [← hcenv]; rfl
  have hcl : cenv.cells = cellsFrom (s.heap.objs.size + 1) scope.names (cloFrom X.env.cells scope.names []) := by rw [← hcenv]; rfl
  have hsc : cenv.scope = relS scope X.env.scope := by rw [← hcenv]; rfl
  rw [← Heap.size_push s.heap { cls := .type "dict", data := .dict #[] }] at hcl
  have cm : ∀ {y c}, (y, c) ∈ cloFrom X.env.cells scope.names [] → X.env.cells.lookup y = some c ∧ c < s.heap.objs.size := fun {y c} hm => by
    rcases cloFrom_mem hm with hm | ⟨h1, rfl⟩
    · cases hm
    · obtain ⟨c, hc⟩ := hfree _ h1 rfl
      rw [hc]
      obtain ⟨w, z⟩ := I.cell _ _ hc
      exact ⟨rfl, z.lt⟩
  have mem : ∀ {y c}, cenv.cells.lookup y = some c → (X.env.cells.lookup y = some c ∧ c < s.heap.objs.size) ∨ (s.heap.objs.size + 1 ≤ c ∧ CellAt (pushCells (s.heap.push { cls := .type "dict", data := .dict #[] }) scope.names) c none) := fun {y c} e => by
    rw [hcl] at e
    rcases cells_mem (PySem.mem_of_lookup e) with hm | ⟨_, h2, h3⟩
    · exact .inl (cm hm)
    · rw [Heap.size_push] at h2; exact .inr ⟨h2, h3⟩
  have look : ∀ {y}, scope.names.lookup y = some .free → ∃ c, cenv.cells.lookup y = some c ∧ X.env.cells.lookup y = some c := fun {y} hl => by
    have hy : (y, NameKind.free) ∈ scope.names := PySem.mem_of_lookup hl
    obtain ⟨c', e'⟩ := mem_lookup (cells_acc (names := scope.names) (n := (s.heap.push { cls := .type "dict", data := .dict #[] }).objs.size) (cloFrom_has (cells := X.env.cells) (acc := []) hy))
    rw [← hcl] at e'
    refine ⟨c', e', ?_⟩
    rw [hcl] at e'
    rcases cells_mem (PySem.mem_of_lookup e') with hm | ⟨h1, _, _⟩
    · exact (cm hm).1
    · have := ok.uniq _ h1
      rw [hl] at this; cases this
  have okB : (X.blk s H scope cenv fp).Ok := by
    refine ⟨I.ok.mod, by show cenv.scope.kind = _; rw [hsc]; exact ok.kind, by show cenv.globals = _; rw [← hcenv]; exact I.ok.glob, by show cenv.builtins = _; rw [← hcenv]; exact I.ok.blt, by show s.heap.objs.size ≤ cenv.locals; rw [hL]; exact Nat.le_refl _,
      fun y z c e1 e2 => ?_, fun y hy => ?_, fun y c z e => ?_, I.ok.hd, I.ok.frames, .inl rfl, fun b hb => ⟨?_, fun y c e z => ?_⟩, I.bs, Nat.le_trans I.ok.bsz I.sz, fun b o e hb => ?_, fun b hb z => ?_, I.stack, I.stkFree⟩
    · have e1 : cenv.cells.lookup y = some c := e1
      have e2 : cenv.cells.lookup z = some c := e2
      rw [hcl] at e1 e2
      refine cells_inj (fun p hp => ?_) (fun y z c a b => I.ok.inj y z c (cm a).1 (cm b).1) (PySem.mem_of_lookup e1) (PySem.mem_of_lookup e2)
      rw [Heap.size_push]
      exact Nat.lt_succ_of_lt (cm (y := p.1) (c := p.2) hp).2
    · show ∃ c, cenv.cells.lookup y = some c
      have key : ∀ k, cenv.kindOf y = some k → (k = .cell ∨ k = .free) → ∃ c, cenv.cells.lookup y = some c := fun k hk hk' => by
        unfold Env.kindOf at hk
        rw [hsc] at hk
        obtain ⟨k', e, r⟩ := lookup_relS hk
        have : k' = .cell ∨ k' = .free := by
          rcases r with rfl | ⟨rfl, _⟩
          · exact hk'
          · exact .inr rfl
        rcases this with rfl | rfl
        · obtain ⟨c, hm⟩ := cells_has (n := (s.heap.push { cls := .type "dict", data := .dict #[] }).objs.size) (acc := cloFrom X.env.cells scope.names []) (PySem.mem_of_lookup e)
          obtain ⟨c', e'⟩ := mem_lookup hm
          exact ⟨c', by rw [hcl]; exact e'⟩
        · obtain ⟨c, h1, _⟩ := look e
          exact ⟨c, h1⟩
      rcases hy with hy | hy
      · exact key _ hy (.inl rfl)
      · exact key _ hy (.inr rfl)
    · have z : (scope.names.lookup y == some NameKind.cell) = true := z
      have z : scope.names.lookup y = some .cell := by simpa using z
      have e : cenv.cells.lookup y = some c := e
      rw [hcl] at e
      rcases cells_mem (PySem.mem_of_lookup e) with hm | ⟨_, h2, _⟩
      · rcases cloFrom_mem hm with hm | ⟨h1, _⟩
        · cases hm
        · have q := ok.uniq _ h1
          rw [z] at q; cases q
      · rw [Heap.size_push] at h2
        exact Nat.le_of_succ_le h2
    · show b ≠ cenv.locals
      rw [hL]; exact Nat.ne_of_lt (hfp b hb).2
    · have e : cenv.cells.lookup y = some c := e
      rcases mem e with ⟨h1, _⟩ | ⟨h1, _⟩
      · exact (hfp b hb).1.2.2.2.2.1 y c h1 z
      · have h2 : s.heap.objs.size + 1 ≤ b := by rw [← z]; exact h1
        exact absurd (Nat.lt_of_lt_of_le (hfp b hb).2 (Nat.le_of_succ_le h2)) (Nat.lt_irrefl _)
    · rcases (hfp b hb).1.2.2.2.1 with z | z
      · exact I.ok.noex b o e z
      · exact absurd (Nat.lt_of_lt_of_le (Heap.lt_size e) (Nat.le_trans I.ok.bsz z)) (Nat.lt_irrefl _)
    · rcases List.mem_cons.mp (I.stkSub b z) with z | z
      · exact (hfp b hb).1.2.1 z
      · exact (hfp b hb).1.2.2.1 z
  refine ⟨okB, rfl, I.bare, Un.kept kp, ⟨fun _ => none, ?_, fun i y av e1 e2 e3 => ?_⟩, fun y c e => ?_, ?_, fun y c e => ?_, fun p hp => ?_, I.hok.kept kp, by rw [wipe_length]; exact I.len⟩
  · show Heap.Ns _ cenv.locals _
    rw [hL]
    exact Heap.Ns.keeps (Heap.Ns.new ..) fun b o e => pushCells_keeps _ _ _ _ e
  · obtain ⟨e2, hne⟩ := wipe_some e2
    have hfr : scope.names.lookup y = some .free ∧ (cenv.kindOf y = some .cell ∨ cenv.kindOf y = some .free) := by
      have key : ∀ k, cenv.scope.names.lookup y = some k → k = .local ∨ k = .cell ∨ k = .free → scope.names.lookup y = some .free ∧ (cenv.kindOf y = some .cell ∨ cenv.kindOf y = some .free) := fun k hk hk' => by
        have hk0 := hk
        rw [hsc] at hk
        obtain ⟨k', e, r⟩ := lookup_relS hk
        have no : ¬ (k' = .local ∨ k' = .cell) := fun hh => by
          rcases ok.own _ (PySem.mem_of_lookup e) hh with e' | e'
          · obtain ⟨p, hp, hpy⟩ := List.mem_map.mp e'
            have e3 := ok.ix p hp
            have : p.1 = y := hpy
            rw [this] at e3
            exact hne (List.mem_map.mpr ⟨p, hp, nodup_ix hN e3 e1⟩)
          · exact e' (List.mem_of_getElem? e1)
        rcases r with rfl | ⟨rfl, rfl⟩
        · rcases hk' with rfl | rfl | rfl
          · exact absurd (.inl rfl) no
          · exact absurd (.inr rfl) no
          · exact ⟨e, .inr hk0⟩
        · exact ⟨e, .inl hk0⟩
      have e3 : Vis cenv.scope y := e3
      rcases e3 with e3 | e3 | e3
      · exact key _ e3 (.inl rfl)
      · exact key _ e3 (.inr (.inl rfl))
      · exact key _ e3 (.inr (.inr rfl))
    obtain ⟨m, hn, hl⟩ := I.loc
    have hvis : Vis X.env.scope y := (ok.free _ (PySem.mem_of_lookup hfr.1) rfl).elim (fun k => .inr (.inl k)) (fun k => .inr (.inr k))
    obtain ⟨w, r, q⟩ := hl i y av e1 e2 hvis
    refine ⟨w, r, .inr ⟨hfr.2, ?_⟩⟩
    obtain ⟨c, h1, h2⟩ := look hfr.1
    rcases q with ⟨k, _⟩ | ⟨_, c', e', z⟩
    · have k : X.env.scope.names.lookup y = some .local := k
      rcases ok.free _ (PySem.mem_of_lookup hfr.1) rfl with k' | k' <;> rw [show X.env.scope.names.lookup y = _ from k'] at k <;> cases k
    · rw [h2] at e'; cases e'
      exact ⟨c, h1, z.keeps kp⟩
  · have e : cenv.cells.lookup y = some c := e
    rcases mem e with ⟨h1, _⟩ | ⟨_, z⟩
    · obtain ⟨w, z⟩ := I.cell y c h1
      exact ⟨w, z.keeps kp⟩
    · exact ⟨_, z⟩
  · show H cenv.locals = none
    rw [hL]; exact I.hok.fresh (Nat.le_refl _)
  · have e : cenv.cells.lookup y = some c := e
    rcases mem e with ⟨h1, _⟩ | ⟨h1, _⟩
    · exact I.freeC y c h1
    · exact I.hok.fresh (Nat.le_of_succ_le h1)
  · exact absurd (show p ∈ ([] : List (Addr × Obj)) ++ [] from hp) (by simp)

/-- an item appended to a tracked list -/
theorem app_ok {E : Value → Shared → Prop} {D : Addr} {xs : List V} {y : V} {v : Value} {Q : Value → Shared → Prop} (I : Inv X pins σ H s) (hD : H D = some (.lst xs)) (hz : xs.length < sizeLine) (r : RelV y v)
    (h : ∀ s', Inv X pins σ (upd H D (.lst (xs ++ [y]))) s' → Q .none s') : wpAny (model X.prog X.w) X.A (call (.builtin "list.append") [.ref D, v]) Q E s := by
  obtain ⟨hz', its, n, ri, e⟩ := I.hok D _ hD
  have hl := ri.length
  refine append_at (hsz := by rw [List.size_toArray]; omega) e fun h' sb ho' => ?_
  refine h { s with heap := h' } (I.write (t' := s.toks) (by rw [hD]; trivial) (.inl rfl) (fun b u hb q => (sb.2 b hb).trans q) ⟨_, ho'⟩ ⟨by rw [List.length_append]; exact hz, its ++ [v], n + 1, ri.append (.cons r .nil), ?_⟩)
  rw [ho']
  simp

/-- a clause's tests -/
def PTs (X : Cx) (ifs : List Expr) (t : TT) : Prop :=
  ∀ (pins : List (Addr × Obj)) (s : Shared) (σ : St) (H : Hp) (Q : Bool → Hp → Prop), Inv X pins σ H s → t σ H Q →
    wpAny (model X.prog X.w) X.A (forIn ifs true fun c r => if r = true then do let ok ← isTrue c X.env (eval c X.env); pure (ForInStep.yield ok) else pure (ForInStep.yield r)) (TP X pins σ Q) X.xe s
def tYes : TT := fun _ H Q => Q true H
theorem pts_nil : PTs X [] tYes := fun _ _ _ H _ I h => wpAny_tests_nil ⟨H, I, h⟩
end

theorem thnF {α : Type} {t : Sem α} {Q Q' : α → Shared → Prop} {M : Model} {A : Around} {E : Value → Shared → Prop} {s : Shared} (h : wpAny M A t Q (fun _ _ => False) s) (hQ : ∀ a s, Q a s → Q' a s) : wpAny M A t Q' E s := wpAny_mono h hQ fun _ _ z => False.elim z

/-- the loop of a list comprehension's block, the target of any form (codeAny_compLoop_tests asks a target that no tuple goes to; statement and proof follow it, PyProof/CompMap.lean:41-61, with the step letOwnedTupleGo kept) -/
theorem compLoop_any {prog : Program} {w : World} {A : Around} {R : Result → Shared → Prop} {s : Shared} {elt target iter : Expr} {ifs : List Expr} {scope : Scope} {pos : Pos} {it acc : Value} {env : Env} (I : Nat → Shared → Prop)
    (turn : ∀ n s, I n s → wpAny (model prog w) A (pyNext it) (fun r s₁ => match r with
      | none => R (.ok .next) s₁
      | some v => wpAny (model prog w) A (letOwnedTupleGo target it v) (fun _ s₁' => wpAny (model prog w) A (assign target env v) (fun _ s₂ =>
          wpAny (model prog w) A (forIn ifs true fun c r => if r = true then do let ok ← isTrue c env (eval c env); pure (ForInStep.yield ok) else pure (ForInStep.yield r)) (fun ok s₃ =>
            if ok = true then wpAny (model prog w) A (eval elt env) (fun x s₄ =>
              wpAny (model prog w) A (call (.builtin "list.append") [acc, x]) (fun _ s₅ => ∃ m, m < n ∧ I m s₅) (notedBy (model prog w) A env fun e s' => R (.error e) s') s₄) (notedBy (model prog w) A env fun e s' => R (.error e) s') s₃
            else ∃ m, m < n ∧ I m s₃) (notedBy (model prog w) A env fun e s' => R (.error e) s') s₂) (notedBy (model prog w) A env fun e s' => R (.error e) s') s₁') (notedBy (model prog w) A env fun e s' => R (.error e) s') s₁) (notedBy (model prog w) A env fun e s' => R (.error e) s') s)
    (n : Nat) (h : I n s) :
    codeAny (model prog w) A (.compLoop (.ListComp elt [⟨target, iter, ifs, 0⟩] scope pos) 0 it acc env) R s := by
  refine codeAny_loop rfl I (fun n s hI => ?_) n h
  show wpAny _ A ((compTurn (.ListComp elt [⟨target, iter, ifs, 0⟩] scope pos) 0 it acc env).onRaise (fun x => do noteFrame x env; theTreesLotGoes x)) _ _ s
  refine wpAny_noted ?_
  rw [compTurn_list]
  refine wpAny_bind (wpAny_standAt (wpAny_bind (wpAny_mono (turn n s hI) (fun r s₁ h₁ => ?_) fun _ _ h' => h')))
  cases r with
  | none => exact wpAny_pure h₁
  | some v =>
    refine wpAny_bind (wpAny_mono h₁ (fun _ s₁' h₁' => ?_) fun _ _ h' => h')
    refine wpAny_bind (wpAny_mono h₁' (fun _ s₂ h₂ => wpAny_bind (wpAny_mono h₂ (fun ok s₃ h₃ => ?_) fun _ _ h' => h')) fun _ _ h' => h')
    cases ok with
    | false => exact wpAny_pure ⟨rfl, h₃⟩
    | true =>
      exact wpAny_bind (wpAny_bind (wpAny_mono h₃ (fun x s₄ h₄ => wpAny_bind (wpAny_mono h₄ (fun _ s₅ h₅ => wpAny_pure (wpAny_pure ⟨rfl, h₅⟩)) fun _ _ h' => h')) fun _ _ h' => h'))

section
variable {X : Cx}
/-- [elt for target in iter if ..]: D the new list; W by the turn and a measure, Nx what a turn is to reach -/
def tLc (wi : TI) (g : TG) (tt : TT) (te : TE) (vs : List Nat) : TE := fun σ H Q => wi σ H fun J H1 => ∀ D, H1 D = none → ∃ W : Nat → Nat → Hp → Prop, (∃ m, W 0 m (upd H1 D (.lst []))) ∧ ∀ i m H, W i m H →
  (J.stop i H ∧ Q (.ref D) H) ∨ (J.go i H ∧ ∃ Nx : Hp → Prop, (∀ H', Nx H' → ∃ m', m' < m ∧ W (i + 1) m' H') ∧ ∀ x H', J.yld i H x H' → g x (wipe σ vs) H' fun σ2 H2 => wipe σ2 vs = wipe σ vs ∧ tt σ2 H2 fun b H3 =>
    if b = true then te σ2 H3 fun y H4 => ∃ acc, H4 D = some (.lst acc) ∧ acc.length < sizeLine ∧ Nx (upd H4 D (.lst (acc ++ [y]))) else Nx H3)
theorem lc_core {pins : List (Addr × Obj)} {s : Shared} {σ : St} {H : Hp} {Q : VK} {elt tg iter : Expr} {ifs : List Expr} {scope : Scope} {own : List (Str × Nat)} {pos pos' : Pos} {wi : TI} {g : TG} {tt : TT} {te : TE} {use : Option (Value → Sem Unit)} {Qf : Value → Shared → Prop}
    (hc : X.calm = true) (hN : X.N.Nodup) (I : Inv X pins σ H s) (hi : PI X tg iter wi) (ok : BlkOk X.N X.env.scope scope own)
    (hg : ∀ (s : Shared) (H : Hp) (C : Addr) (cl : List (Str × Addr)) (fp : List Addr), PG (X.blk s H scope (compEnvC scope cl C X.env) fp) tg g) (ht : ∀ (s : Shared) (H : Hp) (C : Addr) (cl : List (Str × Addr)) (fp : List Addr), PTs (X.blk s H scope (compEnvC scope cl C X.env) fp) ifs tt)
    (he : ∀ (s : Shared) (H : Hp) (C : Addr) (cl : List (Str × Addr)) (fp : List Addr), PE (X.blk s H scope (compEnvC scope cl C X.env) fp) elt te) (hs : ∀ x, foldedSetIterable iter X.env x = pure x)
    (h : tLc wi g tt te (own.map (·.2)) σ H Q)
    (hRR : ∀ D C s' m H', Inv X pins σ H' s' → Q (.ref D) H' → s'.heap.Ns C m → FpOk X pins H' C → compPost (model X.prog X.w) X.A X.xe use Qf (.ref D) C (.ok .next) s') :
    wpAny (model X.prog X.w) X.A (comprehension (.ListComp elt [⟨tg, iter, ifs, 0⟩] scope pos) scope X.env pos' (newList []) false (eval iter X.env) use) Qf X.xe s := by
  have hfree : ∀ y ∈ scope.names, y.2 = .free → ∃ c, X.env.cells.lookup y.1 = some c := fun y hy e => by
    rcases ok.free y hy e with k | k
    · exact I.ok.has _ (.inl k)
    · exact I.ok.has _ (.inr k)
  refine wpAny_comprehension_free (use := use) rfl hs (closure_ok hfree) ok.kind (fun y hy e => by rw [ok.uniq y hy, e])
    (thn (hi pins s σ H _ I h) fun xv s1 hx => thn hx fun itv s2 h2 => ?_)
  obtain ⟨it, fp, tn, J, H2, e, I2, T, st2, f2, q⟩ := h2
  subst e
  refine wpAny_newObj_type (newEnv_comp ?_) (by show 0 ≤ sizeLine; decide)
  generalize hD : s2.heap.objs.size = D
  have hDn : H2 D = none := I2.hok.fresh (Nat.le_of_eq hD)
  obtain ⟨W, ⟨m0, w0⟩, turn⟩ := q D hDn
  -- the new list
  generalize hs3 : ({ s2 with heap := s2.heap.push { cls := .type "list", data := .seq ([] : List Value).toArray } } : Shared) = s3
  have I3 : Inv X pins σ (upd H2 D (.lst [])) s3 := by
    rw [← hs3]
    refine I2.laid (t' := s2.toks) (fun b o e => Heap.get?_push_of_some _ e) (Nat.le_of_eq hD) ⟨Nat.zero_le _, [], 0, .nil, ?_⟩
    rw [← hD]
    exact Heap.get?_push_size _ rfl
  have h3 : s3.heap = s2.heap.push { cls := .type "list", data := .seq ([] : List Value).toArray } := by rw [← hs3]
  have sz : ∀ b ∈ fp, b < s2.heap.objs.size := fun b hb => by
    obtain ⟨o, e, _⟩ := T.obj _ _ st2 b hb
    exact Heap.lt_size e
  have f3 : ∀ b ∈ fp, FpOk X pins (upd H2 D (.lst [])) b ∧ b < s3.heap.objs.size := fun b hb => by
    have hlt := sz b hb
    refine ⟨⟨?_, (f2 b hb).2⟩, by rw [h3, Heap.size_push]; exact Nat.lt_succ_of_lt hlt⟩
    rw [upd_ne (by rw [← hD]; exact Nat.ne_of_lt hlt)]
    exact (f2 b hb).1
  have st3 : tn 0 s3.heap := T.keep _ _ _ st2 fun b _ o e => by rw [h3]; exact Heap.get?_push_of_some _ e
  have I4 := block_start I3 ok hN f3
  have pg := hg s3 (upd H2 D (.lst [])) s3.heap.objs.size (cellsFrom (s3.heap.objs.size + 1) scope.names (cloFrom X.env.cells scope.names [])) fp
  have pt := ht s3 (upd H2 D (.lst [])) s3.heap.objs.size (cellsFrom (s3.heap.objs.size + 1) scope.names (cloFrom X.env.cells scope.names [])) fp
  have pe := he s3 (upd H2 D (.lst [])) s3.heap.objs.size (cellsFrom (s3.heap.objs.size + 1) scope.names (cloFrom X.env.cells scope.names [])) fp
  show codeAny _ _ (.compStart (.ListComp elt [⟨tg, iter, ifs, 0⟩] scope pos) 0 (.ref it) (.ref D) (compEnvC scope (cellsFrom (s3.heap.objs.size + 1) scope.names (cloFrom X.env.cells scope.names [])) s3.heap.objs.size X.env)) (compPost (model X.prog X.w) X.A X.xe use Qf (.ref D) s3.heap.objs.size) { s3 with heap := pushCells (s3.heap.push { cls := .type "dict", data := .dict #[] }) scope.names }
  have nfp : ∀ b ∈ fp, (upd H2 D (.lst [])) b = none := fun b hb => (f3 b hb).1.1
  generalize hce : compEnvC scope (cellsFrom (s3.heap.objs.size + 1) scope.names (cloFrom X.env.cells scope.names [])) s3.heap.objs.size X.env = ce at I4 pg pt pe ⊢
  have cL : ce.locals = s3.heap.objs.size := by subst hce; rfl
  generalize hH3 : upd H2 D (.lst []) = H3 at I3 I4 pg pt pe w0 nfp f3
  generalize hs4 : ({ s3 with heap := pushCells (s3.heap.push { cls := .type "dict", data := .dict #[] }) scope.names } : Shared) = s4 at I4 ⊢
  have st4 : tn 0 s4.heap := T.keep _ _ _ st3 fun b _ o e => by rw [← hs4]; exact pushCells_keeps _ _ _ _ (Heap.get?_push_of_some _ e)
  have stat : ∀ {σ' : St} {H' : Hp} {s' : Shared}, Inv (X.blk s3 H3 scope ce fp) [] σ' H' s' → (∀ b ∈ fp, H' b = none) → ∀ b ∈ fp, FpOk (X.blk s3 H3 scope ce fp) [] H' b := fun {σ' H' s'} I' hn b hb =>
    ⟨hn b hb, (I'.ok.exf b hb).1, I'.ok.exfs b hb, .inl hb, fun x c e => (I'.ok.exf b hb).2 x c e, fun p hp => absurd (show p ∈ ([] : List (Addr × Obj)) ++ [] from hp) (by simp)⟩
  have loop : codeAny (model X.prog X.w) X.A (.compLoop (.ListComp elt [⟨tg, iter, ifs, 0⟩] scope pos) 0 (.ref it) (.ref D) ce) (compPost (model X.prog X.w) X.A X.xe use Qf (.ref D) s3.heap.objs.size) s4 := by
    refine compLoop_any (fun n s' => ∃ i H', Inv (X.blk s3 H3 scope ce fp) [] (wipe σ (own.map (·.2))) H' s' ∧ tn i s'.heap ∧ (∀ b ∈ fp, H' b = none) ∧ W i n H') ?_ m0 ⟨0, H3, I4, st4, nfp, w0⟩
    rintro n s5 ⟨i, H5, I5, st5, n5, w5⟩
    rcases turn i n H5 w5 with ⟨stop, qq⟩ | ⟨go, Nx, hNx, step⟩
    · have td := T.done (X.blk s3 H3 scope ce fp) rfl rfl rfl hc i [] s5 _ H5 (fun _ _ => False) I5 (stat I5 n5) st5 stop
      refine thnF td fun r s6 ⟨hr, I6⟩ => ?_
      subst hr
      -- back in the def's context
      have I7 : Inv X pins σ H5 s6 := I3.call' (ch := fp) I6.os I6.base I6.hok I6.bare fun b hb => ⟨(f3 b hb).1.2.2.2.1, (f3 b hb).1.2.1, (f3 b hb).1.2.2.2.2.1, (f3 b hb).1.2.2.2.2.2⟩
      have nC : H5 s3.heap.objs.size = none := by
        have z : H5 ce.locals = none := I6.free
        rw [cL] at z
        exact z
      obtain ⟨m, hn, _⟩ := I6.loc
      have hn : s6.heap.Ns ce.locals m := hn
      rw [cL] at hn
      exact hRR D s3.heap.objs.size s6 m H5 I7 qq hn (I3.fpOk (Nat.le_refl _) nC)
    · have ti := T.item (X.blk s3 H3 scope ce fp) rfl rfl rfl hc i [] s5 _ H5 (fun _ _ => False) I5 (stat I5 n5) st5 go
      refine thnF ti fun r s6 ⟨u, hr, h6⟩ => ?_
      subst hr
      refine thnF h6 fun _ s7 ⟨x, H7, I7, r7, y7, st7, n7⟩ => ?_
      have I7' := I7.pinned (stat I7 n7) (T.obj _ _ st7)
      refine thnF (pg _ s7 _ H7 x u _ I7' r7 (step x H7 y7)) fun _ s8 ⟨σ8, H8, I8, hw8, q8⟩ => ?_
      refine thnF (pt _ s8 σ8 H8 _ I8 q8) fun b s9 ⟨H9, I9, q9⟩ => ?_
      -- the turn's end
      have fin : ∀ {s' : Shared} {H' : Hp}, Inv (X.blk s3 H3 scope ce fp) ([] ++ pinsAt fp s7.heap) σ8 H' s' → Nx H' → ∃ m, m < n ∧ ∃ i H', Inv (X.blk s3 H3 scope ce fp) [] (wipe σ (own.map (·.2))) H' s' ∧ tn i s'.heap ∧ (∀ b ∈ fp, H' b = none) ∧ W i m H' := fun {s' H'} I' nx => by
        obtain ⟨m', hm, w'⟩ := hNx H' nx
        have pin' : ∀ b ∈ fp, ∀ o, s7.heap.get? b = some o → s'.heap.get? b = some o ∧ H' b = none := fun b hb o e =>
          let z := I'.pin (b, o) (List.mem_append_right _ (List.mem_append_right _ (mem_pinsAt hb e)))
          ⟨z.1, z.2.1⟩
        have hl : (wipe σ (own.map (·.2))).length = σ8.length := by rw [← hw8, wipe_length]
        refine ⟨m', hm, i + 1, H', (I'.unpinned (pins := [])).weak hl (fun j v e => ?_), T.keep _ _ _ st7 fun b hb o e => (pin' b hb o e).1, fun b hb => ?_, w'⟩
        · rw [← hw8] at e
          exact (wipe_some e).1
        · obtain ⟨o, e, _⟩ := T.obj _ _ st7 b hb
          exact (pin' b hb o e).2
      cases b with
      | false =>
        simp only [Bool.false_eq_true, if_false] at q9 ⊢
        exact fin I9 q9
      | true =>
        simp only [if_true] at q9 ⊢
        refine thnF (pe _ s9 σ8 H9 _ I9 q9) fun z s10 ⟨yv, H10, I10, r10, acc, hD10, hz10, nx⟩ => ?_
        exact app_ok (X := X.blk s3 H3 scope ce fp) I10 hD10 hz10 r10 fun s11 I11 => fin I11 nx
  exact codeAny_compStart_list loop (T.self X.A 0 _ _ _ st4 loop)
/-- as a value -/
theorem pe_lc {elt tg iter : Expr} {ifs : List Expr} {scope : Scope} {own : List (Str × Nat)} {pos : Pos} {wi : TI} {g : TG} {tt : TT} {te : TE} (hc : X.calm = true) (hN : X.N.Nodup) (hi : PI X tg iter wi) (ok : BlkOk X.N X.env.scope scope own)
    (hg : ∀ (s : Shared) (H : Hp) (C : Addr) (cl : List (Str × Addr)) (fp : List Addr), PG (X.blk s H scope (compEnvC scope cl C X.env) fp) tg g) (ht : ∀ (s : Shared) (H : Hp) (C : Addr) (cl : List (Str × Addr)) (fp : List Addr), PTs (X.blk s H scope (compEnvC scope cl C X.env) fp) ifs tt)
    (he : ∀ (s : Shared) (H : Hp) (C : Addr) (cl : List (Str × Addr)) (fp : List Addr), PE (X.blk s H scope (compEnvC scope cl C X.env) fp) elt te) (hs : ∀ x, foldedSetIterable iter X.env x = pure x := by intro _; rfl) :
    PE X (.ListComp elt [⟨tg, iter, ifs, 0⟩] scope pos) (tLc wi g tt te (own.map (·.2))) := by
  intro pins s σ H Q I h
  rw [eval_ListComp]
  refine lc_core hc hN I hi ok hg ht he hs h fun D C s' m H' I' q hn f => ⟨m, hn, fun h'' sb => ?_⟩
  obtain ⟨f0, f1, f2, f3, f4, f5⟩ := f
  exact ⟨.ref D, H', I'.turned (t' := s'.toks) (fun b o hb e => (sb.2 b hb).trans e) f0 f1 f3 f4 f5, rfl, q⟩
/-- name = [..] on one line, the name a local -/
theorem ps_setLc {i : Nat} {y : Str} {py : Pos} {elt tg iter : Expr} {ifs : List Expr} {scope : Scope} {own : List (Str × Nat)} {pos spos : Pos} {wi : TI} {g : TG} {tt : TT} {te : TE} (hc : X.calm = true) (hN : X.N.Nodup) (hy : X.N[i]? = some y) (hyl : X.env.scope.names.lookup y = some .local)
    (hsw : swapsWith (.ListComp elt [⟨tg, iter, ifs, 0⟩] scope pos) (some (.Name y py)) spos.line X.env = pure true) (hi : PI X tg iter wi) (ok : BlkOk X.N X.env.scope scope own)
    (hg : ∀ (s : Shared) (H : Hp) (C : Addr) (cl : List (Str × Addr)) (fp : List Addr), PG (X.blk s H scope (compEnvC scope cl C X.env) fp) tg g) (ht : ∀ (s : Shared) (H : Hp) (C : Addr) (cl : List (Str × Addr)) (fp : List Addr), PTs (X.blk s H scope (compEnvC scope cl C X.env) fp) ifs tt)
    (he : ∀ (s : Shared) (H : Hp) (C : Addr) (cl : List (Str × Addr)) (fp : List Addr), PE (X.blk s H scope (compEnvC scope cl C X.env) fp) elt te) (hs : ∀ x, foldedSetIterable iter X.env x = pure x := by intro _; rfl) :
    PS X (.Assign [.Name y py] (.ListComp elt [⟨tg, iter, ifs, 0⟩] scope pos) spos) (tAsg (tLc wi g tt te (own.map (·.2))) (gName i)) := by
  intro pins s σ H D I h
  rw [exec_Assign_Name_used _ _ _ _ hsw]
  refine wpAny_bind (wpAny_standAt (wpAny_bind ?_))
  show wpAny _ X.A (do let _ ← comprehension (.ListComp elt [⟨tg, iter, ifs, 0⟩] scope pos) scope X.env (firstIterPos [⟨tg, iter, ifs, 0⟩] pos) (newList []) false (eval iter X.env) (some (assign (.Name y py) X.env))) _ _ s
  have h : tLc wi g tt te (own.map (·.2)) σ H (fun x H1 => gName i x σ H1 D.nx) := h
  refine wpAny_bind (thn (lc_core (Qf := fun _ s' => SP X pins D .next s') hc hN I hi ok hg ht he hs h fun L C s' m H' I' q hn f => ?_) fun _ s' hq => wpAny_pure (wpAny_pure hq))
  show wpAny _ _ (assign (.Name y py) X.env (.ref L)) _ _ _
  refine wpAny_assign_Name (store_ok2 (v := V.ref L) I' hN hy (.inl hyl) rfl (fun s2 I2 ⟨a, sb, ha⟩ => ?_) (.inr hyl))
  obtain ⟨f0, f1, f2, f3, f4, f5⟩ := f
  have haC : C ≠ a := by
    rcases ha with z | z
    · rw [z]; exact f1
    · exact fun e => f4 y a z e.symm
  refine ⟨m, hn.sameBut sb haC, fun h3 sb3 => ?_⟩
  exact ⟨_, H', I2.turned (t' := s2.toks) (fun b o hb e => (sb3.2 b hb).trans e) f0 f1 f3 f4 f5, q⟩
theorem sw_true {elt : Expr} {gs : List Comprehension} {scope : Scope} {pos py : Pos} {y : Str} {l : Nat} {env : Env} (hk : env.scope.kind = .function) (hy : env.scope.names.lookup y = some .local) (hl : (py.line == pos.line) = true)
    (ha : (scope.names.any fun (n, k) => n == y && (k == .local || k == .cell)) = false) : swapsWith (.ListComp elt gs scope pos) (some (.Name y py)) l env = pure true := by
  have ky : env.kindOf y = some .local := hy
  have hb : env.blockKind = .function := by unfold Env.blockKind; rw [hk]; rfl
  unfold swapsWith
  simp only [hb, ky, ha, Expr.pos, hl]
  rfl
end

/-! ### the forms one uses -/
/-- over a range: Pv by the turn and the heap (the new list at D within) -/
theorem lc_range {lo : Int} {n : Nat} {g : TG} {tt : TT} {te : TE} {vs : List Nat} {σ : St} {H1 : Hp} {D : Addr} {Qd : Hp → Prop} (Pv : Nat → Hp → Prop) (h0 : Pv 0 (upd H1 D (.lst [])))
    (hs : ∀ i H, i < n → Pv i H → g (.int (lo + i)) (wipe σ vs) H fun σ2 H2 => wipe σ2 vs = wipe σ vs ∧ tt σ2 H2 fun b H3 =>
      if b = true then te σ2 H3 fun y H4 => ∃ acc, H4 D = some (.lst acc) ∧ acc.length < sizeLine ∧ Pv (i + 1) (upd H4 D (.lst (acc ++ [y]))) else Pv (i + 1) H3) (hd : ∀ H, Pv n H → Qd H) :
    ∃ W : Nat → Nat → Hp → Prop, (∃ m, W 0 m (upd H1 D (.lst []))) ∧ ∀ i m H, W i m H →
      ((Itr lo n).stop i H ∧ Qd H) ∨ ((Itr lo n).go i H ∧ ∃ Nx : Hp → Prop, (∀ H', Nx H' → ∃ m', m' < m ∧ W (i + 1) m' H') ∧ ∀ x H', (Itr lo n).yld i H x H' → g x (wipe σ vs) H' fun σ2 H2 => wipe σ2 vs = wipe σ vs ∧ tt σ2 H2 fun b H3 =>
        if b = true then te σ2 H3 fun y H4 => ∃ acc, H4 D = some (.lst acc) ∧ acc.length < sizeLine ∧ Nx (upd H4 D (.lst (acc ++ [y]))) else Nx H3) := by
  refine ⟨fun i m H => m = n - i ∧ i ≤ n ∧ Pv i H, ⟨n, by simp, Nat.zero_le _, h0⟩, ?_⟩
  rintro i m H ⟨rfl, hi, p⟩
  by_cases hlt : i < n
  · refine .inr ⟨hlt, Pv (i + 1), fun H' p' => ⟨n - (i + 1), by omega, rfl, hlt, p'⟩, fun x H' y => ?_⟩
    obtain ⟨e, y⟩ := y
    subst e y
    exact hs i _ hlt p
  · have e : i = n := by omega
    subst e
    exact .inl ⟨Nat.le_refl _, hd H p⟩
/-- over a list that the block leaves as it is -/
theorem lc_list {K : PySem.W.Frag} {a : Addr} {xs : List V} {g : TG} {tt : TT} {te : TE} {vs : List Nat} {σ : St} {H1 : Hp} {D : Addr} {Qd : Hp → Prop} (Pv : Nat → Hp → Prop) (h0 : Pv 0 (upd H1 D (.lst []))) (hl : ∀ i H, i ≤ xs.length → Pv i H → SqL K H a xs)
    (hs : ∀ i x H, xs[i]? = some x → Pv i H → g x (wipe σ vs) H fun σ2 H2 => wipe σ2 vs = wipe σ vs ∧ tt σ2 H2 fun b H3 =>
      if b = true then te σ2 H3 fun y H4 => ∃ acc, H4 D = some (.lst acc) ∧ acc.length < sizeLine ∧ Pv (i + 1) (upd H4 D (.lst (acc ++ [y]))) else Pv (i + 1) H3) (hd : ∀ H, Pv xs.length H → Qd H) :
    ∃ W : Nat → Nat → Hp → Prop, (∃ m, W 0 m (upd H1 D (.lst []))) ∧ ∀ i m H, W i m H →
      ((Itl K a).stop i H ∧ Qd H) ∨ ((Itl K a).go i H ∧ ∃ Nx : Hp → Prop, (∀ H', Nx H' → ∃ m', m' < m ∧ W (i + 1) m' H') ∧ ∀ x H', (Itl K a).yld i H x H' → g x (wipe σ vs) H' fun σ2 H2 => wipe σ2 vs = wipe σ vs ∧ tt σ2 H2 fun b H3 =>
        if b = true then te σ2 H3 fun y H4 => ∃ acc, H4 D = some (.lst acc) ∧ acc.length < sizeLine ∧ Nx (upd H4 D (.lst (acc ++ [y]))) else Nx H3) := by
  refine ⟨fun i m H => m = xs.length - i ∧ i ≤ xs.length ∧ Pv i H, ⟨xs.length, by simp, Nat.zero_le _, h0⟩, ?_⟩
  rintro i m H ⟨rfl, hi, p⟩
  have q := hl i H hi p
  by_cases hlt : i < xs.length
  · refine .inr ⟨⟨xs, xs[i], q, by simp [hlt]⟩, Pv (i + 1), fun H' p' => ⟨xs.length - (i + 1), by omega, rfl, hlt, p'⟩, fun x H' y => ?_⟩
    obtain ⟨e, y⟩ := y
    subst e
    exact hs i x _ (y xs q) p
  · have e : i = xs.length := by omega
    subst e
    exact .inl ⟨⟨xs, q, Nat.le_refl _⟩, hd H p⟩
def blkC (N : List Str) (sc scope : Scope) (own : List (Str × Nat)) : Bool :=
  (match scope.kind with | .function => true | _ => false) && (scope.names.all fun y => decide (scope.names.lookup y.1 = some y.2)) && (own.all fun p => decide (N[p.2]? = some p.1)) &&
    (scope.names.all fun y => match y.2 with
      | .free => (match sc.names.lookup y.1 with | some .cell => true | some .free => true | _ => false)
      | .local => decide (y.1 ∈ own.map (·.1)) || decide (y.1 ∉ N)
      | .cell => decide (y.1 ∈ own.map (·.1)) || decide (y.1 ∉ N)
      | _ => true)
theorem blkOk_by {N : List Str} {sc scope : Scope} {own : List (Str × Nat)} (h : blkC N sc scope own = true) : BlkOk N sc scope own := by
  unfold blkC at h
  simp only [Bool.and_eq_true, List.all_eq_true, decide_eq_true_eq] at h
  obtain ⟨⟨⟨h1, h2⟩, h3⟩, h4⟩ := h
  refine ⟨?_, h2, h3, fun y hy e => ?_, fun y hy e => ?_⟩
  · split at h1
    · assumption
    · cases h1
  · have q := h4 y hy
    simp only [e] at q
    split at q <;> first | exact .inl (by assumption) | exact .inr (by assumption) | cases q
  · have q := h4 y hy
    rcases e with e | e <;> (simp only [e, Bool.or_eq_true, decide_eq_true_eq] at q; exact q)
end L2

namespace L2
open PySem PySem.Spec PyProof.Rows

section
variable {prog : Program} {w : World} {A : Around} {R : Result → Shared → Prop} {s : Shared} {elt t0 i0 t1 i1 : Expr} {ifs0 ifs1 : List Expr} {scope : Scope} {pos : Pos} {it acc : Value} {env : Env}
end

section
variable {X : Cx}
end
end L2

namespace L2
open PySem PySem.Spec PyProof.Rows

/-! ### lists of pairs as tables -/
section
variable {κ : Type} [DecidableEq κ]
def valV (kvs : List (κ × V)) (k : κ) : Option V := (kvs.find? fun kv => decide (kv.1 = k)).map (·.2)
/-- in its place, or at the end -/
def putK (kvs : List (κ × V)) (k : κ) (v : V) : List (κ × V) :=
  if (kvs.any fun kv => decide (kv.1 = k)) = true then kvs.map (fun kv => if kv.1 = k then (kv.1, v) else kv) else kvs ++ [(k, v)]
def dropK (kvs : List (κ × V)) (k : κ) : List (κ × V) := kvs.filter fun kv => decide (kv.1 ≠ k)

theorem valV_pos {p : κ × V} {r : List (κ × V)} {k : κ} (e : p.1 = k) : valV (p :: r) k = some p.2 := by simp [valV, List.find?_cons, e]
theorem valV_neg {p : κ × V} {r : List (κ × V)} {k : κ} (e : ¬ p.1 = k) : valV (p :: r) k = valV r k := by simp [valV, List.find?_cons, e]
theorem valV_any (k : κ) : ∀ kvs : List (κ × V), (kvs.any fun kv => decide (kv.1 = k)) = (valV kvs k).isSome
  | [] => rfl
  | p :: r => by
    rw [List.any_cons]
    by_cases e : p.1 = k
    · simp only [valV_pos e, decide_eq_true e, Bool.true_or, Option.isSome_some]
    · rw [valV_neg e, decide_eq_false e, Bool.false_or]; exact valV_any k r
theorem valV_map (k j : κ) (y : V) : ∀ kvs : List (κ × V), valV (kvs.map fun kv => if kv.1 = k then (kv.1, y) else kv) j = (valV kvs j).map fun x => if j = k then y else x
  | [] => rfl
  | p :: r => by
    have ih := valV_map k j y r
    rw [List.map_cons]
    by_cases h : p.1 = k
    · rw [if_pos h]
      by_cases e : p.1 = j
      · rw [valV_pos (p := (p.1, y)) e, valV_pos e, Option.map_some, if_pos (e.symm.trans h)]
      · rw [valV_neg (p := (p.1, y)) e, valV_neg e, ih]
    · rw [if_neg h]
      by_cases e : p.1 = j
      · rw [valV_pos (p := p) e, valV_pos e, Option.map_some, if_neg (fun z => h (e.trans z))]
      · rw [valV_neg (p := p) e, valV_neg e, ih]
theorem valV_snoc (k j : κ) (y : V) : ∀ kvs : List (κ × V), valV kvs k = none → valV (kvs ++ [(k, y)]) j = if j = k then some y else valV kvs j
  | [], _ => by
    by_cases e : k = j
    · rw [if_pos e.symm]; exact valV_pos (p := (k, y)) e
    · rw [if_neg (fun z => e z.symm)]; exact valV_neg (p := (k, y)) e
  | p :: r, hn => by
    rw [List.cons_append]
    have hk : ¬ p.1 = k := fun z => by rw [valV_pos z] at hn; cases hn
    rw [valV_neg hk] at hn
    have ih := valV_snoc k j y r hn
    by_cases e : p.1 = j
    · rw [valV_pos e, valV_pos e, if_neg (fun z => hk (e.trans z))]
    · rw [valV_neg e, valV_neg e, ih]
theorem valV_put (kvs : List (κ × V)) (k j : κ) (y : V) : valV (putK kvs k y) j = if j = k then some y else valV kvs j := by
  unfold putK
  by_cases a : (kvs.any fun kv => decide (kv.1 = k)) = true
  · rw [if_pos a, valV_map]
    rw [valV_any] at a
    by_cases e : j = k
    · obtain ⟨x, hx⟩ := Option.isSome_iff_exists.mp a
      rw [if_pos e, e, hx, Option.map_some, if_pos rfl]
    · rw [if_neg e]
      cases valV kvs j with
      | none => rfl
      | some x => rw [Option.map_some, if_neg e]
  · rw [if_neg a]
    refine valV_snoc k j y kvs ?_
    rw [valV_any] at a
    cases q : valV kvs k with
    | none => rfl
    | some x => rw [q] at a; exact (a rfl).elim
theorem length_putK (kvs : List (κ × V)) (k : κ) (v : V) : (putK kvs k v).length ≤ kvs.length + 1 := by
  unfold putK
  split
  · rw [List.length_map]; omega
  · rw [List.length_append, List.length_cons, List.length_nil]; omega
theorem putK_new {kvs : List (κ × V)} {k : κ} (v : V) (h : valV kvs k = none) : putK kvs k v = kvs ++ [(k, v)] := by
  unfold putK
  rw [valV_any, h]
  exact if_neg (by decide)

theorem RelO.isSome_eq {o : Option V} {u : Option Value} (r : RelO o u) : o.isSome = u.isSome := by
  cases o with
  | none => cases u with
    | none => rfl
    | some _ => exact (show False from r).elim
  | some _ => cases u with
    | none => exact (show False from r).elim
    | some _ => rfl
theorem RelO.getD {o : Option V} {u : Option Value} {d : V} {d' : Value} (r : RelO o u) (rd : RelV d d') : RelV (o.getD d) (u.getD d') := by
  cases o with
  | none => cases u with
    | none => exact rd
    | some _ => exact (show False from r).elim
  | some _ => cases u with
    | none => exact (show False from r).elim
    | some _ => exact r

/-- raw tables of the same keys -/
theorem KV.val {kvs : List (κ × V)} {vs : List (κ × Value)} (r : KV kvs vs) (k : κ) : RelO (valV kvs k) (valueAt vs k) := by
  unfold KV at r
  induction r with
  | nil => exact True.intro
  | @cons p q ps qs h t ih =>
    obtain ⟨h1, h2⟩ := h
    by_cases e : p.1 = k
    · have e' : q.1 = k := h1.symm.trans e
      have b : valueAt (q :: qs) k = some q.2 := by simp [valueAt, List.find?_cons, e']
      rw [valV_pos e, b]; exact h2
    · have e' : ¬ q.1 = k := fun z => e (h1.trans z)
      have b : valueAt (q :: qs) k = valueAt qs k := by simp [valueAt, List.find?_cons, e']
      rw [valV_neg e, b]; exact ih
theorem KV.any {kvs : List (κ × V)} {vs : List (κ × Value)} (r : KV kvs vs) (k : κ) : (kvs.any fun kv => decide (kv.1 = k)) = vs.any fun kv => decide (kv.1 = k) := by
  unfold KV at r
  induction r with
  | nil => rfl
  | cons h t ih => rw [List.any_cons, List.any_cons, ih, h.1]
theorem KV.repl {kvs : List (κ × V)} {vs : List (κ × Value)} (r : KV kvs vs) (k : κ) {y : V} {u : Value} (ry : RelV y u) :
    KV (kvs.map fun kv => if kv.1 = k then (kv.1, y) else kv) (vs.map fun kv => if kv.1 = k then (kv.1, u) else kv) := by
  unfold KV at r ⊢
  induction r with
  | nil => exact .nil
  | @cons p q ps qs h t ih =>
    rw [List.map_cons, List.map_cons]
    refine .cons ?_ ih
    obtain ⟨h1, h2⟩ := h
    by_cases e : p.1 = k
    · rw [if_pos e, if_pos (h1.symm.trans e)]; exact ⟨h1, ry⟩
    · rw [if_neg e, if_neg (fun z => e (h1.trans z))]; exact ⟨h1, h2⟩
theorem KV.put {kvs : List (κ × V)} {vs : List (κ × Value)} (r : KV kvs vs) (k : κ) {y : V} {u : Value} (ry : RelV y u) : KV (putK kvs k y) (stored vs k u) := by
  unfold putK stored
  rw [r.any k]
  by_cases e : (vs.any fun kv => decide (kv.1 = k)) = true
  · rw [if_pos e, if_pos e]; exact r.repl k ry
  · rw [if_neg e, if_neg e]; exact Paired.snoc r ⟨rfl, ry⟩
theorem KV.drop {kvs : List (κ × V)} {vs : List (κ × Value)} (r : KV kvs vs) (k : κ) : KV (dropK kvs k) (without vs k) := by
  unfold KV at r ⊢
  unfold dropK without
  induction r with
  | nil => exact .nil
  | @cons p q ps qs h t ih =>
    obtain ⟨h1, h2⟩ := h
    rw [List.filter_cons, List.filter_cons]
    by_cases e : p.1 = k
    · have a : ¬ decide (p.1 ≠ k) = true := by simp [e]
      have b : ¬ decide (q.1 ≠ k) = true := by simp [h1.symm.trans e]
      rw [if_neg a, if_neg b]; exact ih
    · have e' : ¬ q.1 = k := fun z => e (h1.trans z)
      have a : decide (p.1 ≠ k) = true := by simp [e]
      have b : decide (q.1 ≠ k) = true := by simp [e']
      rw [if_pos a, if_pos b]; exact .cons ⟨h1, h2⟩ ih
theorem KV.keys {kvs : List (κ × V)} {vs : List (κ × Value)} (r : KV kvs vs) : kvs.map (·.1) = vs.map (·.1) := by
  unfold KV at r
  induction r with
  | nil => rfl
  | cons h t ih => rw [List.map_cons, List.map_cons, ih, h.1]
theorem KV.length {kvs : List (κ × V)} {vs : List (κ × Value)} (r : KV kvs vs) : kvs.length = vs.length := Paired.length r
end


/-! ### a tracked dict, its keys ints and texts or tuples of these -/
theorem kV_is {P : Program} {w : World} {k : Key} {u : Value} (r : RelV (kV k) u) : (mixKind P w).is k u = true := by
  cases k with
  | inl i => obtain ⟨t, e⟩ := (show ∃ t, u = Value.int i t from r); subst e; exact mixKind_int P w i t
  | inr x => obtain ⟨t, e⟩ := (show ∃ t, u = Value.str x t from r); subst e; exact mixKind_str P w x t
theorem items_are {P : Program} {w : World} : ∀ {ks : List Key} {us : List Value}, Vals (ks.map kV) us → ItemsAre (mixKind P w) ks us
  | [], _, r => by rw [List.map_nil] at r; cases r; exact .nil
  | k :: ks, _, r => by
    rw [List.map_cons] at r
    cases r with
    | cons h t => exact .cons (kV_is h) (items_are t)

/-- raw entries of a dict with tuple keys -/
abbrev KT (H : Hp) : List (List Key × V) → List (List Key × Addr × Value) → Prop := Paired fun p q => p.1 = q.1 ∧ H q.2.1 = some (.tup (p.1.map kV)) ∧ RelV p.2 q.2.2
theorem KT.val {H : Hp} {kvs : List (List Key × V)} {xs : List (List Key × Addr × Value)} (r : KT H kvs xs) (k : List Key) : RelO (valV kvs k) ((atKey xs k).map (·.2)) := by
  induction r with
  | nil => exact True.intro
  | @cons p q ps qs h t ih =>
    obtain ⟨h1, _, h2⟩ := h
    by_cases e : p.1 = k
    · have e' : q.1 = k := h1.symm.trans e
      have b : atKey (q :: qs) k = some q.2 := by simp [atKey, List.find?_cons, e']
      rw [valV_pos e, b]; exact h2
    · have e' : ¬ q.1 = k := fun z => e (h1.trans z)
      have b : atKey (q :: qs) k = atKey qs k := by simp [atKey, List.find?_cons, e']
      rw [valV_neg e, b]; exact ih
theorem KT.repl {H : Hp} {kvs : List (List Key × V)} {xs : List (List Key × Addr × Value)} (r : KT H kvs xs) (k : List Key) {y : V} {u : Value} (ry : RelV y u) :
    KT H (kvs.map fun kv => if kv.1 = k then (kv.1, y) else kv) (xs.map (putAt k u)) := by
  induction r with
  | nil => exact .nil
  | @cons p q ps qs h t ih =>
    rw [List.map_cons, List.map_cons]
    refine .cons ?_ ih
    obtain ⟨h1, h2, h3⟩ := h
    unfold putAt
    by_cases e : p.1 = k
    · rw [if_pos e, if_pos (h1.symm.trans e)]; exact ⟨h1, h2, ry⟩
    · rw [if_neg e, if_neg (fun z => e (h1.trans z))]; exact ⟨h1, h2, h3⟩
theorem KT.put {H : Hp} {kvs : List (List Key × V)} {xs : List (List Key × Addr × Value)} (r : KT H kvs xs) (k : List Key) {b : Addr} {y : V} {u : Value} (hb : H b = some (.tup (k.map kV))) (ry : RelV y u) :
    KT H (putK kvs k y) (storedH xs k b u) := by
  have e : (kvs.any fun kv => decide (kv.1 = k)) = (atKey xs k).isSome := by
    rw [valV_any, (r.val k).isSome_eq, Option.isSome_map]
  unfold putK storedH
  rw [e]
  by_cases q : (atKey xs k).isSome = true
  · rw [if_pos q, if_pos q]; exact r.repl k ry
  · rw [if_neg q, if_neg q]; exact Paired.snoc r ⟨rfl, hb, ry⟩
theorem KT.keeps {H H' : Hp} {kvs : List (List Key × V)} {xs : List (List Key × Addr × Value)} (r : KT H kvs xs) (ht : ∀ b ys, H b = some (.tup ys) → H' b = some (.tup ys)) : KT H' kvs xs :=
  Paired.mapP r fun _ _ z => ⟨z.1, ht _ _ z.2.1, z.2.2⟩

section
variable {P : Program} {w : World} {H : Hp} {h : Heap} {a : Addr}
theorem rd_of {u : HO} (ok : HOk P w H h) (e : Rd H a u) : ObjOk P w H h a u := e.ok ok
theorem dk_rd {kvs : List (Key × V)} (ok : HOk P w H h) (e : Rd H a (.dK kvs)) : kvs.length ≤ sizeLine ∧ (a == sysModules) = false ∧ ∃ vs, KV kvs vs ∧ h.DictOf (mixKind P w) a vs :=
  show ObjOk P w H h a (.dK kvs) from rd_of ok e
theorem dk_of {kvs : List (Key × V)} (ok : HOk P w H h) (e : H a = some (.dK kvs)) : kvs.length ≤ sizeLine ∧ (a == sysModules) = false ∧ ∃ vs, KV kvs vs ∧ h.DictOf (mixKind P w) a vs := dk_rd ok (.inl e)
/-- a tracked tuple of ints and texts is a key -/
theorem key_of {ks : List Key} (ok : HOk P w H h) (e : H a = some (.tup (ks.map kV))) : (tupleKind (mixKind P w)).is h ks a := by
  obtain ⟨_, its, r, o, h1, h2, n, h3⟩ := (show ObjOk P w H h a (.tup (ks.map kV)) from ok a _ e)
  exact ⟨o, its.toArray, n, h1, h2, h3, by simpa using items_are r⟩
theorem dt_rd {kvs : List (List Key × V)} (ok : HOk P w H h) (e : Rd H a (.dT kvs)) : kvs.length ≤ sizeLine ∧ (a == sysModules) = false ∧
    ∃ xs, KT H kvs xs ∧ h.DictOfH (tupleKind (mixKind P w)) a xs := by
  obtain ⟨z, y, xs, r, o, es, ep, h1, h2, h3, h4, h5⟩ := (show ObjOk P w H h a (.dT kvs) from rd_of ok e)
  refine ⟨z, y, xs, r, o, es, ep, h1, h2, h3, h4, fun x hx => ?_, h5⟩
  have all : ∀ {l : List (List Key × V)} {m : List (List Key × Addr × Value)}, KT H l m → ∀ x ∈ m, (tupleKind (mixKind P w)).is h x.1 x.2.1 := by
    intro l m q
    induction q with
    | nil => intro x hx; exact nomatch hx
    | @cons p q ps qs hq t ih =>
      intro x hx
      rcases List.mem_cons.mp hx with e | hx
      · subst e
        exact key_of ok (by rw [← hq.1]; exact hq.2.1)
      · exact ih x hx
  exact all r x hx
theorem dt_of {kvs : List (List Key × V)} (ok : HOk P w H h) (e : H a = some (.dT kvs)) : kvs.length ≤ sizeLine ∧ (a == sysModules) = false ∧
    ∃ xs, KT H kvs xs ∧ h.DictOfH (tupleKind (mixKind P w)) a xs := dt_rd ok (.inl e)
end

/-- what the dict at a holds at the key y -/
def DGet (H : Hp) (a : Addr) (y : V) (r : Option V) : Prop :=
  (∃ kvs k, Rd H a (.dK kvs) ∧ y = kV k ∧ r = valV kvs k) ∨ ∃ kvs k b, Rd H a (.dT kvs) ∧ y = .ref b ∧ H b = some (.tup (k.map kV)) ∧ r = valV kvs k
/-- the heap behind a[y] = v -/
def DPut (H : Hp) (a : Addr) (y v : V) (H' : Hp) : Prop :=
  (∃ kvs k, H a = some (.dK kvs) ∧ y = kV k ∧ kvs.length < sizeLine ∧ H' = upd H a (.dK (putK kvs k v))) ∨
  ∃ kvs k b, H a = some (.dT kvs) ∧ y = .ref b ∧ H b = some (.tup (k.map kV)) ∧ kvs.length < sizeLine ∧ H' = upd H a (.dT (putK kvs k v))
theorem DGet.k {H : Hp} {a : Addr} {kvs : List (Key × V)} {k : Key} (e : H a = some (.dK kvs)) : DGet H a (kV k) (valV kvs k) := .inl ⟨kvs, k, .inl e, rfl, rfl⟩
theorem DGet.t {H : Hp} {a b : Addr} {kvs : List (List Key × V)} {k : List Key} (e : H a = some (.dT kvs)) (eb : H b = some (.tup (k.map kV))) : DGet H a (.ref b) (valV kvs k) := .inr ⟨kvs, k, b, .inl e, rfl, eb, rfl⟩
theorem DPut.k {H : Hp} {a : Addr} {kvs : List (Key × V)} {k : Key} {v : V} (e : H a = some (.dK kvs)) (hl : kvs.length < sizeLine) : DPut H a (kV k) v (upd H a (.dK (putK kvs k v))) := .inl ⟨kvs, k, e, rfl, hl, rfl⟩
theorem DPut.t {H : Hp} {a b : Addr} {kvs : List (List Key × V)} {k : List Key} {v : V} (e : H a = some (.dT kvs)) (eb : H b = some (.tup (k.map kV))) (hl : kvs.length < sizeLine) :
    DPut H a (.ref b) v (upd H a (.dT (putK kvs k v))) := .inr ⟨kvs, k, b, e, rfl, eb, hl, rfl⟩


section
variable {X : Cx} {pins : List (Addr × Obj)} {σ : St} {H : Hp} {s : Shared} {a : Addr} {y v : V} {u r : Value} {o : Option V} {A : Around} {E : Value → Shared → Prop}

theorem Inv.big (I : Inv X pins σ H s) : sysModules < s.heap.objs.size := by
  have h : mainGlobals < s.heap.objs.size := (I.mod.glob.keeps I.bk).lt
  exact Nat.lt_trans (by decide) h

/-- d[y], there -/
theorem d_getItem {Q : Value → Shared → Prop} (hu : A.units + 1 < cLine) (I : Inv X pins σ H s) (g : DGet H a y (some v)) (ry : RelV y u) (h : ∀ w' s', Inv X pins σ H s' → RelV v w' → Q w' s') :
    wpAny (model X.prog X.w) A (getItem (.ref a) u) Q E s := by
  rcases g with ⟨kvs, k, e, ey, l⟩ | ⟨kvs, k, b, e, ey, eb, l⟩
  · subst ey
    obtain ⟨z, hd, vs, rel, dd⟩ := dk_rd I.hok e
    obtain ⟨w', hw, rw'⟩ := RelO.some_of (v := v) (o := valueAt vs k) (by rw [l]; exact rel.val k)
    exact wpAny_getItem_of (kV_is ry) dd.mapOf hw (h w' _ (I.tok _) rw')
  · subst ey
    cases (show u = Value.ref b from ry)
    obtain ⟨z, hd, xs, rel, dd⟩ := dt_rd I.hok e
    obtain ⟨w', hw, rw'⟩ := RelO.some_of (v := v) (o := (atKey xs k).map (·.2)) (by rw [l]; exact rel.val k)
    obtain ⟨p, hp, hp2⟩ := Option.map_eq_some_iff.mp hw
    refine wpAny_getItem_heap (tupleKind_room_in1 hu) (key_of I.hok eb) dd hp ?_
    rw [hp2]
    exact h w' _ (I.tok _) rw'
/-- y in d -/
theorem d_in {Q : Value → Shared → Prop} (hu : A.units + 1 < cLine) (I : Inv X pins σ H s) (g : DGet H a y o) (ry : RelV y u) (h : ∀ s', Inv X pins σ H s' → Q (.bool o.isSome) s') :
    wpAny (model X.prog X.w) A (compareOp .In u (.ref a)) Q E s := by
  rcases g with ⟨kvs, k, e, ey, l⟩ | ⟨kvs, k, b, e, ey, eb, l⟩
  · subst ey
    obtain ⟨z, hd, vs, rel, dd⟩ := dk_rd I.hok e
    refine wpAny_in_of (kV_is ry) hd dd.mapOf ?_
    rw [← (rel.val k).isSome_eq, ← l]
    exact h _ (I.tok _)
  · subst ey
    cases (show u = Value.ref b from ry)
    obtain ⟨z, hd, xs, rel, dd⟩ := dt_rd I.hok e
    refine wpAny_in_heap (tupleKind_room_in1 hu) (key_of I.hok eb) hd dd ?_
    have q := (rel.val k).isSome_eq
    rw [Option.isSome_map] at q
    rw [← q, ← l]
    exact h _ (I.tok _)
theorem d_notIn {Q : Value → Shared → Prop} (hu : A.units + 1 < cLine) (I : Inv X pins σ H s) (g : DGet H a y o) (ry : RelV y u) (h : ∀ s', Inv X pins σ H s' → Q (.bool (!o.isSome)) s') :
    wpAny (model X.prog X.w) A (compareOp .NotIn u (.ref a)) Q E s := by
  rcases g with ⟨kvs, k, e, ey, l⟩ | ⟨kvs, k, b, e, ey, eb, l⟩
  · subst ey
    obtain ⟨z, hd, vs, rel, dd⟩ := dk_rd I.hok e
    refine wpAny_notIn_of (kV_is ry) hd dd.mapOf ?_
    rw [← (rel.val k).isSome_eq, ← l]
    exact h _ (I.tok _)
  · subst ey
    cases (show u = Value.ref b from ry)
    obtain ⟨z, hd, xs, rel, dd⟩ := dt_rd I.hok e
    refine wpAny_notIn_heap (tupleKind_room_in1 hu) (key_of I.hok eb) hd dd ?_
    have q := (rel.val k).isSome_eq
    rw [Option.isSome_map] at q
    rw [← q, ← l]
    exact h _ (I.tok _)
/-- a dict's object is replaced -/
theorem d_write {h' : Heap} {t' : Nat} {ob : HO} (I : Inv X pins σ H s) (mu : Mut (H a)) (hs : Heap.SameBut a s.heap h') (he : ∃ q, h'.get? a = some q) (new : ObjOk X.prog X.w (upd H a ob) h' a ob) :
    Inv X pins σ (upd H a ob) { s with heap := h', toks := t' } :=
  I.write (x := a) (e := a) mu (.inl rfl) (fun b q hb z => (hs.2 b hb).trans z) he new
theorem dk_new {P : Program} {w : World} {H' : Hp} {h' : Heap} {kvs : List (Key × V)} {vs : List (Key × Value)} (z : kvs.length ≤ sizeLine) (hd : (a == sysModules) = false) (rel : KV kvs vs) (dd : h'.DictOf (mixKind P w) a vs) :
    ObjOk P w H' h' a (.dK kvs) := ⟨z, hd, vs, rel, dd⟩
/-- d[y] = v -/
theorem d_setItem {H' : Hp} {Q : Unit → Shared → Prop} (hu : A.units + 1 < cLine) (I : Inv X pins σ H s) (g : DPut H a y v H') (ry : RelV y u) (rv : RelV v r) (h : ∀ s', Inv X pins σ H' s' → Q () s') :
    wpAny (model X.prog X.w) A (setItem (.ref a) u r) Q E s := by
  rcases g with ⟨kvs, k, e, ey, l, eH⟩ | ⟨kvs, k, b, e, ey, eb, l, eH⟩
  · subst ey eH
    obtain ⟨z, hd, vs, rel, dd⟩ := dk_of I.hok e
    have hz : vs.length ≤ sizeLine := by rw [← rel.length]; exact z
    have hl : (putK kvs k v).length ≤ sizeLine := by have := length_putK kvs k v; omega
    refine wpAny_setItem_pairs (hsz := hz) (kV_is ry) dd fun h' dd' hs => h _ ?_
    have he : ∃ q, h'.get? a = some q := let ⟨q, _, _, hq, _⟩ := dd'; ⟨q, hq⟩
    exact d_write I (by rw [e]; exact True.intro) hs he (dk_new hl hd (rel.put k rv) dd')
  · subst ey eH
    cases (show u = Value.ref b from ry)
    obtain ⟨z, hd, xs, rel, dd⟩ := dt_of I.hok e
    have hz : xs.length ≤ sizeLine := by rw [← Paired.length rel]; exact z
    have hl : (putK kvs k v).length ≤ sizeLine := by have := length_putK kvs k v; omega
    refine wpAny_setItem_heap (hsz := hz) (tupleKind_room_in1 hu) (key_of I.hok eb) dd fun h' dd' hs => h _ ?_
    obtain ⟨q, es, ep, hq, h2, h3, h4, _, h5⟩ := dd'
    refine d_write I (by rw [e]; exact True.intro) hs ⟨q, hq⟩ ⟨hl, hd, _, (rel.put k eb rv).keeps fun c ys ec => ?_, q, es, ep, hq, h2, h3, h4, h5⟩
    rw [upd_ne (ne_of ec e (fun z => nomatch z))]
    exact ec
end

section
variable {X : Cx} {pins : List (Addr × Obj)} {σ : St} {H : Hp} {s : Shared} {a : Addr} {kvs : List (Key × V)} {k : Key} {u : Value} {A : Around} {E : Value → Shared → Prop}
/-- len(d) -/
theorem d_len {Q : Value → Shared → Prop} (I : Inv X pins σ H s) (e : Rd H a (.dK kvs)) (h : ∀ t s', Inv X pins σ H s' → Q (.int kvs.length t) s') : wpAny (model X.prog X.w) A (call (.builtin "len") [.ref a]) Q E s := by
  obtain ⟨z, hd, vs, rel, dd⟩ := dk_rd I.hok e
  refine call_len_dict hd dd (by rw [← rel.length]; rw [sizeLine_eq] at z; omega) ?_
  rw [← rel.length]
  exact h _ _ (I.tok _)
end


/-! ### readings and rules -/
/-- the element of a subscription, not a slice -/
def NoSl (i : Expr) : Prop := ∀ ov iv, subscripted i false ov iv = operate [ov, iv] (getItem ov iv)
theorem subD_of {prog : Program} {w : World} {A : Around} {E : Value → Shared → Prop} {s : Shared} {env : Env} {value slice : Expr} {pos : Pos} {T id : String} {Q : Value → Shared → Prop}
    (hl : typeLookup (.type T) "__getitem__" = pure (some (.builtin id))) (hs : NoSl slice)
    (h : wpAny (model prog w) A (eval value env) (fun o s₁ => wpAny (model prog w) A (eval slice env) (fun i s₂ => s₂.TypeIs o T ∧ wpAny (model prog w) A (getItem o i) Q E s₂) E s₁) E s) :
    wpAny (model prog w) A (eval (.Subscript value slice pos) env) Q E s := by
  refine Subscript_ (wpAny_mono h (fun o s₁ h₁ => wpAny_mono h₁ (fun i s₂ h₂ => ?_) fun _ _ x => x) fun _ _ x => x)
  obtain ⟨hT, h₂⟩ := h₂
  unfold subscriptTail
  refine wpAny_bind ?_
  rw [getitemInPython_of_ne hT.not_modules]
  refine wpAny_bind (wpAny_specialOf hT hl ?_)
  have fin : wpAny (model prog w) A (subscripted slice false o i) (fun r s₃ => wpAny (model prog w) A (letTemporaryGo value o r >>= fun _ => pure r) Q E s₃) E s₂ := by
    rw [hs o i]
    exact wpAny_operating (wpAny_mono h₂ (fun r s₃ h₃ => wpAny_bind (wpAny_letTemporaryGo (wpAny_pure h₃))) fun _ _ x => x)
  first
    | exact wpAny_pure (wpAny_bind fin)
    | exact wpAny_bind (wpAny_pure (wpAny_bind fin))
    | exact wpAny_bind fin

theorem dict_typeIs {X : Cx} {pins : List (Addr × Obj)} {σ : St} {H : Hp} {s : Shared} {a : Addr} {y : V} {o : Option V} (I : Inv X pins σ H s) (g : DGet H a y o) : s.TypeIs (.ref a) "dict" := by
  rcases g with ⟨kvs, k, e, _, _⟩ | ⟨kvs, k, b, e, _, _, _⟩
  · obtain ⟨_, _, vs, _, dd⟩ := dk_rd I.hok e
    exact dd.typeIs
  · obtain ⟨_, _, xs, _, dd⟩ := dt_rd I.hok e
    exact dd.typeIs
/-- d[y] -/
def tDGet (td ty : TE) : TE := fun σ H Q => td σ H fun x H1 => ty σ H1 fun y H2 => ∃ a v, x = .ref a ∧ DGet H2 a y (some v) ∧ Q v H2
/-- y in d, y not in d -/
def tDIn (ty td : TE) : TE := fun σ H Q => ty σ H fun y H1 => td σ H1 fun x H2 => ∃ a o, x = .ref a ∧ DGet H2 a y o ∧ Q (.bl o.isSome) H2
def tDNotIn (ty td : TE) : TE := fun σ H Q => ty σ H fun y H1 => td σ H1 fun x H2 => ∃ a o, x = .ref a ∧ DGet H2 a y o ∧ Q (.bl (!o.isSome)) H2
/-- d[y] = v -/
def sDPut (td ty tv : TE) : TS := fun D σ H => tv σ H fun v H1 => td σ H1 fun x H2 => ty σ H2 fun y H3 => ∃ a H4, x = .ref a ∧ DPut H3 a y v H4 ∧ D.nx σ H4
section
variable {X : Cx} {o i e value : Expr} {pos pos' tpos : Pos} {td ty tv : TE}
theorem pe_dget (hu : X.A.units + 1 < cLine) (ho : PE X o td) (hi : PE X i ty) (hs : NoSl i) : PE X (.Subscript o i pos) (tDGet td ty) := by
  intro pins s σ H Q I h
  refine subD_of PySem.F.slot_dict_getitem.lookup hs (thn (ho pins s σ H _ I h) fun u s1 ⟨x, H1, I1, rx, q1⟩ => thn (hi pins s1 σ H1 _ I1 q1) fun iv s2 ⟨y, H2, I2, ry, a, v, ex, g, q2⟩ => ?_)
  subst ex
  obtain rfl : u = Value.ref a := rx
  exact ⟨dict_typeIs I2 g, d_getItem hu I2 g ry fun w' s3 I3 rw' => ⟨v, H2, I3, rw', q2⟩⟩
theorem pc_din (hu : X.A.units + 1 < cLine) (hi : PE X i ty) (ho : PE X o td) : PC X .In i o (tDIn ty td) := by
  intro pins s σ H Q I h
  refine thn (hi pins s σ H _ I h) fun iv s1 ⟨y, H1, I1, ry, q1⟩ => thn (ho pins s1 σ H1 _ I1 q1) fun u s2 ⟨x, H2, I2, rx, a, ov, ex, g, q2⟩ => ?_
  subst ex
  obtain rfl : u = Value.ref a := rx
  exact d_in hu I2 g ry fun s3 I3 => ⟨.bl ov.isSome, H2, I3, rfl, q2⟩
theorem pc_dnotin (hu : X.A.units + 1 < cLine) (hi : PE X i ty) (ho : PE X o td) : PC X .NotIn i o (tDNotIn ty td) := by
  intro pins s σ H Q I h
  refine thn (hi pins s σ H _ I h) fun iv s1 ⟨y, H1, I1, ry, q1⟩ => thn (ho pins s1 σ H1 _ I1 q1) fun u s2 ⟨x, H2, I2, rx, a, ov, ex, g, q2⟩ => ?_
  subst ex
  obtain rfl : u = Value.ref a := rx
  exact d_notIn hu I2 g ry fun s3 I3 => ⟨.bl (!ov.isSome), H2, I3, rfl, q2⟩
theorem ps_dput (hu : X.A.units + 1 < cLine) (ho : PE X o td) (hi : PE X i ty) (hv : PE X value tv) (hs : swapsWith value (some (.Subscript o i pos')) pos.line X.env = pure false) :
    PS X (.Assign [.Subscript o i pos'] value pos) (sDPut td ty tv) := by
  intro pins s σ H D I h
  refine wpAny_Assign_Subscript (thn (hv pins s σ H _ I h) fun r s1 ⟨v, H1, I1, rv, q1⟩ => thn (ho pins s1 σ H1 _ I1 q1) fun u s2 ⟨x, H2, I2, rx, q2⟩ => thn (hi pins s2 σ H2 _ I2 q2) fun iv s3 ⟨y, H3, I3, ry, a, H4, ex, g, q3⟩ => ?_) hs
  subst ex
  obtain rfl : u = Value.ref a := rx
  exact d_setItem hu I3 g ry rv fun s4 I4 => ⟨σ, H4, I4, q3⟩
end


/-! ### displays -/
theorem dk_empty {P : Program} {w : World} {H : Hp} (h : Heap) (hb : sysModules < h.objs.size) : ObjOk P w H (h.push { cls := .type "dict", data := .dict #[] }) h.objs.size (.dK []) :=
  ⟨Nat.zero_le _, beq_eq_false_iff_ne.mpr (Ne.symm (Nat.ne_of_lt hb)), [], .nil, Heap.DictOf.new h⟩
/-- {}, to be a dict of the kind that is wanted -/
def tDNewK : TE := fun _ H Q => ∀ p, H p = none → Q (.ref p) (upd H p (.dK []))
section
variable {X : Cx} {pos : Pos}
theorem pe_dnewK : PE X (.Dict [] [] pos) tDNewK := fun pins s σ H Q I h =>
  wpAny_Dict_empty ⟨.ref s.heap.objs.size, _, I.laid (a := s.heap.objs.size) (o := .dK []) (t' := s.toks) (fun _ _ q => Heap.get?_push_of_some _ q) (Nat.le_refl _) (dk_empty s.heap I.big), rfl, h _ (I.hok.fresh (Nat.le_refl _))⟩
end

/-! ### methods -/
/-- a method call o.m(e) of a built-in, with one argument: what must be seen of the text -/
structure M1 (X : Cx) (o : Expr) (m : Str) (apos : Pos) (e : Expr) (cpos : Pos) : Prop where
  base : attributeBase o m X.env (eval o X.env) = eval o X.env
  few : ((backTo cpos (starEach [e] X.env)).all (fun x => !x.1) && (backToKw cpos (keywordEach [] X.env)).all (fun x => x.1.isSome)
    && decide (([e] : List Expr).length + ([] : List Keyword).length + (if ([] : List Keyword).isEmpty then 0 else 1) < 30)) = true
  line : (apos.endLine == cpos.line) = true
  trees : backTo cpos (starEach [e] X.env) = [(false, eval e X.env)]
structure M2 (X : Cx) (o : Expr) (m : Str) (apos : Pos) (e f : Expr) (cpos : Pos) : Prop where
  base : attributeBase o m X.env (eval o X.env) = eval o X.env
  few : ((backTo cpos (starEach [e, f] X.env)).all (fun x => !x.1) && (backToKw cpos (keywordEach [] X.env)).all (fun x => x.1.isSome)
    && decide (([e, f] : List Expr).length + ([] : List Keyword).length + (if ([] : List Keyword).isEmpty then 0 else 1) < 30)) = true
  line : (apos.endLine == cpos.line) = true
  trees : backTo cpos (starEach [e, f] X.env) = [(false, eval e X.env), (false, eval f X.env)]

section
variable {X : Cx} {pins : List (Addr × Obj)} {σ : St} {H : Hp} {s : Shared} {a : Addr} {y d : V} {u r : Value} {o : Option V} {A : Around} {E : Value → Shared → Prop}
end

section
variable {X : Cx} {o e f : Expr} {apos cpos : Pos} {td ty tx : TE}
end

/-! ### dict(d): a copy -/
section
variable {X : Cx} {pins : List (Addr × Obj)} {σ : St} {H : Hp} {s : Shared} {a : Addr} {kvs : List (Key × V)} {A : Around} {E : Value → Shared → Prop}
theorem d_copyOf {Q : Value → Shared → Prop} (I : Inv X pins σ H s) (e : Rd H a (.dK kvs)) (h : ∀ p s', H p = none → Inv X pins σ (upd H p (.dK kvs)) s' → Q (.ref p) s') : wpAny (model X.prog X.w) A (call (.type "dict") [.ref a]) Q E s := by
  obtain ⟨z, hd, vs, rel, dd⟩ := dk_rd I.hok e
  refine kt_call_dict hd dd (by rw [← rel.length]; exact z) fun h' dd' hs => ?_
  refine h _ _ (I.hok.fresh (Nat.le_refl _)) (I.laid (a := s.heap.objs.size) (o := .dK kvs) (t' := s.toks) (fun b q hq => ?_) (Nat.le_refl _) (dk_new z (beq_eq_false_iff_ne.mpr (Ne.symm (Nat.ne_of_lt I.big))) rel dd'))
  exact (hs.2 b (Nat.ne_of_lt (Heap.lt_size hq))).trans (Heap.get?_push_of_some _ hq)
end


section
variable {X : Cx} {pins : List (Addr × Obj)} {σ : St} {H : Hp} {s : Shared} {a : Addr} {y : V} {u : Value} {A : Around} {E : Value → Shared → Prop}
end
end L2

namespace L2
open PySem PySem.Spec PyProof.Rows

section
variable {prog : Program} {w : World} {A : Around} {E : Value → Shared → Prop}
end

section
variable {X : Cx}
theorem refs_at : ∀ {ps : List Addr} {us : List Value}, Vals (ps.map V.ref) us → us = ps.map Value.ref
  | [], us, r => by
    rw [List.map_nil] at r
    cases r
    rfl
  | p :: ps, us, r => by
    rw [List.map_cons] at r
    cases r with
    | cons h t =>
      cases h
      rw [List.map_cons, ← refs_at t]
end
end L2

namespace L2
open PySem PySem.Spec PyProof.Rows

theorem boot_reversed5 : bootBuiltins "reversed" = some (.type "reversed") := by decide +kernel

section
variable {X : Cx} {pins : List (Addr × Obj)} {σ : St} {H : Hp} {s : Shared} {h' : Heap}
/-- .. and one new object is laid -/
theorem Inv.turnedNew {t' : Nat} {ch : List Addr} {T : Addr} {ob : HO} (I : Inv X pins σ H s) (k : ∀ b o, b ∉ ch → s.heap.get? b = some o → h'.get? b = some o) (hf : ∀ b ∈ ch, FpOk X pins H b) (hT : s.heap.objs.size ≤ T)
    (new : ObjOk X.prog X.w (upd H T ob) h' T ob) : Inv X pins σ (upd H T ob) { s with heap := h', toks := t' } := by
  have hn : H T = none := I.hok.fresh hT
  have nit : ∀ b u, H b = some u → b ∉ ch := fun b u e z => by
    have q := (hf b z).1
    rw [q] at e; cases e
  refine I.step (g' := s.gens) (d' := s.drawn) (ch := ch) (fun b hb => ⟨(hf b hb).2.2.2.1, (hf b hb).2.1, (hf b hb).2.2.2.2.1, (hf b hb).2.2.2.2.2⟩) (fun b o _ _ hc e _ => k b o hc e) (fun b o _ _ hc e _ => ⟨o.slots, k b o hc e⟩)
    (fun b o _ e n => ?_) (fun b o hc e => ⟨o, k b o hc e⟩) (fun b xs e => ?_) (fun b o u e => ?_) (fun b ps e => ⟨#[], ?_⟩) (fun m hm => ?_) (fun b u e => ?_) I.bare
  · rw [upd_ne (Nat.ne_of_lt (Nat.lt_of_lt_of_le (Heap.lt_size e) hT))]; exact n
  · rw [upd_ne (ne_of_none e hn)]; exact e
  · rw [upd_ne (ne_of_none e hn)]; exact e
  · rw [upd_ne (ne_of_none e hn), e]; simp
  · obtain ⟨o, es, ep, ho, r⟩ := hm
    exact ⟨o, es, ep, k _ o (fun z => (hf _ z).2.1 rfl) ho, r⟩
  · by_cases hb : b = T
    · subst hb
      rw [upd_same] at e
      cases e
      exact new
    · rw [upd_ne hb] at e
      refine (I.hok b u e).stay (fun c v hc q => k c v ?_ q) (fun c q => by rw [upd_ne (ne_of_none q hn)]; exact q) fun c xs q => by rw [upd_ne (ne_of_none q hn)]; exact q
      rcases hc with z | z
      · rw [z]; exact nit b u e
      · exact nit c _ z

/-! ### locking a thing while a statement runs -/
theorem Inv.lock {d : Addr} {u : HO} (I : Inv X pins σ H s) (h : H d = some u) (mu : Mut (some u)) : ∃ od, Inv X pins σ (upd H d (.frz od u)) s := by
  have x := I.hok d u h
  have ex : ∃ od, s.heap.get? d = some od := by
    cases u with
    | lst xs => obtain ⟨_, _, _, _, e⟩ := x; exact ⟨_, e⟩
    | dK kvs => obtain ⟨_, _, _, _, o, _, _, e, _⟩ := x; exact ⟨o, e⟩
    | dT kvs => obtain ⟨_, _, _, _, o, _, _, e, _⟩ := x; exact ⟨o, e⟩
    | set S n => obtain ⟨o, _, _, _, e, _⟩ := x; exact ⟨o, e⟩
    | ins C dx fs => obtain ⟨_, _, _, e, _⟩ := x; exact ⟨_, e⟩
    | ext φ => obtain ⟨_, ⟨_, e⟩, _⟩ := x; exact ⟨_, e⟩
    | _ => exact False.elim mu
  obtain ⟨od, e⟩ := ex
  have new : ObjOk X.prog X.w (upd H d (.frz od u)) s.heap d (.frz od u) := by
    refine ⟨e, x.stay (fun b v _ q => q) (fun b q => ?_) fun b xs q => ?_⟩
    · rw [upd_ne (fun z => by rw [z, h] at q; cases q; exact mu)]; exact q
    · rw [upd_ne (fun z => by rw [z, h] at q; cases q; exact mu)]; exact q
  exact ⟨od, I.write (x := d) (e := d) (t' := s.toks) (h' := s.heap) (by rw [h]; exact mu) (.inl rfl) (fun b v _ q => q) ⟨od, e⟩ new⟩
theorem Inv.nofrz {d : Addr} {u : HO} (I : Inv X pins σ H s) (h : H d = some u) (mu : Mut (some u)) : ∀ o' u', X.H_0 d ≠ some (.frz o' u') := fun o' u' e => by
  have q := I.base.frzs d o' u' e
  rw [h] at q
  cases q
  exact mu
theorem Inv.unlock {d : Addr} {od : Obj} {u : HO} (I : Inv X pins σ H s) (h : H d = some (.frz od u)) (hn : ∀ o' u', X.H_0 d ≠ some (.frz o' u')) : Inv X pins σ (upd H d u) s := by
  have neH : ∀ b o, H b = some o → (∀ o' u', o ≠ .frz o' u') → b ≠ d := fun b o e hne z => by
    rw [z, h] at e
    cases e
    exact hne _ _ rfl
  have neN : ∀ b, H b = none → b ≠ d := fun b e z => by rw [z, h] at e; cases e
  refine ⟨I.ok, I.os, I.bare, ⟨I.base.keep, I.base.slot, fun b o e n hx => ?_, I.base.there, fun b xs e => ?_, fun b o x e => ?_, fun b ps e => ?_⟩, I.loc, I.cell, ?_, fun x c e => ?_, fun p hp => ?_, fun b o e => ?_, I.len⟩
  · rw [upd_ne (neN b (I.base.free b o e n hx))]; exact I.base.free b o e n hx
  · have q := I.base.tups b xs e
    rw [upd_ne (neH b _ q (fun _ _ z => nomatch z))]; exact q
  · have q := I.base.frzs b o x e
    rw [upd_ne (fun z => by rw [z] at e; exact hn _ _ e)]; exact q
  · obtain ⟨m, q⟩ := I.base.tbls b ps e
    exact ⟨m, by rw [upd_ne (neH b _ q (fun _ _ z => nomatch z))]; exact q⟩
  · rw [upd_ne (neN _ I.free)]; exact I.free
  · rw [upd_ne (neN c (I.freeC x c e))]; exact I.freeC x c e
  · obtain ⟨e, n, r⟩ := I.pin p hp
    exact ⟨e, by rw [upd_ne (neN _ n)]; exact n, r⟩
  · by_cases hb : b = d
    · rw [hb, upd_same] at e
      cases e
      rw [hb]
      obtain ⟨_, x⟩ := I.hok d _ h
      exact x.stay (fun c v _ q => q) (fun c q => by rw [upd_ne (neH c _ q (fun _ _ z => nomatch z))]; exact q) fun c xs q => by rw [upd_ne (neH c _ q (fun _ _ z => nomatch z))]; exact q
    · rw [upd_ne hb] at e
      exact (I.hok b o e).stay (fun c v _ q => q) (fun c q => by rw [upd_ne (neH c _ q (fun _ _ z => nomatch z))]; exact q) fun c xs q => by rw [upd_ne (neH c _ q (fun _ _ z => nomatch z))]; exact q
end
/-- the statement runs while the thing at d is locked (read, not written); d and what stands there are the reading's choice -/
def tLock (t : TS) : TS := fun D σ H => ∃ d u, H d = some u ∧ Mut (some u) ∧ ∀ od, t ⟨fun σ' H' => H' d = some (.frz od u) ∧ D.nx σ' (upd H' d u), fun v H' => H' d = some (.frz od u) ∧ D.rt v (upd H' d u), fun σ' H' => H' d = some (.frz od u) ∧ D.bk σ' (upd H' d u), fun σ' H' => H' d = some (.frz od u) ∧ D.ct σ' (upd H' d u)⟩ σ (upd H d (.frz od u))
section
variable {X : Cx}
theorem ps_lock {st : Stmt} {t : TS} (h : PS X st t) : PS X st (tLock t) := by
  intro pins s σ H D I hw
  obtain ⟨d, u, hd, mu, hw⟩ := hw
  obtain ⟨od, I1⟩ := I.lock hd mu
  refine thn (h pins s σ _ _ I1 (hw od)) fun f s1 q => ?_
  cases f with
  | next => obtain ⟨σ', H', I2, e, q⟩ := q; exact ⟨σ', _, I2.unlock e (I.nofrz hd mu), q⟩
  | brk => obtain ⟨σ', H', I2, e, q⟩ := q; exact ⟨σ', _, I2.unlock e (I.nofrz hd mu), q⟩
  | cont => obtain ⟨σ', H', I2, e, q⟩ := q; exact ⟨σ', _, I2.unlock e (I.nofrz hd mu), q⟩
  | ret v => obtain ⟨x, σ', H', I2, r, e, q⟩ := q; exact ⟨x, σ', _, I2.unlock e (I.nofrz hd mu), r, q⟩
/-! ### one iterator just laid -/
theorem pi_one {tg : Expr} {pins : List (Addr × Obj)} {σ : St} {H : Hp} {s : Shared} {R : It → Hp → Prop} {J : It} {tn : Nat → Heap → Prop} {tk : Nat} (I : Inv X pins σ H s) (o : Obj)
    (T : Turn X.prog X.w X.K tg J [s.heap.objs.size] s.heap.objs.size tn) (st : tn 0 (s.heap.push o)) (q : R J H) : PIE X pins σ tg R (.ref s.heap.objs.size) { s with heap := s.heap.push o, toks := tk } := by
  refine ⟨s.heap.objs.size, [s.heap.objs.size], tn, J, H, rfl, I.kept fun b ob e => Heap.get?_push_of_some _ e, T, st, fun b hb => ?_, q⟩
  have e : b = s.heap.objs.size := by simpa using hb
  subst e
  exact I.fpOk (Nat.le_refl _) (I.hok.fresh (Nat.le_refl _))
end

/-! ### range with a step -/
/-- range(i, j, c): small bounds, n items -/
def RgC (i j c : Int) (n : Nat) : Prop := c ≠ 0 ∧ c.natAbs < 1073741824 ∧ Builtin.Range.small i j c = true ∧ Builtin.Range.rangeSize i j c = n
theorem RgC.neg {i j : Int} (ha : -(2 ^ 62) ≤ i) (ha' : i < 2 ^ 62) (hb : -(2 ^ 62) ≤ j) (hb' : j < 2 ^ 62) : RgC i j (-1) (i - j).toNat :=
  ⟨by decide, by decide, PySem.W.small_down ha ha' hb hb', PySem.W.rangeSize_downNat i j⟩
section
variable {X : Cx} {tg : Expr}
end
/-! ### reversed(list) -/
/-- the list at a (n items at the start, which the loop leaves there), from its end -/
def Itv (K : PySem.W.Frag) (a : Addr) (n : Nat) : It :=
  ⟨fun i H => i < n ∧ ∃ (xs : List V) (x : V), SqL K H a xs ∧ xs[n - 1 - i]? = some x, fun i H x H' => H' = H ∧ ∀ xs, SqL K H a xs → xs[n - 1 - i]? = some x, fun i _ => n ≤ i⟩
theorem turn_rev {P : Program} {w : World} {K : PySem.W.Frag} {tg : Expr} (a it : Addr) (n : Nat) : Turn P w K tg (Itv K a n) [it] it (fun i h => i ≤ n ∧ h.IsRevIter it a ((n : Int) - 1 - (i : Nat))) where
  mem := by simp
  obj := fun i h st b hb => by
    have e : b = it := by simpa using hb
    subst e
    obtain ⟨_, o, e, c, d⟩ := st
    exact ⟨o, e, fun v z => by rw [d] at z; cases z⟩
  keep := fun i h h' st k => ⟨st.1, st.2.at fun o e => k it (by simp) o e⟩
  item := by
    intro X hP hw hK hc i pins s σ H E I hf st hg
    subst hP hw hK
    obtain ⟨hin, xs, x, hq, hx⟩ := hg
    obtain ⟨its, rv, p, hz⟩ := I.list hq
    obtain ⟨u, hu, ru⟩ := rv.get hx
    obtain ⟨f0, f1, f2, f3, f4, f5⟩ := hf it (by simp)
    obtain ⟨_, hit⟩ := st
    have e1 : (n : Int) - 1 - ((i : Nat) : Int) = ((n - 1 - i : Nat) : Int) := by omega
    rw [e1] at hit
    refine wpAny_pyNext_rev_item hit p.isList (x := u) (by simpa using hu) fun h' st' sb => ?_
    have e2 : ((n - 1 - i : Nat) : Int) - 1 = (n : Int) - 1 - ((i + 1 : Nat) : Int) := by omega
    rw [e2] at st'
    have I1 : Inv X pins σ H { s with heap := h' } := I.turned (t' := s.toks) (fun b o hb e => (sb.2 b hb).trans e) f0 f1 f3 f4 f5
    obtain ⟨o, e, c, d⟩ := id st'
    exact ⟨u, rfl, go_of (s := { s with heap := h' }) e c d (by decide) ⟨x, H, I1, ru, ⟨rfl, fun ys hy => by rw [I.list_inj hy hq]; exact hx⟩, ⟨hin, st'⟩, fun b hb => (hf b hb).1⟩⟩
  done := by
    intro X hP hw hK hc i pins s σ H E I hf st hg
    subst hP hw hK
    obtain ⟨f0, f1, f2, f3, f4, f5⟩ := hf it (by simp)
    obtain ⟨hin, hit⟩ := st
    have hge : n ≤ i := hg
    have e1 : (n : Int) - 1 - ((i : Nat) : Int) = -1 := by omega
    rw [e1] at hit
    exact wpAny_pyNext_rev_end (I.ok.hd hc) hit fun h' eb => ⟨rfl, I.turned (t' := s.toks) (fun b o hb e => eb b o hb e) f0 f1 f3 f4 f5⟩
  self := fun A i s Q E st h => wpAny_pyIter_revIter st.2 h
def iRev (K : PySem.W.Frag) (ta : TA) : TI := fun σ H R => ta σ H fun vs H1 => ∃ (a : Addr) (xs : List V), vs = [.ref a] ∧ SqL K H1 a xs ∧ R (Itv K a xs.length) H1
section
variable {X : Cx} {tg : Expr}
theorem pi_reversed {e : Expr} {ta : TA} {p pos : Pos} (hg : Gl X "reversed") (hm : X.mg "reversed" = none) (ha : PA X [e] ta) (hs : starEach [e] X.env = [(false, eval e X.env)] := by rfl) : PI X tg (.Call (.Name "reversed" p) [e] [] pos) (iRev X.K ta) := by
  intro pins s σ H R I h
  refine Call_ (ld_blt I hg hm boot_reversed5 (PyProof.Rows.callWith_type1 (thn (ha pos pins s σ H _ I h) fun us s1 ⟨vs, H1, I1, r1, q1⟩ => ?_) hs rfl))
  obtain ⟨a, xs, e, hq, q⟩ := q1
  subst e
  cases r1 with
  | cons r rr =>
    cases rr
    cases r
    obtain ⟨its, rv, p', hz⟩ := I1.list hq
    have hl := rv.length
    have e1 : ((its.toArray.size : Nat) : Int) - 1 = (xs.length : Int) - 1 - ((0 : Nat) : Int) := by simp only [List.size_toArray]; omega
    refine call_reversed_list p'.isList (wpAny_pyIter_revIter (l := a) (i := ((its.toArray.size : Nat) : Int) - 1) ⟨_, Heap.get?_push_size _ rfl, rfl, rfl⟩ ?_)
    refine pi_one (tk := s1.toks) I1 _ (turn_rev a _ xs.length) ⟨Nat.zero_le _, ?_⟩ q
    rw [← e1]
    exact ⟨_, Heap.get?_push_size _ rfl, rfl, rfl⟩
end

/-! ### a str -/
/-! ### a dict's keys: any dict's entries -/
section
variable {prog : Program} {w : World} {A : Around} {E : Value → Shared → Prop} {s : Shared}
end

/-! ### a locked dict -/
theorem kv_get {κ : Type} {kvs : List (κ × V)} {vs : List (κ × Value)} (h : KV kvs vs) : ∀ {i : Nat} {k : κ} {v : V}, kvs[i]? = some (k, v) → ∃ u, vs[i]? = some (k, u) ∧ RelV v u := by
  unfold KV at h
  induction h with
  | nil => intro i k v e; simp at e
  | @cons a b l₁ l₂ r t ih =>
    intro i k v e
    cases i with
    | zero =>
      simp only [List.getElem?_cons_zero, Option.some.injEq] at e
      subst e
      refine ⟨b.2, ?_, r.2⟩
      simp only [List.getElem?_cons_zero]
      exact congrArg some (Prod.ext r.1.symm rfl)
    | succ j =>
      simp only [List.getElem?_cons_succ] at e ⊢
      exact ih e
theorem relV_key {k : Key} {u : Value} (h : keyIs k u = true) : RelV (kV k) u := by
  rcases keyIs_shape h with ⟨i, t, rfl, rfl⟩ | ⟨x, t, rfl, rfl⟩
  · exact ⟨t, rfl⟩
  · exact ⟨t, rfl⟩
section
variable {X : Cx} {pins : List (Addr × Obj)} {σ : St} {H : Hp} {s : Shared} {d : Addr} {o : Obj}
theorem Inv.frzK {kvs : List (Key × V)} (I : Inv X pins σ H s) (h : H d = some (.frz o (.dK kvs))) :
    (d == sysModules) = false ∧ s.heap.get? d = some o ∧ o.ExactDict ∧ ∃ (es : Array DictEntry) (ep : Nat) (vs : List (Key × Value)), o.data = .dict es ep ∧ es.size = kvs.length ∧ KV kvs vs ∧ s.heap.DictAt (mixKind X.prog X.w) d vs ep := by
  obtain ⟨hd, z, hs, vs, kv, o', es, ep, ho, hx, hdt, r⟩ := I.hok d _ h
  rw [hd] at ho
  cases ho
  refine ⟨hs, hd, hx, es, ep, vs, hdt, ?_, kv, o, es, hd, hx, hdt, r⟩
  have l1 := r.2.1.length
  have l2 : kvs.length = vs.length := Paired.length kv
  rw [Array.length_toList] at l1
  omega
end

/-- the pairs, each a new tuple -/
def Iti (d : Addr) (o : Obj) (kvs : List (Key × V)) : It :=
  ⟨fun i H => H d = some (.frz o (.dK kvs)) ∧ i < kvs.length, fun i H x H' => ∃ T k v, kvs[i]? = some (k, v) ∧ x = .ref T ∧ H T = none ∧ H' = upd H T (.tup [kV k, v]), fun i H => H d = some (.frz o (.dK kvs)) ∧ kvs.length ≤ i⟩
theorem dict_ep {o : Obj} {es es' : Array DictEntry} {ep ep' : Nat} (h : o.data = .dict es ep) (h' : o.data = .dict es' ep') : es' = es ∧ ep' = ep := by
  rw [h] at h'
  cases h'
  exact ⟨rfl, rfl⟩
section
variable {P : Program} {w : World} {K : PySem.W.Frag} {tg : Expr} {d : Addr} {o : Obj} {es : Array DictEntry} {ep : Nat}
theorem turn_items {kvs : List (Key × V)} {elts : List Expr} {kk : Nat} {tpos : Pos} (it : Addr) (hod : o.data = .dict es ep) :
    Turn P w K (.Tuple elts kk tpos) (Iti d o kvs) [it] it (fun i h => ∃ ok ov, IsItemIter h it d i kvs.length ep ok ov) where
  mem := by simp
  obj := fun i h st b hb => by
    have e : b = it := by simpa using hb
    subst e
    obtain ⟨ok, ov, e⟩ := st
    exact ⟨_, e, fun v z => nomatch z⟩
  keep := fun i h h' st k => let ⟨ok, ov, e⟩ := st; ⟨ok, ov, k it (by simp) _ e⟩
  item := by
    intro X hP hw hK hc i pins s σ H E I hf st hg
    subst hP hw hK
    obtain ⟨hd, hi⟩ := hg
    obtain ⟨hs, hgd, hx, es', ep', vs, hdt, hsz, kv, hm⟩ := I.frzK hd
    obtain ⟨rfl, rfl⟩ := dict_ep hod hdt
    obtain ⟨⟨k, v⟩, hkv⟩ : ∃ p, kvs[i]? = some p := ⟨kvs[i], List.getElem?_eq_getElem hi⟩
    obtain ⟨u, hu, ru⟩ := kv_get kv hkv
    have hl : kvs.length = vs.length := Paired.length kv
    obtain ⟨ok, ov, he⟩ := st
    rw [hl] at he
    have hlt : it < s.heap.objs.size := Heap.lt_size he
    refine wpAny_pyNext_items_item he hm hu fun key h' hkey ho hT hz hk => ?_
    refine ⟨_, rfl, wpAny_letOwnedTupleGo_items (s := { s with heap := h' }) ho fun h'' he' sb => ?_⟩
    have hT2 : h''.get? s.heap.objs.size = some { cls := .type "tuple", data := .seq #[key, u] } := (sb.2 _ (Nat.ne_of_gt hlt)).trans hT
    have new : ObjOk X.prog X.w (upd H s.heap.objs.size (.tup [kV k, v])) h'' s.heap.objs.size (.tup [kV k, v]) :=
      ⟨by show 2 ≤ sizeLine; decide, [key, u], .cons (relV_key (show keyIs k key = true from hkey)) (.cons ru .nil), ⟨_, hT2, rfl, _, rfl⟩⟩
    have I1 : Inv X pins σ (upd H s.heap.objs.size (.tup [kV k, v])) { s with heap := h'' } :=
      I.turnedNew (t' := s.toks) (ch := [it]) (fun b ob hb e => (sb.2 b (by simpa using hb)).trans (hk b ob (by simpa using hb) e)) hf (Nat.le_refl _) new
    refine ⟨.ref s.heap.objs.size, _, I1, rfl, ⟨_, k, v, hkv, rfl, I.hok.fresh (Nat.le_refl _), rfl⟩, ⟨key, u, ?_⟩, fun b hb => ?_⟩
    · rw [hl]; exact he'
    · have e : b = it := by simpa using hb
      rw [e, upd_ne (Nat.ne_of_lt hlt)]
      exact (hf it (by simp)).1
  done := by
    intro X hP hw hK hc i pins s σ H E I hf st hg
    subst hP hw hK
    obtain ⟨hd, hi⟩ := hg
    obtain ⟨f0, f1, f2, f3, f4, f5⟩ := hf it (by simp)
    obtain ⟨hs, hgd, hx, es', ep', vs, hdt, hsz, kv, hm⟩ := I.frzK hd
    obtain ⟨rfl, rfl⟩ := dict_ep hod hdt
    have hl : kvs.length = vs.length := Paired.length kv
    obtain ⟨ok, ov, he⟩ := st
    rw [hl] at he
    exact wpAny_pyNext_items_end (I.ok.hd hc) he hm (List.getElem?_eq_none (by omega)) fun h' eb => ⟨rfl, I.turned (t' := s.toks) (fun b ob hb e => eb b ob hb e) f0 f1 f3 f4 f5⟩
  self := fun A i s Q E st h => let ⟨_, _, e⟩ := st; PySem.W.kcp_self e h
end

/-! ### for k in d, d.keys(), d.values(), d.items() -/
def iItems (td : TE) : TI := fun σ H R => td σ H fun x H1 => ∃ d o kvs, x = .ref d ∧ H1 d = some (.frz o (.dK kvs)) ∧ R (Iti d o kvs) H1
section
variable {X : Cx} {tg e : Expr} {td : TE} {apos cpos : Pos}
theorem pi_items {elts : List Expr} {kk : Nat} {tpos : Pos} (he : PE X e td) (hbase : attributeBase e "items" X.env (eval e X.env) = eval e X.env := by rfl) (hline : (apos.endLine == cpos.line) = true := by rfl) :
    PI X (.Tuple elts kk tpos) (.Call (.Attribute e "items" apos) [] [] cpos) (iItems td) := by
  intro pins s σ H R I h
  refine wpAny_Call_method (T := "dict") (id := "dict.items") hbase rfl hline F.plainAttrs_dict F.slot_dict_items F.type_dict_items (thn (he pins s σ H _ I h) fun u s1 ⟨x, H1, I1, rx, d, o, kvs, ex, hd, q⟩ => ?_)
  subst ex
  obtain rfl : u = Value.ref d := rx
  obtain ⟨hs, hgd, hx, es, ep, vs, hdt, hsz, kv, hm⟩ := I1.frzK hd
  have hl : kvs.length = vs.length := Paired.length kv
  refine ⟨hm.dictOf.typeIs, hm.dictOf.mapOf.noDict, ?_⟩
  have I2 : Inv X pins σ H1 { s1 with heap := s1.heap.push { cls := .type "dict_items", data := .fields #[.ref d] } } := I1.kept (t' := s1.toks) fun b ob q => Heap.get?_push_of_some _ q
  have fin : wpAny (model X.prog X.w) X.A (pyIter (.ref s1.heap.objs.size)) (PIE X pins σ (.Tuple elts kk tpos) R) X.xe { s1 with heap := s1.heap.push { cls := .type "dict_items", data := .fields #[.ref d] } } := by
    refine wpAny_pyIter_items (d := d) (knd := mixKind X.prog X.w) ⟨_, Heap.get?_push_size _ rfl, rfl, rfl⟩ (hm.push _) (pi_one (tk := s1.toks) I2 _ (turn_items _ hdt) ⟨.none, .none, ?_⟩ q)
    rw [hl]
    exact Heap.get?_push_size _ rfl
  show wpAny _ _ (callWith cpos (.builtin "dict.items") [.ref d] [] []) _ X.xe s1
  exact method_meetsIn F.slot_dict_items F.entry_dict_items rfl (PySem.evalArgs_none ⟨rfl, hm.dictOf.typeIs, F.args_dict_items_1 _, _, meets_dict_items (mixKind X.prog X.w) d hs, ⟨vs, hm.dictOf⟩, fin⟩)
end

/-! ### enumerate(list) -/
/-- the list at a as it stands at each turn, each item in a new pair -/
def Ite (K : PySem.W.Frag) (a : Addr) : It :=
  ⟨fun i H => ∃ (xs : List V) (x : V), SqL K H a xs ∧ xs[i]? = some x, fun i H v H' => ∃ T x, v = .ref T ∧ H T = none ∧ H' = upd H T (.tup [.int (i : Nat), x]) ∧ ∀ xs, SqL K H a xs → xs[i]? = some x, fun i H => ∃ xs : List V, SqL K H a xs ∧ xs.length ≤ i⟩
theorem turn_enum {P : Program} {w : World} {K : PySem.W.Frag} {elts : List Expr} {kk : Nat} {tpos : Pos} (a e it : Addr) :
    Turn P w K (.Tuple elts kk tpos) (Ite K a) [e, it] e (fun i h => (∃ old, IsEnum h e it ((i : Nat) : Int) old) ∧ h.IsListIter it a i ∧ e ≠ it) where
  mem := by simp
  obj := fun i h st b hb => by
    obtain ⟨⟨old, he⟩, ⟨o, ho, hc, hd⟩, _⟩ := st
    have e' : b = e ∨ b = it := by simpa using hb
    rcases e' with z | z
    · rw [z]; exact ⟨_, he, fun v q => nomatch q⟩
    · rw [z]; exact ⟨o, ho, fun v q => by rw [hd] at q; cases q⟩
  keep := fun i h h' st k => let ⟨⟨old, he⟩, hi, hne⟩ := st; ⟨⟨old, k e (by simp) _ he⟩, hi.at fun o q => k it (by simp) o q, hne⟩
  item := by
    intro X hP hw hK hc i pins s σ H E I hf st hg
    subst hP hw hK
    obtain ⟨⟨old, he⟩, hit, hne⟩ := st
    obtain ⟨xs, x, hq, hx⟩ := hg
    obtain ⟨its, rv, p, hz⟩ := I.list hq
    obtain ⟨u, hu, ru⟩ := rv.get hx
    have hel : e < s.heap.objs.size := Heap.lt_size he
    have hil : it < s.heap.objs.size := by obtain ⟨_, q, _⟩ := hit; exact Heap.lt_size q
    refine wpAny_pyNext_enum_item he hit p.isList (x := u) (by simpa using hu) hne fun h' ho hit' hT hsz hk => ?_
    refine ⟨_, rfl, wpAny_letOwnedTupleGo_enum (s := { s with heap := h', toks := s.toks + 1 }) ho fun h'' he' sb => ?_⟩
    have hT2 : h''.get? s.heap.objs.size = some { cls := .type "tuple", data := .seq #[.int i s.toks, u] } := (sb.2 _ (Nat.ne_of_gt hel)).trans hT
    have new : ObjOk X.prog X.w (upd H s.heap.objs.size (.tup [.int (i : Nat), x])) h'' s.heap.objs.size (.tup [.int (i : Nat), x]) :=
      ⟨by show 2 ≤ sizeLine; decide, [.int i s.toks, u], .cons ⟨_, rfl⟩ (.cons ru .nil), ⟨_, hT2, rfl, _, rfl⟩⟩
    have I1 : Inv X pins σ (upd H s.heap.objs.size (.tup [.int (i : Nat), x])) { s with heap := h'', toks := s.toks + 1 } :=
      I.turnedNew (ch := [e, it]) (fun b ob hb q => (sb.2 b (fun z => hb (by simp [z]))).trans (hk b ob (fun z => hb (by simp [z])) (fun z => hb (by simp [z])) q)) hf (Nat.le_refl _) new
    refine ⟨.ref s.heap.objs.size, _, I1, rfl, ⟨_, x, rfl, I.hok.fresh (Nat.le_refl _), rfl, fun ys hy => by rw [I.list_inj hy hq]; exact hx⟩, ⟨⟨u, ?_⟩, hit'.at fun o q => (sb.2 it (Ne.symm hne)).trans q, hne⟩, fun b hb => ?_⟩
    · have e1 : ((i + 1 : Nat) : Int) = (i : Int) + 1 := by omega
      rw [e1]; exact he'
    · have hb' : b < s.heap.objs.size := by
        have e' : b = e ∨ b = it := by simpa using hb
        rcases e' with z | z
        · rw [z]; exact hel
        · rw [z]; exact hil
      rw [upd_ne (Nat.ne_of_lt hb')]
      exact (hf b hb).1
  done := by
    intro X hP hw hK hc i pins s σ H E I hf st hg
    subst hP hw hK
    obtain ⟨⟨old, he⟩, hit, hne⟩ := st
    obtain ⟨xs, hq, hx⟩ := hg
    obtain ⟨its, rv, p, hz⟩ := I.list hq
    obtain ⟨f0, f1, f2, f3, f4, f5⟩ := hf it (by simp)
    have hl := rv.length
    exact wpAny_pyNext_enum_end (I.ok.hd hc) he hit p.isList (by simp; omega) fun h' eb => ⟨rfl, I.turned (t' := s.toks) (fun b o hb q => eb b o hb q) f0 f1 f3 f4 f5⟩
  self := fun A i s Q E st h => let ⟨⟨_, he⟩, _⟩ := st; wpAny_pyIter_enum he h
def iEnum (K : PySem.W.Frag) (ta : TA) : TI := fun σ H R => ta σ H fun vs H1 => ∃ a xs, vs = [.ref a] ∧ SqL K H1 a xs ∧ R (Ite K a) H1
theorem pi_enum {X : Cx} {e : Expr} {ta : TA} {p pos tpos : Pos} {elts : List Expr} {kk : Nat} (hg : Gl X "enumerate") (hm : X.mg "enumerate" = none) (ha : PA X [e] ta) (hs : starEach [e] X.env = [(false, eval e X.env)] := by rfl) :
    PI X (.Tuple elts kk tpos) (.Call (.Name "enumerate" p) [e] [] pos) (iEnum X.K ta) := by
  intro pins s σ H R I h
  refine Call_ (ld_blt I hg hm boot_enumerate (PyProof.Rows.callWith_type1 (thn (ha pos pins s σ H _ I h) fun us s1 ⟨vs, H1, I1, r1, q1⟩ => ?_) hs rfl))
  obtain ⟨a, xs, ex, hq, q⟩ := q1
  subst ex
  cases r1 with
  | cons r rr =>
    cases rr
    cases r
    obtain ⟨its, rv, p', hz⟩ := I1.list hq
    refine call_enumerate_list p'.isList fun h' he hit hsz hk => wpAny_pyIter_enum he ?_
    have I2 : Inv X pins σ H1 { s1 with heap := h' } := I1.kept (t' := s1.toks) hk
    refine ⟨s1.heap.objs.size + 1, [s1.heap.objs.size + 1, s1.heap.objs.size], _, _, H1, rfl, I2, turn_enum a (s1.heap.objs.size + 1) s1.heap.objs.size, ⟨⟨.none, he⟩, hit, Nat.succ_ne_self _⟩, fun b hb => ?_, q⟩
    have e' : b = s1.heap.objs.size + 1 ∨ b = s1.heap.objs.size := by simpa using hb
    have hle : s1.heap.objs.size ≤ b := by
      rcases e' with z | z
      · rw [z]; exact Nat.le_add_right _ _
      · rw [z]; exact Nat.le_refl _
    exact I1.fpOk hle (I1.hok.fresh hle)
/-! ### zip(list, list) -/
end L2

section 
namespace Bits
open PySem PyProof.Rows

end Bits
end 

section 
namespace TL
open PySem PySem.Builtin PySem.Builtin.Str PySem.StrLaws

abbrev tl (x : Str) : List Nat := x.cps.toList
/-! ### the list functions -/
/-- S stands at the head of l -/
def pre (S l : List Nat) : Bool := l.take S.length == S
/-- l cut at each S from the left; k signs are still to be passed over -/
def spl (S : List Nat) : Nat → List Nat → List Nat → List (List Nat)
  | _, acc, [] => [acc]
  | 0, acc, c :: r => if pre S (c :: r) = true then acc :: spl S (S.length - 1) [] r else spl S 0 (acc ++ [c]) r
  | k + 1, acc, _ :: r => spl S k acc r
/-- what stands before the first S, and behind it -/
def par (S : List Nat) : List Nat → List Nat → Option (List Nat × List Nat)
  | _, [] => none
  | acc, c :: r => if pre S (c :: r) = true then some (acc, (c :: r).drop S.length) else par S (acc ++ [c]) r

/-! ### the model's split and partition are these -/
/-! ### computing spl and par -/
/-! ### digits -/
/-! ### words: x.split() -/
end TL
end 

namespace L2
open PySem PySem.Spec PyProof.Rows

section
variable {X : Cx} {pins : List (Addr × Obj)} {σ : St} {H : Hp} {s : Shared} {Q : VK}
end

section
variable {X : Cx}

/-! ### of a text alone -/
/-! ### of a text and a text -/
theorem mt1 {id : String} {g : Str → Str → V} (rule : ∀ (a b : Str) (t u : Tok) (s : Shared) (Q : Value → Shared → Prop), (∀ (v : Value) (k : Nat), RelV (g a b) v → Q v { s with toks := k }) →
    wpAny (model X.prog X.w) X.A (call (.builtin id) [.str a t, .str b u]) Q X.xe s) : MtR X id (fun x xs H Q => ∃ a b, x = .str a ∧ xs = [.str b] ∧ Q (g a b) H) := by
  intro pins s σ H x xs v us Q I rx rs h
  obtain ⟨a, b, rfl, rfl, h⟩ := h
  obtain ⟨t, rfl⟩ := rx
  cases rs with
  | cons r1 rs =>
    cases rs
    obtain ⟨u, rfl⟩ := r1
    exact rule a b t u s _ fun v k r => ⟨g a b, H, I.tok k, r, h⟩
theorem mt_count : MtR X "str.count" (fun x xs H Q => ∃ a b, x = .str a ∧ xs = [.str b] ∧ Q (.int (Txt.count a b)) H) :=
  mt1 (g := fun a b => .int (Txt.count a b)) fun _ _ _ _ s _ h => PySem.SC.count (h _ (s.toks + 1) ⟨_, rfl⟩)

end

section
variable {X : Cx} {o e : Expr} {to te : TE}
def tM0 (r : V → List V → Hp → VK → Prop) (to : TE) : TE := fun σ H Q => to σ H fun x H1 => (∃ a, x = .str a) ∧ r x [] H1 Q
theorem pe_m0 {id : String} {name : Str} {apos pos : Pos} {r : V → List V → Hp → VK → Prop} (slot : Slot "str" name id) (ty : typeOf (.builtin id) = pure (.type "method_descriptor")) (rule : MtR X id r) (ho : PE X o to)
    (hbase : attributeBase o name X.env (eval o X.env) = eval o X.env := by rfl) (hline : (apos.endLine == pos.line) = true := by rfl) : PE X (.Call (.Attribute o name apos) [] [] pos) (tM0 r to) := by
  intro pins s σ H Q I h
  refine PySem.Call_method0 hbase hline (thn (ho pins s σ H _ I h) fun v s1 ⟨x, H1, I1, r1, q1⟩ => ?_)
  obtain ⟨⟨a, rfl⟩, q1⟩ := q1
  obtain ⟨t, rfl⟩ := _root_.id r1
  exact ⟨"str", _, F.plainAttrs_str, slot, ty, typeIs_str _ _ _, (fun _ e => nomatch e), Calls.callWith_builtin rfl (PySem.evalArgs_none (rule pins s1 σ H1 _ [] _ [] Q I1 r1 .nil q1))⟩
end
end L2

namespace L2
open PySem PySem.Spec PyProof.Rows

section
variable {X : Cx}
end

/-! ### slices of a text -/
theorem IsPart.raw {v : Value} {o : Option Int} (p : IsPart v o) : ∃ l : Option (Int × Tok), v = partValue l ∧ l.map (·.1) = o := by
  cases p with
  | none => exact ⟨none, rfl, rfl⟩
  | int i t => exact ⟨some (i, t), rfl, rfl⟩

end L2

namespace Att
open PySem PySem.W PySem.Calls PyProof.Rows

/-! ### the script -/
theorem ints_of_wellAll {P : Params} {h : Heap} : ∀ (ns : List Int) (vs : List Value), WellAll P h vs (ns.map WData.int) → IntsAre vs ns := by
  intro ns
  induction ns with
  | nil =>
    intro vs w
    rw [List.map_nil] at w
    cases w
    exact .nil
  | cons n ns ih =>
    intro vs w
    rw [List.map_cons] at w
    cases w with
    | cons a b =>
      cases a
      exact .cons _ _ (ih _ b)

/-! ### the attachment: holds_open's last premise (the goal 'hc' behind k_head) from a wpAny of the law's body -/
/-! ### rules over ANY heap (no ledger) from facts about the written part K: the library's own take a ledger (News) for what they write -/
section
variable {prog : Program} {w : World} {A : Around} {E : Value → Shared → Prop} {s : Shared} {K : Frag}

/-! the whole heap as the ledger: makes every rule that writes through a ledger a rule over any heap -/
def ledger (h : Heap) (L d : Addr) : List (Addr × Obj) := (List.range h.objs.size).filterMap fun a => if a = L ∨ a = d then none else (h.get? a).map fun o => (a, o)
end
end Att

namespace L2
open PySem PySem.Spec PyProof.Rows

theorem vals_ints : ∀ {vs : List Value} {ns : List Int}, IntsAre vs ns → Vals (ns.map V.int) vs
  | _, _, .nil => .nil
  | _, _, .cons n t h => .cons ⟨t, rfl⟩ (vals_ints h)

/-- nothing is tracked but the script, known to the object (or it is an object of the module) -/
def Only (H : Hp) : Prop := ∀ b, H b = none ∨ ∃ o xs, H b = some (.frz o (.lst xs))

end L2

namespace L2
open PySem PySem.Spec PyProof.Rows

end L2



/-! SHORT WORDS over the layer: a def of the text, its body, what a loop and a test want. -/
namespace L2
open PySem PySem.Spec PyProof.Rows

/-! ### the text by places -/
/-- the j-th statement of a class's body -/
def inClass (s : Stmt) (j : Nat) : Stmt := match s with
  | .ClassDef _ _ _ body _ _ _ _ _ _ _ => body.getD j (.Pass ⟨0, 0, 0, 0⟩)
  | _ => .Pass ⟨0, 0, 0, 0⟩
def defArgs (s : Stmt) : Arguments := match s with
  | .FunctionDef _ a _ _ _ _ _ _ _ _ => a
  | _ => { posonlyargs := [], args := [], vararg := none, kwonlyargs := [], kw_defaults := [], kwarg := none, defaults := [] }
def defBody (s : Stmt) : List Stmt := match s with
  | .FunctionDef _ _ b _ _ _ _ _ _ _ => b
  | _ => []
def defScope (s : Stmt) : Scope := match s with
  | .FunctionDef _ _ _ _ _ _ sc _ _ _ => sc
  | _ => { kind := .function, names := [], isGenerator := false, isCoroutine := false }

/-! ### no exception leaves a def -/
abbrev CX0 : CXT := fun _ _ _ _ _ _ => False
abbrev E0 : XK := fun _ _ _ => False
theorem pass0 {X : Cx} : Passes CX0 X E0 := fun _ _ _ _ _ _ _ h => h.elim

/-! ### a def (or method) of the text as it stands behind the top -/
structure Fun (K : PySem.W.Frag) (x qual : Str) (st : Stmt) (f : Addr) (fd : FuncData) : Prop where
  ex : ∃ (oc : Value) (od : Option Addr) (kV doc pm : Value) (an : Option Addr) (cdv ct : Value) (osl : Array (Option Value)),
    fd = PySem.W.fnOf x qual (defArgs st) (defBody st) (defScope st) .none kV doc pm an cdv ct ∧ K.lookup f = some ⟨oc, od, .func fd, osl⟩ ∧ PySem.W.codeIn K cdv qual = true
  kp : PySem.W.keepIn K (.ref f) = true
section
variable {P : Program} {w : World} {K : PySem.W.Frag} {mg : Str → Option Value} {base : Heap}
/-- THE RULE for a def: its body as a term of rules, and the reading of that term -/
theorem Fun.ok {x qual : Str} {st : Stmt} {f : Addr} {fd : FuncData} {N ps : List Str} {k : Nat} {sp : Sp} (F : Fun K x qual st f fd) (S : FnScope N ps (defScope st)) (len : ∀ vs H Q E, sp vs H Q E → vs.length = ps.length)
    (hbody : ∀ (cdv : Value) (A : Around) (outer : List Env) (s : Shared) (H : Hp) (vs : List V) (Q : VK) (E : XK), Room k (A.deeper (envOfC qual (defScope st) s.heap.objs.size f cdv)) → sp vs H Q E →
      ∃ t, PSs (cxOf CX0 P w K mg base N qual (defScope st) f cdv A outer s H E).nox (defBody st) t ∧ t { nx := fun _ H' => Q .non H', rt := Q } (start N vs) H) : FnOk P w K mg base CX0 (k + 1) f fd ps sp := by
  obtain ⟨oc, od, kV, doc, pm, an, cdv, ct, osl, rfl, lk, hcd⟩ := F.ex
  refine fn_of lk hcd S len fun A outer s H vs Q E hr hsp => ?_
  obtain ⟨t, h, q⟩ := hbody cdv A outer s H vs Q E hr hsp
  exact ⟨t, h.nox, q⟩
/-- how its arguments bind (no defaults): h is «fun _ _ _ _ _ _ us hl => match us, hl with | [_, _], _ => rfl», one _ a parameter -/
theorem Fun.binds {x qual : Str} {st : Stmt} {f : Addr} {fd : FuncData} {ps : List Str} (F : Fun K x qual st f fd)
    (h : ∀ (kV doc pm : Value) (an : Option Addr) (cdv ct : Value) (us : List Value), us.length = ps.length → bindArgs (PySem.W.fnOf x qual (defArgs st) (defBody st) (defScope st) .none kV doc pm an cdv ct) ⟨us, []⟩ = pure (ps.zip us)) : Binds K fd ps [] := by
  obtain ⟨oc, od, kV, doc, pm, an, cdv, ct, osl, rfl, lk, hcd⟩ := F.ex
  exact .all (h kV doc pm an cdv ct)
theorem fun_mk {x qual : Str} {st : Stmt} {f : Addr} {oc : Value} {od an : Option Addr} {osl : Array (Option Value)} {kV doc pm cdv ct : Value} (l : K.lookup f = some ⟨oc, od, .func (PySem.W.fnOf x qual (defArgs st) (defBody st) (defScope st) .none kV doc pm an cdv ct), osl⟩)
    (c : PySem.W.codeIn K cdv qual = true) (k : PySem.W.keepIn K (.ref f) = true) : Fun K x qual st f (PySem.W.fnOf x qual (defArgs st) (defBody st) (defScope st) .none kV doc pm an cdv ct) := ⟨⟨oc, od, kV, doc, pm, an, cdv, ct, osl, rfl, l, c⟩, k⟩
end
theorem hu_of {A : Around} {k : Nat} (hr : Room k A) : A.units + 1 < cLine := Nat.lt_of_le_of_lt (Nat.add_le_add_left (by decide : 1 ≤ 64) _) hr.units
/-! ### expressions in short: the name that stands in the i-th slot -/
section
variable {X : Cx}
theorem pv (i : Nat) {x : Str} {pos : Pos} (hN : X.N[i]? = some x := by rfl) (hv : Vis X.env.scope x := by first | exact Or.inl rfl | exact Or.inr (Or.inl rfl) | exact Or.inr (Or.inr rfl)) (hd : (x == ("__debug__" : Str)) = false := by decide)
    (hcd : (x == ("__classdict__" : Str)) = false := by decide) : PE X (.Name x pos) (tVar i) := pe_var hN hv hd hcd
/-- len of a dict -/
theorem call_lenD : CallR X (.builtin "len") (fun xs H Q => ∃ a kvs, xs = [V.ref a] ∧ H a = some (.dK kvs) ∧ Q (.int kvs.length) H) := by
  intro pins s σ H xs us Q I r h
  obtain ⟨a, kvs, rfl, ha, q⟩ := h
  obtain ⟨u, rfl, ru⟩ := vals1 r
  cases ru
  exact d_len I (.inl ha) fun t s' I' => ⟨.int kvs.length, H, I', ⟨t, rfl⟩, q⟩
end

/-! ### tests -/
theorem iteF {A B : Prop} (h : B) : if false = true then A else B := by
  rw [if_neg Bool.false_ne_true]
  exact h
theorem iteT {A B : Prop} (h : A) : if true = true then A else B := by
  rw [if_pos rfl]
  exact h
theorem ite2 {c A B : Prop} [Decidable c] (h1 : c → A) (h2 : ¬ c → B) : if c then A else B := by
  by_cases h : c
  · rw [if_pos h]
    exact h1 h
  · rw [if_neg h]
    exact h2 h
/-! ### heaps -/
/-- all that was tracked is as it was -/
def Same (H H' : Hp) : Prop := ∀ b o, H b = some o → H' b = some o
theorem Same.refl (H : Hp) : Same H H := fun _ _ h => h
theorem Same.trans {H H1 H2 : Hp} (a : Same H H1) (b : Same H1 H2) : Same H H2 := fun c o h => b c o (a c o h)
theorem Same.free {H H' : Hp} (e : Same H H') {l : Addr} (h : H' l = Option.none) : H l = Option.none := by
  cases q : H l with
  | none => rfl
  | some o =>
    rw [e l o q] at h
    cases h
theorem Same.seq {K : PySem.W.Frag} {H H' : Hp} {a : Addr} {xs : List V} (e : Same H H') (h : SqL K H a xs) : SqL K H' a xs := by
  rcases h with (h | ⟨o, h⟩) | h
  · exact .inl (.inl (e _ _ h))
  · exact .inl (.inr ⟨o, e _ _ h⟩)
  · exact .inr h

/-! ### a dict's pairs: keys that differ -/
section
variable {κ : Type} [DecidableEq κ]
theorem nd_snoc : ∀ {l : List κ} {k : κ}, l.Nodup → ¬ k ∈ l → (l ++ [k]).Nodup
  | [], k, _, _ => by simp
  | a :: r, k, h, hk => by
    obtain ⟨h1, h2⟩ := List.nodup_cons.mp h
    show (a :: (r ++ [k])).Nodup
    refine List.nodup_cons.mpr ⟨fun m => ?_, nd_snoc h2 fun m => hk (List.mem_cons.mpr (Or.inr m))⟩
    rcases List.mem_append.mp m with q | q
    · exact h1 q
    · exact hk (List.mem_cons.mpr (Or.inl (List.mem_singleton.mp q).symm))
end
/-! ### lists -/
theorem at_of {xs : List V} {z : Int} {j : Nat} {v : V} (e : z = (j : Int)) (h : xs[j]? = some v) : atI xs z = some v := by
  rw [e]
  exact atI_nat h
theorem nd_ix {α : Type} {l : List α} (hN : l.Nodup) {i j : Nat} {x : α} (a : l[i]? = some x) (b : l[j]? = some x) : i = j := by
  obtain ⟨h1, e1⟩ := List.getElem?_eq_some_iff.mp a
  obtain ⟨h2, e2⟩ := List.getElem?_eq_some_iff.mp b
  exact (List.getElem_inj hN).mp (e1.trans e2.symm)
/-- a new instance and its __init__ leave all that was tracked as it was -/
theorem Same.made {H H1 : Hp} {x dx C : Addr} (nx : H x = Option.none) (nd : H dx = Option.none) (k : ∀ b o, (upd (upd H dx (.own x)) x (.ins C dx [])) b = some o → b ≠ x → H1 b = some o) : Same H H1 := fun b o e =>
  k b o (by rw [upd_ne (ne_of_none e nx), upd_ne (ne_of_none e nd)]; exact e) (ne_of_none e nx)
end L2
set_option linter.all false
namespace Cq
open Sv47

/-- the dict of stage t: pairs sender, word, in the order of hearing -/
def dct (x : Node) (t : Nat) : List (Nat × Nat) := (x.heard.filter fun h => h.1 == t).map fun h => h.2
def look (l : List (Nat × Nat)) (i : Nat) : Option Nat := (l.find? fun p => p.1 == i).map fun p => p.2

theorem look_cons (p : Nat × Nat) (l : List (Nat × Nat)) (i : Nat) : look (p :: l) i = if p.1 = i then some p.2 else look l i := by
  unfold look
  rw [List.find?_cons]
  by_cases h : p.1 = i
  · simp [h]
  · have hb : (p.1 == i) = false := by simp [h]
    simp [h, hb]

theorem from_aux (t i : Nat) : ∀ l : List (Nat × Nat × Nat), ((l.find? fun h => h.1 == t && h.2.1 == i).map fun h => h.2.2) = look ((l.filter fun h => h.1 == t).map fun h => h.2) i
  | [] => rfl
  | h :: l => by
    have ih := from_aux t i l
    by_cases h1 : h.1 = t
    · have e1 : (h.1 == t) = true := by simp [h1]
      rw [List.filter_cons_of_pos (by simpa using h1), List.map_cons, look_cons, List.find?_cons]
      by_cases h2 : h.2.1 = i
      · simp [h1, h2]
      · have e2 : (h.2.1 == i) = false := by simp [h2]
        rw [if_neg h2, ← ih]
        simp [e2]
    · have e1 : (h.1 == t) = false := by simp [h1]
      rw [List.filter_cons_of_neg (by simpa using h1), List.find?_cons, ← ih]
      simp [e1]

theorem from_eq (x : Node) (t i : Nat) : x.from_ t i = look (dct x t) i := from_aux t i x.heard

theorem there_eq (x : Node) : x.there = x.own.getLastD 0 :: (dct x x.stage).map (·.2) := by
  unfold Node.there dct
  rw [List.map_map]
  rfl

/-- a word is heard -/
def hear (x : Node) (t i w : Nat) : Node := { x with heard := x.heard ++ [(t, i, w)] }
theorem dct_hear (x : Node) (t i w t' : Nat) : dct (hear x t i w) t' = if t = t' then dct x t' ++ [(i, w)] else dct x t' := by
  unfold dct hear
  rw [List.filter_append, List.map_append]
  by_cases h : t = t'
  · simp [h]
  · simp [h]

theorem dct_goes (x : Node) (t' : Nat) : dct x.goes.1 t' = if t' = x.stage then [] else dct x t' := by
  unfold dct Node.goes
  dsimp only
  rw [List.filter_filter]
  by_cases h : t' = x.stage
  · rw [if_pos h]
    have e : (x.heard.filter fun a => a.1 == t' && a.1 != x.stage) = [] := by
      rw [List.filter_eq_nil_iff]
      intro a _
      by_cases h2 : a.1 = t'
      · simp [h2, h]
      · simp [h2]
    rw [e]
    rfl
  · rw [if_neg h]
    have e : (fun a : Nat × Nat × Nat => a.1 == t' && a.1 != x.stage) = fun a => a.1 == t' := by
      funext a
      by_cases h2 : a.1 = t'
      · simp [h2, h]
      · simp [h2]
    rw [e]

theorem goes_own (x : Node) : x.goes.1.own = x.own ++ [nextWord x] := rfl
theorem goes_me (x : Node) : x.goes.1.me = x.me := rfl
theorem goes_n (x : Node) : x.goes.1.n = x.n := rfl
theorem goes_coins (x : Node) : x.goes.1.coins = x.coins := rfl
theorem goes_answer (x : Node) : x.goes.1.answer = nextAnswer x := rfl
theorem goes_stage (x : Node) (h : x.own ≠ []) : x.goes.1.stage = x.stage + 1 := by
  unfold Node.stage
  rw [goes_own, List.length_append]
  have : 0 < x.own.length := List.length_pos_iff.mpr h
  show x.own.length + 1 - 1 = x.own.length - 1 + 1
  omega

structure WF (x : Node) : Prop where
  n2 : 2 ≤ x.n
  n16 : x.n ≤ 16
  me : x.me < x.n
  pos : 0 < x.own.length
  le : x.own.length ≤ 129
  oww : ∀ (t w : Nat), x.own[t]? = some w → isWord t w = true
  ans : ∀ v, x.answer = some v → v < 2
  coins : x.coins < 2 ^ 64
  hd : ∀ h ∈ x.heard, x.stage ≤ h.1 ∧ h.1 < 128 ∧ h.2.1 < x.n ∧ h.2.1 ≠ x.me ∧ isWord h.1 h.2.2 = true
  nd : ∀ t, ((dct x t).map (·.1)).Nodup

theorem WF.stage_le {x : Node} (h : WF x) : x.stage ≤ 128 := by have := h.le; unfold Node.stage; omega
theorem WF.len {x : Node} (h : WF x) : x.own.length = x.stage + 1 := by have := h.pos; unfold Node.stage; omega
theorem WF.last {x : Node} (h : WF x) : x.own[x.stage]? = some (x.own.getLastD 0) := by
  have hp := h.pos
  unfold Node.stage
  rw [List.getLastD_eq_getLast?, List.getLast?_eq_getElem?]
  rw [List.getElem?_eq_getElem (by omega)]
  rfl

theorem isWord_zero (t : Nat) : isWord t 0 = true := by simp [isWord]
theorem isWord_one (t : Nat) : isWord t 1 = true := by simp [isWord]
theorem isWord_two {t : Nat} (h : t % 2 = 1) : isWord t 2 = true := by simp [isWord, h]
theorem isWord_le {t w : Nat} (h : isWord t w = true) : w ≤ 2 := by
  unfold isWord at h
  simp at h
  omega
theorem isWord_iff (t w : Nat) : isWord t w = true ↔ w ≤ 1 ∨ (w = 2 ∧ t % 2 = 1) := by
  unfold isWord
  simp
  omega

theorem nextWord_ok (x : Node) : isWord (x.stage + 1) (nextWord x) = true := by
  unfold nextWord
  dsimp only
  split
  · rename_i h
    split
    · exact isWord_zero _
    · split
      · exact isWord_one _
      · exact isWord_two (by omega)
  · split
    · exact isWord_zero _
    · split
      · exact isWord_one _
      · split
        · exact isWord_one _
        · exact isWord_zero _

theorem nextAnswer_ok {x : Node} (h : ∀ v, x.answer = some v → v < 2) : ∀ v, nextAnswer x = some v → v < 2 := by
  intro v
  unfold nextAnswer
  dsimp only
  split
  · exact h v
  · split
    · intro e; cases e; decide
    · split
      · intro e; cases e; decide
      · intro e; cases e

theorem mem_dct {x : Node} {t : Nat} {p : Nat × Nat} : p ∈ dct x t ↔ (t, p) ∈ x.heard := by
  unfold dct
  rw [List.mem_map]
  constructor
  · rintro ⟨⟨a, b⟩, hm, rfl⟩
    obtain ⟨h1, h2⟩ := List.mem_filter.mp hm
    have e : a = t := by simpa using h2
    rw [← e]
    exact h1
  · intro hm
    exact ⟨(t, p), List.mem_filter.mpr ⟨hm, by simp⟩, rfl⟩

theorem wf_hear {x : Node} (W : WF x) {t i w : Nat} (h1 : x.stage ≤ t) (h2 : t < 128) (h3 : i < x.n) (h4 : i ≠ x.me) (h5 : isWord t w = true) (h6 : look (dct x t) i = none) : WF (hear x t i w) := by
  refine ⟨W.n2, W.n16, W.me, W.pos, W.le, W.oww, W.ans, W.coins, ?_, fun t' => ?_⟩
  · intro h hm
    rcases List.mem_append.mp hm with hm | hm
    · exact W.hd h hm
    · obtain rfl := List.mem_singleton.mp hm
      exact ⟨h1, h2, h3, h4, h5⟩
  · rw [dct_hear]
    split
    · rename_i e
      subst e
      rw [List.map_append]
      refine List.nodup_append.mpr ⟨W.nd t, by simp, ?_⟩
      intro a ha b hb e
      have hb' : b = i := by simpa using hb
      subst e
      rw [hb'] at ha
      obtain ⟨p, hp, hi⟩ := List.mem_map.mp ha
      unfold look at h6
      have h7 := Option.map_eq_none_iff.mp h6
      have h8 := List.find?_eq_none.mp h7 p hp
      exact h8 (by simpa using hi)
    · exact W.nd t'

theorem wf_goes {x : Node} (W : WF x) (h : x.stage < 128) : WF x.goes.1 := by
  have hl := W.len
  have hs := goes_stage x (by intro e; have := W.pos; rw [e] at this; exact absurd this (by decide))
  refine ⟨W.n2, W.n16, W.me, ?_, ?_, ?_, ?_, W.coins, ?_, fun t => ?_⟩
  · rw [goes_own, List.length_append]; exact Nat.succ_pos _
  · rw [goes_own, List.length_append]
    show x.own.length + 1 ≤ 129
    omega
  · intro t w e
    rw [goes_own] at e
    by_cases ht : t < x.own.length
    · rw [List.getElem?_append_left ht] at e
      exact W.oww t w e
    · rw [List.getElem?_append_right (by omega)] at e
      have e0 : t - x.own.length = 0 := by
        have := (List.getElem?_eq_some_iff.mp e).1
        simp at this
        omega
      rw [e0] at e
      have e1 : nextWord x = w := by simpa using e
      rw [← e1, show t = x.stage + 1 by omega]
      exact nextWord_ok x
  · rw [goes_answer]
    exact nextAnswer_ok W.ans
  · intro h' hm
    have hm' : h' ∈ x.heard.filter fun h => h.1 != x.stage := hm
    obtain ⟨m1, m2⟩ := List.mem_filter.mp hm'
    obtain ⟨a, b, c, d, e⟩ := W.hd h' m1
    have ne : h'.1 ≠ x.stage := by simpa using m2
    rw [hs]
    exact ⟨by omega, b, c, d, e⟩
  · rw [dct_goes]
    split
    · exact List.nodup_nil
    · exact W.nd t

theorem nodup_lt_len : ∀ (k : Nat) (l : List Nat), l.Nodup → (∀ a ∈ l, a < k) → l.length ≤ k
  | 0, [], _, _ => Nat.le_refl _
  | 0, a :: _, _, h => absurd (h a (List.mem_cons_self)) (Nat.not_lt_zero _)
  | k + 1, l, nd, h => by
    have ih := nodup_lt_len k (l.erase k) (nd.erase k) (fun a ha => by
      obtain ⟨h1, h2⟩ := (List.Nodup.mem_erase_iff nd).mp ha
      have := h a h2
      omega)
    by_cases hk : k ∈ l
    · rw [List.length_erase_of_mem hk] at ih
      omega
    · rw [List.erase_of_not_mem hk] at ih
      omega

theorem WF.dct_len {x : Node} (W : WF x) (t : Nat) : (dct x t).length ≤ 16 := by
  have h := nodup_lt_len 16 ((dct x t).map (·.1)) (W.nd t) (fun a ha => by
    obtain ⟨p, hp, e⟩ := List.mem_map.mp ha
    have h1 := W.hd _ (mem_dct.mp hp)
    have h2 := W.n16
    have h3 : p.1 < x.n := h1.2.2.1
    have h4 : p.1 = a := e
    omega)
  rw [List.length_map] at h
  exact h

theorem WF.dct_before {x : Node} (W : WF x) {t : Nat} (h : t < x.stage) : dct x t = [] := by
  cases e : dct x t with
  | nil => rfl
  | cons p l =>
    have hp : p ∈ dct x t := by rw [e]; exact List.mem_cons_self
    have := (W.hd _ (mem_dct.mp hp)).1
    have : x.stage ≤ t := this
    omega

theorem others_len (x : Node) : x.others.length ≤ x.n := by
  unfold Node.others
  exact Nat.le_trans (List.length_filter_le _ _) (by simp)
theorem flat_len (l : List Letter) : (l.flatMap Letter.bytes).length = 8 * l.length := by
  induction l with
  | nil => rfl
  | cons a l ih =>
    rw [List.flatMap_cons, List.length_append, ih, List.length_cons]
    show 8 + 8 * l.length = _
    omega
theorem goes_sent_len (x : Node) : (x.goes.2.flatMap Letter.bytes).length ≤ 8 * x.n := by
  rw [flat_len]
  have e : x.goes.2.length = x.others.length := by
    show (x.others.map _).length = _
    rw [List.length_map]
  have := others_len x
  omega

/-- can it go on -/
def can (x : Node) : Prop := x.stage < 128 ∧ x.n - stops x.n ≤ x.there.length
theorem goOn_can {k : Nat} {x : Node} (h : can x) : goOn (k + 1) x = ((goOn k x.goes.1).1, x.goes.2 ++ (goOn k x.goes.1).2) := by
  show (if x.stage < LAST ∧ x.n - stops x.n ≤ x.there.length then ((goOn k x.goes.1).1, x.goes.2 ++ (goOn k x.goes.1).2) else (x, [])) = _
  exact if_pos h
theorem goOn_not {k : Nat} {x : Node} (h : ¬ can x) : goOn k x = (x, []) := by
  cases k with
  | zero => rfl
  | succ k =>
    unfold goOn
    rw [if_neg (show ¬ (x.stage < LAST ∧ x.n - stops x.n ≤ x.there.length) from h)]
theorem wf_goOn : ∀ (k : Nat) {x : Node}, WF x → WF (goOn k x).1
  | 0, _, W => W
  | k + 1, x, W => by
    by_cases h : can x
    · rw [goOn_can h]
      exact wf_goOn k (wf_goes W h.1)
    · rw [goOn_not h]
      exact W
theorem goOn_sent : ∀ (k : Nat) {x : Node}, x.n ≤ 16 → ((goOn k x).2.flatMap Letter.bytes).length ≤ 128 * k
  | 0, _, _ => by simp [goOn]
  | k + 1, x, hn => by
    by_cases h : can x
    · rw [goOn_can h]
      have ih := goOn_sent k (x := x.goes.1) hn
      have h1 := goes_sent_len x
      dsimp only
      rw [List.flatMap_append, List.length_append]
      omega
    · rw [goOn_not h]
      exact Nat.zero_le _
end Cq
set_option linter.all false
namespace Cq
open Sv47

/-! ### what was saved -/
theorem getD_append_l {α : Type} (a b : List α) (i : Nat) (d : α) (h : i < a.length) : (a ++ b).getD i d = a.getD i d := by
  rw [List.getD_eq_getElem?_getD, List.getD_eq_getElem?_getD, List.getElem?_append_left h]
theorem getD_append_r {α : Type} (a b : List α) (i : Nat) (d : α) (h : a.length ≤ i) : (a ++ b).getD i d = b.getD (i - a.length) d := by
  rw [List.getD_eq_getElem?_getD, List.getD_eq_getElem?_getD, List.getElem?_append_right h]
theorem getD_range_map {α : Type} (f : Nat → α) (n i : Nat) (d : α) (h : i < n) : ((List.range n).map f).getD i d = f i := by
  rw [List.getD_eq_getElem?_getD, List.getElem?_map, List.getElem?_range h]
  rfl
theorem ext_getD {α : Type} (d : α) {a b : List α} (hl : a.length = b.length) (h : ∀ i, i < a.length → a.getD i d = b.getD i d) : a = b := by
  refine List.ext_getElem hl fun i h1 h2 => ?_
  have := h i h1
  rw [List.getD_eq_getElem?_getD, List.getD_eq_getElem?_getD, List.getElem?_eq_getElem h1, List.getElem?_eq_getElem h2] at this
  exact this
theorem flat_rows_len {α : Type} (f : Nat → Nat → α) (n : Nat) : ∀ m : Nat, ((List.range m).flatMap fun t => (List.range n).map (f t)).length = m * n
  | 0 => by simp
  | m + 1 => by
    rw [List.range_succ, List.flatMap_append, List.length_append, flat_rows_len f n m]
    simp [Nat.succ_mul]
theorem flat_rows_get {α : Type} (f : Nat → Nat → α) (n : Nat) (d : α) : ∀ (m t i : Nat), t < m → i < n → ((List.range m).flatMap fun t => (List.range n).map (f t)).getD (n * t + i) d = f t i
  | 0, t, i, h, _ => absurd h (Nat.not_lt_zero _)
  | m + 1, t, i, h, hi => by
    rw [List.range_succ, List.flatMap_append]
    have hl := flat_rows_len f n m
    by_cases ht : t < m
    · have h1 : n * t + i < m * n := by
        have : n * (t + 1) ≤ n * m := Nat.mul_le_mul_left n ht
        rw [Nat.mul_succ] at this
        rw [Nat.mul_comm m n]
        omega
      rw [getD_append_l _ _ _ _ (by rw [hl]; exact h1)]
      exact flat_rows_get f n d m t i ht hi
    · have e : t = m := by omega
      subst e
      rw [getD_append_r _ _ _ _ (by rw [hl, Nat.mul_comm]; omega), hl]
      rw [show n * t + i - t * n = i by rw [Nat.mul_comm]; omega]
      simp only [List.flatMap_cons, List.flatMap_nil, List.append_nil]
      exact getD_range_map (f t) n i d hi

theorem little_len (k n : Nat) : (little k n).length = k := by simp [little]
theorem save_len (x : Node) : (save x).length = 2200 := by
  unfold save
  rw [List.length_append, List.length_append, List.length_append, List.length_append, little_len, List.length_map, List.length_range, List.length_replicate]
  rw [flat_rows_len (fun t i => oneMore (x.from_ t i)) 16 LAST]
  rfl
def head (x : Node) : List Nat := [x.me, x.n, x.stage, oneMore x.answer, 0, 0, 0, 0]
def owns (x : Node) : List Nat := (List.range (LAST + 1)).map (fun t => x.own.getD t 0)
def heards (x : Node) : List Nat := (List.range LAST).flatMap fun t => (List.range 16).map fun i => oneMore (x.from_ t i)
theorem save_eq (x : Node) : save x = head x ++ (little 8 x.coins ++ (owns x ++ (List.replicate 7 0 ++ heards x))) := rfl
theorem owns_len (x : Node) : (owns x).length = 129 := by simp [owns, LAST]
theorem heards_len (x : Node) : (heards x).length = 2048 := flat_rows_len (fun t i => oneMore (x.from_ t i)) 16 LAST
theorem save_head (x : Node) (i : Nat) (h : i < 8) : (save x).getD i 0 = (head x).getD i 0 := by
  rw [save_eq, getD_append_l _ _ _ _ (by exact h)]
theorem save_coins (x : Node) (i : Nat) (h : i < 8) : (save x).getD (8 + i) 0 = x.coins / 256 ^ i % 256 := by
  rw [save_eq, getD_append_r _ _ _ _ (by show 8 ≤ 8 + i; omega), show 8 + i - (head x).length = i by show 8 + i - 8 = i; omega, getD_append_l _ _ _ _ (by rw [little_len]; exact h)]
  unfold little
  rw [getD_range_map _ _ _ _ h]
theorem save_own (x : Node) (i : Nat) (h : i < 129) : (save x).getD (16 + i) 0 = x.own.getD i 0 := by
  rw [save_eq, getD_append_r _ _ _ _ (by show 8 ≤ 16 + i; omega), show 16 + i - (head x).length = 8 + i by show 16 + i - 8 = 8 + i; omega, getD_append_r _ _ _ _ (by rw [little_len]; omega), little_len,
    show 8 + i - 8 = i by omega, getD_append_l _ _ _ _ (by rw [owns_len]; exact h)]
  unfold owns
  rw [getD_range_map _ _ _ _ (by show i < 129; exact h)]
theorem save_seven (x : Node) (i : Nat) (h : i < 7) : (save x).getD (145 + i) 0 = 0 := by
  rw [save_eq, getD_append_r _ _ _ _ (by show 8 ≤ 145 + i; omega), show 145 + i - (head x).length = 137 + i by show 145 + i - 8 = 137 + i; omega, getD_append_r _ _ _ _ (by rw [little_len]; omega), little_len,
    getD_append_r _ _ _ _ (by rw [owns_len]; omega), owns_len, show 137 + i - 8 - 129 = i by omega, getD_append_l _ _ _ _ (by simpa using h)]
  rw [List.getD_eq_getElem?_getD, List.getElem?_replicate]
  simp [h]
theorem save_heard (x : Node) (t i : Nat) (ht : t < 128) (hi : i < 16) : (save x).getD (152 + 16 * t + i) 0 = oneMore (x.from_ t i) := by
  rw [save_eq, getD_append_r _ _ _ _ (by show 8 ≤ 152 + 16 * t + i; omega), show 152 + 16 * t + i - (head x).length = 144 + 16 * t + i by show 152 + 16 * t + i - 8 = 144 + 16 * t + i; omega, getD_append_r _ _ _ _ (by rw [little_len]; omega), little_len,
    getD_append_r _ _ _ _ (by rw [owns_len]; omega), owns_len, getD_append_r _ _ _ _ (by simp; omega), show 144 + 16 * t + i - 8 - 129 - (List.replicate 7 0).length = 16 * t + i by simp; omega]
  exact flat_rows_get (fun t i => oneMore (x.from_ t i)) 16 0 LAST t i ht hi

/-! ### what is said by bytes -/
def ent (b : List Nat) (t i : Nat) : Nat := b.getD (152 + 16 * t + i) 0
def row (b : List Nat) (t : Nat) : List (Nat × Nat) := (List.range 16).filterMap fun i => if ent b t i = 0 then none else some (i, ent b t i - 1)
theorem filterMap_tag (b : List Nat) (t : Nat) : ∀ l : List Nat, (l.filterMap fun i => let w := b.getD (152 + 16 * t + i) 0; if w = 0 then none else some (t, i, w - 1)) = (l.filterMap fun i => if ent b t i = 0 then none else some (i, ent b t i - 1)).map fun p => (t, p)
  | [] => rfl
  | i :: l => by
    have ih := filterMap_tag b t l
    rw [List.filterMap_cons, List.filterMap_cons]
    dsimp only at ih ⊢
    by_cases h : b.getD (152 + 16 * t + i) 0 = 0
    · have h' : ent b t i = 0 := h
      rw [if_pos h, if_pos h']
      dsimp only
      exact ih
    · have h' : ¬ ent b t i = 0 := h
      rw [if_neg h, if_neg h']
      dsimp only
      rw [ih, List.map_cons]
      rfl
theorem said_heard (b : List Nat) : (said b).heard = (List.range 128).flatMap fun t => (row b t).map fun p => (t, p) := by
  show ((List.range LAST).flatMap fun t => (List.range 16).filterMap fun i => let w := b.getD (152 + 16 * t + i) 0; if w = 0 then none else some (t, i, w - 1)) = _
  have e : (fun t => (List.range 16).filterMap fun i => let w := b.getD (152 + 16 * t + i) 0; if w = 0 then none else some (t, i, w - 1)) = fun t => (row b t).map fun p => (t, p) := by
    funext t
    exact filterMap_tag b t _
  rw [e]
  rfl
theorem filter_tag_same (t : Nat) (l : List (Nat × Nat)) : ((l.map fun p => (t, p)).filter fun h => h.1 == t).map (fun h => h.2) = l := by
  induction l with
  | nil => rfl
  | cons p l ih =>
    rw [List.map_cons, List.filter_cons_of_pos (by simp), List.map_cons, ih]
theorem filter_tag_ne {t t' : Nat} (h : t' ≠ t) (l : List (Nat × Nat)) : ((l.map fun p => (t', p)).filter fun h => h.1 == t) = [] := by
  rw [List.filter_eq_nil_iff]
  intro a ha
  obtain ⟨p, _, rfl⟩ := List.mem_map.mp ha
  simpa using h
theorem filter_rows (f : Nat → List (Nat × Nat)) (t : Nat) : ∀ m : Nat, ((((List.range m).flatMap fun t => (f t).map fun p => (t, p)).filter fun h => h.1 == t).map fun h => h.2) = if t < m then f t else []
  | 0 => rfl
  | m + 1 => by
    have ih := filter_rows f t m
    rw [List.range_succ, List.flatMap_append, List.filter_append, List.map_append, ih]
    simp only [List.flatMap_cons, List.flatMap_nil, List.append_nil]
    by_cases h1 : t < m
    · rw [if_pos h1, if_pos (by omega), filter_tag_ne (by omega)]
      simp
    · rw [if_neg h1]
      by_cases h2 : t = m
      · subst h2
        rw [if_pos (by omega), filter_tag_same]
        rfl
      · rw [if_neg (by omega), filter_tag_ne (by omega)]
        rfl
theorem dct_said (b : List Nat) (t : Nat) : dct (said b) t = if t < 128 then row b t else [] := by
  unfold dct
  rw [said_heard]
  exact filter_rows (row b) t 128
theorem look_filterMap (g : Nat → Nat) (i : Nat) : ∀ l : List Nat, l.Nodup → look (l.filterMap fun i => if g i = 0 then none else some (i, g i - 1)) i = if i ∈ l then (if g i = 0 then none else some (g i - 1)) else none
  | [], _ => by simp [look]
  | a :: l, nd => by
    obtain ⟨h1, h2⟩ := List.nodup_cons.mp nd
    have ih := look_filterMap g i l h2
    rw [List.filterMap_cons]
    by_cases ha : g a = 0
    · rw [if_pos ha]
      dsimp only
      rw [ih]
      by_cases e : i = a
      · subst e
        rw [if_neg h1, if_pos (List.mem_cons_self), if_pos ha]
      · have : (i ∈ a :: l) ↔ (i ∈ l) := by simp [e]
        by_cases hm : i ∈ l
        · rw [if_pos hm, if_pos (this.mpr hm)]
        · rw [if_neg hm, if_neg (fun q => hm (this.mp q))]
    · rw [if_neg ha]
      dsimp only
      rw [look_cons]
      dsimp only
      by_cases e : a = i
      · subst e
        rw [if_pos rfl, if_pos (List.mem_cons_self), if_neg ha]
      · rw [if_neg e, ih]
        have : (i ∈ a :: l) ↔ (i ∈ l) := by
          constructor
          · intro q
            rcases List.mem_cons.mp q with z | z
            · exact absurd z.symm e
            · exact z
          · exact fun q => List.mem_cons_of_mem _ q
        by_cases hm : i ∈ l
        · rw [if_pos hm, if_pos (this.mpr hm)]
        · rw [if_neg hm, if_neg (fun q => hm (this.mp q))]
theorem look_row (b : List Nat) (t i : Nat) (hi : i < 16) : look (row b t) i = if ent b t i = 0 then none else some (ent b t i - 1) := by
  unfold row
  rw [look_filterMap (ent b t) i _ List.nodup_range, if_pos (List.mem_range.mpr hi)]
theorem mem_row {b : List Nat} {t : Nat} {p : Nat × Nat} : p ∈ row b t ↔ p.1 < 16 ∧ ent b t p.1 ≠ 0 ∧ p.2 = ent b t p.1 - 1 := by
  unfold row
  rw [List.mem_filterMap]
  constructor
  · rintro ⟨i, hi, e⟩
    by_cases h : ent b t i = 0
    · rw [if_pos h] at e; cases e
    · rw [if_neg h] at e
      cases e
      exact ⟨List.mem_range.mp hi, h, rfl⟩
  · rintro ⟨h1, h2, h3⟩
    refine ⟨p.1, List.mem_range.mpr h1, ?_⟩
    rw [if_neg h2, ← h3]
theorem nodup_fst_filterMap (g : Nat → Nat) : ∀ l : List Nat, l.Nodup → ((l.filterMap fun i => if g i = 0 then none else some (i, g i - 1)).map (·.1)).Nodup
  | [], _ => by simp
  | a :: l, nd => by
    obtain ⟨h1, h2⟩ := List.nodup_cons.mp nd
    have ih := nodup_fst_filterMap g l h2
    rw [List.filterMap_cons]
    by_cases ha : g a = 0
    · rw [if_pos ha]
      exact ih
    · rw [if_neg ha]
      dsimp only
      rw [List.map_cons]
      refine List.nodup_cons.mpr ⟨?_, ih⟩
      intro hm
      obtain ⟨p, hp, e⟩ := List.mem_map.mp hm
      obtain ⟨j, hj, e2⟩ := List.mem_filterMap.mp hp
      split at e2
      · cases e2
      · cases e2
        dsimp only at e
        subst e
        exact h1 hj
theorem row_nodup (b : List Nat) (t : Nat) : ((row b t).map (·.1)).Nodup := nodup_fst_filterMap (ent b t) _ List.nodup_range

/-- the bytes are so -/
structure Good (b : List Nat) : Prop where
  n2 : 2 ≤ b.getD 1 0
  n16 : b.getD 1 0 ≤ 16
  me : b.getD 0 0 < b.getD 1 0
  st : b.getD 2 0 ≤ 128
  an : b.getD 3 0 ≤ 2
  z4 : ∀ i, 4 ≤ i → i < 8 → b.getD i 0 = 0
  zo : ∀ i, 16 + b.getD 2 0 < i → i < 152 → b.getD i 0 = 0
  ow : ∀ t, t ≤ b.getD 2 0 → isWord t (b.getD (16 + t) 0) = true
  hb : ∀ t i, t < b.getD 2 0 → t < 128 → i < 16 → ent b t i = 0
  ha : ∀ t i, b.getD 2 0 ≤ t → t < 128 → i < 16 → ent b t i ≠ 0 → i < b.getD 1 0 ∧ i ≠ b.getD 0 0 ∧ isWord t (ent b t i - 1) = true
  few : b.getD 2 0 < 128 → (row b (b.getD 2 0)).length + 1 < b.getD 1 0 - stops (b.getD 1 0)
end Cq
set_option linter.all false
namespace Cq
open Sv47

def numOf (l : List Nat) : Nat := l.foldr (fun c n => c % 256 + 256 * n) 0
theorem numOf_get : ∀ (l : List Nat) (i : Nat), (∀ z ∈ l, z < 256) → numOf l / 256 ^ i % 256 = l.getD i 0
  | [], i, _ => by simp [numOf]
  | c :: l, 0, h => by
    have hc : c < 256 := h c (List.mem_cons_self)
    show (c % 256 + 256 * numOf l) / 256 ^ 0 % 256 = c
    rw [Nat.pow_zero, Nat.div_one]
    omega
  | c :: l, i + 1, h => by
    have hc : c < 256 := h c (List.mem_cons_self)
    have ih := numOf_get l i (fun z hz => h z (List.mem_cons_of_mem _ hz))
    show (c % 256 + 256 * numOf l) / 256 ^ (i + 1) % 256 = l.getD i 0
    rw [Nat.pow_succ, Nat.mul_comm (256 ^ i) 256, ← Nat.div_div_eq_div_mul]
    rw [show (c % 256 + 256 * numOf l) / 256 = numOf l by omega]
    exact ih
theorem numOf_lt : ∀ (l : List Nat), numOf l < 256 ^ l.length
  | [] => by simp [numOf]
  | c :: l => by
    have ih := numOf_lt l
    show c % 256 + 256 * numOf l < 256 ^ (l.length + 1)
    rw [Nat.pow_succ]
    have : c % 256 < 256 := Nat.mod_lt _ (by decide)
    omega
theorem word_eq (b : List Nat) (i k : Nat) : word b i k = numOf ((b.drop i).take k) := rfl
theorem numOf_small : ∀ (l : List Nat), (∀ z ∈ l, z < 256) → numOf l = l.foldr (fun c n => n * 256 + c) 0
  | [], _ => rfl
  | c :: l, h => by
    have hc : c < 256 := h c (List.mem_cons_self)
    have ih := numOf_small l (fun z hz => h z (List.mem_cons_of_mem _ hz))
    show c % 256 + 256 * numOf l = (l.foldr (fun c n => n * 256 + c) 0) * 256 + c
    rw [← ih]
    omega

theorem said_me (b : List Nat) : (said b).me = b.getD 0 0 := rfl
theorem said_n (b : List Nat) : (said b).n = b.getD 1 0 := rfl
theorem said_own (b : List Nat) : (said b).own = (List.range (min 128 (b.getD 2 0) + 1)).map fun t => b.getD (16 + t) 0 := rfl
theorem said_stage (b : List Nat) : (said b).stage = min 128 (b.getD 2 0) := by
  unfold Node.stage
  rw [said_own, List.length_map, List.length_range]
  omega
theorem said_answer (b : List Nat) : (said b).answer = if b.getD 3 0 = 0 then none else some (b.getD 3 0 - 1) := rfl
theorem said_from (b : List Nat) (t i : Nat) (ht : t < 128) (hi : i < 16) : (said b).from_ t i = if ent b t i = 0 then none else some (ent b t i - 1) := by
  rw [from_eq, dct_said, if_pos ht, look_row b t i hi]
theorem one_more_said (b : List Nat) (t i : Nat) (ht : t < 128) (hi : i < 16) : oneMore ((said b).from_ t i) = ent b t i := by
  rw [said_from b t i ht hi]
  by_cases h : ent b t i = 0
  · rw [if_pos h, h]; rfl
  · rw [if_neg h]
    show ent b t i - 1 + 1 = ent b t i
    omega
theorem mem_said_heard {b : List Nat} {h : Nat × Nat × Nat} : h ∈ (said b).heard ↔ h.1 < 128 ∧ h.2.1 < 16 ∧ ent b h.1 h.2.1 ≠ 0 ∧ h.2.2 = ent b h.1 h.2.1 - 1 := by
  rw [said_heard, List.mem_flatMap]
  constructor
  · rintro ⟨t, ht, hm⟩
    obtain ⟨p, hp, rfl⟩ := List.mem_map.mp hm
    obtain ⟨h1, h2, h3⟩ := mem_row.mp hp
    exact ⟨List.mem_range.mp ht, h1, h2, h3⟩
  · rintro ⟨h1, h2, h3, h4⟩
    exact ⟨h.1, List.mem_range.mpr h1, List.mem_map.mpr ⟨h.2, mem_row.mpr ⟨h2, h3, h4⟩, rfl⟩⟩
theorem mem_others {x : Node} {i : Nat} : i ∈ x.others ↔ i < x.n ∧ i ≠ x.me := by
  unfold Node.others
  rw [List.mem_filter]
  simp
theorem others_contains {x : Node} {i : Nat} : x.others.contains i = true ↔ i < x.n ∧ i ≠ x.me := by
  rw [List.contains_iff_mem]
  exact mem_others

theorem save_said {b : List Nat} (hl : b.length = 2200) (hb : ∀ z ∈ b, z < 256) (G : Good b) : save (said b) = b := by
  refine ext_getD 0 ((save_len _).trans hl.symm) fun i hi => ?_
  rw [save_len] at hi
  have hst : min 128 (b.getD 2 0) = b.getD 2 0 := Nat.min_eq_right G.st
  by_cases h8 : i < 8
  · rw [save_head _ _ h8]
    match i, h8 with
    | 0, _ => rfl
    | 1, _ => rfl
    | 2, _ =>
      show (said b).stage = _
      rw [said_stage, hst]
    | 3, _ =>
      show oneMore (said b).answer = _
      rw [said_answer]
      by_cases h : b.getD 3 0 = 0
      · rw [if_pos h, h]; rfl
      · rw [if_neg h]
        show b.getD 3 0 - 1 + 1 = _
        omega
    | 4, _ => exact (G.z4 4 (by decide) (by decide)).symm
    | 5, _ => exact (G.z4 5 (by decide) (by decide)).symm
    | 6, _ => exact (G.z4 6 (by decide) (by decide)).symm
    | 7, _ => exact (G.z4 7 (by decide) (by decide)).symm
  · by_cases h16 : i < 16
    · obtain ⟨j, rfl⟩ : ∃ j, i = 8 + j := ⟨i - 8, by omega⟩
      rw [save_coins _ _ (by omega)]
      show word b 8 8 / 256 ^ j % 256 = _
      rw [word_eq, numOf_get _ _ (fun z hz => hb z (List.mem_of_mem_drop (List.mem_of_mem_take hz)))]
      rw [List.getD_eq_getElem?_getD, List.getD_eq_getElem?_getD, List.getElem?_take_of_lt (by omega), List.getElem?_drop]
    · by_cases h145 : i < 145
      · obtain ⟨j, rfl⟩ : ∃ j, i = 16 + j := ⟨i - 16, by omega⟩
        rw [save_own _ _ (by omega), said_own, hst]
        by_cases hj : j ≤ b.getD 2 0
        · rw [getD_range_map _ _ _ _ (by omega)]
        · rw [G.zo (16 + j) (by omega) (by omega), List.getD_eq_getElem?_getD, List.getElem?_eq_none (by rw [List.length_map, List.length_range]; omega)]
          rfl
      · by_cases h152 : i < 152
        · obtain ⟨j, rfl⟩ : ∃ j, i = 145 + j := ⟨i - 145, by omega⟩
          rw [save_seven _ _ (by omega)]
          exact (G.zo _ (by have := G.st; omega) (by omega)).symm
        · obtain ⟨t, j, ht, hj, rfl⟩ : ∃ t j, t < 128 ∧ j < 16 ∧ i = 152 + 16 * t + j := ⟨(i - 152) / 16, (i - 152) % 16, by omega, by omega, by omega⟩
          rw [save_heard _ _ _ ht hj, one_more_said b t j ht hj]
          rfl

theorem load_good {b : List Nat} (hl : b.length = 2200) (hb : ∀ z ∈ b, z < 256) (G : Good b) : load b = some (said b) := by
  have hst : min 128 (b.getD 2 0) = b.getD 2 0 := Nat.min_eq_right G.st
  unfold load
  dsimp only
  rw [if_pos]
  refine ⟨hl, G.n2, G.n16, G.me, ?_, ?_, ?_, ?_, save_said hl hb G⟩
  · rw [List.all_eq_true]
    rintro ⟨w, t⟩ hm
    have hm' := List.mem_zipIdx_iff_getElem?.mp hm
    dsimp only at hm' ⊢
    rw [said_own, hst, List.getElem?_map] at hm'
    by_cases ht : t < b.getD 2 0 + 1
    · rw [List.getElem?_range ht] at hm'
      have e : b.getD (16 + t) 0 = w := by simpa using hm'
      rw [← e]
      exact G.ow t (by omega)
    · rw [List.getElem?_eq_none (by rw [List.length_range]; omega)] at hm'
      cases hm'
  · rw [said_answer]
    by_cases h : b.getD 3 0 = 0
    · rw [if_pos h]; rfl
    · rw [if_neg h]
      have := G.an
      show decide (b.getD 3 0 - 1 < 2) = true
      exact decide_eq_true (by omega)
  · rw [List.all_eq_true]
    intro h hm
    obtain ⟨h1, h2, h3, h4⟩ := mem_said_heard.mp hm
    have hge : b.getD 2 0 ≤ h.1 := by
      refine Nat.le_of_not_lt fun q => h3 (G.hb h.1 h.2.1 q h1 h2)
    obtain ⟨a1, a2, a3⟩ := G.ha h.1 h.2.1 hge h1 h2 h3
    rw [h4, a3, said_stage, hst]
    have : (said b).others.contains h.2.1 = true := others_contains.mpr ⟨a1, a2⟩
    rw [this, decide_eq_true hge]
    rfl
  · intro h
    rw [said_stage, hst] at h
    have h : b.getD 2 0 < 128 := h
    rw [there_eq, said_stage, hst, dct_said, if_pos h, List.length_cons, List.length_map]
    exact G.few h

theorem good_load {b : List Nat} {x : Node} (h : load b = some x) : Good b ∧ x = said b ∧ b.length = 2200 := by
  unfold load at h
  dsimp only at h
  split at h
  · rename_i c
    obtain ⟨hl, h2, h3, h4, h5, h6, h7, h8, h9⟩ := c
    refine ⟨?_, (Option.some.inj h).symm, hl⟩
    have at_ : ∀ i, (save (said b)).getD i 0 = b.getD i 0 := fun i => by rw [h9]
    have hst : b.getD 2 0 ≤ 128 := by
      have := at_ 2
      rw [save_head _ _ (by decide)] at this
      have e : (said b).stage = b.getD 2 0 := this
      rw [said_stage] at e
      omega
    have hmin : min 128 (b.getD 2 0) = b.getD 2 0 := Nat.min_eq_right hst
    rw [List.all_eq_true] at h5 h7
    have all : ∀ t i, t < 128 → i < 16 → ent b t i ≠ 0 → b.getD 2 0 ≤ t ∧ i < b.getD 1 0 ∧ i ≠ b.getD 0 0 ∧ isWord t (ent b t i - 1) = true := fun t i ht hi hne => by
      have hm : (t, i, ent b t i - 1) ∈ (said b).heard := mem_said_heard.mpr ⟨ht, hi, hne, rfl⟩
      have q := h7 _ hm
      rw [Bool.and_eq_true, Bool.and_eq_true] at q
      obtain ⟨q1, q2, q3⟩ := q
      have q4 := others_contains.mp q3
      rw [said_stage, hmin] at q2
      exact ⟨of_decide_eq_true q2, q4.1, q4.2, q1⟩
    refine ⟨h2, h3, h4, hst, ?_, ?_, ?_, ?_, ?_, ?_, ?_⟩
    · rw [said_answer] at h6
      by_cases z : b.getD 3 0 = 0
      · omega
      · rw [if_neg z] at h6
        have := of_decide_eq_true (show decide (b.getD 3 0 - 1 < 2) = true from h6)
        omega
    · intro i h1 h2
      rw [← at_ i, save_head _ _ h2]
      match i, h1, h2 with
      | 4, _, _ => rfl
      | 5, _, _ => rfl
      | 6, _, _ => rfl
      | 7, _, _ => rfl
    · intro i h1 h2
      rw [← at_ i]
      by_cases h145 : i < 145
      · obtain ⟨j, rfl⟩ : ∃ j, i = 16 + j := ⟨i - 16, by omega⟩
        rw [save_own _ _ (by omega), said_own, hmin, List.getD_eq_getElem?_getD, List.getElem?_eq_none (by rw [List.length_map, List.length_range]; omega)]
        rfl
      · obtain ⟨j, rfl⟩ : ∃ j, i = 145 + j := ⟨i - 145, by omega⟩
        exact save_seven _ _ (by omega)
    · intro t ht
      have hm : (b.getD (16 + t) 0, t) ∈ (said b).own.zipIdx := by
        rw [List.mem_zipIdx_iff_getElem?]
        rw [said_own, hmin, List.getElem?_map, List.getElem?_range (by omega)]
        rfl
      exact h5 _ hm
    · intro t i ht ht2 hi
      refine Classical.byContradiction fun z => ?_
      have := (all t i ht2 hi z).1
      omega
    · intro t i _ ht2 hi hne
      exact (all t i ht2 hi hne).2
    · intro z
      have q := h8 (by rw [said_stage, hmin]; exact z)
      rw [there_eq, said_stage, hmin, dct_said, if_pos z, List.length_cons, List.length_map] at q
      exact q
  · cases h

theorem load_bad {b : List Nat} (h : ¬ Good b) : load b = none := by
  cases e : load b with
  | none => rfl
  | some x => exact absurd (good_load e).1 h

theorem wf_said {b : List Nat} (hl : b.length = 2200) (hb : ∀ z ∈ b, z < 256) (G : Good b) : WF (said b) := by
  have hst : min 128 (b.getD 2 0) = b.getD 2 0 := Nat.min_eq_right G.st
  have gst := G.st
  refine ⟨G.n2, G.n16, G.me, ?_, ?_, ?_, ?_, ?_, ?_, fun t => ?_⟩
  · rw [said_own, List.length_map, List.length_range]; omega
  · rw [said_own, List.length_map, List.length_range]; omega
  · intro t w e
    rw [said_own, hst, List.getElem?_map] at e
    by_cases ht : t < b.getD 2 0 + 1
    · rw [List.getElem?_range ht] at e
      have e' : b.getD (16 + t) 0 = w := by simpa using e
      rw [← e']
      exact G.ow t (by omega)
    · rw [List.getElem?_eq_none (by rw [List.length_range]; omega)] at e
      cases e
  · intro v e
    rw [said_answer] at e
    have := G.an
    split at e
    · cases e
    · cases e
      omega
  · show word b 8 8 < 2 ^ 64
    rw [word_eq]
    have h1 := numOf_lt ((b.drop 8).take 8)
    have h2 : ((b.drop 8).take 8).length = 8 := by rw [List.length_take, List.length_drop, hl] <;> rfl
    rw [h2] at h1
    exact Nat.lt_of_lt_of_le h1 (by decide)
  · intro h hm
    obtain ⟨h1, h2, h3, h4⟩ := mem_said_heard.mp hm
    have hge : b.getD 2 0 ≤ h.1 := Nat.le_of_not_lt fun q => h3 (G.hb h.1 h.2.1 q h1 h2)
    obtain ⟨a1, a2, a3⟩ := G.ha h.1 h.2.1 hge h1 h2 h3
    rw [said_stage, hst, h4]
    exact ⟨hge, h1, a1, a2, a3⟩
  · rw [dct_said]
    split
    · exact row_nodup b t
    · exact List.nodup_nil

theorem wf_fresh {me n v coins : Nat} (h1 : 2 ≤ n) (h2 : n ≤ 16) (h3 : me < n) (h4 : v ≤ 1) (h5 : coins < 2 ^ 64) : WF (fresh me n v coins) := by
  refine ⟨h1, h2, h3, Nat.zero_lt_one, by show 1 ≤ 129; decide, ?_, ?_, h5, ?_, fun t => List.nodup_nil⟩
  · intro t w e
    match t, e with
    | 0, e =>
      have e' : v = w := by simpa [fresh] using e
      rw [← e', isWord_iff]
      exact .inl h4
    | t + 1, e => simp [fresh] at e
  · intro v e; cases e
  · intro h hm; cases hm

/-- a right letter is heard, and it goes on -/
theorem wf_receive {x : Node} (W : WF x) {l : Letter} (hr : right x l = true) : WF (receive x l).1 := by
  unfold receive
  split
  · exact W
  · rename_i c
    have c1 : ¬ l.stage < x.stage := fun q => c (.inl q)
    have c2 : ¬ 128 ≤ l.stage := fun q => c (.inr (.inl q))
    have c3 : ¬ (x.from_ l.stage l.sender).isSome = true := fun q => c (.inr (.inr q))
    unfold right at hr
    simp only [Bool.and_eq_true, decide_eq_true_eq, bne_iff_ne, ne_eq, beq_iff_eq] at hr
    obtain ⟨r1, r2, r3, r4, r5⟩ := hr
    refine wf_goOn _ (wf_hear W (t := l.stage) (i := l.sender) (w := l.word) (by omega) (by omega) r3 r2 r5 ?_)
    rw [← from_eq]
    cases e : x.from_ l.stage l.sender with
    | none => rfl
    | some v => rw [e] at c3; exact absurd rfl c3
end Cq
set_option linter.all false
namespace Cq
open Sv47

abbrev I32 (z : Int) : Prop := -(2 ^ 31) ≤ z ∧ z < 2 ^ 31
/-- one call, as it stands in the list behind its number p -/
inductive Parsed : Int → List Int → Nat → Sv47.Call → List Int → Prop where
  | begin_ (o : Nat) (me n v : Int) (coins : Nat) (r : List Int) : o < 16 → I32 me → I32 n → I32 v → coins < 2 ^ 64 → Parsed 0 ((o : Int) :: me :: n :: v :: (coins : Int) :: r) o (.begin_ me n v coins) r
  | save (o : Nat) (r : List Int) : o < 16 → Parsed 1 ((o : Int) :: r) o .save r
  | load (o : Nat) (b : List Nat) (r : List Int) : o < 16 → b.length = 2200 → (∀ z ∈ b, z < 256) → Parsed 2 ((o : Int) :: (b.length : Int) :: (Sv47Neutral.ints b ++ r)) o (.load b) r
  | receive (o : Nat) (most : Int) (b : List Nat) (r : List Int) : o < 16 → I32 most → b.length ≤ 1024 → (∀ z ∈ b, z < 256) → Parsed 3 ((o : Int) :: most :: (b.length : Int) :: (Sv47Neutral.ints b ++ r)) o (.receive b (b.length : Int) most) r
  | again (o : Nat) (to st most : Int) (r : List Int) : o < 16 → I32 to → I32 st → I32 most → Parsed 4 ((o : Int) :: to :: st :: most :: r) o (.again to st most) r
  | answer (o : Nat) (r : List Int) : o < 16 → Parsed 5 ((o : Int) :: r) o .answer r
  | stage (o : Nat) (r : List Int) : o < 16 → Parsed 6 ((o : Int) :: r) o .stage r

def begins : Sv47.Call → Bool
  | .begin_ _ _ _ _ => true
  | .load _ => true
  | _ => false
/-- with the objects S the rest r of the list is asked, A is due -/
def Rest (S : Sv47Neutral.S) (r A : List Int) (k : Nat) : Prop :=
  ∃ f cs, PyFlat.calls PySv47.shape f r = some cs ∧ (∀ c ∈ cs, Sv47Neutral.asked1 (PySv47.whole c) = true) ∧ Sv47Neutral.fits S (cs.map PySv47.whole) = true ∧
    A = PyFlat.told (PyFlat.played Sv47Neutral.step S (cs.map PySv47.whole)) ∧ cs.length ≤ k

theorem nat_of {z : Int} {k : Nat} (h : Sv47Neutral.natural z k = true) : ∃ n : Nat, z = (n : Int) ∧ n < 2 ^ k := by
  unfold Sv47Neutral.natural at h
  rw [Bool.and_eq_true] at h
  have h1 := of_decide_eq_true h.1
  have h2 := of_decide_eq_true h.2
  refine ⟨z.toNat, by omega, ?_⟩
  have : ((2 ^ k : Nat) : Int) = (2 : Int) ^ k := by simp
  omega
theorem whole_of {z : Int} (h : Sv47Neutral.whole32 z = true) : I32 z := by
  unfold Sv47Neutral.whole32 at h
  rw [Bool.and_eq_true] at h
  exact ⟨of_decide_eq_true h.1, of_decide_eq_true h.2⟩
theorem bytes_of : ∀ {l : List Int}, l.all (fun (z : Int) => Sv47Neutral.natural z 8) = true → ∃ b : List Nat, l = Sv47Neutral.ints b ∧ ∀ z ∈ b, z < 256
  | [], _ => ⟨[], rfl, fun _ h => by cases h⟩
  | z :: l, h => by
    rw [List.all_cons, Bool.and_eq_true] at h
    obtain ⟨n, e, hn⟩ := nat_of h.1
    obtain ⟨b, e2, hb⟩ := bytes_of h.2
    refine ⟨n :: b, ?_, ?_⟩
    · rw [e, e2]; rfl
    · intro y hy
      rcases List.mem_cons.mp hy with q | q
      · rw [q]; exact hn
      · exact hb y q
theorem nats_ints (b : List Nat) : Sv47Neutral.nats (Sv47Neutral.ints b) = b := by
  unfold Sv47Neutral.nats Sv47Neutral.ints
  rw [List.map_map]
  conv => rhs; rw [← List.map_id b]
  apply List.map_congr_left
  intro a _
  rfl
theorem ints_len (b : List Nat) : (Sv47Neutral.ints b).length = b.length := by unfold Sv47Neutral.ints; rw [List.length_map]
theorem row_of {r row t : List Int} (h : PyFlat.row r = some (row, t)) : r = (row.length : Int) :: (row ++ t) := by
  cases r with
  | nil => cases h
  | cons n s =>
    have h : (if 0 ≤ n ∧ n.toNat ≤ s.length then some (s.take n.toNat, s.drop n.toNat) else none) = some (row, t) := h
    by_cases c : 0 ≤ n ∧ n.toNat ≤ s.length
    · rw [if_pos c] at h
      cases h
      rw [List.take_append_drop, List.length_take, Nat.min_eq_left c.2]
      rw [show ((n.toNat : Nat) : Int) = n by omega]
    · rw [if_neg c] at h
      cases h

theorem stepped {S : Sv47Neutral.S} {c : List (List Int)} {k : Nat} {x : Sv47.Call} (h : Sv47Neutral.callOf c = some (k, x)) : Sv47Neutral.step S c = (S.set k (Sv47.does (S.getD k none) x).1, (Sv47.does (S.getD k none) x).2.v :: Sv47Neutral.ints (Sv47.does (S.getD k none) x).2.l) := by
  unfold Sv47Neutral.step
  rw [h]

/-- what the numbers of one call are -/
theorem parse_one {p : Int} {r : List Int} {c : List (List Int)} {t : List Int} (h : PyFlat.call PySv47.shape (p :: r) = some (c, t)) (ha : Sv47Neutral.asked1 (PySv47.whole c) = true) :
    ∃ o x, Parsed p r o x t ∧ Sv47Neutral.callOf (PySv47.whole c) = some (o, x) ∧ ∃ k rest rows, PySv47.whole c = (k :: (o : Int) :: rest) :: rows ∧ ((k.toNat == 0 || k.toNat == 2) = begins x) := by
  unfold PyFlat.call at h
  dsimp only at h
  have long : ∀ {n : Nat}, ¬ r.length < n → r.length ≥ n := fun q => Nat.le_of_not_lt q
  by_cases h0 : p = 0
  · subst h0
    rw [show PySv47.shape 0 = some (5, 0) from rfl] at h
    dsimp only at h
    split at h
    · cases h
    · rename_i hl
      match r, hl with
      | [], hl => exact absurd (by decide) hl
      | [_], hl => exact absurd (by simp) hl
      | [_, _], hl => exact absurd (by simp) hl
      | [_, _, _], hl => exact absurd (by simp) hl
      | [_, _, _, _], hl => exact absurd (by simp) hl
      | o :: me :: n :: v :: co :: s, _ =>
        cases h
        have ha : (Sv47Neutral.natural o 4 && ((Sv47Neutral.whole32 me && Sv47Neutral.whole32 n && Sv47Neutral.whole32 v) && Sv47Neutral.natural co 64)) = true := ha
        simp only [Bool.and_eq_true] at ha
        obtain ⟨a1, ⟨⟨a2, a3⟩, a4⟩, a5⟩ := ha
        obtain ⟨o', rfl, ho⟩ := nat_of a1
        obtain ⟨c', rfl, hc⟩ := nat_of a5
        exact ⟨o', _, .begin_ o' me n v c' s ho (whole_of a2) (whole_of a3) (whole_of a4) hc, rfl, 0, _, _, rfl, rfl⟩
  · by_cases h1 : p = 1
    · subst h1
      rw [show PySv47.shape 1 = some (1, 0) from rfl] at h
      dsimp only at h
      split at h
      · cases h
      · rename_i hl
        match r, hl with
        | [], hl => exact absurd (by decide) hl
        | o :: s, _ =>
          cases h
          obtain ⟨o', rfl, ho⟩ := nat_of (show Sv47Neutral.natural o 4 = true from ha)
          exact ⟨o', _, .save o' s ho, rfl, 1, _, _, rfl, rfl⟩
    · by_cases h2 : p = 2
      · subst h2
        rw [show PySv47.shape 2 = some (1, 1) from rfl] at h
        dsimp only at h
        split at h
        · cases h
        · rename_i hl
          match r, hl with
          | [], hl => exact absurd (by decide) hl
          | o :: s, _ =>
            unfold PyFlat.rows at h
            rw [show (o :: s).drop 1 = s from rfl] at h
            cases e : PyFlat.row s with
            | none => rw [e] at h; cases h
            | some q =>
              obtain ⟨b, t'⟩ := q
              rw [e] at h
              cases h
              have e2 := row_of e
              have ha : (Sv47Neutral.natural o 4 && (b.all (fun (z : Int) => Sv47Neutral.natural z 8) && Sv47Neutral.long b 2200 2200 2200)) = true := ha
              simp only [Bool.and_eq_true] at ha
              obtain ⟨a1, a2, a3⟩ := ha
              obtain ⟨o', rfl, ho⟩ := nat_of a1
              obtain ⟨b', rfl, hb⟩ := bytes_of a2
              have a4 := of_decide_eq_true a3
              rw [if_pos ⟨Int.le_refl _, Int.le_refl _⟩, ints_len] at a4
              rw [e2, ints_len]
              refine ⟨o', _, .load o' b' t ho (by omega) hb, ?_, 2, _, _, rfl, rfl⟩
              show some (o', Sv47.Call.load (Sv47Neutral.nats (Sv47Neutral.ints b'))) = _
              rw [nats_ints]
      · by_cases h3 : p = 3
        · subst h3
          rw [show PySv47.shape 3 = some (2, 1) from rfl] at h
          dsimp only at h
          split at h
          · cases h
          · rename_i hl
            match r, hl with
            | [], hl => exact absurd (by decide) hl
            | [_], hl => exact absurd (by simp) hl
            | o :: m :: s, _ =>
              unfold PyFlat.rows at h
              rw [show (o :: m :: s).drop 2 = s from rfl] at h
              cases e : PyFlat.row s with
              | none => rw [e] at h; cases h
              | some q =>
                obtain ⟨b, t'⟩ := q
                rw [e] at h
                cases h
                have e2 := row_of e
                have ha : (Sv47Neutral.natural o 4 && ((Sv47Neutral.whole32 (b.length : Int) && Sv47Neutral.whole32 m) && (b.all (fun (z : Int) => Sv47Neutral.natural z 8) && Sv47Neutral.long b (b.length : Int) 0 1024))) = true := ha
                simp only [Bool.and_eq_true] at ha
                obtain ⟨a1, ⟨_, a2⟩, a3, a4⟩ := ha
                obtain ⟨o', rfl, ho⟩ := nat_of a1
                obtain ⟨b', rfl, hb⟩ := bytes_of a3
                have a5 := of_decide_eq_true a4
                have a6 : b'.length ≤ 1024 := by
                  refine Nat.le_of_not_lt fun q => ?_
                  rw [if_neg (by rw [ints_len]; omega), ints_len] at a5
                  omega
                rw [e2, ints_len]
                refine ⟨o', _, .receive o' m b' t ho (whole_of a2) a6 hb, ?_, 3, _, _, rfl, rfl⟩
                show some (o', Sv47.Call.receive (Sv47Neutral.nats (Sv47Neutral.ints b')) ((Sv47Neutral.ints b').length : Int) m) = _
                rw [nats_ints, ints_len]
        · by_cases h4 : p = 4
          · subst h4
            rw [show PySv47.shape 4 = some (4, 0) from rfl] at h
            dsimp only at h
            split at h
            · cases h
            · rename_i hl
              match r, hl with
              | [], hl => exact absurd (by decide) hl
              | [_], hl => exact absurd (by simp) hl
              | [_, _], hl => exact absurd (by simp) hl
              | [_, _, _], hl => exact absurd (by simp) hl
              | o :: to :: st :: m :: s, _ =>
                cases h
                have ha : (Sv47Neutral.natural o 4 && (Sv47Neutral.whole32 to && Sv47Neutral.whole32 st && Sv47Neutral.whole32 m)) = true := ha
                simp only [Bool.and_eq_true] at ha
                obtain ⟨a1, ⟨a2, a3⟩, a4⟩ := ha
                obtain ⟨o', rfl, ho⟩ := nat_of a1
                exact ⟨o', _, .again o' to st m s ho (whole_of a2) (whole_of a3) (whole_of a4), rfl, 4, _, _, rfl, rfl⟩
          · by_cases h5 : p = 5
            · subst h5
              rw [show PySv47.shape 5 = some (1, 0) from rfl] at h
              dsimp only at h
              split at h
              · cases h
              · rename_i hl
                match r, hl with
                | [], hl => exact absurd (by decide) hl
                | o :: s, _ =>
                  cases h
                  obtain ⟨o', rfl, ho⟩ := nat_of (show Sv47Neutral.natural o 4 = true from ha)
                  exact ⟨o', _, .answer o' s ho, rfl, 5, _, _, rfl, rfl⟩
            · by_cases h6 : p = 6
              · subst h6
                rw [show PySv47.shape 6 = some (1, 0) from rfl] at h
                dsimp only at h
                split at h
                · cases h
                · rename_i hl
                  match r, hl with
                  | [], hl => exact absurd (by decide) hl
                  | o :: s, _ =>
                    cases h
                    obtain ⟨o', rfl, ho⟩ := nat_of (show Sv47Neutral.natural o 4 = true from ha)
                    exact ⟨o', _, .stage o' s ho, rfl, 6, _, _, rfl, rfl⟩
              · rw [show PySv47.shape p = none by unfold PySv47.shape; rw [if_neg h0, if_neg h1, if_neg h2, if_neg h3, if_neg h4, if_neg h5, if_neg h6]] at h
                cases h

theorem rest_nil {S : Sv47Neutral.S} {A : List Int} {k : Nat} (h : Rest S [] A k) : A = [] := by
  obtain ⟨f, cs, h1, _, _, h2, _⟩ := h
  have e : cs = [] := by
    cases f with
    | zero => exact (Option.some.inj h1).symm
    | succ f => exact (Option.some.inj h1).symm
  subst e
  exact h2
/-- one call: what is due of it, and the rest -/
theorem rest_cons {S : Sv47Neutral.S} {p : Int} {r A : List Int} {k : Nat} (h : Rest S (p :: r) A k) : ∃ (o : Nat) (x : Sv47.Call) (r' A' : List Int) (k' : Nat), Parsed p r o x r' ∧ (begins x = true ∨ ∃ y, S.getD o none = some y) ∧ k = k' + 1 ∧
    A = (((Sv47.does (S.getD o none) x).2.l.length + 1 : Nat) : Int) :: (Sv47.does (S.getD o none) x).2.v :: (Sv47Neutral.ints (Sv47.does (S.getD o none) x).2.l ++ A') ∧ Rest (S.set o (Sv47.does (S.getD o none) x).1) r' A' k' := by
  obtain ⟨f, cs, h1, h2, h3, h4, h5⟩ := h
  cases f with
  | zero => cases h1
  | succ f =>
    unfold PyFlat.calls at h1
    cases e : PyFlat.call PySv47.shape (p :: r) with
    | none => rw [e] at h1; cases h1
    | some q =>
      obtain ⟨c, t⟩ := q
      rw [e] at h1
      dsimp only at h1
      cases e2 : PyFlat.calls PySv47.shape f t with
      | none => rw [e2] at h1; cases h1
      | some cs' =>
        rw [e2] at h1
        cases h1
        obtain ⟨o, x, P, hc, kk, rest, rows, hw, hbg⟩ := parse_one e (h2 c (List.mem_cons_self))
        have st := stepped (S := S) hc
        rw [List.map_cons] at h3 h4
        unfold Sv47Neutral.fits at h3
        rw [Bool.and_eq_true] at h3
        refine ⟨o, x, t, PyFlat.told (PyFlat.played Sv47Neutral.step (Sv47Neutral.step S (PySv47.whole c)).1 (cs'.map PySv47.whole)), k - 1, P, ?_, ?_, ?_, ?_⟩
        · have h31 := h3.1
          rw [hw] at h31
          dsimp only at h31
          rw [hbg, Bool.or_eq_true] at h31
          rcases h31 with q | q
          · exact .inl q
          · exact .inr (Option.isSome_iff_exists.mp q)
        · rw [List.length_cons] at h5
          omega
        · rw [h4]
          show PyFlat.told ((Sv47Neutral.step S (PySv47.whole c)).2 :: PyFlat.played Sv47Neutral.step (Sv47Neutral.step S (PySv47.whole c)).1 (cs'.map PySv47.whole)) = _
          unfold PyFlat.told
          rw [List.flatMap_cons, st]
          dsimp only
          rw [List.length_cons, ints_len]
          rfl
        · rw [st]
          rw [List.length_cons] at h5
          refine ⟨f, cs', e2, fun c' hc' => h2 c' (List.mem_cons_of_mem _ hc'), ?_, rfl, by omega⟩
          have := h3.2
          rw [st] at this
          exact this

theorem played_len : ∀ (cs : List (List (List Int))) (S : Sv47Neutral.S), (PyFlat.told (PyFlat.played Sv47Neutral.step S cs)).length = Sv47Neutral.answered S cs + cs.length
  | [], _ => rfl
  | c :: cs, S => by
    have ih := played_len cs (Sv47Neutral.step S c).1
    unfold PyFlat.played PyFlat.told Sv47Neutral.answered
    rw [List.flatMap_cons, List.length_append, List.length_cons, List.length_cons]
    have ih' : (List.flatMap (fun a => (a.length : Int) :: a) (PyFlat.played Sv47Neutral.step (Sv47Neutral.step S c).1 cs)).length = Sv47Neutral.answered (Sv47Neutral.step S c).1 cs + cs.length := ih
    rw [ih']
    omega
/-- the whole list -/
theorem rest_start {ns : List Int} (h : PySv47.answers_asked ns = true) : Rest Sv47Neutral.start ns (PySv47.answers ns) 400 ∧ (PySv47.answers ns).length ≤ 1000400 := by
  unfold PySv47.answers_asked at h
  unfold PySv47.answers
  cases e : PySv47.calls ns with
  | none => rw [e] at h; cases h
  | some cs =>
    rw [e] at h
    dsimp only at h ⊢
    unfold PySv47.calls at e
    cases e2 : PyFlat.calls PySv47.shape ns.length ns with
    | none => rw [e2] at e; cases e
    | some cs0 =>
      rw [e2] at e
      cases e
      rw [Bool.and_eq_true] at h
      have h1 := of_decide_eq_true h.1
      have h2 := h.2
      unfold Sv47Neutral.asked at h2
      simp only [Bool.and_eq_true, decide_eq_true_eq] at h2
      obtain ⟨a1, a2, a3, a4, a5⟩ := h2
      rw [List.length_map] at h1
      refine ⟨⟨ns.length, cs0, e2, fun c hc => ?_, a4, rfl, h1⟩, ?_⟩
      · rw [List.all_eq_true] at a1
        exact a1 _ (List.mem_map.mpr ⟨c, hc, rfl⟩)
      · rw [played_len, List.length_map]
        omega
end Cq
set_option Elab.async false
set_option linter.all false
set_option maxRecDepth 100000
namespace Cx1
open PySem PySem.Spec PyProof.Rows L2

theorem bt_list : bootBuiltins "list" = some (.type "list") := by decide +kernel
theorem bt_dict : bootBuiltins "dict" = some (.type "dict") := by decide +kernel
/-! ### any(xs), the truth of an item by the heap -/
section
variable {prog : Program} {w : World} {A : Around}
theorem any_loop_h {R : Result → Shared → Prop} {I : Addr} {fp wr : List Addr} {n : Nat} {P : Nat → Value → Prop} {St : Nat → Heap → Prop} {tr : Nat → Bool} {Ok : Heap → Prop}
    (W : Walks prog w A.in1 I fp wr n P St) (stay : ∀ h h', Ok h → (∀ b o, b ∉ wr → h.get? b = some o → h'.get? b = some o) → Ok h')
    (htr : ∀ (i : Nat) (v : Value) (s : Shared) (Q : Bool → Shared → Prop) (E : Value → Shared → Prop), P i v → Ok s.heap → (∀ tk, Q (tr i) { s with toks := tk }) → wpAny (model prog w) A.in1 (truthy v) Q E s) :
    ∀ (k i : Nat) (s : Shared), i + k = n → St i s.heap → Ok s.heap →
      (∀ h' tk, (∀ b o, b ∉ wr → s.heap.get? b = some o → h'.get? b = some o) → R (.ok (.ret (.bool (((List.range n).drop i).any tr)))) { s with heap := h', toks := tk }) →
      codeAny (model prog w) A (.builtin "any.loop" ⟨[.ref I], []⟩) R s
  | 0, i, s, hk, hst, ok, hR => by
    have hin : n = i := by omega
    subst hin
    refine codeAny_builtin F.entry_any_loop ?_
    rw [Around.under_plainId F.plain_any_loop _]
    refine wpAny_bind (m := pyNext (.ref I)) (W.done s _ _ hst fun h' tk kp => ?_)
    refine wpAny_bind (wpAny_rule (wpAny_pure ?_))
    have q := hR h' tk kp
    rw [List.drop_of_length_le (Nat.le_of_eq List.length_range)] at q
    exact q
  | k + 1, i, s, hk, hst, ok, hR => by
    have hlt : i < n := by omega
    have hd : (List.range n).drop i = i :: (List.range n).drop (i + 1) := by
      have hlr : i < (List.range n).length := by rw [List.length_range]; exact hlt
      rw [List.drop_eq_getElem_cons hlr, List.getElem_range]
    refine codeAny_builtin F.entry_any_loop ?_
    rw [Around.under_plainId F.plain_any_loop _]
    refine wpAny_bind (m := pyNext (.ref I)) (W.item i s _ _ hlt hst fun v h1 tk hP st1 kp => ?_)
    refine wpAny_bind (wpAny_holding (htr i v _ _ _ hP (stay _ _ ok kp) fun tk2 => ?_))
    refine wpAny_bind (wpAny_letGo ?_)
    cases hb : tr i with
    | false =>
      simp only [Bool.false_eq_true, if_false]
      refine wpAny_pure ⟨plainId_quiet F.plain_any_loop _, any_loop_h W stay htr k (i + 1) _ (by omega) st1 (stay _ _ ok kp) fun h2 tk3 kp2 => ?_⟩
      have q := hR h2 tk3 fun b o hw e => kp2 b o hw (kp b o hw e)
      rw [hd, List.any_cons, hb, Bool.false_or] at q
      exact q
    | true =>
      simp only [if_true]
      refine wpAny_bind (wpAny_rule (wpAny_pure ?_))
      have q := hR h1 tk2 kp
      rw [hd, List.any_cons, hb, Bool.true_or] at q
      exact q
theorem any_call_h {E : Value → Shared → Prop} {s : Shared} {x : Value} {Q : Value → Shared → Prop}
    (h : wpAny (model prog w) A.in1 (pyIter x) (fun it s2 => ∃ (I : Addr) (fp wr : List Addr) (n : Nat) (P : Nat → Value → Prop) (St : Nat → Heap → Prop) (tr : Nat → Bool) (Ok : Heap → Prop), it = .ref I ∧ Walks prog w A.in1 I fp wr n P St ∧ St 0 s2.heap ∧ Ok s2.heap ∧
      (∀ h h', Ok h → (∀ b o, b ∉ wr → h.get? b = some o → h'.get? b = some o) → Ok h') ∧
      (∀ (i : Nat) (v : Value) (s : Shared) (Q : Bool → Shared → Prop) (E : Value → Shared → Prop), P i v → Ok s.heap → (∀ tk, Q (tr i) { s with toks := tk }) → wpAny (model prog w) A.in1 (truthy v) Q E s) ∧
      ∀ h' tk, (∀ b o, b ∉ wr → s2.heap.get? b = some o → h'.get? b = some o) → Q (.bool ((List.range n).any tr)) { s2 with heap := h', toks := tk }) E s) :
    wpAny (model prog w) A (call (.builtin "any") [x]) Q E s := by
  refine call_function_tree F.kind_any F.plain_any F.entry_any (F.args_any1 _) ?_
  unfold Builtin.«any»
  refine wpAny_bind (m := oneArg "any" _) (wpAny_pure ?_)
  refine wpAny_bind (wpAny_mono h (fun it s2 h2 => ?_) fun _ _ e => e)
  obtain ⟨I, fp, wr, n, P, St, tr, Ok, rfl, W, hst, ok, stay, htr, hQ⟩ := h2
  refine wpAny_pure ⟨plainId_quiet F.plain_any_loop _, any_loop_h W stay htr n 0 s2 (Nat.zero_add n) hst ok fun h' tk kp => ?_⟩
  have q := hQ h' tk kp
  rw [List.drop_zero]
  exact q
end

theorem any_range_of {α : Type} (f : α → Bool) (d : α) : ∀ xs : List α, (List.range xs.length).any (fun i => f (xs.getD i d)) = xs.any f
  | [] => rfl
  | x :: xs => by
    rw [List.length_cons, List.range_succ_eq_map, List.any_cons, List.any_map, List.any_cons, ← any_range_of f d xs]
    all_goals rfl

section
variable {X : Cx}
/-- any(xs) of ints -/
def rAnyI (K : PySem.W.Frag) : List V → Hp → VK → Prop := fun vs H Q => ∃ (a : Addr) (ns : List Int), vs = [V.ref a] ∧ SqL K H a (ns.map V.int) ∧ Q (.bl (ns.any fun z => z != 0)) H
theorem cr_anyI (hc : X.calm = true) : CallR X (.builtin "any") (rAnyI X.K) := by
  intro pins s σ H vs us Q I r h
  obtain ⟨a, ns, rfl, hs, q⟩ := h
  obtain ⟨its, rv, hl, _⟩ := I.list hs
  rw [Vals.ref1 r]
  have hi := rv.ints
  have hlen := rv.length
  rw [List.length_map] at hlen
  refine any_call_h (iter_any hl.isList fun s2 e2 st hne => ?_)
  subst e2
  refine ⟨_, _, _, _, _, _, fun i => ns.getD i 0 != 0, fun _ => True, rfl, Walks.list (A := X.A.in1) (I.ok.hd hc) _ a hne its.toArray, st, trivial, fun _ _ _ _ => trivial, ?_, fun h' tk kp => ?_⟩
  · intro i v s3 Q3 E3 hv _ hq
    have hv' : its[i]? = some v := by simpa using hv
    have hil := (List.getElem?_eq_some_iff.mp hv').1
    have hn : (ns.map V.int)[i]? = some (V.int (ns.getD i 0)) := by
      rw [List.getElem?_map, List.getD_eq_getElem?_getD, List.getElem?_eq_getElem (by omega)]
      rfl
    obtain ⟨u, e1, t, e2⟩ := rv.get hn
    rw [hv'] at e1
    cases e1
    subst e2
    exact PySem.P.truthy_int (hq s3.toks)
  · refine ⟨.bl _, H, I.kept fun b o eo => kp b o (fun hm => ?_) (Heap.get?_push_of_some _ eo), ?_, q⟩
    · rcases List.mem_cons.mp hm with e1 | hm
      · exact absurd (e1 ▸ Heap.lt_size eo) (Nat.lt_irrefl _)
      · cases hm
    · show Value.bool _ = Value.bool _
      rw [List.size_toArray, ← hlen, any_range_of (fun z : Int => z != 0) 0 ns]

/-- any(xs) of dicts -/
def rAnyD (K : PySem.W.Frag) : List V → Hp → VK → Prop := fun vs H Q => ∃ (a : Addr) (ds : List Addr) (f : Addr → List (Key × V)), vs = [V.ref a] ∧ SqL K H a (ds.map V.ref) ∧ (∀ d ∈ ds, H d = some (.dK (f d))) ∧ Q (.bl (ds.any fun d => !(f d).isEmpty)) H
theorem cr_anyD (hc : X.calm = true) : CallR X (.builtin "any") (rAnyD X.K) := by
  intro pins s σ H vs us Q I r h
  obtain ⟨a, ds, f, rfl, hs, hf, q⟩ := h
  obtain ⟨its, rv, hl, _⟩ := I.list hs
  rw [Vals.ref1 r]
  have hi := refs_at rv
  have hlen := rv.length
  rw [List.length_map] at hlen
  have hz : sizeLine = 16777216 := sizeLine_eq
  refine any_call_h (iter_any hl.isList fun s2 e2 st hne => ?_)
  subst e2
  refine ⟨_, _, _, _, _, _, fun i => !(f (ds.getD i 0)).isEmpty, fun h => ∀ d ∈ ds, d < s.heap.objs.size ∧ ∃ vs, KV (f d) vs ∧ h.DictOf (mixKind X.prog X.w) d vs, rfl, Walks.list (A := X.A.in1) (I.ok.hd hc) _ a hne its.toArray, st, ?_, ?_, ?_, fun h' tk kp => ?_⟩
  · intro d hd
    obtain ⟨_, _, vs, kv, ob, es, ep, ho, rest⟩ := dk_of I.hok (hf d hd)
    exact ⟨Heap.lt_size ho, vs, kv, ob, es, ep, Heap.get?_push_of_some _ ho, rest⟩
  · intro h1 h2 ok kp d hd
    obtain ⟨lt, vs, kv, ob, es, ep, ho, rest⟩ := ok d hd
    refine ⟨lt, vs, kv, ob, es, ep, kp d ob (fun hm => ?_) ho, rest⟩
    rcases List.mem_cons.mp hm with e1 | hm
    · exact absurd lt (by rw [e1]; exact Nat.lt_irrefl _)
    · cases hm
  · intro i v s3 Q3 E3 hv ok hq
    have hv' : its[i]? = some v := by simpa using hv
    have hil := (List.getElem?_eq_some_iff.mp hv').1
    have hid : ds[i]? = some (ds.getD i 0) := by
      rw [List.getD_eq_getElem?_getD, List.getElem?_eq_getElem (by omega)]
      rfl
    rw [hi, List.getElem?_map, hid] at hv'
    cases hv'
    have hm := List.mem_of_getElem? hid
    obtain ⟨hz1, hS, _⟩ := dk_of I.hok (hf _ hm)
    obtain ⟨_, vs, kv, dd⟩ := ok _ hm
    have e1 : (f (ds.getD i 0)).length = vs.length := Paired.length kv
    refine wpAny_truthy_dict hS dd (by omega) ?_
    rw [isEmpty_kv kv]
    exact hq _
  · refine ⟨.bl _, H, I.kept fun b o eo => kp b o (fun hm => ?_) (Heap.get?_push_of_some _ eo), ?_, q⟩
    · rcases List.mem_cons.mp hm with e1 | hm
      · exact absurd (e1 ▸ Heap.lt_size eo) (Nat.lt_irrefl _)
      · cases hm
    · show Value.bool _ = Value.bool _
      rw [List.size_toArray, ← hlen, any_range_of (fun d : Addr => !(f d).isEmpty) 0 ds]

/-- xs.count(k) of ints -/
def rCount (K : PySem.W.Frag) : V → List V → Hp → VK → Prop := fun x xs H Q => ∃ (a : Addr) (ns : List Int) (k : Int), x = V.ref a ∧ xs = [V.int k] ∧ SqL K H a (ns.map V.int) ∧ Q (.int (ns.count k : Nat)) H
theorem mt_count : MtR X "list.count" (rCount X.K) := by
  intro pins s σ H x xs v us Q I rx r h
  obtain ⟨a, ns, k, rfl, rfl, hs, q⟩ := h
  cases rx
  obtain ⟨u, rfl, t, rfl⟩ := vals1 r
  obtain ⟨its, rv, hl, _⟩ := I.list hs
  exact count_list_ints hl.isList rv.ints ⟨.int _, H, I.tok _, ⟨_, rfl⟩, q⟩

/-- dict(d): a copy -/
theorem call_dict_of : CallR X (.type "dict") (fun xs H Q => ∃ (a : Addr) (kvs : List (Key × V)), xs = [V.ref a] ∧ H a = some (.dK kvs) ∧ ∀ p, H p = none → Q (.ref p) (upd H p (.dK kvs))) := by
  intro pins s σ H xs us Q I r h
  obtain ⟨a, kvs, rfl, ha, q⟩ := h
  rw [Vals.ref1 r]
  exact d_copyOf I (.inl ha) fun p s' hp I' => ⟨.ref p, _, I', rfl, q p hp⟩

/-- list(d.values()) -/
def tListVals (td : TE) : TE := fun σ H Q => td σ H fun x H1 => ∃ (d : Addr) (kvs : List (Key × V)), x = .ref d ∧ H1 d = some (.dK kvs) ∧ ∀ l, H1 l = none → Q (.ref l) (upd H1 l (.lst (kvs.map (·.2))))
theorem kv_vals : ∀ {kvs : List (Key × V)} {vs : List (Key × Value)}, KV kvs vs → Vals (kvs.map (·.2)) (vs.map (·.2))
  | _, _, .nil => .nil
  | _, _, .cons h t => .cons h.2 (kv_vals t)
theorem pe_listvals {e : Expr} {td : TE} {p pos apos cpos : Pos} (hc : X.calm = true) (he : PE X e td) (hg : Gl X "list") (hm : X.mg "list" = none) (hbase : attributeBase e "values" X.env (eval e X.env) = eval e X.env := by rfl) (hline : (apos.endLine == cpos.line) = true := by rfl)
    (hs : starEach [Expr.Call (.Attribute e "values" apos) [] [] cpos] X.env = [(false, eval (Expr.Call (.Attribute e "values" apos) [] [] cpos) X.env)] := by rfl) :
    PE X (.Call (.Name "list" p) [.Call (.Attribute e "values" apos) [] [] cpos] [] pos) (tListVals td) := by
  intro pins s σ H Q I h
  refine wpAny_Call_Name_kw (ld_blt I hg hm bt_list ?_)
  refine PyProof.Rows.callWith_type1 ?_ hs rfl
  rw [hs]
  refine Calls.spliced_cons (wpAny_Call_method (T := "dict") (id := "dict.values") hbase rfl hline F.plainAttrs_dict F.slot_dict_values F.type_dict_values (thn (he pins s σ H _ I h) fun u s1 ⟨x, H1, I1, rx, d, kvs, ex, hd, q⟩ => ?_))
  subst ex
  obtain rfl : u = Value.ref d := rx
  obtain ⟨hz, hS, vs, kv, dd⟩ := dk_of I1.hok hd
  obtain ⟨ep, hat⟩ := dd.dictAt
  have e1 : kvs.length = vs.length := Paired.length kv
  refine ⟨dd.typeIs, dd.mapOf.noDict, ?_⟩
  have I2 : Inv X pins σ H1 { s1 with heap := s1.heap.push { cls := .type "dict_values", data := .fields #[.ref d] } } := I1.kept (t' := s1.toks) fun b ob q => Heap.get?_push_of_some _ q
  refine method_meetsIn F.slot_dict_values F.entry_dict_values rfl (PySem.evalArgs_none ⟨rfl, dd.typeIs, F.args_dict_values_1 _, _, meets_dict_values (mixKind X.prog X.w) d hS, ⟨vs, dd⟩, ?_⟩)
  refine Calls.spliced_nil ?_
  refine PySem.W.kdl_call (PySem.W.kdl_values (knd := mixKind X.prog X.w) (r := s1.heap.objs.size) (d := d) (kvs := vs) (ep := ep)) (I.ok.hd hc) ⟨⟨_, Heap.get?_push_size _ rfl, rfl, rfl⟩, hat.push _⟩ (by rw [← e1]; exact hz) fun h' tk acc c kp hD hacc => ?_
  have ev : acc.toList = vs.map (·.2) := PySem.W.kdl_vals_eq acc.toList (by rw [Array.length_toList]; exact hacc.1) fun j v e => hacc.2 j v (by rw [← Array.getElem?_toList]; exact e)
  refine ⟨.ref _, _, I2.laid (t' := tk) kp (Nat.le_refl _) (o := .lst (kvs.map (·.2))) ⟨by rw [List.length_map]; exact hz, acc.toList, c, by rw [ev]; exact kv_vals kv, by rw [Array.toArray_toList]; exact hD⟩, rfl, q _ (I2.hok.fresh (Nat.le_refl _))⟩
end
end Cx1
set_option Elab.async false
set_option linter.all false
set_option maxRecDepth 100000
namespace Cx2
open PySem PySem.Spec PyProof.Rows L2

/-- the answer: a list of whole numbers -/
def Ans (R : List Int) : VK := fun v H => ∃ p, v = .ref p ∧ H p = some (.lst (R.map V.int))

/-- the call at the heap behind the top, of a def that hands back a list of whole numbers -/
theorem spec_call {P : Program} {w : World} {K : PySem.W.Frag} {mg mb : Str → Option Value} {k : Nat} {fa a : Addr} {fd : FuncData} {x : Str} {sp : Sp} {s1 : Shared} {vs : List Value} {ns R : List Int}
    (KX : K.In s1.heap) (hns : s1.heap.Ns mainGlobals mg) (hb : s1.heap.Ns builtinsNs mb) (hbb : ∀ x : Str, x ≠ "__name__" → mb x = bootBuiltins x) (hlim : s1.heap.NoLimit) (hg : s1.gens = #[])
    (ha : s1.heap.get? a = some { cls := .type "list", data := .seq vs.toArray }) (hi : IntsAre vs ns) (hl : ns.length ≤ sizeLine) (hr : Room k callerA)
    (F : ∀ base : Heap, K.In base → base.Ns mainGlobals mg → FnOk P w K mg base CX0 k fa fd [x] sp) (hbind : ∀ (s : Shared) (u : Value), BindsTo s fd ⟨[u], []⟩ [(x, u)])
    (hsp : ∀ H : Hp, Only H → SqL K H a (ns.map V.int) → sp [.ref a] H (Ans R) E0) :
    codeAny (model P w) callerA (.call (.ref fa) ⟨[.ref a], []⟩) (fun r s' => (∃ (p : Addr) (its : List Value) (n : Nat), r = .ok (.ret (.ref p)) ∧ s'.heap.get? p = some { cls := .type "list", data := .seq its.toArray n } ∧ IntsAre its R) ∧ OldK s1.heap s'.heap ∧ s'.os = s1.os ∧ AllBare s'.gens) s1 := by
  have rv := vals_ints hi
  have lenV := hi.length
  have core : ∀ H : Hp, Only H → SqL K H a (ns.map V.int) → HOk P w H s1.heap → (∀ b, H b ≠ none → b = a) → (H a ≠ none → K.lookup a = none) →
      codeAny (model P w) callerA (.call (.ref fa) ⟨[.ref a], []⟩) (fun r s' => (∃ (p : Addr) (its : List Value) (n : Nat), r = .ok (.ret (.ref p)) ∧ s'.heap.get? p = some { cls := .type "list", data := .seq its.toArray n } ∧ IntsAre its R) ∧ OldK s1.heap s'.heap ∧ s'.os = s1.os ∧ AllBare s'.gens) s1 := by
    intro H hO hS hok hA hK
    have noA : ∀ {b : Addr} {o : Obj} {es : Array DictEntry} {ep : Nat}, s1.heap.get? b = some o → o.data = .dict es ep → H b = none := fun {b o es ep} e d => by
      cases q : H b with
      | none => rfl
      | some u =>
        have e' : b = a := hA b (by rw [q]; simp)
        subst e'
        rw [ha] at e
        cases e
        have d' : Data.seq vs.toArray _ = Data.dict es ep := d
        cases d'
    have nsK : ∀ {b : Addr} {m : Str → Option Value}, s1.heap.Ns b m → (hidT s1.heap H).Ns b m := fun {b m} ⟨o, es, ep, e, d, r⟩ => ⟨o, es, ep, hidT_get e (noA e d), d, r⟩
    have hKb : K.In (hidT s1.heap H) := fun b o e => hidT_get (KX b o e) (by
      cases q : H b with
      | none => rfl
      | some u =>
        have e' : b = a := hA b (by rw [q]; simp)
        subst e'
        rw [hK (by rw [q]; simp)] at e
        cases e)
    have hM : Mod K mg (hidT s1.heap H) := ⟨hKb, nsK hns, ⟨mb, nsK hb, hbb⟩, let ⟨mc, h1, h2⟩ := hlim; ⟨mc, nsK h1, h2⟩⟩
    have e0 : Env0 P w K mg (hidT s1.heap H) callerA [] s1 H := ⟨rfl, hM, fun b o e => of_hidT e, Nat.le_of_eq (hidT_size _ _), trivial, fun b hb => absurd (show b ∈ ([] : List Addr) from hb) (by simp), hok, .of_eq hg⟩
    refine codeAny_mono ((F _ hKb (nsK hns)).run callerA [] s1 H ⟨[.ref a], []⟩ [.ref a] [.ref a] _ _ hr e0 (hbind s1 (.ref a)) (.cons rfl .nil) (hsp H hO hS)) fun r s' h => ?_
    cases r with
    | error e => exact False.elim h
    | ok fl =>
      cases fl with
      | next => exact False.elim h
      | brk => exact False.elim h
      | cont => exact False.elim h
      | ret u =>
        obtain ⟨v, H', os, bare, un, hok', r', p, ev, hp⟩ := h
        subst ev
        obtain rfl : u = Value.ref p := r'
        obtain ⟨_, its, n, rv', e'⟩ := hok' p _ hp
        refine ⟨⟨p, its, n, rfl, e', rv'.ints⟩, OldK.of_keep fun b o e => ?_, os, bare⟩
        cases q : H b with
        | none => exact un.keep b o e q (by intro z; exact absurd (show b ∈ ([] : List Addr) from z) (by simp)) (by simp)
        | some u =>
          rcases hO b with z | ⟨ob, xs, z⟩
          · rw [q] at z; cases z
          · have z2 := un.frzs b ob _ z
            obtain ⟨e1, _⟩ := hok b _ z
            obtain ⟨e2, _⟩ := hok' b _ z2
            rw [e] at e1
            cases e1
            exact e2
  cases hk : K.lookup a with
  | some o =>
    have e := KX a o hk
    rw [ha] at e
    cases e
    refine core (fun _ => none) (fun _ => .inl rfl) (.inr ⟨_, vs.toArray, _, hk, rfl, rfl, rfl, by rw [List.size_toArray, lenV]; exact hl, by simpa using rv⟩) (fun b u z => by have z' : (none : Option HO) = some u := z; cases z') (fun b z => absurd rfl z) fun z => absurd rfl z
  | none =>
    refine core (fun b => if b = a then some (.frz { cls := .type "list", data := .seq vs.toArray } (.lst (ns.map V.int))) else none) (fun b => ?_) (.inl (.inr ⟨{ cls := .type "list", data := .seq vs.toArray }, if_pos rfl⟩)) (fun b u z => ?_) (fun b z => ?_) fun _ => hk
    · by_cases hb : b = a
      · exact .inr ⟨_, _, if_pos hb⟩
      · exact .inl (if_neg hb)
    · by_cases hb : b = a
      · have z' := (if_pos hb).symm.trans z
        cases z'
        subst hb
        exact ⟨ha, by rw [List.length_map]; exact hl, vs, _, rv, ha⟩
      · have z' := (if_neg hb).symm.trans z
        cases z'
    · by_cases hb : b = a
      · exact hb
      · exact absurd (if_neg hb) z

theorem reads_ints {Rc : PySem.W.WRecords} {cl : Str → Option Addr} {h : Heap} : ∀ {its : List Value} {R : List Int}, IntsAre its R → ∃ as, PySem.W.ReadsAllW Rc cl h its (R.map PySem.W.WData.int) as
  | _, _, .nil => ⟨_, .nil⟩
  | _, _, .cons n t h => by
    obtain ⟨as, q⟩ := reads_ints h
    exact ⟨_, .cons (.int n t) q⟩

/-- the goal that the head of a spec row leaves, of one argument, a list of whole numbers -/
theorem walk_spec {r : PySem.W.OpenSpec} {q : Program} {loose : List Str} {XP : (Str → Option Value) → Heap → Prop} {YP : World → Heap → Prop} {d : DefRec} {kwd : List (Str × Expr)} {K : Params → PySem.W.Frag} {k : Nat} {x : Str} {sp : PySem.W.Frag → Sp} {ok : List Int → Prop} {f : List Int → List Int}
    (hr : Room k callerA) (hY : ∀ (w : World) (h : Heap), YP w h → (K w.params).In h)
    (hpre : ∀ args, r.pre args = true → ∃ ns : List Int, args = [.list (ns.map .int)] ∧ ns.length ≤ sizeLine ∧ ok ns)
    (hpost : ∀ ns, ok ns → r.post [.list (ns.map .int)] (.list ((f ns).map .int)) = true)
    (F : ∀ (w : World) (mg : Str → Option Value) (fa : Addr) (h : Heap), (K w.params).In h → h.Ns mainGlobals mg → mg d.name = some (.ref fa) →
      ∃ fd : FuncData, (∀ (s : Shared) (u : Value), BindsTo s fd ⟨[u], []⟩ [(x, u)]) ∧ ∀ base : Heap, (K w.params).In base → base.Ns mainGlobals mg → FnOk r.prog w (K w.params) mg base CX0 k fa fd [x] (sp (K w.params)))
    (hsp : ∀ (K : PySem.W.Frag) (H : Hp) (a : Addr) (ns : List Int), ok ns → Only H → SqL K H a (ns.map V.int) → sp K [.ref a] H (Ans (f ns)) E0) :
    PySem.W.WalkOS q loose XP YP r d kwd (fun f vs => PySem.call f vs) := by
  intro w s0 s1 mg mb G Y fa o pm cd doc dV kV ho hd hcd hD hmg hg args vals as hp hlay hrd hwl hlo
  obtain ⟨ns, rfl, hlen, hok⟩ := hpre args hp
  have KX := hY w _ Y
  obtain ⟨fd, hb, hF⟩ := F w mg fa _ KX G.T.g hmg
  cases hwl with
  | cons w1 w2 =>
    cases w2
    cases w1 with
    | list hobj hall =>
      have hints := Att.ints_of_wellAll ns _ hall
      refine PySem.W.enter_call (codeAny_mono (spec_call (R := f ns) KX G.T.g G.T.b G.T.builtins G.T.nolimit hg hobj hints hlen hr hF hb fun H hO hS => hsp _ H _ ns hok hO hS) fun r s' hq => ?_)
      obtain ⟨⟨p, its, n, rfl, hp', hi⟩, h2, h3, h4⟩ := hq
      obtain ⟨bs, hr'⟩ := reads_ints (Rc := []) (cl := classAt s0.heap) (h := s'.heap) hi
      exact ⟨.inl ⟨.ref p, .list ((f ns).map .int), _, rfl, fun _ => rfl, .list hp' rfl rfl (by rw [List.toList_toArray]; exact hr'), hpost ns hok, fun z => absurd z Bool.false_ne_true⟩, h2, h3, h4⟩
end Cx2
set_option Elab.async false
set_option linter.all false
set_option maxRecDepth 100000
namespace Pn
open PySem L2 Cx1

/-! ### the text by places -/
def top (i : Nat) : Stmt := PySem.Challenge.pw_coinagree_s01_answers.main.body.getD i (.Pass ⟨0, 0, 0, 0⟩)
abbrev sNInit : Stmt := inClass (top 5) 0
abbrev sBegun : Stmt := top 6
abbrev sCopied : Stmt := top 7
abbrev sMost : Stmt := top 8
abbrev sEnough : Stmt := top 9
abbrev sAmong : Stmt := top 10
abbrev sOther : Stmt := top 11
abbrev sStage : Stmt := top 12
abbrev sFirst : Stmt := top 13
abbrev sWord : Stmt := top 14
abbrev sRight : Stmt := top 22
abbrev sWritten : Stmt := top 23
abbrev sLetters : Stmt := top 24
abbrev sRInit : Stmt := inClass (top 26) 0
abbrev sHas : Stmt := inClass (top 26) 1
abbrev sTakeN : Stmt := inClass (top 26) 2
abbrev sTakeR : Stmt := inClass (top 26) 3
abbrev sBytesN : Stmt := top 37
abbrev sByteA : Stmt := top 38
abbrev sBytesC : Stmt := top 39
abbrev sBytesH : Stmt := top 40
abbrev sIsSaved : Stmt := top 41
abbrev sHead : Stmt := top 42
abbrev sOwn : Stmt := top 43
abbrev sHeard : Stmt := top 44
abbrev sHeardW : Stmt := top 45
abbrev sNodeFrom : Stmt := top 46
abbrev sCoinsFrom : Stmt := top 47
abbrev sOwnFrom : Stmt := top 48
abbrev sHeardFrom : Stmt := top 49
abbrev sHeardIn : Stmt := top 50
abbrev sTakeL : Stmt := top 52
abbrev sNews : Stmt := top 53
abbrev sCan : Stmt := top 54
abbrev sThere : Stmt := top 55
abbrev sGoOn : Stmt := top 56
abbrev sWMost : Stmt := top 57
abbrev sWAny : Stmt := top 58
abbrev sCoin : Stmt := top 59
abbrev sAnsOf : Stmt := top 60
abbrev sBegin : Stmt := top 68
abbrev sSave : Stmt := top 69
abbrev sLoad : Stmt := top 70
abbrev sReceive : Stmt := top 71
abbrev sAgain : Stmt := top 72
abbrev sAnswer : Stmt := top 73
abbrev sStg : Stmt := top 74
abbrev sCalls : Stmt := top 75
abbrev sAnswers : Stmt := top 76

/-! ### calls of the program's own defs -/
def Cal (P : Program) (w : World) (K : PySem.W.Frag) (mg : Str → Option Value) (base : Heap) (k : Nat) (x : Str) (ps : List Str) (sp : Sp) : Prop :=
  ∃ (f : Addr) (fd : FuncData), FnOk P w K mg base CX0 k f fd ps sp ∧ mg x = some (.ref f) ∧ PySem.W.keepIn K (.ref f) = true ∧ Binds K fd ps []
theorem pe_c {X : Cx} {j k : Nat} {x : Str} {ps : List Str} {sp : Sp} {p pos : Pos} {e : Expr} {es : List Expr} {t : TA} (C : Cal X.prog X.w X.K X.mg X.base k x ps sp) (hr : Room j X.A) (ha : PA X (e :: es) t) (hj : k ≤ j := by decide) (hg : Gl X x := by rfl)
    (hdb : (x == ("__debug__" : Str)) = false := by decide) (he : starEach (e :: es) X.env = (false, eval e X.env) :: starEach es X.env := by rfl) (hpl : (backTo pos (starEach es X.env)).any (·.1) = false := by rfl) :
    PE X (.Call (.Name x p) (e :: es) [] pos) (tCall sp [] E0 t) := by
  obtain ⟨f, fd, F, hm, hk, hb⟩ := C
  exact pe_call F (hr.mono hj) hg hm hk hb .nil pass0 ha hdb he hpl
/-- a whole number of the module -/
def Kon (mg : Str → Option Value) (x : Str) (i : Int) : Prop := ∃ t, mg x = some (.int i t)
theorem pe_k {X : Cx} {x : Str} {i : Int} {pos : Pos} (h : Kon X.mg x i) (hg : Gl X x := by rfl) (hd : (x == ("__debug__" : Str)) = false := by decide) : PE X (.Name x pos) (tC (.int i)) := by
  obtain ⟨t, e⟩ := h
  exact pe_glob hg e ⟨t, rfl⟩ hd
theorem bl_eq {Q : VK} {H : Hp} {a b : Bool} (h : Q (.bl a) H) (e : a = b) : Q (.bl b) H := by
  subst e
  exact h

/-! ### numbers and dicts -/
def iv (l : List Nat) : List V := l.map fun (n : Nat) => V.int (n : Int)
def dv (l : List (Nat × Nat)) : List (Key × V) := l.map fun (p : Nat × Nat) => ((Sum.inl (p.1 : Int) : Key), V.int (p.2 : Int))
theorem iv_map (l : List Nat) : iv l = (Sv47Neutral.ints l).map V.int := by
  unfold iv Sv47Neutral.ints
  rw [List.map_map]
  rfl
theorem iv_len (l : List Nat) : (iv l).length = l.length := by unfold iv; rw [List.length_map]
theorem iv_get {l : List Nat} {i n : Nat} (h : l[i]? = some n) : (iv l)[i]? = some (V.int (n : Int)) := by
  unfold iv
  rw [List.getElem?_map, h]
  rfl
theorem iv_app (a b : List Nat) : iv (a ++ b) = iv a ++ iv b := by unfold iv; rw [List.map_append]
theorem dv_len (l : List (Nat × Nat)) : (dv l).length = l.length := by unfold dv; rw [List.length_map]
theorem dv_val (i : Nat) : ∀ l : List (Nat × Nat), valV (dv l) (Sum.inl (i : Int) : Key) = (Cq.look l i).map fun (w : Nat) => V.int (w : Int)
  | [] => rfl
  | p :: l => by
    have ih := dv_val i l
    have e : dv (p :: l) = ((Sum.inl (p.1 : Int) : Key), V.int (p.2 : Int)) :: dv l := rfl
    rw [e, Cq.look_cons]
    by_cases h : p.1 = i
    · rw [if_pos h, valV_pos (by rw [h])]
      rfl
    · rw [if_neg h, valV_neg (fun q => h (by have := Sum.inl.inj q; omega)), ih]
theorem dv_snoc (l : List (Nat × Nat)) (i w : Nat) : dv l ++ [((Sum.inl (i : Int) : Key), V.int (w : Int))] = dv (l ++ [(i, w)]) := by
  unfold dv
  rw [List.map_append]
  rfl
theorem dv_snd (l : List (Nat × Nat)) : (dv l).map (·.2) = iv (l.map (·.2)) := by
  unfold dv iv
  rw [List.map_map, List.map_map]
  rfl

/-! ### fields -/
theorem lk_eq {x : Str} {v : V} {l : List (Str × V)} : ((x, v) :: l).lookup x = some v := by
  rw [List.lookup_cons]
  simp
theorem lk_ne {k x : Str} {v : V} {l : List (Str × V)} (h : ¬ x = k) : ((k, v) :: l).lookup x = l.lookup x := by
  rw [List.lookup_cons, beq_eq_false_iff_ne.mpr h]
theorem pf_eq {x : Str} {v u : V} {l : List (Str × V)} : putF x v ((x, u) :: l) = (x, v) :: l := if_pos rfl
theorem pf_ne {k x : Str} {v u : V} {l : List (Str × V)} (h : ¬ k = x) : putF x v ((k, u) :: l) = (k, u) :: putF x v l := if_neg h

section
variable {P : Program} {w : World} {K : PySem.W.Frag} {mg : Str → Option Value} {base : Heap}
/-! ### numbers in, numbers out -/
def spMost : Sp := fun vs H Q _ => ∃ n : Int, vs = [.int n] ∧ Q (.int ((n - 1) / 2)) H
theorem scMost : FnScope ["n"] ["n"] (defScope sMost) := ⟨rfl, rfl, rfl, by decide +kernel, rfl, by decide +kernel, by decide +kernel⟩
theorem ok_most {f : Addr} {fd : FuncData} (F : Fun K "most_stopped" "most_stopped" sMost f fd) : FnOk P w K mg base CX0 1 f fd ["n"] spMost := by
  refine F.ok scMost (fun vs H Q E h => ?_) (fun cdv A outer s H vs Q E hr h => ?_)
  · obtain ⟨n, rfl, _⟩ := h
    rfl
  · obtain ⟨n, rfl, k⟩ := h
    refine ⟨_, pss_one (ps_ret (pe_op op_fdiv (pe_op op_sub (pv 0) pe_int) pe_int)), ?_⟩
    exact ⟨_, rfl, _, _, rfl, rfl, _, _, rfl, rfl, ⟨by decide, by decide⟩, k⟩
def spEnough : Sp := fun vs H Q _ => ∃ n : Int, vs = [.int n] ∧ Q (.int (n - (n - 1) / 2)) H
theorem scEnough : FnScope ["n"] ["n"] (defScope sEnough) := ⟨rfl, rfl, rfl, by decide +kernel, rfl, by decide +kernel, by decide +kernel⟩
theorem ok_enough {f : Addr} {fd : FuncData} (F : Fun K "enough_words" "enough_words" sEnough f fd) (C1 : Cal P w K mg base 1 "most_stopped" ["n"] spMost) : FnOk P w K mg base CX0 2 f fd ["n"] spEnough := by
  refine F.ok scEnough (fun vs H Q E h => ?_) (fun cdv A outer s H vs Q E hr h => ?_)
  · obtain ⟨n, rfl, _⟩ := h
    rfl
  · obtain ⟨n, rfl, k⟩ := h
    refine ⟨_, pss_one (ps_ret (pe_op op_sub (pv 0) (pe_c C1 hr (pa_cons (pv 0) pa_nil)))), ?_⟩
    exact ⟨_, rfl, _, rfl, n, rfl, _, _, rfl, rfl, k⟩
abbrev Among (me n : Int) : Prop := 2 ≤ n ∧ n ≤ 16 ∧ 0 ≤ me ∧ me < n
def spAmong : Sp := fun vs H Q _ => ∃ me n : Int, vs = [.int me, .int n] ∧ Q (.bl (decide (Among me n))) H
theorem scAmong : FnScope ["me", "n"] ["me", "n"] (defScope sAmong) := ⟨rfl, rfl, rfl, by decide +kernel, rfl, by decide +kernel, by decide +kernel⟩
theorem ok_among {f : Addr} {fd : FuncData} (F : Fun K "is_node_among" "is_node_among" sAmong f fd) (k1 : Kon mg "FEWEST_NODES" 2) (k2 : Kon mg "MOST_NODES" 16) : FnOk P w K mg base CX0 1 f fd ["me", "n"] spAmong := by
  refine F.ok scAmong (fun vs H Q E h => ?_) (fun cdv A outer s H vs Q E hr h => ?_)
  · obtain ⟨me, n, rfl, _⟩ := h
    rfl
  · obtain ⟨me, n, rfl, k⟩ := h
    refine ⟨_, pss_one (ps_ret (pe_and (pe_chain op_le op_le (pe_k k1) (pv 1) (pe_k k2)) (pe_one (pe_chain op_le op_lt pe_int (pv 0) (pv 1))))), ?_⟩
    refine ⟨_, rfl, _, _, rfl, rfl, _, rfl, ite2 (fun h1 => ?_) (fun h1 => ?_)⟩
    · refine ⟨_, _, rfl, rfl, _, rfl, ite2 (fun h2 => ?_) (fun h2 => ?_)⟩
      · refine ⟨_, rfl, _, _, rfl, rfl, _, rfl, ite2 (fun h3 => ?_) (fun h3 => ?_)⟩
        · refine ⟨_, rfl, _, _, rfl, rfl, bl_eq k ?_⟩
          simp at h1 h2 h3
          simp only [decide_eq_decide]
          omega
        · refine bl_eq k ?_
          simp at h1 h2 h3
          simp
          omega
      · refine bl_eq k ?_
        simp at h1 h2
        simp
        omega
    · refine ⟨_, rfl, ?_⟩
      refine iteF (bl_eq k ?_)
      simp at h1
      simp
      omega
end
end Pn
set_option Elab.async false
set_option linter.all false
set_option maxRecDepth 100000
namespace Pn
open PySem L2 Cx1
section
variable {P : Program} {w : World} {K : PySem.W.Frag} {mg : Str → Option Value} {base : Heap}
abbrev Other (i me n : Int) : Prop := 0 ≤ i ∧ i < n ∧ i ≠ me
def spOther : Sp := fun vs H Q _ => ∃ i me n : Int, vs = [.int i, .int me, .int n] ∧ Q (.bl (decide (Other i me n))) H
theorem scOther : FnScope ["number", "me", "n"] ["number", "me", "n"] (defScope sOther) := ⟨rfl, rfl, rfl, by decide +kernel, rfl, by decide +kernel, by decide +kernel⟩
theorem ok_other {f : Addr} {fd : FuncData} (F : Fun K "is_other_node" "is_other_node" sOther f fd) : FnOk P w K mg base CX0 1 f fd ["number", "me", "n"] spOther := by
  refine F.ok scOther (fun vs H Q E h => ?_) (fun cdv A outer s H vs Q E hr h => ?_)
  · obtain ⟨i, me, n, rfl, _⟩ := h
    rfl
  · obtain ⟨i, me, n, rfl, k⟩ := h
    refine ⟨_, pss_one (ps_ret (pe_and (pe_chain op_le op_lt pe_int (pv 0) (pv 2)) (pe_one (pe_cmpR op_ne (pv 0) (pv 1) (nomark _))))), ?_⟩
    refine ⟨_, rfl, _, _, rfl, rfl, _, rfl, ite2 (fun h1 => ?_) (fun h1 => ?_)⟩
    · refine ⟨_, rfl, _, _, rfl, rfl, _, rfl, ite2 (fun h2 => ?_) (fun h2 => ?_)⟩
      · refine ⟨_, rfl, _, rfl, rfl, bl_eq k ?_⟩
        simp at h1 h2
        by_cases e : i = me
        · simp [e]
        · simp [e]
          omega
      · refine bl_eq k ?_
        simp at h1 h2
        simp
        omega
    · refine ⟨_, rfl, ?_⟩
      refine iteF (bl_eq k ?_)
      simp at h1
      simp
      omega
def spIsSt : Sp := fun vs H Q _ => ∃ i : Int, vs = [.int i] ∧ Q (.bl (decide (0 ≤ i ∧ i ≤ 128))) H
theorem scIsSt : FnScope ["number"] ["number"] (defScope sStage) := ⟨rfl, rfl, rfl, by decide +kernel, rfl, by decide +kernel, by decide +kernel⟩
theorem ok_isst {f : Addr} {fd : FuncData} (F : Fun K "is_stage" "is_stage" sStage f fd) (kl : Kon mg "LAST_STAGE" 128) : FnOk P w K mg base CX0 1 f fd ["number"] spIsSt := by
  refine F.ok scIsSt (fun vs H Q E h => ?_) (fun cdv A outer s H vs Q E hr h => ?_)
  · obtain ⟨i, rfl, _⟩ := h
    rfl
  · obtain ⟨i, rfl, k⟩ := h
    refine ⟨_, pss_one (ps_ret (pe_chain op_le op_le pe_int (pv 0) (pe_k kl))), ?_⟩
    refine ⟨_, rfl, _, _, rfl, rfl, _, rfl, ite2 (fun h2 => ?_) (fun h2 => ?_)⟩
    · refine ⟨_, _, rfl, rfl, bl_eq k ?_⟩
      simp at h2
      simp only [decide_eq_decide]
      omega
    · refine bl_eq k ?_
      simp at h2
      simp
      omega
def spFirst : Sp := fun vs H Q _ => ∃ st : Int, vs = [.int st] ∧ Q (.bl (decide (st % 2 = 0))) H
theorem scFirst : FnScope ["stage"] ["stage"] (defScope sFirst) := ⟨rfl, rfl, rfl, by decide +kernel, rfl, by decide +kernel, by decide +kernel⟩
theorem ok_first {f : Addr} {fd : FuncData} (F : Fun K "is_first_of_round" "is_first_of_round" sFirst f fd) : FnOk P w K mg base CX0 1 f fd ["stage"] spFirst := by
  refine F.ok scFirst (fun vs H Q E h => ?_) (fun cdv A outer s H vs Q E hr h => ?_)
  · obtain ⟨st, rfl, _⟩ := h
    rfl
  · obtain ⟨st, rfl, k⟩ := h
    refine ⟨_, pss_one (ps_ret (pe_cmpR op_eq (pe_op op_mod (pv 0) pe_int) pe_int (nomark _))), ?_⟩
    refine ⟨_, rfl, _, _, rfl, rfl, (by show (0 : Int) < 2; decide), rfl, bl_eq k ?_⟩
    simp
abbrev WordI (wd st : Int) : Prop := 0 ≤ wd ∧ (wd ≤ 1 ∨ (wd = 2 ∧ st % 2 ≠ 0))
def spWord : Sp := fun vs H Q _ => ∃ wd st : Int, vs = [.int wd, .int st] ∧ Q (.bl (decide (WordI wd st))) H
theorem scWord : FnScope ["word", "stage"] ["word", "stage"] (defScope sWord) := ⟨rfl, rfl, rfl, by decide +kernel, rfl, by decide +kernel, by decide +kernel⟩
theorem ok_word {f : Addr} {fd : FuncData} (F : Fun K "is_word_of_stage" "is_word_of_stage" sWord f fd) (C1 : Cal P w K mg base 1 "is_first_of_round" ["stage"] spFirst) (k1 : Kon mg "NOTHING" 2) : FnOk P w K mg base CX0 2 f fd ["word", "stage"] spWord := by
  refine F.ok scWord (fun vs H Q E h => ?_) (fun cdv A outer s H vs Q E hr h => ?_)
  · obtain ⟨wd, st, rfl, _⟩ := h
    rfl
  · obtain ⟨wd, st, rfl, k⟩ := h
    refine ⟨_, pss_cons (ps_if (pt_val (pe_c C1 hr (pa_cons (pv 1) pa_nil))) (pss_one (ps_ret (pe_chain op_le op_le pe_int (pv 0) pe_int))) pss_nil) (pss_one (ps_ret (pe_chain op_le op_le pe_int (pv 0) (pe_k k1)))), ?_⟩
    refine ⟨_, rfl, st, rfl, _, rfl, ite2 (fun h1 => ?_) (fun h1 => ?_)⟩
    all_goals
      simp at h1
      refine ⟨_, rfl, _, _, rfl, rfl, _, rfl, ite2 (fun h2 => ?_) (fun h2 => ?_)⟩
      · refine ⟨_, _, rfl, rfl, bl_eq k ?_⟩
        simp at h2
        simp only [decide_eq_decide]
        omega
      · refine bl_eq k ?_
        simp at h2
        simp
        omega
theorem wordI_nat (wd st : Nat) : decide (WordI (wd : Int) (st : Int)) = Sv47.isWord st wd := by
  rw [Bool.eq_iff_iff, Cq.isWord_iff, decide_eq_true_iff]
  omega

/-! ### words that are there -/
theorem count_ints (v : Nat) : ∀ l : List Nat, (Sv47Neutral.ints l).count (v : Int) = Sv47.say l v
  | [] => rfl
  | a :: l => by
    have ih := count_ints v l
    have e : Sv47Neutral.ints (a :: l) = (a : Int) :: Sv47Neutral.ints l := rfl
    unfold Sv47.say at ih ⊢
    rw [e, List.count_cons, ih]
    by_cases h : a = v
    · subst h
      rw [List.filter_cons_of_pos (by simp), List.length_cons]
      simp
    · rw [List.filter_cons_of_neg (by simpa using h)]
      have : ¬ ((a : Int) = (v : Int)) := by omega
      simp [this]
theorem in_ints (v : Nat) : ∀ l : List Nat, inV (V.int (v : Int)) (iv l) = decide (0 < Sv47.say l v)
  | [] => rfl
  | a :: l => by
    have ih := in_ints v l
    have e : iv (a :: l) = V.int (a : Int) :: iv l := rfl
    unfold inV at ih ⊢
    unfold Sv47.say at ih ⊢
    rw [e, List.any_cons, ih]
    by_cases h : a = v
    · subst h
      rw [List.filter_cons_of_pos (by simp), List.length_cons]
      simp [eqV]
    · rw [List.filter_cons_of_neg (by simpa using h)]
      have : ¬ ((a : Int) = (v : Int)) := by omega
      simp [eqV, this]
theorem iv_flat : ∀ l : List Nat, (iv l).all flatV = true
  | [] => rfl
  | a :: l => by
    show (flatV (V.int (a : Int)) && (iv l).all flatV) = true
    rw [iv_flat l]
    rfl
def mostW (l : List Nat) (n : Nat) : Nat := if n < 2 * Sv47.say l 0 then 0 else if n < 2 * Sv47.say l 1 then 1 else 2
def spWMost (K : PySem.W.Frag) : Sp := fun vs H Q _ => ∃ (a : Addr) (l : List Nat) (n : Nat), vs = [.ref a, .int (n : Int)] ∧ SqL K H a (iv l) ∧ Q (.int (mostW l n : Nat)) H
theorem scWMost : FnScope ["words", "n"] ["words", "n"] (defScope sWMost) := ⟨rfl, rfl, rfl, by decide +kernel, rfl, by decide +kernel, by decide +kernel⟩
theorem ok_wmost {f : Addr} {fd : FuncData} (F : Fun K "word_of_most" "word_of_most" sWMost f fd) (k1 : Kon mg "NOTHING" 2) : FnOk P w K mg base CX0 1 f fd ["words", "n"] (spWMost K) := by
  refine F.ok scWMost (fun vs H Q E h => ?_) (fun cdv A outer s H vs Q E hr h => ?_)
  · obtain ⟨a, l, n, rfl, _⟩ := h
    rfl
  · obtain ⟨a, l, n, rfl, hs, k⟩ := h
    have hs' : SqL K H a ((Sv47Neutral.ints l).map V.int) := by rw [← iv_map]; exact hs
    refine ⟨_, pss_cons (ps_if (pt_cmpR op_gt (pe_op op_mul pe_int (pe_bm PySem.F.plainAttrs_list PySem.F.slot_list_count PySem.F.type_list_count mt_count (pv 0) (pa_cons pe_int pa_nil))) (pv 1) (nomark _)) (pss_one (ps_ret pe_int)) pss_nil)
      (pss_cons (ps_if (pt_cmpR op_gt (pe_op op_mul pe_int (pe_bm PySem.F.plainAttrs_list PySem.F.slot_list_count PySem.F.type_list_count mt_count (pv 0) (pa_cons pe_int pa_nil))) (pv 1) (nomark _)) (pss_one (ps_ret pe_int)) pss_nil)
      (pss_one (ps_ret (pe_k k1)))), ?_⟩
    refine ⟨_, rfl, .inl ⟨rfl, _, hs'⟩, a, _, 0, rfl, rfl, hs', _, _, rfl, rfl, .inl ⟨by decide, by decide⟩, _, rfl, _, _, rfl, rfl, _, rfl, ?_⟩
    rw [show (0 : Int) = ((0 : Nat) : Int) from rfl, count_ints]
    have k : Q (.int (mostW l n : Nat)) H := k
    unfold mostW at k
    refine ite2 (fun h1 => ?_) (fun h1 => ?_)
    · simp at h1
      rw [if_pos (by omega)] at k
      exact k
    · simp at h1
      rw [if_neg (by omega)] at k
      refine ⟨_, rfl, .inl ⟨rfl, _, hs'⟩, a, _, 1, rfl, rfl, hs', _, _, rfl, rfl, .inl ⟨by decide, by decide⟩, _, rfl, _, _, rfl, rfl, _, rfl, ?_⟩
      rw [show (1 : Int) = ((1 : Nat) : Int) from rfl, count_ints]
      refine ite2 (fun h2 => ?_) (fun h2 => ?_)
      · simp at h2
        rw [if_pos (by omega)] at k
        exact k
      · simp at h2
        rw [if_neg (by omega)] at k
        exact k
def anyW (l : List Nat) (c : Nat) : Nat := if 0 < Sv47.say l 0 then 0 else if 0 < Sv47.say l 1 then 1 else c
def spWAny (K : PySem.W.Frag) : Sp := fun vs H Q _ => ∃ (a : Addr) (l : List Nat) (c : Nat), vs = [.ref a, .int (c : Int)] ∧ SqL K H a (iv l) ∧ Q (.int (anyW l c : Nat)) H
theorem scWAny : FnScope ["words", "coin"] ["words", "coin"] (defScope sWAny) := ⟨rfl, rfl, rfl, by decide +kernel, rfl, by decide +kernel, by decide +kernel⟩
theorem ok_wany {f : Addr} {fd : FuncData} (F : Fun K "word_of_any" "word_of_any" sWAny f fd) : FnOk P w K mg base CX0 1 f fd ["words", "coin"] (spWAny K) := by
  refine F.ok scWAny (fun vs H Q E h => ?_) (fun cdv A outer s H vs Q E hr h => ?_)
  · obtain ⟨a, l, n, rfl, _⟩ := h
    rfl
  · obtain ⟨a, l, c, rfl, hs, k⟩ := h
    refine ⟨_, pss_cons (ps_if (pt_cmpR op_in_seq pe_int (pv 0) (by with_unfolding_all rfl)) (pss_one (ps_ret pe_int)) pss_nil)
      (pss_cons (ps_if (pt_cmpR op_in_seq pe_int (pv 0) (by with_unfolding_all rfl)) (pss_one (ps_ret pe_int)) pss_nil)
      (pss_one (ps_ret (pv 1)))), ?_⟩
    have k : Q (.int (anyW l c : Nat)) H := k
    unfold anyW at k
    refine ⟨_, rfl, a, _, rfl, .inl hs, rfl, iv_flat l, _, rfl, ?_⟩
    rw [show (V.int 0) = V.int ((0 : Nat) : Int) from rfl, in_ints]
    refine ite2 (fun h1 => ?_) (fun h1 => ?_)
    · simp at h1
      rw [if_pos h1] at k
      exact k
    · simp at h1
      rw [if_neg (by omega)] at k
      refine ⟨_, rfl, a, _, rfl, .inl hs, rfl, iv_flat l, _, rfl, ?_⟩
      rw [show (V.int 1) = V.int ((1 : Nat) : Int) from rfl, in_ints]
      refine ite2 (fun h2 => ?_) (fun h2 => ?_)
      · simp at h2
        rw [if_pos h2] at k
        exact k
      · simp at h2
        rw [if_neg (by omega)] at k
        exact ⟨_, rfl, k⟩
def ansV : Option Nat → V
  | none => .non
  | some v => .int (v : Int)
def ansOf (l : List Nat) (n : Nat) : Option Nat := if Sv47.stops n < Sv47.say l 0 then some 0 else if Sv47.stops n < Sv47.say l 1 then some 1 else none
def spAnsOf (K : PySem.W.Frag) : Sp := fun vs H Q _ => ∃ (a : Addr) (l : List Nat) (n : Nat), vs = [.ref a, .int (n : Int)] ∧ 1 ≤ n ∧ SqL K H a (iv l) ∧ Q (ansV (ansOf l n)) H
theorem scAnsOf : FnScope ["words", "n"] ["words", "n"] (defScope sAnsOf) := ⟨rfl, rfl, rfl, by decide +kernel, rfl, by decide +kernel, by decide +kernel⟩
theorem stops_int {n : Nat} (h : 1 ≤ n) : ((n : Int) - 1) / 2 = (Sv47.stops n : Nat) := by
  unfold Sv47.stops
  omega
theorem ok_ansof {f : Addr} {fd : FuncData} (F : Fun K "answer_of" "answer_of" sAnsOf f fd) (C1 : Cal P w K mg base 1 "most_stopped" ["n"] spMost) : FnOk P w K mg base CX0 2 f fd ["words", "n"] (spAnsOf K) := by
  refine F.ok scAnsOf (fun vs H Q E h => ?_) (fun cdv A outer s H vs Q E hr h => ?_)
  · obtain ⟨a, l, n, rfl, _⟩ := h
    rfl
  · obtain ⟨a, l, n, rfl, hn, hs, k⟩ := h
    have hs' : SqL K H a ((Sv47Neutral.ints l).map V.int) := by rw [← iv_map]; exact hs
    refine ⟨_, pss_cons (ps_if (pt_cmpR op_gt (pe_bm PySem.F.plainAttrs_list PySem.F.slot_list_count PySem.F.type_list_count mt_count (pv 0) (pa_cons pe_int pa_nil)) (pe_c C1 hr (pa_cons (pv 1) pa_nil)) (nomark _)) (pss_one (ps_ret pe_int)) pss_nil)
      (pss_cons (ps_if (pt_cmpR op_gt (pe_bm PySem.F.plainAttrs_list PySem.F.slot_list_count PySem.F.type_list_count mt_count (pv 0) (pa_cons pe_int pa_nil)) (pe_c C1 hr (pa_cons (pv 1) pa_nil)) (nomark _)) (pss_one (ps_ret pe_int)) pss_nil)
      (pss_one (ps_ret pe_non))), ?_⟩
    have k : Q (ansV (ansOf l n)) H := k
    unfold ansOf at k
    refine ⟨_, rfl, .inl ⟨rfl, _, hs'⟩, a, _, 0, rfl, rfl, hs', _, rfl, n, rfl, _, _, rfl, rfl, _, rfl, ?_⟩
    rw [show (0 : Int) = ((0 : Nat) : Int) from rfl, count_ints, stops_int hn]
    refine ite2 (fun h1 => ?_) (fun h1 => ?_)
    · simp at h1
      rw [if_pos (by omega)] at k
      exact k
    · simp at h1
      rw [if_neg (by omega)] at k
      refine ⟨_, rfl, .inl ⟨rfl, _, hs'⟩, a, _, 1, rfl, rfl, hs', _, rfl, n, rfl, _, _, rfl, rfl, _, rfl, ?_⟩
      rw [stops_int hn, show (1 : Int) = ((1 : Nat) : Int) from rfl, count_ints]
      refine ite2 (fun h2 => ?_) (fun h2 => ?_)
      · simp at h2
        rw [if_pos (by omega)] at k
        exact k
      · simp at h2
        rw [if_neg (by omega)] at k
        exact k
end
end Pn
set_option Elab.async false
set_option linter.all false
set_option maxRecDepth 100000
namespace Pn
open PySem L2 Cx1

/-! ### the reader -/
def rdF (a : Addr) (i : Nat) : List (Str × V) := [("numbers", .ref a), ("place", .int (i : Int))]
theorem np : ¬ (("numbers" : Str) = "place") := by decide +kernel
theorem pn : ¬ (("place" : Str) = "numbers") := by decide +kernel
theorem rdF_init (a : Addr) : putF "place" (.int 0) (putF "numbers" (.ref a) []) = rdF a 0 := by
  show putF "place" (.int 0) [(("numbers" : Str), V.ref a)] = _
  rw [pf_ne np]
  rfl
theorem rdF_numbers (a : Addr) (i : Nat) : (rdF a i).lookup ("numbers" : Str) = some (.ref a) := lk_eq
theorem rdF_place (a : Addr) (i : Nat) : (rdF a i).lookup ("place" : Str) = some (.int (i : Int)) := (lk_ne pn).trans lk_eq
theorem rdF_put (a : Addr) (i j : Nat) : putF "place" (.int (j : Int)) (rdF a i) = rdF a j := (pf_ne np).trans (congrArg _ pf_eq)
theorem rdF_no {m : Str} (a : Addr) (i : Nat) (h1 : ¬ m = "numbers") (h2 : ¬ m = "place") : (rdF a i).lookup m = none := (lk_ne h1).trans ((lk_ne h2).trans rfl)
/-- what the walk asks of the class Reader -/
structure TR (K : PySem.W.Frag) (C : Addr) : Prop where
  cl : Cls K C
  nN : NoAttr K C "numbers"
  nP : NoAttr K C "place"
theorem seq_upd {K : PySem.W.Frag} {H : Hp} {a p C dx : Addr} {fs : List (Str × V)} {xs : List V} {o : HO} (hS : SqL K H a xs) (hp : H p = some (.ins C dx fs)) : SqL K (upd H p o) a xs := by
  rcases hS with (h | ⟨ob, h⟩) | h
  · exact .inl (.inl (by rw [upd_ne (ne_of h hp (by intro z; cases z))]; exact h))
  · exact .inl (.inr ⟨ob, by rw [upd_ne (ne_of h hp (by intro z; cases z))]; exact h⟩)
  · exact .inr h

section
variable {P : Program} {w : World} {K : PySem.W.Frag} {mg : Str → Option Value} {base : Heap}
def spRInit (C : Addr) : Sp := fun vs H Q _ => ∃ (p dx a : Addr), vs = [.ref p, .ref a] ∧ H p = some (.ins C dx []) ∧ Q .non (upd (upd H p (.ins C dx (putF "numbers" (.ref a) []))) p (.ins C dx (rdF a 0)))
theorem scRInit : FnScope ["self", "numbers"] ["self", "numbers"] (defScope sRInit) := ⟨rfl, rfl, rfl, by decide +kernel, rfl, by decide +kernel, by decide +kernel⟩
theorem ok_rinit {f C : Addr} {fd : FuncData} (F : Fun K "__init__" "Reader.__init__" sRInit f fd) (T : TR K C) : FnOk P w K mg base CX0 1 f fd ["self", "numbers"] (spRInit C) := by
  refine F.ok scRInit (fun vs H Q E h => ?_) (fun cdv A outer s H vs Q E hr h => ?_)
  · obtain ⟨p, dx, a, rfl, _⟩ := h
    rfl
  · obtain ⟨p, dx, a, rfl, hp, k⟩ := h
    refine ⟨_, pss_cons (ps_fld (pv 0) (pv 1) rfl) (pss_one (ps_fld (pv 0) pe_int rfl)), ?_⟩
    refine ⟨_, rfl, _, rfl, p, C, dx, [], rfl, hp, T.cl, T.nN, (by show 0 < 1000; decide), _, rfl, p, C, dx, _, rfl, upd_same, T.cl, T.nP, (by show 1 < 1000; decide), ?_⟩
    rw [rdF_init]
    exact k
def spHas (K : PySem.W.Frag) (C : Addr) : Sp := fun vs H Q _ => ∃ (p dx a : Addr) (i : Nat) (xs : List V), vs = [.ref p] ∧ H p = some (.ins C dx (rdF a i)) ∧ SqL K H a xs ∧ Q (.bl (decide (i < xs.length))) H
theorem scHas : FnScope ["self"] ["self"] (defScope sHas) := ⟨rfl, rfl, rfl, by decide +kernel, rfl, by decide +kernel, by decide +kernel⟩
theorem ok_has {f C : Addr} {fd : FuncData} (F : Fun K "has_more" "Reader.has_more" sHas f fd) (T : TR K C) (zl : mg "len" = none) : FnOk P w K mg base CX0 1 f fd ["self"] (spHas K C) := by
  refine F.ok scHas (fun vs H Q E h => ?_) (fun cdv A outer s H vs Q E hr h => ?_)
  · obtain ⟨p, dx, a, i, xs, rfl, _⟩ := h
    rfl
  · obtain ⟨p, dx, a, i, xs, rfl, hp, hS, k⟩ := h
    refine ⟨_, pss_one (ps_ret (pe_cmpR op_lt (pe_fld (pv 0) rfl) (pe_callB call_len_seq (by rfl) zl PySem.boot_len (pa_cons (pe_fld (pv 0) rfl) pa_nil)) (nomark _))), ?_⟩
    refine ⟨_, rfl, p, C, dx, _, _, rfl, hp, T.cl, T.nP, rdF_place _ _, _, rfl, p, C, dx, _, _, rfl, hp, T.cl, T.nN, rdF_numbers _ _, a, xs, rfl, .inl hS, _, _, rfl, rfl, bl_eq k ?_⟩
    simp
def spTakeN (K : PySem.W.Frag) (C : Addr) : Sp := fun vs H Q _ => ∃ (p dx a : Addr) (i : Nat) (xs : List V) (v : V), vs = [.ref p] ∧ H p = some (.ins C dx (rdF a i)) ∧ SqL K H a xs ∧ xs[i]? = some v ∧ Q v (upd H p (.ins C dx (rdF a (i + 1))))
theorem scTakeN : FnScope ["self", "number"] ["self"] (defScope sTakeN) := ⟨rfl, rfl, rfl, by decide +kernel, rfl, by decide +kernel, by decide +kernel⟩
theorem ok_taken {f C : Addr} {fd : FuncData} (F : Fun K "take_number" "Reader.take_number" sTakeN f fd) (T : TR K C) : FnOk P w K mg base CX0 1 f fd ["self"] (spTakeN K C) := by
  refine F.ok scTakeN (fun vs H Q E h => ?_) (fun cdv A outer s H vs Q E hr h => ?_)
  · obtain ⟨p, dx, a, i, xs, v, rfl, _⟩ := h
    rfl
  · obtain ⟨p, dx, a, i, xs, v, rfl, hp, hS, hv, k⟩ := h
    refine ⟨_, pss_cons (ps_set (i := 1) scTakeN.nd rfl (Or.inl rfl) (pe_ix ix_list (pe_fld (pv 0) rfl) (pe_fld (pv 0) rfl) (fun _ _ => rfl)))
      (pss_cons (ps_fldaug (pv 0) pe_int in_add) (pss_one (ps_ret (pv 1)))), ?_⟩
    refine ⟨_, rfl, p, C, dx, _, _, rfl, hp, T.cl, T.nN, rdF_numbers _ _, _, rfl, p, C, dx, _, _, rfl, hp, T.cl, T.nP, rdF_place _ _, a, xs, _, v, rfl, rfl, hS, atI_nat hv, ?_⟩
    refine ⟨_, rfl, p, C, dx, _, _, rfl, hp, T.cl, T.nP, rdF_place _ _, _, _, rfl, rfl, dx, _, hp, (by show 2 < 1000; decide), _, rfl, ?_⟩
    rw [show ((i : Int) + 1) = ((i + 1 : Nat) : Int) by omega, rdF_put]
    exact k
/-- the row that stands at place i: its length, then its items -/
def spTakeR (K : PySem.W.Frag) (C : Addr) : Sp := fun vs H Q _ => ∃ (p dx a : Addr) (i n : Nat) (xs : List V), vs = [.ref p] ∧ H p = some (.ins C dx (rdF a i)) ∧ SqL K H a xs ∧ xs[i]? = some (.int (n : Int)) ∧ i + 1 + n ≤ xs.length ∧
  ∀ l H', H l = none → H' l = some (.lst ((xs.drop (i + 1)).take n)) → H' p = some (.ins C dx (rdF a (i + 1 + n))) → (∀ b, b ≠ p → b ≠ l → H' b = H b) → Q (.ref l) H'
theorem scTakeR : FnScope ["self", "length", "row"] ["self"] (defScope sTakeR) := ⟨rfl, rfl, rfl, by decide +kernel, rfl, by decide +kernel, by decide +kernel⟩
theorem sIx_nat {n d i : Nat} (h : i ≤ n) : HT.sIx n d (some (i : Int)) = i := by
  unfold HT.sIx
  simp only []
  rw [if_neg (by omega)]
  show min (i : Int).toNat n = i
  omega
theorem cut_nat {xs : List V} {i j : Nat} (h : j ≤ xs.length) (hij : i ≤ j) : cutV xs (some (i : Int)) (some (j : Int)) = (xs.drop i).take (j - i) := by
  unfold cutV
  rw [sIx_nat (i := i) (by omega), sIx_nat (i := j) h]
theorem ok_taker {f C g : Addr} {fd fdg : FuncData} (F : Fun K "take_row" "Reader.take_row" sTakeR f fd) (T : TR K C) (G : FnOk P w K mg base CX0 1 g fdg ["self"] (spTakeN K C)) (bG : Binds K fdg ["self"] []) (mG : Meth K C "take_number" g) : FnOk P w K mg base CX0 2 f fd ["self"] (spTakeR K C) := by
  refine F.ok scTakeR (fun vs H Q E h => ?_) (fun cdv A outer s H vs Q E hr h => ?_)
  · obtain ⟨p, dx, a, i, n, xs, rfl, _⟩ := h
    rfl
  · obtain ⟨p, dx, a, i, n, xs, rfl, hp, hS, hv, hn, k⟩ := h
    refine ⟨_, pss_cons (ps_set (i := 1) scTakeR.nd rfl (Or.inl rfl) (pe_meth0 (pv 0) T.cl mG G hr bG .nil pass0))
      (pss_cons (ps_set (i := 2) scTakeR.nd rfl (Or.inl rfl) (pe_slice sl_list (pe_fld (pv 0) rfl) (po_some (pe_fld (pv 0) rfl)) (po_some (pe_op op_add (pe_fld (pv 0) rfl) (pv 1)))))
      (pss_cons (ps_fldaug (pv 0) (pv 1) in_add) (pss_one (ps_ret (pv 2))))), ?_⟩
    refine ⟨_, rfl, p, dx, _, rfl, hp, rdF_no _ _ (by decide +kernel) (by decide +kernel), p, dx, a, i, xs, _, rfl, hp, hS, hv, ?_⟩
    have hp1 := upd_same (H := H) (a := p) (o := HO.ins C dx (rdF a (i + 1)))
    have hS1 : SqL K (upd H p (HO.ins C dx (rdF a (i + 1)))) a xs := seq_upd hS hp
    refine ⟨_, rfl, p, C, dx, _, _, rfl, hp1, T.cl, T.nN, rdF_numbers _ _, _, rfl, p, C, dx, _, _, rfl, hp1, T.cl, T.nP, rdF_place _ _, _, rfl, _, rfl, p, C, dx, _, _, rfl, hp1, T.cl, T.nP, rdF_place _ _, _, rfl, _, _, rfl, rfl, _, rfl, a, xs, rfl, hS1, fun l hl => ?_⟩
    have hlp : l ≠ p := fun e => by rw [e, hp1] at hl; cases hl
    have hl0 : H l = none := by rw [upd_ne hlp] at hl; exact hl
    have hp2 : (upd (upd H p (HO.ins C dx (rdF a (i + 1)))) l (HO.lst (cutV xs (some ((i + 1 : Nat) : Int)) (some (((i + 1 : Nat) : Int) + (n : Int)))))) p = some (.ins C dx (rdF a (i + 1))) := by
      rw [upd_ne (Ne.symm hlp)]
      exact hp1
    refine ⟨_, rfl, p, C, dx, _, _, rfl, hp2, T.cl, T.nP, rdF_place _ _, _, rfl, _, _, rfl, rfl, dx, _, hp2, (by show 2 < 1000; decide), _, rfl, ?_⟩
    rw [show (((i + 1 : Nat) : Int) + (n : Int)) = ((i + 1 + n : Nat) : Int) by omega, rdF_put, cut_nat hn (by omega), show i + 1 + n - (i + 1) = n by omega]
    refine k l _ hl0 ?_ upd_same fun b h1 h2 => ?_
    · rw [upd_ne hlp, upd_same]
    · rw [upd_ne h1, upd_ne h2, upd_ne h1]
end
end Pn
set_option Elab.async false
set_option linter.all false
set_option maxRecDepth 100000
namespace Pn
open PySem L2 Cx1

/-! ### a node's fields -/
def ndF (me n c st : Int) (o : Addr) (a : V) (h : Addr) : List (Str × V) :=
  [("me", .int me), ("n", .int n), ("coins", .int c), ("stage", .int st), ("own_words", .ref o), ("answer", a), ("heard", .ref h)]
section
variable (me n c st : Int) (o : Addr) (a : V) (h : Addr)
theorem ndF_me : (ndF me n c st o a h).lookup ("me" : Str) = some (.int me) := lk_eq
theorem ndF_n : (ndF me n c st o a h).lookup ("n" : Str) = some (.int n) := (lk_ne (by decide +kernel)).trans lk_eq
theorem ndF_coins : (ndF me n c st o a h).lookup ("coins" : Str) = some (.int c) := (lk_ne (by decide +kernel)).trans ((lk_ne (by decide +kernel)).trans lk_eq)
theorem ndF_stage : (ndF me n c st o a h).lookup ("stage" : Str) = some (.int st) := (lk_ne (by decide +kernel)).trans ((lk_ne (by decide +kernel)).trans ((lk_ne (by decide +kernel)).trans lk_eq))
theorem ndF_own : (ndF me n c st o a h).lookup ("own_words" : Str) = some (.ref o) := (lk_ne (by decide +kernel)).trans ((lk_ne (by decide +kernel)).trans ((lk_ne (by decide +kernel)).trans ((lk_ne (by decide +kernel)).trans lk_eq)))
theorem ndF_answer : (ndF me n c st o a h).lookup ("answer" : Str) = some a := (lk_ne (by decide +kernel)).trans ((lk_ne (by decide +kernel)).trans ((lk_ne (by decide +kernel)).trans ((lk_ne (by decide +kernel)).trans ((lk_ne (by decide +kernel)).trans lk_eq))))
theorem ndF_heard : (ndF me n c st o a h).lookup ("heard" : Str) = some (.ref h) := (lk_ne (by decide +kernel)).trans ((lk_ne (by decide +kernel)).trans ((lk_ne (by decide +kernel)).trans ((lk_ne (by decide +kernel)).trans ((lk_ne (by decide +kernel)).trans ((lk_ne (by decide +kernel)).trans lk_eq)))))
theorem ndF_putStage (st' : Int) : putF "stage" (.int st') (ndF me n c st o a h) = ndF me n c st' o a h := by
  unfold ndF
  rw [pf_ne (by decide +kernel), pf_ne (by decide +kernel), pf_ne (by decide +kernel), pf_eq]
theorem ndF_putAnswer (a' : V) : putF "answer" a' (ndF me n c st o a h) = ndF me n c st o a' h := by
  unfold ndF
  rw [pf_ne (by decide +kernel), pf_ne (by decide +kernel), pf_ne (by decide +kernel), pf_ne (by decide +kernel), pf_ne (by decide +kernel), pf_eq]
theorem ndF_init : putF "heard" (.ref h) (putF "answer" a (putF "own_words" (.ref o) (putF "stage" (.int st) (putF "coins" (.int c) (putF "n" (.int n) (putF "me" (.int me) [])))))) = ndF me n c st o a h := by
  have e1 : putF "me" (.int me) [] = [(("me" : Str), V.int me)] := rfl
  have e2 : putF "n" (.int n) [(("me" : Str), V.int me)] = [(("me" : Str), V.int me), ("n", .int n)] := (pf_ne (by decide +kernel)).trans rfl
  have e3 : putF "coins" (.int c) [(("me" : Str), V.int me), ("n", .int n)] = [(("me" : Str), V.int me), ("n", .int n), ("coins", .int c)] := by
    rw [pf_ne (by decide +kernel), pf_ne (by decide +kernel)]
    rfl
  have e4 : putF "stage" (.int st) [(("me" : Str), V.int me), ("n", .int n), ("coins", .int c)] = [(("me" : Str), V.int me), ("n", .int n), ("coins", .int c), ("stage", .int st)] := by
    rw [pf_ne (by decide +kernel), pf_ne (by decide +kernel), pf_ne (by decide +kernel)]
    rfl
  have e5 : putF "own_words" (.ref o) [(("me" : Str), V.int me), ("n", .int n), ("coins", .int c), ("stage", .int st)] = [(("me" : Str), V.int me), ("n", .int n), ("coins", .int c), ("stage", .int st), ("own_words", .ref o)] := by
    rw [pf_ne (by decide +kernel), pf_ne (by decide +kernel), pf_ne (by decide +kernel), pf_ne (by decide +kernel)]
    rfl
  have e6 : putF "answer" a [(("me" : Str), V.int me), ("n", .int n), ("coins", .int c), ("stage", .int st), ("own_words", .ref o)] = [(("me" : Str), V.int me), ("n", .int n), ("coins", .int c), ("stage", .int st), ("own_words", .ref o), ("answer", a)] := by
    rw [pf_ne (by decide +kernel), pf_ne (by decide +kernel), pf_ne (by decide +kernel), pf_ne (by decide +kernel), pf_ne (by decide +kernel)]
    rfl
  rw [e1, e2, e3, e4, e5, e6, pf_ne (by decide +kernel), pf_ne (by decide +kernel), pf_ne (by decide +kernel), pf_ne (by decide +kernel), pf_ne (by decide +kernel), pf_ne (by decide +kernel)]
  rfl
end
/-- what the walk asks of the class Node -/
structure TN (K : PySem.W.Frag) (C : Addr) : Prop where
  cl : Cls K C
  me : NoAttr K C "me"
  n : NoAttr K C "n"
  co : NoAttr K C "coins"
  st : NoAttr K C "stage"
  ow : NoAttr K C "own_words"
  an : NoAttr K C "answer"
  hd : NoAttr K C "heard"
/-- the node x stands at p: its words at o, its list of dicts at h, these at ds -/
structure NodeAt (C : Addr) (H : Hp) (x : Sv47.Node) (p o h : Addr) (ds : List Addr) : Prop where
  ob : ∃ dx, H p = some (.ins C dx (ndF x.me x.n x.coins x.stage o (ansV x.answer) h))
  ow : H o = some (.lst (iv x.own))
  hl : H h = some (.lst (ds.map V.ref))
  len : ds.length = 128
  dc : ∀ (t : Nat) (d : Addr), ds[t]? = some d → H d = some (.dK (dv (Cq.dct x t)))
  nd : ds.Nodup
theorem NodeAt.same {C : Addr} {H H' : Hp} {x : Sv47.Node} {p o h : Addr} {ds : List Addr} (N : NodeAt C H x p o h ds) (s : Same H H') : NodeAt C H' x p o h ds :=
  ⟨let ⟨dx, e⟩ := N.ob; ⟨dx, s _ _ e⟩, s _ _ N.ow, s _ _ N.hl, N.len, fun t d e => s _ _ (N.dc t d e), N.nd⟩
/-- .. where what changes is none of it -/
theorem NodeAt.keep {C : Addr} {H H' : Hp} {x : Sv47.Node} {p o h : Addr} {ds : List Addr} (N : NodeAt C H x p o h ds) (kp : H' p = H p) (ko : H' o = H o) (kh : H' h = H h) (kd : ∀ d ∈ ds, H' d = H d) : NodeAt C H' x p o h ds :=
  ⟨by rw [kp]; exact N.ob, by rw [ko]; exact N.ow, by rw [kh]; exact N.hl, N.len, fun t d e => by rw [kd d (List.mem_of_getElem? e)]; exact N.dc t d e, N.nd⟩
theorem same_upd {H : Hp} {a : Addr} {o : HO} (h : H a = none) : Same H (upd H a o) := fun b u e => by
  rw [upd_ne (ne_of_none e h)]
  exact e

section
variable {P : Program} {w : World} {K : PySem.W.Frag} {mg : Str → Option Value} {base : Heap}
abbrev psN : List Str := ["self", "me", "n", "coins", "own_words", "answer", "heard"]
def spNInit (K : PySem.W.Frag) (C : Addr) : Sp := fun vs H Q _ => ∃ (p dx : Addr) (me n c : Int) (o : Addr) (a : V) (h : Addr) (xs : List V), vs = [.ref p, .int me, .int n, .int c, .ref o, a, .ref h] ∧ H p = some (.ins C dx []) ∧ SqL K H o xs ∧
  Q .non (upd H p (.ins C dx (ndF me n c ((xs.length : Int) - 1) o a h)))
theorem scNInit : FnScope psN psN (defScope sNInit) := ⟨rfl, rfl, rfl, by decide +kernel, rfl, by decide +kernel, by decide +kernel⟩
theorem ok_ninit {f C : Addr} {fd : FuncData} (F : Fun K "__init__" "Node.__init__" sNInit f fd) (T : TN K C) (zl : mg "len" = none) : FnOk P w K mg base CX0 1 f fd psN (spNInit K C) := by
  refine F.ok scNInit (fun vs H Q E h => ?_) (fun cdv A outer s H vs Q E hr h => ?_)
  · obtain ⟨p, dx, me, n, c, o, a, h, xs, rfl, _⟩ := h
    rfl
  · obtain ⟨p, dx, me, n, c, o, a, h, xs, rfl, hp, hS, k⟩ := h
    refine ⟨_, pss_cons (ps_fld (pv 0) (pv 1) rfl) (pss_cons (ps_fld (pv 0) (pv 2) rfl) (pss_cons (ps_fld (pv 0) (pv 3) rfl)
      (pss_cons (ps_fld (pv 0) (pe_op op_sub (pe_callB call_len_seq (by rfl) zl PySem.boot_len (pa_cons (pv 4) pa_nil)) pe_int) rfl)
      (pss_cons (ps_fld (pv 0) (pv 4) rfl) (pss_cons (ps_fld (pv 0) (pv 5) rfl) (pss_one (ps_fld (pv 0) (pv 6) rfl))))))), ?_⟩
    refine ⟨_, rfl, _, rfl, p, C, dx, _, rfl, hp, T.cl, T.me, (by show 0 < 1000; decide), ?_⟩
    refine ⟨_, rfl, _, rfl, p, C, dx, _, rfl, upd_same, T.cl, T.n, (by show 1 < 1000; decide), ?_⟩
    rw [upd_upd]
    refine ⟨_, rfl, _, rfl, p, C, dx, _, rfl, upd_same, T.cl, T.co, Nat.lt_of_le_of_lt (length_putF _ _ _) (by show 2 < 1000; decide), ?_⟩
    rw [upd_upd]
    refine ⟨_, rfl, o, xs, rfl, .inl (seq_upd hS hp), _, _, rfl, rfl, _, rfl, p, C, dx, _, rfl, upd_same, T.cl, T.st, Nat.lt_of_le_of_lt (length_putF _ _ _) (Nat.lt_of_le_of_lt (Nat.succ_le_succ (length_putF _ _ _)) (by show 3 < 1000; decide)), ?_⟩
    rw [upd_upd]
    refine ⟨_, rfl, _, rfl, p, C, dx, _, rfl, upd_same, T.cl, T.ow, Nat.lt_of_le_of_lt (length_putF _ _ _) (Nat.lt_of_le_of_lt (Nat.succ_le_succ (length_putF _ _ _)) (Nat.lt_of_le_of_lt (Nat.succ_le_succ (Nat.succ_le_succ (length_putF _ _ _))) (by show 4 < 1000; decide))), ?_⟩
    rw [upd_upd]
    refine ⟨_, rfl, _, rfl, p, C, dx, _, rfl, upd_same, T.cl, T.an, Nat.lt_of_le_of_lt (length_putF _ _ _) (Nat.lt_of_le_of_lt (Nat.succ_le_succ (length_putF _ _ _)) (Nat.lt_of_le_of_lt (Nat.succ_le_succ (Nat.succ_le_succ (length_putF _ _ _))) (Nat.lt_of_le_of_lt (Nat.succ_le_succ (Nat.succ_le_succ (Nat.succ_le_succ (length_putF _ _ _)))) (by show 5 < 1000; decide)))), ?_⟩
    rw [upd_upd]
    refine ⟨_, rfl, _, rfl, p, C, dx, _, rfl, upd_same, T.cl, T.hd, Nat.lt_of_le_of_lt (length_putF _ _ _) (Nat.lt_of_le_of_lt (Nat.succ_le_succ (length_putF _ _ _)) (Nat.lt_of_le_of_lt (Nat.succ_le_succ (Nat.succ_le_succ (length_putF _ _ _))) (Nat.lt_of_le_of_lt (Nat.succ_le_succ (Nat.succ_le_succ (Nat.succ_le_succ (length_putF _ _ _)))) (Nat.lt_of_le_of_lt (Nat.succ_le_succ (Nat.succ_le_succ (Nat.succ_le_succ (Nat.succ_le_succ (length_putF _ _ _))))) (by show 6 < 1000; decide))))), ?_⟩
    rw [upd_upd, ndF_init]
    exact k
/-- Node(..) -/
def NewN (P : Program) (w : World) (K : PySem.W.Frag) (mg : Str → Option Value) (base : Heap) (C : Addr) : Prop :=
  ∃ (f : Addr) (fd : FuncData), Mk K C f ∧ FnOk P w K mg base CX0 1 f fd psN (spNInit K C) ∧ mg "Node" = some (.ref C) ∧ Binds K fd psN []
def tNewN (K : PySem.W.Frag) (C : Addr) (t : TA) : TE := fun σ H Q => t σ H fun vs H1 => ∃ (me n c : Int) (o : Addr) (a : V) (h : Addr) (xs : List V), vs = [.int me, .int n, .int c, .ref o, a, .ref h] ∧ SqL K H1 o xs ∧
  ∀ p dx, H1 p = none → H1 dx = none → dx ≠ p → Q (.ref p) (upd (upd H1 dx (.own p)) p (.ins C dx (ndF me n c ((xs.length : Int) - 1) o a h)))
theorem seq_new {K : PySem.W.Frag} {H : Hp} {a p : Addr} {o : HO} {xs : List V} (hS : SqL K H a xs) (hp : H p = none) : SqL K (upd H p o) a xs := (same_upd hp).seq hS
theorem pe_newN {X : Cx} {j : Nat} {C : Addr} {p pos : Pos} {e : Expr} {es : List Expr} {t : TA} (N : NewN X.prog X.w X.K X.mg X.base C) (hr : Room j X.A) (ha : PA X (e :: es) t) (mono : ∀ σ H Q Q', (∀ vs H1, Q vs H1 → Q' vs H1) → t σ H Q → t σ H Q') (hj : 2 ≤ j := by decide) (hg : Gl X "Node" := by rfl)
    (he : starEach (e :: es) X.env = (false, eval e X.env) :: starEach es X.env := by rfl) (hpl : (backTo pos (starEach es X.env)).any (·.1) = false := by rfl) :
    PE X (.Call (.Name "Node" p) (e :: es) [] pos) (tNewN X.K C t) := by
  obtain ⟨f, fd, M, F, hm, hb⟩ := N
  intro pins s σ H Q I h
  refine pe_make M F (hr.mono hj) hg hm hb .nil pass0 ha (by decide) he hpl pins s σ H Q I ?_
  refine mono σ H _ _ (fun vs H1 h1 => ?_) h
  obtain ⟨me, n, c, o, a, hh, xs, rfl, hS, k⟩ := h1
  intro x dx nx ndx ne
  refine ⟨x, dx, me, n, c, o, a, hh, xs, rfl, upd_same, seq_new (seq_new hS ndx) (by rw [upd_ne (Ne.symm ne)]; exact nx), rfl, ?_⟩
  rw [upd_upd]
  exact k x dx nx ndx ne
end
end Pn
set_option Elab.async false
set_option linter.all false
set_option maxRecDepth 100000
namespace Pn
open PySem L2 Cx1

/-- these addresses were not tracked -/
structure New (H : Hp) (p o h : Addr) (ds : List Addr) : Prop where
  p : H p = none
  o : H o = none
  h : H h = none
  d : ∀ d ∈ ds, H d = none
theorem iv_nil : iv [] = [] := rfl
theorem yesT {σ : L2.St} {H : Hp} {A : Hp → Prop} {B : Hp → Prop} (h : A H) : tYes σ H (fun b H' => if b = true then A H' else B H') := by
  show if true = true then A H else B H
  exact iteT h
theorem lst_ne_ins {H : Hp} {a b : Addr} {xs : List V} {C dx : Addr} {fs : List (Str × V)} (h : H a = some (.lst xs)) (h' : H b = some (.ins C dx fs)) : a ≠ b := ne_of h h' (by intro z; cases z)
theorem lst_ne_dk {H : Hp} {a b : Addr} {xs : List V} {kvs : List (Key × V)} (h : H a = some (.lst xs)) (h' : H b = some (.dK kvs)) : a ≠ b := ne_of h h' (by intro z; cases z)
theorem ins_ne_dk {H : Hp} {a b : Addr} {C dx : Addr} {fs : List (Str × V)} {kvs : List (Key × V)} (h : H a = some (.ins C dx fs)) (h' : H b = some (.dK kvs)) : a ≠ b := ne_of h h' (by intro z; cases z)
theorem small {n : Nat} (h : n < 16777216) : n < sizeLine := by rw [sizeLine_eq]; exact h
theorem small' {n : Nat} (h : n ≤ 16777216) : n ≤ sizeLine := by rw [sizeLine_eq]; exact h

section
variable {P : Program} {w : World} {K : PySem.W.Frag} {mg : Str → Option Value} {base : Heap}
def spBegun (C : Addr) : Sp := fun vs H Q _ => ∃ (me n v c : Nat), vs = [.int (me : Int), .int (n : Int), .int (v : Int), .int (c : Int)] ∧
  ∀ p o h ds H', NodeAt C H' (Sv47.fresh me n v c) p o h ds → Same H H' → New H p o h ds → Q (.ref p) H'
theorem scBegun : FnScope ["me", "n", "value", "coins", "stage"] ["me", "n", "value", "coins"] (defScope sBegun) := ⟨rfl, rfl, rfl, by decide +kernel, rfl, by decide +kernel, by decide +kernel⟩
theorem ok_begun {f C : Addr} {fd : FuncData} (F : Fun K "begun_node" "begun_node" sBegun f fd) (NN : NewN P w K mg base C) (kl : Kon mg "LAST_STAGE" 128) (zr : mg "range" = none) : FnOk P w K mg base CX0 3 f fd ["me", "n", "value", "coins"] (spBegun C) := by
  refine F.ok scBegun (fun vs H Q E h => ?_) (fun cdv A outer s H vs Q E hr h => ?_)
  · obtain ⟨me, n, v, c, rfl, _⟩ := h
    rfl
  · obtain ⟨me, n, v, c, rfl, k⟩ := h
    refine ⟨_, pss_one (ps_ret (pe_newN NN hr (pa_cons (pv 0) (pa_cons (pv 1) (pa_cons (pv 3) (pa_cons (pe_lst (pa_cons (pv 2) pa_nil)) (pa_cons pe_non (pa_cons
      (pe_lc (own := [("stage", 4)]) rfl scBegun.nd (pi_range1 rfl zr (pa_cons (pe_k kl) pa_nil)) (blkOk_by (N := ["me", "n", "value", "coins", "stage"]) (sc := defScope sBegun) (by decide +kernel)) (fun _ _ _ _ _ => pg_name (i := 4) scBegun.nd rfl (Or.inl rfl)) (fun _ _ _ _ _ => pts_nil) (fun _ _ _ _ _ => pe_dnewK))
      pa_nil)))))) ?mono)), ?_⟩
    case mono =>
      intro σ H Q Q' hq ⟨v0, e0, v1, e1, v2, e2, v3, e3, hz, h4⟩
      refine ⟨v0, e0, v1, e1, v2, e2, v3, e3, hz, fun o ho => ?_⟩
      obtain ⟨j, ej, b1, b2, h5⟩ := h4 o ho
      refine ⟨j, ej, b1, b2, fun D hD => ?_⟩
      obtain ⟨W, w0, h6⟩ := h5 D hD
      refine ⟨W, w0, fun i m H' hw => ?_⟩
      rcases h6 i m H' hw with ⟨st, q⟩ | go
      · exact .inl ⟨st, hq _ _ q⟩
      · exact .inr go
    refine ⟨_, rfl, _, rfl, _, rfl, _, rfl, (by show 1 ≤ sizeLine; decide), fun o ho => ⟨128, rfl, by decide, by decide, fun D hD => ?_⟩⟩
    have hD : (upd H o (.lst (iv [v]))) D = none := hD
    have hoD : o ≠ D := fun e => by rw [← e, upd_same] at hD; cases hD
    have hD0 : H D = none := by rw [upd_ne (Ne.symm hoD)] at hD; exact hD
    refine lc_range (lo := 0) (n := 128) (fun i H2 => ∃ ds : List Addr, ds.length = i ∧ ds.Nodup ∧ H2 D = some (.lst (ds.map V.ref)) ∧ (∀ d ∈ ds, H2 d = some (.dK []) ∧ H d = none) ∧ Same (upd H o (.lst (iv [v]))) H2) ?_ ?_ ?_
    · exact ⟨[], rfl, List.nodup_nil, upd_same, (fun d hd => by cases hd), same_upd hD⟩
    · rintro i H2 hi ⟨ds, hl, hn, hD2, hds, sm⟩
      refine ⟨rfl, yesT (fun d hd => ?_)⟩
      have hdD : d ≠ D := fun e => by rw [e, hD2] at hd; cases hd
      refine ⟨ds.map V.ref, by rw [upd_ne (Ne.symm hdD)]; exact hD2, small (by rw [List.length_map]; omega), ds ++ [d], ?_, ?_, ?_, ?_, ?_⟩
      · rw [List.length_append, hl]
        rfl
      · refine nd_snoc hn fun hm => ?_
        rw [(hds d hm).1] at hd
        cases hd
      · rw [upd_same, List.map_append]
        rfl
      · intro d' hd'
        rcases List.mem_append.mp hd' with q | q
        · have h1 := hds d' q
          have n1 : d' ≠ D := fun e => by rw [e, hD2] at h1; cases h1.1
          have n2 : d' ≠ d := fun e => by rw [e, hd] at h1; cases h1.1
          rw [upd_ne n1, upd_ne n2]
          exact h1
        · obtain rfl := List.mem_singleton.mp q
          rw [upd_ne hdD, upd_same]
          refine ⟨rfl, ?_⟩
          have := sm.free hd
          rw [upd_ne (fun e => by rw [e, upd_same] at this; cases this)] at this
          exact this
      · intro b u e
        have e2 := sm b u e
        have n1 : b ≠ D := fun q => by rw [q, hD] at e; cases e
        rw [upd_ne n1, upd_ne (ne_of_none e2 hd)]
        exact e2
    · rintro H2 ⟨ds, hl, hn, hD2, hds, sm⟩
      refine ⟨me, n, c, o, .non, D, iv [v], rfl, .inl (.inl (sm _ _ upd_same)), fun p dx hp hdx ne => ?_⟩
      have sm2 : Same H2 (upd (upd H2 dx (.own p)) p (.ins C dx (ndF me n c (((iv [v]).length : Int) - 1) o .non D))) := fun b u e => by
        rw [upd_ne (ne_of_none e hp), upd_ne (ne_of_none e hdx)]
        exact e
      have sm1 : Same H H2 := (same_upd ho).trans sm
      refine k p o D ds _ ⟨⟨dx, upd_same⟩, sm2 _ _ (sm _ _ upd_same), sm2 _ _ hD2, hl, fun t d e => sm2 _ _ (hds d (List.mem_of_getElem? e)).1, hn⟩ (sm1.trans sm2) ⟨sm1.free hp, ho, hD0, fun d hd => (hds d hd).2⟩
end
end Pn
set_option Elab.async false
set_option linter.all false
set_option maxRecDepth 100000
namespace Pn
open PySem L2 Cx1
section
variable {P : Program} {w : World} {K : PySem.W.Frag} {mg : Str → Option Value} {base : Heap}
def spCopied (C : Addr) : Sp := fun vs H Q _ => ∃ (q o0 h0 : Addr) (ds0 : List Addr) (x : Sv47.Node), vs = [.ref q] ∧ NodeAt C H x q o0 h0 ds0 ∧ Cq.WF x ∧
  ∀ p o h ds H', NodeAt C H' x p o h ds → Same H H' → New H p o h ds → Q (.ref p) H'
theorem scCopied : FnScope ["node", "heard", "words"] ["node"] (defScope sCopied) := ⟨rfl, rfl, rfl, by decide +kernel, rfl, by decide +kernel, by decide +kernel⟩
theorem ok_copied {f C : Addr} {fd : FuncData} (F : Fun K "copied_node" "copied_node" sCopied f fd) (T : TN K C) (NN : NewN P w K mg base C) (zd : mg "dict" = none) (zl : mg "list" = none) : FnOk P w K mg base CX0 3 f fd ["node"] (spCopied C) := by
  refine F.ok scCopied (fun vs H Q E h => ?_) (fun cdv A outer s H vs Q E hr h => ?_)
  · obtain ⟨q, o0, h0, ds0, x, rfl, _⟩ := h
    rfl
  · obtain ⟨q, o0, h0, ds0, x, rfl, N, W, k⟩ := h
    obtain ⟨dx0, ob⟩ := N.ob
    refine ⟨_, pss_cons (ps_setLc (i := 1) (own := [("words", 2)]) rfl scCopied.nd rfl rfl (sw_true rfl rfl rfl rfl) (pi_list (pe_fld (pv 0) rfl)) (blkOk_by (N := ["node", "heard", "words"]) (sc := defScope sCopied) (by decide +kernel)) (fun _ _ _ _ _ => pg_name (i := 2) scCopied.nd rfl (Or.inl rfl)) (fun _ _ _ _ _ => pts_nil)
        (fun _ _ _ _ _ => pe_callTy call_dict_of (by rfl) zd bt_dict (pa_cons (pv 2) pa_nil)))
      (pss_one (ps_ret (pe_newN NN hr (pa_cons (pe_fld (pv 0) rfl) (pa_cons (pe_fld (pv 0) rfl) (pa_cons (pe_fld (pv 0) rfl) (pa_cons (pe_callTy call_list_of (by rfl) zl bt_list (pa_cons (pe_fld (pv 0) rfl) pa_nil)) (pa_cons (pe_fld (pv 0) rfl) (pa_cons (pv 1) pa_nil)))))) ?mono))), ?_⟩
    case mono =>
      rintro σ H Q Q' hq ⟨v0, e0, a1, C1, d1, f1, w1, r1, g1, c1, n1, l1, v2, e2, a2, C2, d2, f2, w2, r2, g2, c2, n2, l2, v3, e3, a3, C3, d3, f3, w3, r3, g3, c3, n3, l3, v4, e4, a4, C4, d4, f4, w4, r4, g4, c4, n4, l4, b5, y5, e5, s5, h5⟩
      refine ⟨v0, e0, a1, C1, d1, f1, w1, r1, g1, c1, n1, l1, v2, e2, a2, C2, d2, f2, w2, r2, g2, c2, n2, l2, v3, e3, a3, C3, d3, f3, w3, r3, g3, c3, n3, l3, v4, e4, a4, C4, d4, f4, w4, r4, g4, c4, n4, l4, b5, y5, e5, s5, fun l hl => ?_⟩
      obtain ⟨v6, e6, a6, C6, d6, f6, w6, r6, g6, c6, n6, l6, v7, e7, h7⟩ := h5 l hl
      exact ⟨v6, e6, a6, C6, d6, f6, w6, r6, g6, c6, n6, l6, v7, e7, hq _ _ h7⟩
    refine ⟨_, rfl, q, C, dx0, _, _, rfl, ob, T.cl, T.hd, ndF_heard _ _ _ _ _ _ _, h0, rfl, ⟨_, .of N.hl⟩, fun D hD => ?_⟩
    refine lc_list (K := K) (a := h0) (xs := ds0.map V.ref) (fun i H2 => ∃ es : List Addr, es.length = i ∧ es.Nodup ∧ H2 D = some (.lst (es.map V.ref)) ∧ (∀ t e, es[t]? = some e → H2 e = some (.dK (dv (Cq.dct x t))) ∧ H e = none) ∧ Same H H2) ?_ ?_ ?_ ?_
    · exact ⟨[], rfl, List.nodup_nil, upd_same, (fun t e q => by simp at q), same_upd hD⟩
    · rintro i H2 hi ⟨es, _, _, _, _, sm⟩
      exact .of (sm _ _ N.hl)
    · rintro i y H2 hi ⟨es, hl, hn, hD2, hes, sm⟩
      rw [List.getElem?_map] at hi
      obtain ⟨d0, hd0, rfl⟩ := Option.map_eq_some_iff.mp hi
      have hd2 := sm _ _ (N.dc i d0 hd0)
      have hil : i < 128 := by rw [← N.len]; exact (List.getElem?_eq_some_iff.mp hd0).1
      refine ⟨rfl, yesT ⟨_, rfl, d0, _, rfl, hd2, fun d hd => ?_⟩⟩
      have hdD : d ≠ D := fun e => by rw [e, hD2] at hd; cases hd
      refine ⟨es.map V.ref, by rw [upd_ne (Ne.symm hdD)]; exact hD2, small (by rw [List.length_map]; omega), es ++ [d], ?_, ?_, ?_, ?_, ?_⟩
      · rw [List.length_append, hl]
        rfl
      · refine nd_snoc hn fun hm => ?_
        obtain ⟨t, ht⟩ := List.getElem?_of_mem hm
        rw [(hes t d ht).1] at hd
        cases hd
      · rw [upd_same, List.map_append]
        rfl
      · intro t e he
        by_cases ht : t < es.length
        · rw [List.getElem?_append_left ht] at he
          have h1 := hes t e he
          have n1 : e ≠ D := fun z => by rw [z, hD2] at h1; cases h1.1
          have n2 : e ≠ d := fun z => by rw [z, hd] at h1; cases h1.1
          rw [upd_ne n1, upd_ne n2]
          exact h1
        · rw [List.getElem?_append_right (by omega)] at he
          have h0 : t - es.length = 0 := by
            have := (List.getElem?_eq_some_iff.mp he).1
            simp at this
            omega
          rw [h0] at he
          have e1 : d = e := Option.some.inj he
          subst e1
          have e2 : t = i := by omega
          subst e2
          rw [upd_ne hdD, upd_same]
          exact ⟨rfl, sm.free hd⟩
      · intro b u e
        have n1 : b ≠ D := fun z => by rw [z, hD] at e; cases e
        rw [upd_ne n1, upd_ne (ne_of_none (sm b u e) hd)]
        exact sm b u e
    · rintro H2 ⟨es, hl, hn, hD2, hes, sm⟩
      rw [List.length_map, N.len] at hl
      have ob2 := sm _ _ ob
      refine ⟨_, rfl, q, C, dx0, _, _, rfl, ob2, T.cl, T.me, ndF_me _ _ _ _ _ _ _, _, rfl, q, C, dx0, _, _, rfl, ob2, T.cl, T.n, ndF_n _ _ _ _ _ _ _, _, rfl, q, C, dx0, _, _, rfl, ob2, T.cl, T.co, ndF_coins _ _ _ _ _ _ _,
        _, rfl, q, C, dx0, _, _, rfl, ob2, T.cl, T.ow, ndF_own _ _ _ _ _ _ _, o0, iv x.own, rfl, .inl (.of (sm _ _ N.ow)), fun o ho => ?_⟩
      have ob3 : (upd H2 o (.lst (iv x.own))) q = some (.ins C dx0 (ndF x.me x.n x.coins x.stage o0 (ansV x.answer) h0)) := same_upd ho _ _ ob2
      refine ⟨_, rfl, q, C, dx0, _, _, rfl, ob3, T.cl, T.an, ndF_answer _ _ _ _ _ _ _, _, rfl, x.me, x.n, x.coins, o, _, D, iv x.own, rfl, .of upd_same, fun p dx hp hdx ne => ?_⟩
      have smo : Same H2 (upd H2 o (.lst (iv x.own))) := same_upd ho
      have est : ((iv x.own).length : Int) - 1 = ((x.stage : Nat) : Int) := by
        rw [iv_len, W.len]
        omega
      rw [est]
      have sm2 : Same (upd H2 o (.lst (iv x.own))) (upd (upd (upd H2 o (.lst (iv x.own))) dx (.own p)) p (.ins C dx (ndF x.me x.n x.coins x.stage o (ansV x.answer) D))) := fun b u e => by
        rw [upd_ne (ne_of_none e hp), upd_ne (ne_of_none e hdx)]
        exact e
      refine k p o D es _ ⟨⟨dx, upd_same⟩, sm2 _ _ upd_same, sm2 _ _ (smo _ _ hD2), hl, fun t d e => sm2 _ _ (smo _ _ (hes t d e).1), hn⟩ ((sm.trans smo).trans sm2) ⟨(sm.trans smo).free hp, sm.free ho, hD, fun d hd => ?_⟩
      obtain ⟨t, ht⟩ := List.getElem?_of_mem hd
      exact (hes t d ht).2

/-! ### letters -/
def spWritten (C : Addr) : Sp := fun vs H Q _ => ∃ (p o h : Addr) (ds : List Addr) (x : Sv47.Node) (r t v : Nat), vs = [.ref p, .int (r : Int), .int (t : Int)] ∧ NodeAt C H x p o h ds ∧ x.own[t]? = some v ∧
  ∀ l, H l = none → Q (.ref l) (upd H l (.lst (iv (Sv47.Letter.bytes ⟨r, x.me, t, v⟩))))
theorem scWritten : FnScope ["node", "receiver", "stage"] ["node", "receiver", "stage"] (defScope sWritten) := ⟨rfl, rfl, rfl, by decide +kernel, rfl, by decide +kernel, by decide +kernel⟩
theorem ok_written {f C : Addr} {fd : FuncData} (F : Fun K "written_letter" "written_letter" sWritten f fd) (T : TN K C) : FnOk P w K mg base CX0 1 f fd ["node", "receiver", "stage"] (spWritten C) := by
  refine F.ok scWritten (fun vs H Q E h => ?_) (fun cdv A outer s H vs Q E hr h => ?_)
  · obtain ⟨p, o, h, ds, x, r, t, v, rfl, _⟩ := h
    rfl
  · obtain ⟨p, o, h, ds, x, r, t, v, rfl, N, hv, k⟩ := h
    obtain ⟨dx, ob⟩ := N.ob
    refine ⟨_, pss_one (ps_ret (pe_lst (pa_cons (pv 1) (pa_cons (pe_fld (pv 0) rfl) (pa_cons (pv 2) (pa_cons (pe_ix ix_list (pe_fld (pv 0) rfl) (pv 2) (fun _ _ => rfl)) (pa_cons pe_int (pa_cons pe_int (pa_cons pe_int (pa_cons pe_int pa_nil)))))))))), ?_⟩
    refine ⟨_, rfl, _, rfl, p, C, dx, _, _, rfl, ob, T.cl, T.me, ndF_me _ _ _ _ _ _ _, _, rfl, _, rfl, p, C, dx, _, _, rfl, ob, T.cl, T.ow, ndF_own _ _ _ _ _ _ _, _, rfl, o, _, _, _, rfl, rfl, .of N.ow, atI_nat (iv_get hv), (by show 8 ≤ sizeLine; decide), fun l hl => ?_⟩
    exact k l hl
def lettersOf (x : Sv47.Node) (v m : Nat) : List Nat := ((List.range m).filter fun i => i != x.me).flatMap fun i => Sv47.Letter.bytes ⟨i, x.me, x.stage, v⟩
theorem lettersOf_succ (x : Sv47.Node) (v m : Nat) : lettersOf x v (m + 1) = lettersOf x v m ++ if m = x.me then [] else Sv47.Letter.bytes ⟨m, x.me, x.stage, v⟩ := by
  unfold lettersOf
  rw [List.range_succ, List.filter_append, List.flatMap_append]
  congr 1
  by_cases h : m = x.me
  · rw [if_pos h, List.filter_cons_of_neg (by simpa using h)]
    rfl
  · rw [if_neg h, List.filter_cons_of_pos (by simpa using h)]
    simp
theorem lettersOf_len (x : Sv47.Node) (v : Nat) : ∀ m : Nat, (lettersOf x v m).length ≤ 8 * m
  | 0 => Nat.le_refl _
  | m + 1 => by
    have ih := lettersOf_len x v m
    rw [lettersOf_succ, List.length_append]
    split
    · simp
      omega
    · show _ + 8 ≤ _
      omega
def spLetters (C : Addr) : Sp := fun vs H Q _ => ∃ (p o h : Addr) (ds : List Addr) (x : Sv47.Node) (v : Nat), vs = [.ref p] ∧ NodeAt C H x p o h ds ∧ x.own[x.stage]? = some v ∧ x.n ≤ 16 ∧
  ∀ l H', H l = none → H' l = some (.lst (iv (lettersOf x v x.n))) → Same H H' → Q (.ref l) H'
theorem scLetters : FnScope ["node", "sent", "receiver"] ["node"] (defScope sLetters) := ⟨rfl, rfl, rfl, by decide +kernel, rfl, by decide +kernel, by decide +kernel⟩
theorem ok_letters {f C : Addr} {fd : FuncData} (F : Fun K "letters_to_others" "letters_to_others" sLetters f fd) (T : TN K C) (zr : mg "range" = none) (C1 : Cal P w K mg base 1 "written_letter" ["node", "receiver", "stage"] (spWritten C)) : FnOk P w K mg base CX0 2 f fd ["node"] (spLetters C) := by
  refine F.ok scLetters (fun vs H Q E h => ?_) (fun cdv A outer s H vs Q E hr h => ?_)
  · obtain ⟨p, o, h, ds, x, v, rfl, _⟩ := h
    rfl
  · obtain ⟨p, o, h, ds, x, v, rfl, N, hv, hn, k⟩ := h
    obtain ⟨dx, ob⟩ := N.ob
    refine ⟨_, pss_cons (ps_set (i := 1) scLetters.nd rfl (Or.inl rfl) (pe_lst pa_nil))
      (pss_cons (ps_for PassesOwn.never rfl (pi_range1 rfl zr (pa_cons (pe_fld (pv 0) rfl) pa_nil)) (pg_name (i := 2) scLetters.nd rfl (Or.inl rfl))
        (pss_one (ps_if (pt_cmpR op_ne (pv 2) (pe_fld (pv 0) rfl) (nomark _))
          (pss_one (ps_expr (pe_bm PySem.F.plainAttrs_list PySem.F.slot_list_extend PySem.F.type_list_extend mt_extend (pv 1) (pa_cons (pe_c C1 hr (pa_cons (pv 0) (pa_cons (pv 2) (pa_cons (pe_fld (pv 0) rfl) pa_nil)))) pa_nil))))
          pss_nil)))
      (pss_one (ps_ret (pv 1)))), ?_⟩
    refine ⟨(by show 0 ≤ sizeLine; decide), fun l hl => ?_⟩
    have s1 : Same H (upd H l (.lst [])) := same_upd hl
    refine ⟨_, rfl, p, C, dx, _, _, rfl, s1 _ _ ob, T.cl, T.n, ndF_n _ _ _ _ _ _ _, (x.n : Int), rfl, by omega, by omega, ?_⟩
    refine for_range (lo := 0) (n := (x.n : Int).toNat) (fun i σ H2 => ∃ u, σ = [some (.ref p), some (.ref l), u] ∧ H2 l = some (.lst (iv (lettersOf x v i))) ∧ Same H H2) ⟨none, rfl, upd_same, s1⟩ ?_ ?_
    · rintro i σ H2 hi ⟨u, rfl, hl2, s2⟩
      have hi' : i < x.n := by omega
      have ob2 := s2 _ _ ob
      refine ⟨_, rfl, _, rfl, p, C, dx, _, _, rfl, ob2, T.cl, T.me, ndF_me _ _ _ _ _ _ _, rfl, _, rfl, ?_⟩
      refine ite2 (fun h1 => ?_) (fun h1 => ?_)
      · have hne : ¬ i = x.me := by
          intro e
          rw [e] at h1
          simp at h1
        refine ⟨_, rfl, .inl ⟨rfl, _, .of hl2⟩, _, rfl, _, rfl, _, rfl, p, C, dx, _, _, rfl, ob2, T.cl, T.st, ndF_stage _ _ _ _ _ _ _, p, o, h, ds, x, i, x.stage, v, ?_, N.same s2, hv, fun l2 hl2' => ?_⟩
        · rw [Int.zero_add]
          rfl
        · have hll : l ≠ l2 := ne_of_none hl2 hl2'
          have hlen := lettersOf_len x v i
          refine ⟨l, l2, iv (lettersOf x v i), _, rfl, rfl, by rw [upd_ne hll]; exact hl2, upd_same, ?_, ?_⟩
          · rw [iv_len, iv_len]
            refine small' ?_
            show _ + 8 ≤ _
            omega
          · refine ⟨_, rfl, ?_, ?_⟩
            · rw [upd_same, lettersOf_succ, if_neg hne, iv_app]
            · intro b u e
              rw [upd_ne (ne_of_none e hl), upd_ne (ne_of_none (s2 b u e) hl2')]
              exact s2 b u e
      · have he : i = x.me := by
          simp at h1
          omega
        refine ⟨_, rfl, ?_, s2⟩
        rw [lettersOf_succ, if_pos he, List.append_nil]
        exact hl2
    · rintro σ H2 ⟨u, rfl, hl2, s2⟩
      refine ⟨_, rfl, k l H2 hl ?_ s2⟩
      rw [show (x.n : Int).toNat = x.n by omega] at hl2
      exact hl2
end
end Pn
set_option Elab.async false
set_option linter.all false
set_option maxRecDepth 100000
namespace Pn
open PySem L2 Cx1
theorem div_pow_nat (c k : Nat) : (c : Int) / 2 ^ k = ((c / 2 ^ k : Nat) : Int) := by
  rw [Int.natCast_ediv, Int.natCast_pow]
  rfl
theorem bit_one (c k : Nat) : PySem.Builtin.bitAnd ((c : Int) / 2 ^ k) 1 = ((if c.testBit k = true then 1 else 0 : Nat) : Int) := by
  rw [PyProof.Rows.bitAnd_m1, div_pow_nat, Nat.testBit_eq_decide_div_mod_eq]
  by_cases h : c / 2 ^ k % 2 = 1
  · rw [decide_eq_true h, if_pos rfl]
    omega
  · rw [decide_eq_false h, if_neg (by decide)]
    omega
section
variable {P : Program} {w : World} {K : PySem.W.Frag} {mg : Str → Option Value} {base : Heap}
def newsB (x : Sv47.Node) (l : Sv47.Letter) : Bool := !(decide (l.stage < x.stage) || decide (l.stage = 128) || (x.from_ l.stage l.sender).isSome)
def spNews (K : PySem.W.Frag) (C : Addr) : Sp := fun vs H Q _ => ∃ (p o h a : Addr) (ds : List Addr) (x : Sv47.Node) (l : Sv47.Letter), vs = [.ref p, .ref a] ∧ NodeAt C H x p o h ds ∧ SqL K H a (iv l.bytes) ∧ l.stage ≤ 128 ∧ Q (.bl (newsB x l)) H
theorem scNews : FnScope ["node", "letter", "stage"] ["node", "letter"] (defScope sNews) := ⟨rfl, rfl, rfl, by decide +kernel, rfl, by decide +kernel, by decide +kernel⟩
theorem ok_news {f C : Addr} {fd : FuncData} (F : Fun K "is_news" "is_news" sNews f fd) (T : TN K C) (kS : Kon mg "STAGE_AT_letters" 2) (kF : Kon mg "FROM_AT" 1) (kl : Kon mg "LAST_STAGE" 128) : FnOk P w K mg base CX0 1 f fd ["node", "letter"] (spNews K C) := by
  refine F.ok scNews (fun vs H Q E h => ?_) (fun cdv A outer s H vs Q E hr h => ?_)
  · obtain ⟨p, o, h, a, ds, x, l, rfl, _⟩ := h
    rfl
  · obtain ⟨p, o, h, a, ds, x, l, rfl, N, hS, hl, k⟩ := h
    obtain ⟨dx, ob⟩ := N.ob
    have hu := hu_of hr
    refine ⟨_, pss_cons (ps_set (i := 2) scNews.nd rfl (Or.inl rfl) (pe_ix ix_list (pv 1) (pe_k kS) (fun _ _ => rfl)))
      (pss_cons (ps_if (PW.pt (pw_or (pt_cmpR op_lt (pv 2) (pe_fld (pv 0) rfl) (nomark _)) (pw_or1 (pt_cmpR op_eq (pv 2) (pe_k kl) (nomark _))))) (pss_one (ps_ret pe_bl)) pss_nil)
      (pss_one (ps_ret (pe_cmp (pc_dnotin hu (pe_ix ix_list (pv 1) (pe_k kF) (fun _ _ => rfl)) (pe_ix ix_list (pe_fld (pv 0) rfl) (pv 2) (fun _ _ => rfl))))))), ?_⟩
    refine ⟨_, rfl, a, _, _, _, rfl, rfl, hS, at_of (j := 2) rfl rfl, ?_⟩
    refine ⟨_, rfl, _, rfl, p, C, dx, _, _, rfl, ob, T.cl, T.st, ndF_stage _ _ _ _ _ _ _, _, _, rfl, rfl, _, rfl, ?_⟩
    unfold newsB at k
    refine ite2 (fun h1 => ?_) (fun h1 => ?_)
    · refine iteT (bl_eq k ?_)
      simp at h1
      simp [h1]
    · simp at h1
      refine ⟨_, rfl, rfl, _, rfl, ite2 (fun h2 => ?_) (fun h2 => ?_)⟩
      · refine bl_eq k ?_
        simp at h2
        have h3 : l.stage = 128 := by omega
        simp [h3]
      · simp at h2
        have h3 : l.stage < 128 := by omega
        obtain ⟨d, hd⟩ : ∃ d, ds[l.stage]? = some d := ⟨_, List.getElem?_eq_getElem (by rw [N.len]; exact h3)⟩
        refine ⟨_, rfl, a, _, _, _, rfl, rfl, hS, at_of (j := 1) rfl rfl, _, rfl, p, C, dx, _, _, rfl, ob, T.cl, T.hd, ndF_heard _ _ _ _ _ _ _, _, rfl, h, _, _, _, rfl, rfl, .of N.hl, atI_nat (by rw [List.getElem?_map, hd]; rfl), d, _, rfl, DGet.k (k := Sum.inl (l.sender : Int)) (N.dc _ _ hd), bl_eq k ?_⟩
        have h4 : ¬ l.stage = 128 := by omega
        have h5 : ¬ l.stage < x.stage := by omega
        rw [dv_val, ← Cq.from_eq, decide_eq_false h4, decide_eq_false h5]
        cases x.from_ l.stage l.sender <;> rfl
def spThere (C : Addr) : Sp := fun vs H Q _ => ∃ (p o h : Addr) (ds : List Addr) (x : Sv47.Node), vs = [.ref p] ∧ NodeAt C H x p o h ds ∧ Cq.WF x ∧ x.stage < 128 ∧ ∀ l H', H l = none → H' l = some (.lst (iv x.there)) → Same H H' → Q (.ref l) H'
theorem scThere : FnScope ["node"] ["node"] (defScope sThere) := ⟨rfl, rfl, rfl, by decide +kernel, rfl, by decide +kernel, by decide +kernel⟩
theorem ok_there {f C : Addr} {fd : FuncData} (F : Fun K "words_there" "words_there" sThere f fd) (T : TN K C) (zl : mg "list" = none) : FnOk P w K mg base CX0 1 f fd ["node"] (spThere C) := by
  refine F.ok scThere (fun vs H Q E h => ?_) (fun cdv A outer s H vs Q E hr h => ?_)
  · obtain ⟨p, o, h, ds, x, rfl, _⟩ := h
    rfl
  · obtain ⟨p, o, h, ds, x, rfl, N, W, hst, k⟩ := h
    obtain ⟨dx, ob⟩ := N.ob
    refine ⟨_, pss_one (ps_ret (pe_op op_cat (pe_lst (pa_cons (pe_ix ix_list (pe_fld (pv 0) rfl) (pe_fld (pv 0) rfl) (fun _ _ => rfl)) pa_nil)) (pe_listvals rfl (pe_ix ix_list (pe_fld (pv 0) rfl) (pe_fld (pv 0) rfl) (fun _ _ => rfl)) (by rfl) zl))), ?_⟩
    refine ⟨_, rfl, p, C, dx, _, _, rfl, ob, T.cl, T.ow, ndF_own _ _ _ _ _ _ _, _, rfl, p, C, dx, _, _, rfl, ob, T.cl, T.st, ndF_stage _ _ _ _ _ _ _, o, _, _, _, rfl, rfl, .of N.ow, atI_nat (iv_get W.last), (by show 1 ≤ sizeLine; decide), fun l1 hl1 => ?_⟩
    have s1 : Same H (upd H l1 (.lst (iv [x.own.getLastD 0]))) := same_upd hl1
    obtain ⟨d, hd⟩ : ∃ d, ds[x.stage]? = some d := ⟨_, List.getElem?_eq_getElem (by rw [N.len]; exact hst)⟩
    refine ⟨_, rfl, p, C, dx, _, _, rfl, s1 _ _ ob, T.cl, T.hd, ndF_heard _ _ _ _ _ _ _, _, rfl, p, C, dx, _, _, rfl, s1 _ _ ob, T.cl, T.st, ndF_stage _ _ _ _ _ _ _, h, _, _, _, rfl, rfl, .of (s1 _ _ N.hl), atI_nat (by rw [List.getElem?_map, hd]; rfl), d, _, rfl, s1 _ _ (N.dc _ _ hd), fun l2 hl2 => ?_⟩
    have n12 : l1 ≠ l2 := fun e => by rw [← e, upd_same] at hl2; cases hl2
    have hlen := W.dct_len x.stage
    refine ⟨l1, l2, _, _, rfl, rfl, by rw [upd_ne n12]; exact upd_same, upd_same, ?_, fun l3 hl3 => ?_⟩
    · refine small' ?_
      rw [List.length_map, dv_len]
      show 1 + _ ≤ _
      omega
    · have s2 := s1.trans (same_upd (o := .lst ((dv (Cq.dct x x.stage)).map (·.2))) hl2)
      refine k l3 _ (s2.free hl3) ?_ (s2.trans (same_upd hl3))
      rw [upd_same, Cq.there_eq, dv_snd]
      rfl
def canB (x : Sv47.Node) : Bool := decide (x.stage < 128) && decide (x.n - Sv47.stops x.n ≤ x.there.length)
theorem canB_iff (x : Sv47.Node) : canB x = true ↔ Cq.can x := by
  unfold canB Cq.can
  simp
def spCan (C : Addr) : Sp := fun vs H Q _ => ∃ (p o h : Addr) (ds : List Addr) (x : Sv47.Node), vs = [.ref p] ∧ NodeAt C H x p o h ds ∧ Cq.WF x ∧ ∀ H', Same H H' → Q (.bl (canB x)) H'
theorem scCan : FnScope ["node"] ["node"] (defScope sCan) := ⟨rfl, rfl, rfl, by decide +kernel, rfl, by decide +kernel, by decide +kernel⟩
theorem ok_can {f C : Addr} {fd : FuncData} (F : Fun K "can_go_on" "can_go_on" sCan f fd) (T : TN K C) (zl : mg "len" = none) (kl : Kon mg "LAST_STAGE" 128) (C1 : Cal P w K mg base 1 "words_there" ["node"] (spThere C)) (C2 : Cal P w K mg base 2 "enough_words" ["n"] spEnough) : FnOk P w K mg base CX0 3 f fd ["node"] (spCan C) := by
  refine F.ok scCan (fun vs H Q E h => ?_) (fun cdv A outer s H vs Q E hr h => ?_)
  · obtain ⟨p, o, h, ds, x, rfl, _⟩ := h
    rfl
  · obtain ⟨p, o, h, ds, x, rfl, N, W, k⟩ := h
    obtain ⟨dx, ob⟩ := N.ob
    refine ⟨_, pss_one (ps_ret (pe_and (pe_cmpR op_lt (pe_fld (pv 0) rfl) (pe_k kl) (nomark _)) (pe_one (pe_cmpR op_ge (pe_callB call_len_seq (by rfl) zl PySem.boot_len (pa_cons (pe_c C1 hr (pa_cons (pv 0) pa_nil)) pa_nil)) (pe_c C2 hr (pa_cons (pe_fld (pv 0) rfl) pa_nil)) (nomark _))))), ?_⟩
    refine ⟨_, rfl, p, C, dx, _, _, rfl, ob, T.cl, T.st, ndF_stage _ _ _ _ _ _ _, _, _, rfl, rfl, _, rfl, ite2 (fun h1 => ?_) (fun h1 => ?_)⟩
    · simp at h1
      have hst : x.stage < 128 := by omega
      refine ⟨_, rfl, p, o, h, ds, x, rfl, N, W, hst, fun l H1 hl hl1 s1 => ?_⟩
      refine ⟨l, _, rfl, .inl (.of hl1), _, rfl, p, C, dx, _, _, rfl, s1 _ _ ob, T.cl, T.n, ndF_n _ _ _ _ _ _ _, x.n, rfl, _, _, rfl, rfl, bl_eq (k H1 s1) ?_⟩
      unfold canB
      rw [decide_eq_true hst, Bool.true_and, iv_len, stops_int (by have := W.n2; omega)]
      simp only [decide_eq_decide]
      have : Sv47.stops x.n ≤ x.n := by unfold Sv47.stops; omega
      omega
    · simp at h1
      refine bl_eq (k H (Same.refl H)) ?_
      unfold canB
      rw [decide_eq_false (by omega), Bool.false_and]
def coinN (x : Sv47.Node) : Nat := if x.coins.testBit (x.stage / 2) = true then 1 else 0
def spCoin (C : Addr) : Sp := fun vs H Q _ => ∃ (p o h : Addr) (ds : List Addr) (x : Sv47.Node), vs = [.ref p] ∧ NodeAt C H x p o h ds ∧ Q (.int (coinN x : Nat)) H
theorem scCoin : FnScope ["node"] ["node"] (defScope sCoin) := ⟨rfl, rfl, rfl, by decide +kernel, rfl, by decide +kernel, by decide +kernel⟩
theorem ok_coin {f C : Addr} {fd : FuncData} (F : Fun K "coin_of_round" "coin_of_round" sCoin f fd) (T : TN K C) : FnOk P w K mg base CX0 1 f fd ["node"] (spCoin C) := by
  refine F.ok scCoin (fun vs H Q E h => ?_) (fun cdv A outer s H vs Q E hr h => ?_)
  · obtain ⟨p, o, h, ds, x, rfl, _⟩ := h
    rfl
  · obtain ⟨p, o, h, ds, x, rfl, N, k⟩ := h
    obtain ⟨dx, ob⟩ := N.ob
    refine ⟨_, pss_one (ps_ret (pe_op op_and (pe_op op_shr (pe_fld (pv 0) rfl) (pe_op op_fdiv (pe_fld (pv 0) rfl) pe_int)) pe_int)), ?_⟩
    refine ⟨_, rfl, p, C, dx, _, _, rfl, ob, T.cl, T.co, ndF_coins _ _ _ _ _ _ _, _, rfl, p, C, dx, _, _, rfl, ob, T.cl, T.st, ndF_stage _ _ _ _ _ _ _, _, _, rfl, rfl, ⟨by decide, by decide⟩, _, _, rfl, rfl, (by show (0 : Int) ≤ (x.stage : Int) / 2; omega), _, _, rfl, rfl, ?_⟩
    show Q (.int (PySem.Builtin.bitAnd ((x.coins : Int) / 2 ^ ((x.stage : Int) / 2).toNat) 1)) H
    rw [show ((x.stage : Int) / 2).toNat = x.stage / 2 by omega, bit_one]
    exact k
end
end Pn
set_option Elab.async false
set_option linter.all false
set_option maxRecDepth 100000
namespace Pn
open PySem L2 Cx1
theorem nextWord_eq (x : Sv47.Node) : Sv47.nextWord x = if x.stage % 2 = 0 then mostW x.there x.n else anyW x.there (coinN x) := rfl
theorem nextAnswer_eq (x : Sv47.Node) : Sv47.nextAnswer x = if x.stage % 2 = 0 ∨ x.answer.isSome = true then x.answer else ansOf x.there x.n := rfl
/-- what is none of the node is as it was -/
def Rest (H H' : Hp) (p o h : Addr) (ds : List Addr) : Prop := ∀ b u, H b = some u → b ≠ p → b ≠ o → b ≠ h → b ∉ ds → H' b = some u
/-- what was tracked is tracked -/
def Live (H H' : Hp) : Prop := ∀ b, H' b = none → H b = none
theorem Live.trans {H H1 H2 : Hp} (a : Live H H1) (b : Live H1 H2) : Live H H2 := fun c e => a c (b c e)
theorem live_upd {H : Hp} {a : Addr} {o : HO} : Live H (upd H a o) := fun b e => by
  by_cases h : b = a
  · rw [h, upd_same] at e
    cases e
  · rw [upd_ne h] at e
    exact e
theorem same_live {H H' : Hp} (s : Same H H') : Live H H' := fun _ e => s.free e
theorem nodup_set {α : Type} : ∀ {l : List α} {i : Nat} {a : α}, l.Nodup → a ∉ l → (l.set i a).Nodup
  | [], _, _, _, _ => List.nodup_nil
  | x :: l, 0, a, h, n => List.nodup_cons.mpr ⟨fun m => n (List.mem_cons_of_mem _ m), (List.nodup_cons.mp h).2⟩
  | x :: l, i + 1, a, h, n => by
    obtain ⟨h1, h2⟩ := List.nodup_cons.mp h
    refine List.nodup_cons.mpr ⟨fun m => ?_, nodup_set h2 fun m => n (List.mem_cons_of_mem _ m)⟩
    rcases List.mem_or_eq_of_mem_set m with q | q
    · exact h1 q
    · exact n (by rw [q]; exact List.mem_cons_self)
section
variable {P : Program} {w : World} {K : PySem.W.Frag} {mg : Str → Option Value} {base : Heap}
def spGoOn (C : Addr) : Sp := fun vs H Q _ => ∃ (p o h : Addr) (ds : List Addr) (x : Sv47.Node), vs = [.ref p] ∧ NodeAt C H x p o h ds ∧ Cq.WF x ∧ x.stage < 128 ∧
  ∀ ds' H', NodeAt C H' x.goes.1 p o h ds' → Rest H H' p o h ds → (∀ d ∈ ds', d ∈ ds ∨ H d = none) → Live H H' → Q .non H'
theorem scGoOn : FnScope ["node", "words", "word"] ["node"] (defScope sGoOn) := ⟨rfl, rfl, rfl, by decide +kernel, rfl, by decide +kernel, by decide +kernel⟩
theorem ok_goon {f C : Addr} {fd : FuncData} (F : Fun K "go_on" "go_on" sGoOn f fd) (T : TN K C) (C1 : Cal P w K mg base 1 "words_there" ["node"] (spThere C)) (C2 : Cal P w K mg base 1 "is_first_of_round" ["stage"] spFirst)
    (C3 : Cal P w K mg base 1 "word_of_most" ["words", "n"] (spWMost K)) (C4 : Cal P w K mg base 1 "word_of_any" ["words", "coin"] (spWAny K)) (C5 : Cal P w K mg base 1 "coin_of_round" ["node"] (spCoin C)) (C6 : Cal P w K mg base 2 "answer_of" ["words", "n"] (spAnsOf K)) :
    FnOk P w K mg base CX0 3 f fd ["node"] (spGoOn C) := by
  refine F.ok scGoOn (fun vs H Q E h => ?_) (fun cdv A outer s H vs Q E hr h => ?_)
  · obtain ⟨p, o, h, ds, x, rfl, _⟩ := h
    rfl
  · obtain ⟨p, o, h, ds, x, rfl, N, W, hst, k⟩ := h
    obtain ⟨dx, ob⟩ := N.ob
    refine ⟨_, pss_cons (ps_set (i := 1) scGoOn.nd rfl (Or.inl rfl) (pe_c C1 hr (pa_cons (pv 0) pa_nil)))
      (pss_cons (ps_if (pt_val (pe_c C2 hr (pa_cons (pe_fld (pv 0) rfl) pa_nil)))
        (pss_one (ps_set (i := 2) scGoOn.nd rfl (Or.inl rfl) (pe_c C3 hr (pa_cons (pv 1) (pa_cons (pe_fld (pv 0) rfl) pa_nil)))))
        (pss_cons (ps_set (i := 2) scGoOn.nd rfl (Or.inl rfl) (pe_c C4 hr (pa_cons (pv 1) (pa_cons (pe_c C5 hr (pa_cons (pv 0) pa_nil)) pa_nil))))
          (pss_one (ps_if (pt_cmp (pc_isN (pe_fld (pv 0) rfl))) (pss_one (ps_fld (pv 0) (pe_c C6 hr (pa_cons (pv 1) (pa_cons (pe_fld (pv 0) rfl) pa_nil))) rfl)) pss_nil))))
      (pss_cons (ps_asg pe_dnewK (pg_sub (pe_fld (pv 0) rfl) (pe_fld (pv 0) rfl) set_list))
      (pss_cons (ps_expr (pe_bm PySem.F.plainAttrs_list PySem.F.slot_list_append PySem.F.type_list_append mt_append (pe_fld (pv 0) rfl) (pa_cons (pv 2) pa_nil)))
      (pss_one (ps_fldaug (pv 0) pe_int in_add))))), ?_⟩
    refine ⟨_, rfl, p, o, h, ds, x, rfl, N, W, hst, fun l H1 hl hl1 s1 => ?_⟩
    have ob1 := s1 _ _ ob
    have hpo : p ≠ o := (lst_ne_ins N.ow ob).symm
    have hph : p ≠ h := (lst_ne_ins N.hl ob).symm
    have hoh : o ≠ h := ne_of N.ow N.hl (by
      intro z
      have z' : iv x.own = ds.map V.ref := HO.lst.inj z
      have e1 := iv_get W.last
      rw [z', List.getElem?_map] at e1
      cases q : ds[x.stage]? with
      | none => rw [q] at e1; cases e1
      | some d => rw [q] at e1; cases e1)
    have hpd : ∀ d ∈ ds, d ≠ p ∧ d ≠ o ∧ d ≠ h := fun d hd => by
      obtain ⟨t, ht⟩ := List.getElem?_of_mem hd
      have hd1 := N.dc t d ht
      exact ⟨(ins_ne_dk ob hd1).symm, (lst_ne_dk N.ow hd1).symm, (lst_ne_dk N.hl hd1).symm⟩
    have hle := W.le
    -- the rest of the body
    have tail : ∀ (a' : V) (wd : Nat) (H2 : Hp), wd = Sv47.nextWord x → a' = ansV (Sv47.nextAnswer x) → H2 p = some (.ins C dx (ndF x.me x.n x.coins x.stage o a' h)) → (∀ b u, H1 b = some u → b ≠ p → H2 b = some u) →
        (∀ b, H2 b = none → H1 b = none) →
        tSeq (tAsg tDNewK (gSub (tFld K (tVar 0) "heard") (tFld K (tVar 0) "stage") rSetL)) (tSeq (tDrop (tBM K "list" rAppend (tFld K (tVar 0) "own_words") (tCons (tVar 2) tNil))) (sFldAug K (tVar 0) (tC (.int 1)) rAdd "stage"))
          { nx := fun _ H' => Q .non H', rt := Q } [some (.ref p), some (.ref l), some (.int (wd : Int))] H2 := by
      intro a' wd H2 ewd ea hp2 kp fr
      intro d hd
      have hd1 : H1 d = none := fr d hd
      have hd0 : H d = none := s1.free hd1
      have ob2 : (upd H2 d (.dK [])) p = some (.ins C dx (ndF x.me x.n x.coins x.stage o a' h)) := by rw [upd_ne (ne_of_none hp2 hd)]; exact hp2
      have hh1 : H2 h = some (.lst (ds.map V.ref)) := kp _ _ (s1 _ _ N.hl) hph.symm
      have hh2 : (upd H2 d (.dK [])) h = some (.lst (ds.map V.ref)) := by rw [upd_ne (ne_of_none hh1 hd)]; exact hh1
      refine ⟨_, rfl, p, C, dx, _, _, rfl, ob2, T.cl, T.hd, ndF_heard _ _ _ _ _ _ _, _, rfl, p, C, dx, _, _, rfl, ob2, T.cl, T.st, ndF_stage _ _ _ _ _ _ _, h, _, _, x.stage, rfl, rfl, hh2, ?_, ?_⟩
      · unfold ixN
        rw [List.length_map, N.len, if_pos (by omega), if_pos (by omega)]
        congr 1
      have hdp : d ≠ p := (ne_of_none hp2 hd).symm
      have hdh : d ≠ h := (ne_of_none hh1 hd).symm
      have ho1 : H2 o = some (.lst (iv x.own)) := kp _ _ (s1 _ _ N.ow) hpo.symm
      have hdo : d ≠ o := (ne_of_none ho1 hd).symm
      -- behind the store
      have ob3 : (upd (upd H2 d (.dK [])) h (.lst ((ds.map V.ref).set x.stage (.ref d)))) p = some (.ins C dx (ndF x.me x.n x.coins x.stage o a' h)) := by rw [upd_ne hph]; exact ob2
      have ow3 : (upd (upd H2 d (.dK [])) h (.lst ((ds.map V.ref).set x.stage (.ref d)))) o = some (.lst (iv x.own)) := by rw [upd_ne hoh, upd_ne hdo.symm]; exact ho1
      refine ⟨_, rfl, p, C, dx, _, _, rfl, ob3, T.cl, T.ow, ndF_own _ _ _ _ _ _ _, .inl ⟨rfl, _, .of ow3⟩, _, rfl, o, _, _, rfl, rfl, ow3, small (by rw [iv_len]; omega), ?_⟩
      have ob4 : (upd (upd (upd H2 d (.dK [])) h (.lst ((ds.map V.ref).set x.stage (.ref d)))) o (.lst (iv x.own ++ [.int (wd : Int)]))) p = some (.ins C dx (ndF x.me x.n x.coins x.stage o a' h)) := by rw [upd_ne hpo]; exact ob3
      refine ⟨_, rfl, p, C, dx, _, _, rfl, ob4, T.cl, T.st, ndF_stage _ _ _ _ _ _ _, _, _, rfl, rfl, dx, _, ob4, (by show 7 < 1000; decide), ?_⟩
      rw [ndF_putStage]
      have hst2 : x.goes.1.stage = x.stage + 1 := Cq.goes_stage x (by intro e; have := W.pos; rw [e] at this; exact absurd this (by decide))
      refine k (ds.set x.stage d) _ ⟨⟨dx, ?_⟩, ?_, ?_, by rw [List.length_set]; exact N.len, fun t e he => ?_, ?_⟩ (fun b u e n1 n2 n3 n4 => ?_) (fun e he => ?_) ((same_live s1).trans (Live.trans (H1 := H2) (fun b e => fr b e) (live_upd.trans (live_upd.trans (live_upd.trans live_upd)))))
      · rw [upd_same, hst2, Cq.goes_answer, ← ea, show (((x.stage + 1 : Nat)) : Int) = (x.stage : Int) + 1 by omega]
        rfl
      · rw [upd_ne hpo.symm, upd_same, Cq.goes_own, ← ewd, iv_app]
        rfl
      · rw [upd_ne hph.symm, upd_ne hoh.symm, upd_same, List.map_set]
      · rw [Cq.dct_goes]
        by_cases ht : t = x.stage
        · subst ht
          rw [List.getElem?_set_self (by rw [N.len]; exact hst)] at he
          cases he
          rw [if_pos rfl, upd_ne hdp, upd_ne hdo, upd_ne hdh, upd_same]
          rfl
        · rw [List.getElem?_set_ne (Ne.symm ht)] at he
          obtain ⟨m1, m2, m3⟩ := hpd e (List.mem_of_getElem? he)
          have e1 := kp _ _ (s1 _ _ (N.dc t e he)) m1
          rw [if_neg ht, upd_ne m1, upd_ne m2, upd_ne m3, upd_ne (ne_of_none e1 hd)]
          exact e1
      · refine nodup_set N.nd fun hm => ?_
        obtain ⟨t, ht⟩ := List.getElem?_of_mem hm
        rw [N.dc t d ht] at hd0
        cases hd0
      · have e1 := kp b u (s1 b u e) n1
        rw [upd_ne n1, upd_ne n2, upd_ne n3, upd_ne (ne_of_none e1 hd)]
        exact e1
      · rcases List.mem_or_eq_of_mem_set he with q | q
        · exact .inl q
        · rw [q]
          exact .inr hd0
    refine ⟨_, rfl, p, C, dx, _, _, rfl, ob1, T.cl, T.st, ndF_stage _ _ _ _ _ _ _, x.stage, rfl, _, rfl, ite2 (fun h1 => ?_) (fun h1 => ?_)⟩
    · -- the first stage of a round
      simp at h1
      have h2 : x.stage % 2 = 0 := by omega
      refine ⟨_, rfl, _, rfl, p, C, dx, _, _, rfl, ob1, T.cl, T.n, ndF_n _ _ _ _ _ _ _, l, x.there, x.n, rfl, .of hl1, ?_⟩
      refine tail (ansV x.answer) _ H1 (by rw [nextWord_eq, if_pos h2]) (by rw [nextAnswer_eq, if_pos (.inl h2)]) ob1 (fun b u e _ => e) fun b e => e
    · simp at h1
      have h2 : ¬ x.stage % 2 = 0 := by omega
      refine ⟨_, rfl, _, rfl, p, o, h, ds, x, rfl, N.same s1, l, x.there, coinN x, rfl, .of hl1, ?_⟩
      refine ⟨_, rfl, p, C, dx, _, _, rfl, ob1, T.cl, T.an, ndF_answer _ _ _ _ _ _ _, _, rfl, ?_⟩
      cases ean : x.answer with
      | none =>
        refine iteT ?_
        refine ⟨_, rfl, _, rfl, p, C, dx, _, _, rfl, ob1, T.cl, T.n, ndF_n _ _ _ _ _ _ _, l, x.there, x.n, rfl, by have := W.n2; omega, .of hl1, _, rfl, p, C, dx, _, rfl, ob1, T.cl, T.an, (by show 7 < 1000; decide), ?_⟩
        rw [ndF_putAnswer]
        refine tail _ _ _ (by rw [nextWord_eq, if_neg h2]) (by rw [nextAnswer_eq, if_neg (by rw [ean]; simp [h2])]) upd_same (fun b u e n1 => by rw [upd_ne n1]; exact e) fun b e => ?_
        by_cases hb : b = p
        · rw [hb, upd_same] at e
          cases e
        · rw [upd_ne hb] at e
          exact e
      | some v =>
        refine iteF ?_
        refine tail (ansV x.answer) _ H1 (by rw [nextWord_eq, if_neg h2]) (by rw [nextAnswer_eq, if_pos (.inr (by rw [ean]; rfl))]) ob1 (fun b u e _ => e) fun b e => e
end
end Pn
set_option Elab.async false
set_option linter.all false
set_option maxRecDepth 100000
namespace Pn
open PySem L2 Cx1
theorem bytes_goes (y : Sv47.Node) (W : Cq.WF y) (hs : y.stage < 128) : y.goes.2.flatMap Sv47.Letter.bytes = lettersOf y.goes.1 (Sv47.nextWord y) y.goes.1.n := by
  have e : y.goes.1.stage = y.stage + 1 := Cq.goes_stage y (by intro e; have := W.pos; rw [e] at this; exact absurd this (by decide))
  show (y.others.map fun i => (⟨i, y.me, y.stage + 1, Sv47.nextWord y⟩ : Sv47.Letter)).flatMap Sv47.Letter.bytes = _
  rw [List.flatMap_map]
  unfold lettersOf
  rw [e]
  rfl
theorem goes_at (y : Sv47.Node) (W : Cq.WF y) (hs : y.stage < 128) : y.goes.1.own[y.goes.1.stage]? = some (Sv47.nextWord y) := by
  have e : y.goes.1.stage = y.stage + 1 := Cq.goes_stage y (by intro e; have := W.pos; rw [e] at this; exact absurd this (by decide))
  rw [e, Cq.goes_own, List.getElem?_append_right (by rw [W.len]; omega), W.len, show y.stage + 1 - (y.stage + 1) = 0 by omega]
  rfl
section
variable {P : Program} {w : World} {K : PySem.W.Frag} {mg : Str → Option Value} {base : Heap}
def spTakeL (K : PySem.W.Frag) (C : Addr) : Sp := fun vs H Q _ => ∃ (p o h a : Addr) (ds : List Addr) (x : Sv47.Node) (l : Sv47.Letter), vs = [.ref p, .ref a] ∧ NodeAt C H x p o h ds ∧ Cq.WF x ∧ SqL K H a (iv l.bytes) ∧ Sv47.right x l = true ∧
  ∀ b ds' H', NodeAt C H' (Sv47.receive x l).1 p o h ds' → H b = none → H' b = some (.lst (iv ((Sv47.receive x l).2.flatMap Sv47.Letter.bytes))) → Rest H H' p o h ds → (∀ d ∈ ds', d ∈ ds ∨ H d = none) → Live H H' → Q (.ref b) H'
theorem scTakeL : FnScope ["node", "letter", "sent"] ["node", "letter"] (defScope sTakeL) := ⟨rfl, rfl, rfl, by decide +kernel, rfl, by decide +kernel, by decide +kernel⟩
theorem ok_takel {f C : Addr} {fd : FuncData} (F : Fun K "take_letter" "take_letter" sTakeL f fd) (T : TN K C) (kS : Kon mg "STAGE_AT_letters" 2) (kF : Kon mg "FROM_AT" 1) (kW : Kon mg "WORD_AT" 3)
    (C1 : Cal P w K mg base 1 "is_news" ["node", "letter"] (spNews K C)) (C2 : Cal P w K mg base 3 "can_go_on" ["node"] (spCan C)) (C3 : Cal P w K mg base 3 "go_on" ["node"] (spGoOn C)) (C4 : Cal P w K mg base 2 "letters_to_others" ["node"] (spLetters C)) :
    FnOk P w K mg base CX0 4 f fd ["node", "letter"] (spTakeL K C) := by
  refine F.ok scTakeL (fun vs H Q E h => ?_) (fun cdv A outer s H vs Q E hr h => ?_)
  · obtain ⟨p, o, h, a, ds, x, l, rfl, _⟩ := h
    rfl
  · obtain ⟨p, o, h, a, ds, x, l, rfl, N, W, hS, hrt, k⟩ := h
    obtain ⟨dx, ob⟩ := N.ob
    have hu := hu_of hr
    have hrt' := hrt
    unfold Sv47.right at hrt'
    simp only [Bool.and_eq_true, decide_eq_true_eq, bne_iff_ne, ne_eq, beq_iff_eq] at hrt'
    obtain ⟨r1, r2, r3, r4, r5⟩ := hrt'
    have r4 : l.stage ≤ 128 := r4
    refine ⟨_, pss_cons (ps_set (i := 2) scTakeL.nd rfl (Or.inl rfl) (pe_lst pa_nil))
      (pss_cons (ps_if (pt_not (pt_val (pe_c C1 hr (pa_cons (pv 0) (pa_cons (pv 1) pa_nil))))) (pss_one (ps_ret (pv 2))) pss_nil)
      (pss_cons (ps_dput hu (pe_ix ix_list (pe_fld (pv 0) rfl) (pe_ix ix_list (pv 1) (pe_k kS) (fun _ _ => rfl)) (fun _ _ => rfl)) (pe_ix ix_list (pv 1) (pe_k kF) (fun _ _ => rfl)) (pe_ix ix_list (pv 1) (pe_k kW) (fun _ _ => rfl)) rfl)
      (pss_cons (ps_while PassesOwn.never (pt_val (pe_c C2 hr (pa_cons (pv 0) pa_nil)))
        (pss_cons (ps_expr (pe_c C3 hr (pa_cons (pv 0) pa_nil)))
          (pss_one (ps_expr (pe_bm PySem.F.plainAttrs_list PySem.F.slot_list_extend PySem.F.type_list_extend mt_extend (pv 2) (pa_cons (pe_c C4 hr (pa_cons (pv 0) pa_nil)) pa_nil))))))
      (pss_one (ps_ret (pv 2)))))), ?_⟩
    refine ⟨(by show 0 ≤ sizeLine; decide), fun b hb => ?_⟩
    have s1 : Same H (upd H b (.lst [])) := same_upd hb
    have N1 := N.same s1
    have hS1 : SqL K (upd H b (.lst [])) a (iv l.bytes) := s1.seq hS
    refine ⟨_, rfl, _, rfl, p, o, h, a, ds, x, l, rfl, N1, hS1, r4, _, rfl, ?_⟩
    by_cases hnews : newsB x l = true
    · rw [hnews]
      refine iteF ?_
      unfold newsB at hnews
      simp only [Bool.not_eq_true', Bool.or_eq_false_iff, decide_eq_false_iff_not] at hnews
      obtain ⟨⟨w1, w2⟩, w3⟩ := hnews
      have hst : l.stage < 128 := by omega
      have hlook : Cq.look (Cq.dct x l.stage) l.sender = none := by
        rw [← Cq.from_eq]
        cases q : x.from_ l.stage l.sender with
        | none => rfl
        | some v => rw [q] at w3; cases w3
      have erec : Sv47.receive x l = Sv47.goOn 129 (Cq.hear x l.stage l.sender l.word) := by
        unfold Sv47.receive
        rw [if_neg]
        · rfl
        · rintro (z | z | z)
          · exact w1 z
          · have z : 128 ≤ l.stage := z
            omega
          · rw [w3] at z
            cases z
      obtain ⟨d, hd⟩ : ∃ d, ds[l.stage]? = some d := ⟨_, List.getElem?_eq_getElem (by rw [N.len]; exact hst)⟩
      have hd1 := N1.dc _ _ hd
      have W1 := Cq.wf_hear W (t := l.stage) (i := l.sender) (w := l.word) (by omega) hst r3 r2 r5 hlook
      have ob1 := s1 _ _ ob
      refine ⟨_, rfl, a, _, _, _, rfl, rfl, hS1, at_of (j := 3) rfl rfl, _, rfl, p, C, dx, _, _, rfl, ob1, T.cl, T.hd, ndF_heard _ _ _ _ _ _ _, _, rfl, a, _, _, _, rfl, rfl, hS1, at_of (j := 2) rfl rfl, h, _, _, _, rfl, rfl, .of N1.hl, atI_nat (by rw [List.getElem?_map, hd]; rfl),
        _, rfl, a, _, _, _, rfl, rfl, hS1, at_of (j := 1) rfl rfl, d, _, rfl, DPut.k (k := Sum.inl (l.sender : Int)) hd1 (small (by rw [dv_len]; have := W.dct_len l.stage; omega)), ?_⟩
      have hval : valV (dv (Cq.dct x l.stage)) (Sum.inl (l.sender : Int) : Key) = none := by rw [dv_val, hlook]; rfl
      rw [putK_new _ hval, dv_snoc]
      -- the node with the word heard
      have nb : ∀ u v, (upd H b (.lst [])) u = some v → H u = some v ∨ u = b := fun u v e => by
        by_cases z : u = b
        · exact .inr z
        · rw [upd_ne z] at e
          exact .inl e
      have dne : ∀ e ∈ ds, e ≠ p ∧ e ≠ o ∧ e ≠ h ∧ e ≠ b := fun e he => by
        obtain ⟨t, ht⟩ := List.getElem?_of_mem he
        have q := N.dc t e ht
        exact ⟨(ins_ne_dk ob q).symm, (lst_ne_dk N.ow q).symm, (lst_ne_dk N.hl q).symm, ne_of_none q hb⟩
      obtain ⟨dp, dO, dh, db⟩ := dne d (List.mem_of_getElem? hd)
      have N2 : NodeAt C (upd (upd H b (.lst [])) d (.dK (dv (Cq.dct x l.stage ++ [(l.sender, l.word)])))) (Cq.hear x l.stage l.sender l.word) p o h ds := by
        refine ⟨⟨dx, by rw [upd_ne dp.symm]; exact ob1⟩, by rw [upd_ne dO.symm]; exact N1.ow, by rw [upd_ne dh.symm]; exact N1.hl, N.len, fun t e he => ?_, N.nd⟩
        rw [Cq.dct_hear]
        by_cases ht : l.stage = t
        · subst ht
          rw [hd] at he
          cases he
          rw [if_pos rfl, upd_same]
        · rw [if_neg ht, upd_ne (fun z => ht (by rw [z] at he; exact nd_ix N.nd hd he))]
          exact N1.dc t e he
      -- the loop
      refine ⟨fun m σ H2 => ∃ (y : Sv47.Node) (j : Nat) (out : List Sv47.Letter) (ds2 : List Addr), σ = [some (.ref p), some (.ref a), some (.ref b)] ∧ NodeAt C H2 y p o h ds2 ∧ Cq.WF y ∧ m = 129 - y.stage ∧ 129 ≤ j + y.stage ∧
          Sv47.goOn 129 (Cq.hear x l.stage l.sender l.word) = ((Sv47.goOn j y).1, out ++ (Sv47.goOn j y).2) ∧ H2 b = some (.lst (iv (out.flatMap Sv47.Letter.bytes))) ∧ (out.flatMap Sv47.Letter.bytes).length ≤ 128 * y.stage ∧ Rest H H2 p o h ds ∧ (∀ d ∈ ds2, d ∈ ds ∨ H d = none) ∧ Live H H2,
        ⟨_, _, 129, [], ds, rfl, N2, W1, rfl, Nat.le_add_right _ _, rfl, ?_, Nat.zero_le _, ?_, fun d hd => .inl hd, live_upd.trans live_upd⟩, ?_⟩
      · rw [upd_ne db.symm]
        exact upd_same
      · intro u v e _ _ _ n4
        rw [upd_ne (fun z => n4 (by rw [z]; exact List.mem_of_getElem? hd)), upd_ne (ne_of_none e hb)]
        exact e
      · rintro m σ H2 ⟨y, j, out, ds2, rfl, Ny, Wy, rfl, hj, eg, hb2, hlen, rs, hds, lv⟩
        refine ⟨_, rfl, p, o, h, ds2, y, rfl, Ny, Wy, fun H3 s3 => ⟨_, rfl, ?_⟩⟩
        have hb3 := s3 _ _ hb2
        have N3 := Ny.same s3
        refine ite2 (fun hc => ?_) (fun hc => ?_)
        · have hcan := (canB_iff y).mp hc
          obtain ⟨j', rfl⟩ : ∃ j', j = j' + 1 := ⟨j - 1, by have := hcan.1; omega⟩
          have hsy := Cq.goes_stage y (by intro e; have := Wy.pos; rw [e] at this; exact absurd this (by decide))
          refine ⟨_, fun σ' H' q => q, ?_⟩
          refine ⟨_, rfl, p, o, h, ds2, y, rfl, N3, Wy, hcan.1, fun ds3 H4 N4 rs4 hds4 lv4 => ?_⟩
          have hb4 : H4 b = some (.lst (iv (out.flatMap Sv47.Letter.bytes))) := by
            obtain ⟨dy, oby⟩ := N3.ob
            refine rs4 b _ hb3 (lst_ne_ins hb3 oby) (fun z => ?_) (fun z => ?_) (fun z => ?_)
            · rw [z] at hb
              rw [N.ow] at hb
              cases hb
            · rw [z] at hb
              rw [N.hl] at hb
              cases hb
            · obtain ⟨t, ht⟩ := List.getElem?_of_mem z
              have q := N3.dc t b ht
              rw [hb3] at q
              cases q
          have hn16 : y.goes.1.n ≤ 16 := Wy.n16
          refine ⟨_, rfl, .inl ⟨rfl, _, .of hb4⟩, _, rfl, p, o, h, ds3, y.goes.1, Sv47.nextWord y, rfl, N4, goes_at y Wy hcan.1, hn16, fun b5 H5 hb5 hb5' s5 => ?_⟩
          have hbb : b ≠ b5 := ne_of_none hb4 hb5
          have hl5 := lettersOf_len y.goes.1 (Sv47.nextWord y) y.goes.1.n
          have hsl := Wy.stage_le
          refine ⟨b, b5, _, _, rfl, rfl, s5 _ _ hb4, hb5', small' (by rw [iv_len, iv_len]; omega), ?_⟩
          have eb : iv (out.flatMap Sv47.Letter.bytes) ++ iv (lettersOf y.goes.1 (Sv47.nextWord y) y.goes.1.n) = iv ((out ++ y.goes.2).flatMap Sv47.Letter.bytes) := by
            rw [List.flatMap_append, bytes_goes y Wy hcan.1, iv_app]
          rw [eb]
          have N5 := N4.same s5
          obtain ⟨dy, oby⟩ := N5.ob
          have nbp : b ≠ p := lst_ne_ins (s5 _ _ hb4) oby
          have nbo : b ≠ o := fun z => by rw [z, N.ow] at hb; cases hb
          have nbh : b ≠ h := fun z => by rw [z, N.hl] at hb; cases hb
          have nbd : ∀ e ∈ ds3, e ≠ b := fun e he z => by
            obtain ⟨t, ht⟩ := List.getElem?_of_mem he
            have q := N5.dc t e ht
            rw [z, s5 _ _ hb4] at q
            cases q
          have hcs := hcan.1
          refine ⟨129 - y.goes.1.stage, by omega, y.goes.1, j', out ++ y.goes.2, ds3, rfl, N5.keep (upd_ne nbp.symm) (upd_ne nbo.symm) (upd_ne nbh.symm) (fun e he => upd_ne (nbd e he)), Cq.wf_goes Wy hcan.1, rfl, by omega, ?_, upd_same, ?_, ?_, ?_, ((lv.trans (same_live s3)).trans lv4).trans ((same_live s5).trans live_upd)⟩
          · rw [eg, Cq.goOn_can hcan, List.append_assoc]
          · rw [List.flatMap_append, List.length_append, bytes_goes y Wy hcan.1, hsy]
            omega
          · intro u v e n1 n2 n3 n4
            have e2 := s3 _ _ (rs u v e n1 n2 n3 n4)
            have n5 : u ∉ ds2 := fun z => by
              rcases hds u z with q | q
              · exact n4 q
              · rw [q] at e
                cases e
            have e3 := s5 _ _ (rs4 u v e2 n1 n2 n3 n5)
            rw [upd_ne (ne_of_none e hb)]
            exact e3
          · intro e he
            rcases hds4 e he with q | q
            · exact hds e q
            · exact .inr (lv e (s3.free q))
        · have hcan : ¬ Cq.can y := fun z => hc ((canB_iff y).mpr z)
          refine ⟨_, rfl, ?_⟩
          rw [Cq.goOn_not hcan] at eg
          have e1 : Sv47.receive x l = (y, out) := by
            rw [erec, eg]
            simp
          refine k b ds2 H3 ?_ hb ?_ ?_ hds (lv.trans (same_live s3))
          · rw [e1]
            exact N3
          · rw [e1]
            exact hb3
          · intro u v e n1 n2 n3 n4
            exact s3 _ _ (rs u v e n1 n2 n3 n4)
    · rw [Bool.not_eq_true] at hnews
      rw [hnews]
      refine iteT ⟨_, rfl, ?_⟩
      have erec : Sv47.receive x l = (x, []) := by
        unfold Sv47.receive
        rw [if_pos]
        unfold newsB at hnews
        simp only [Bool.not_eq_false', Bool.or_eq_true, decide_eq_true_eq] at hnews
        rcases hnews with (z | z) | z
        · exact .inl z
        · exact .inr (.inl (by show 128 ≤ l.stage; omega))
        · exact .inr (.inr z)
      refine k b ds _ ?_ hb ?_ (fun u v e _ _ _ _ => s1 u v e) (fun d hd => .inl hd) (same_live s1)
      · rw [erec]
        exact N1
      · rw [erec]
        exact upd_same
end
end Pn
set_option Elab.async false
set_option linter.all false
set_option maxRecDepth 100000
namespace Pn
open PySem L2 Cx1
theorem bit_255 (c k : Nat) : PySem.Builtin.bitAnd ((c : Int) / 2 ^ (8 * k)) 255 = ((c / 256 ^ k % 256 : Nat) : Int) := by
  rw [PyProof.Rows.bitAnd_m8, div_pow_nat, Nat.pow_mul]
  show (((c / 256 ^ k : Nat) : Int)) % 256 = _
  omega
section
variable {P : Program} {w : World} {K : PySem.W.Frag} {mg : Str → Option Value} {base : Heap}
def spByteA : Sp := fun vs H Q _ => ∃ a : Option Nat, vs = [ansV a] ∧ Q (.int (Sv47.oneMore a : Nat)) H
theorem scByteA : FnScope ["answer"] ["answer"] (defScope sByteA) := ⟨rfl, rfl, rfl, by decide +kernel, rfl, by decide +kernel, by decide +kernel⟩
theorem ok_bytea {f : Addr} {fd : FuncData} (F : Fun K "byte_of_answer" "byte_of_answer" sByteA f fd) : FnOk P w K mg base CX0 1 f fd ["answer"] spByteA := by
  refine F.ok scByteA (fun vs H Q E h => ?_) (fun cdv A outer s H vs Q E hr h => ?_)
  · obtain ⟨a, rfl, _⟩ := h
    rfl
  · obtain ⟨a, rfl, k⟩ := h
    refine ⟨_, pss_one (ps_ret (pe_ifExp (pt_cmp (pc_isN (pv 0))) pe_int (pe_op op_add (pv 0) pe_int))), ?_⟩
    refine ⟨_, rfl, _, rfl, ?_⟩
    cases a with
    | none => exact iteT k
    | some v =>
      refine iteF ⟨_, rfl, _, _, rfl, rfl, ?_⟩
      have k : Q (.int ((v + 1 : Nat) : Int)) H := k
      rw [show ((v + 1 : Nat) : Int) = (v : Int) + 1 by omega] at k
      exact k
/-- a new list of these numbers, all else as it was -/
def Makes (H : Hp) (Q : VK) (l : List Nat) : Prop := ∀ a H', H a = none → H' a = some (.lst (iv l)) → Same H H' → Q (.ref a) H'
def spBytesC : Sp := fun vs H Q _ => ∃ c : Nat, vs = [.int (c : Int)] ∧ Makes H Q (Sv47.little 8 c)
theorem scBytesC : FnScope ["coins", "place"] ["coins"] (defScope sBytesC) := ⟨rfl, rfl, rfl, by decide +kernel, rfl, by decide +kernel, by decide +kernel⟩
/-- the words of a comprehension over a range, one number a turn -/
theorem iv_range_succ (f : Nat → Nat) (i : Nat) : iv ((List.range i).map f) ++ [V.int (f i : Int)] = iv ((List.range (i + 1)).map f) := by
  rw [List.range_succ, List.map_append, iv_app]
  rfl
theorem ok_bytesc {f : Addr} {fd : FuncData} (F : Fun K "bytes_of_coins" "bytes_of_coins" sBytesC f fd) (zr : mg "range" = none) (kW : Kon mg "WORDS_AT" 16) (kC : Kon mg "COINS_AT" 8) : FnOk P w K mg base CX0 1 f fd ["coins"] spBytesC := by
  refine F.ok scBytesC (fun vs H Q E h => ?_) (fun cdv A outer s H vs Q E hr h => ?_)
  · obtain ⟨a, rfl, _⟩ := h
    rfl
  · obtain ⟨c, rfl, k⟩ := h
    refine ⟨_, pss_one (ps_ret (pe_lc (own := [("place", 1)]) rfl scBytesC.nd (pi_range1 rfl zr (pa_cons (pe_op op_sub (pe_k kW) (pe_k kC)) pa_nil)) (blkOk_by (N := ["coins", "place"]) (sc := defScope sBytesC) (by decide +kernel)) (fun _ _ _ _ _ => pg_name (i := 1) scBytesC.nd rfl (Or.inl rfl)) (fun _ _ _ _ _ => pts_nil)
      (fun _ _ _ _ _ => pe_op op_and (pe_op op_shr (pv 0) (pe_op op_mul pe_int (pv 1))) pe_int))), ?_⟩
    refine ⟨_, _, rfl, rfl, 8, rfl, by decide, by decide, fun D hD => ?_⟩
    refine lc_range (lo := 0) (n := 8) (fun i H2 => H2 D = some (.lst (iv ((List.range i).map fun i => c / 256 ^ i % 256))) ∧ Same H H2) ⟨upd_same, same_upd hD⟩ ?_ ?_
    · rintro i H2 hi ⟨h1, s1⟩
      refine ⟨rfl, yesT ⟨_, rfl, _, rfl, _, _, rfl, rfl, .inl ⟨by decide, by decide⟩, _, _, rfl, rfl, (by show (0 : Int) ≤ 8 * (0 + (i : Int)); omega), _, _, rfl, rfl, _, h1, small (by rw [iv_len, List.length_map, List.length_range]; omega), ?_, ?_⟩⟩
      · rw [upd_same]
        show some (HO.lst (_ ++ [V.int (PySem.Builtin.bitAnd ((c : Int) / 2 ^ (8 * (0 + (i : Int))).toNat) 255)])) = _
        rw [show (8 * (0 + (i : Int))).toNat = 8 * i by omega, bit_255, iv_range_succ]
      · intro b u e
        rw [upd_ne (ne_of_none e hD)]
        exact s1 b u e
    · rintro H2 ⟨h1, s1⟩
      exact k D H2 hD h1 s1
def spBytesH : Sp := fun vs H Q _ => ∃ (d : Addr) (l : List (Nat × Nat)), vs = [.ref d] ∧ H d = some (.dK (dv l)) ∧ Makes H Q ((List.range 16).map fun i => Sv47.oneMore (Cq.look l i))
theorem scBytesH : FnScope ["words", "sender"] ["words"] (defScope sBytesH) := ⟨rfl, rfl, rfl, by decide +kernel, rfl, by decide +kernel, by decide +kernel⟩
theorem ok_bytesh {f : Addr} {fd : FuncData} (F : Fun K "bytes_of_heard" "bytes_of_heard" sBytesH f fd) (zr : mg "range" = none) (kM : Kon mg "MOST_NODES" 16) : FnOk P w K mg base CX0 1 f fd ["words"] spBytesH := by
  refine F.ok scBytesH (fun vs H Q E h => ?_) (fun cdv A outer s H vs Q E hr h => ?_)
  · obtain ⟨d, l, rfl, _⟩ := h
    rfl
  · obtain ⟨d, l, rfl, hd, k⟩ := h
    have hu := hu_of hr
    refine ⟨_, pss_one (ps_ret (pe_lc (own := [("sender", 1)]) rfl scBytesH.nd (pi_range1 rfl zr (pa_cons (pe_k kM) pa_nil)) (blkOk_by (N := ["words", "sender"]) (sc := defScope sBytesH) (by decide +kernel)) (fun _ _ _ _ _ => pg_name (i := 1) scBytesH.nd rfl (Or.inl rfl)) (fun _ _ _ _ _ => pts_nil)
      (fun _ _ _ _ _ => pe_ifExp (pt_cmp (pc_din hu (pv 1) (pv 0))) (pe_op op_add (pe_dget hu (pv 0) (pv 1) (fun _ _ => rfl)) pe_int) pe_int))), ?_⟩
    refine ⟨16, rfl, by decide, by decide, fun D hD => ?_⟩
    refine lc_range (lo := 0) (n := 16) (fun i H2 => H2 D = some (.lst (iv ((List.range i).map fun i => Sv47.oneMore (Cq.look l i)))) ∧ Same H H2) ⟨upd_same, same_upd hD⟩ ?_ ?_
    · rintro i H2 hi ⟨h1, s1⟩
      have hd2 := s1 _ _ hd
      have done : ∀ z : Int, z = ((Sv47.oneMore (Cq.look l i) : Nat) : Int) → ∃ acc, H2 D = some (.lst acc) ∧ acc.length < sizeLine ∧ (upd H2 D (.lst (acc ++ [V.int z]))) D = some (.lst (iv ((List.range (i + 1)).map fun i => Sv47.oneMore (Cq.look l i)))) ∧ Same H (upd H2 D (.lst (acc ++ [V.int z]))) := by
        intro z ez
        refine ⟨_, h1, small (by rw [iv_len, List.length_map, List.length_range]; omega), ?_, ?_⟩
        · rw [upd_same, ez, iv_range_succ]
        · intro b u e
          rw [upd_ne (ne_of_none e hD)]
          exact s1 b u e
      refine ⟨rfl, yesT ⟨_, rfl, _, rfl, d, _, rfl, DGet.k (k := Sum.inl ((0 : Int) + (i : Int))) hd2, _, rfl, ?_⟩⟩
      rw [Int.zero_add, dv_val]
      cases q : Cq.look l i with
      | none => exact iteF (done 0 (by rw [q]; rfl))
      | some v =>
        refine iteT ⟨_, rfl, _, rfl, d, V.int (v : Int), rfl, ?_, _, _, rfl, rfl, done _ ?_⟩
        · have g := DGet.k (k := Sum.inl (i : Int)) hd2
          rw [dv_val, q] at g
          exact g
        · rw [q]
          show (v : Int) + 1 = ((v + 1 : Nat) : Int)
          omega
    · rintro H2 ⟨h1, s1⟩
      exact k D H2 hD h1 s1
end
end Pn
set_option Elab.async false
set_option linter.all false
set_option maxRecDepth 100000
namespace Pn
open PySem L2 Cx1

/-! ### bytes_of_node -/
def rowsTo (x : Sv47.Node) (m : Nat) : List Nat := (List.range m).flatMap fun t => (List.range 16).map fun i => Sv47.oneMore (Cq.look (Cq.dct x t) i)
theorem rowsTo_succ (x : Sv47.Node) (m : Nat) : rowsTo x (m + 1) = rowsTo x m ++ (List.range 16).map fun i => Sv47.oneMore (Cq.look (Cq.dct x m) i) := by
  unfold rowsTo
  rw [List.range_succ (n := m), List.flatMap_append, List.flatMap_cons, List.flatMap_nil, List.append_nil]
theorem rowsTo_len (x : Sv47.Node) (m : Nat) : (rowsTo x m).length = m * 16 := Cq.flat_rows_len (fun t i => Sv47.oneMore (Cq.look (Cq.dct x t) i)) 16 m
def preS (x : Sv47.Node) : List Nat := Cq.head x ++ Sv47.little 8 x.coins ++ x.own ++ List.replicate (136 - x.own.length) 0
theorem owns_seven {x : Sv47.Node} (W : Cq.WF x) : Cq.owns x ++ List.replicate 7 0 = x.own ++ List.replicate (136 - x.own.length) 0 := by
  have hle := W.le
  refine Cq.ext_getD 0 ?_ fun i hi => ?_
  · rw [List.length_append, List.length_append, Cq.owns_len, List.length_replicate, List.length_replicate]
    omega
  · rw [List.length_append, Cq.owns_len, List.length_replicate] at hi
    have rep : ∀ n j : Nat, (List.replicate n 0).getD j 0 = 0 := fun n j => by
      rw [List.getD_eq_getElem?_getD, List.getElem?_replicate]
      split <;> rfl
    have lhs : (Cq.owns x ++ List.replicate 7 0).getD i 0 = x.own.getD i 0 := by
      by_cases h : i < 129
      · rw [Cq.getD_append_l _ _ _ _ (by rw [Cq.owns_len]; exact h)]
        unfold Cq.owns
        rw [Cq.getD_range_map _ _ _ _ (show i < Sv47.LAST + 1 from h)]
      · rw [Cq.getD_append_r _ _ _ _ (by rw [Cq.owns_len]; omega), rep, List.getD_eq_getElem?_getD, List.getElem?_eq_none (by omega)]
        rfl
    rw [lhs]
    by_cases h : i < x.own.length
    · rw [Cq.getD_append_l _ _ _ _ h]
    · rw [Cq.getD_append_r _ _ _ _ (by omega), rep, List.getD_eq_getElem?_getD, List.getElem?_eq_none (by omega)]
      rfl
theorem save_rows {x : Sv47.Node} (W : Cq.WF x) : Sv47.save x = preS x ++ rowsTo x 128 := by
  rw [Cq.save_eq, ← List.append_assoc (Cq.owns x), owns_seven W]
  have e : Cq.heards x = rowsTo x 128 := by
    unfold Cq.heards rowsTo
    congr 1
    funext t
    congr 1
    funext i
    rw [Cq.from_eq]
  rw [e]
  unfold preS
  simp only [List.append_assoc]
theorem rep_flat (n : Nat) : (List.replicate n [V.int 0]).flatten = iv (List.replicate n 0) := by
  induction n with
  | zero => rfl
  | succ n ih =>
    rw [List.replicate_succ, List.flatten_cons, ih, List.replicate_succ]
    rfl
section
variable {P : Program} {w : World} {K : PySem.W.Frag} {mg : Str → Option Value} {base : Heap}
def spBytesN (C : Addr) : Sp := fun vs H Q _ => ∃ (p o h : Addr) (ds : List Addr) (x : Sv47.Node), vs = [.ref p] ∧ NodeAt C H x p o h ds ∧ Cq.WF x ∧ Makes H Q (Sv47.save x)
theorem scBytesN : FnScope ["node", "head", "unused", "saved", "words"] ["node"] (defScope sBytesN) := ⟨rfl, rfl, rfl, by decide +kernel, rfl, by decide +kernel, by decide +kernel⟩
theorem ok_bytesn {f C : Addr} {fd : FuncData} (F : Fun K "bytes_of_node" "bytes_of_node" sBytesN f fd) (T : TN K C) (zl : mg "len" = none) (kH : Kon mg "HEARD_AT" 152) (kW : Kon mg "WORDS_AT" 16)
    (C1 : Cal P w K mg base 1 "byte_of_answer" ["answer"] spByteA) (C2 : Cal P w K mg base 1 "bytes_of_coins" ["coins"] spBytesC) (C3 : Cal P w K mg base 1 "bytes_of_heard" ["words"] spBytesH) : FnOk P w K mg base CX0 2 f fd ["node"] (spBytesN C) := by
  refine F.ok scBytesN (fun vs H Q E h => ?_) (fun cdv A outer s H vs Q E hr h => ?_)
  · obtain ⟨p, o, h, ds, x, rfl, _⟩ := h
    rfl
  · obtain ⟨p, o, h, ds, x, rfl, N, W, k⟩ := h
    obtain ⟨dx, ob⟩ := N.ob
    have hle := W.le
    refine ⟨_, pss_cons (ps_set (i := 1) scBytesN.nd rfl (Or.inl rfl) (pe_lst (pa_cons (pe_fld (pv 0) rfl) (pa_cons (pe_fld (pv 0) rfl) (pa_cons (pe_fld (pv 0) rfl) (pa_cons (pe_c C1 hr (pa_cons (pe_fld (pv 0) rfl) pa_nil)) (pa_cons pe_int (pa_cons pe_int (pa_cons pe_int (pa_cons pe_int pa_nil))))))))))
      (pss_cons (ps_set (i := 2) scBytesN.nd rfl (Or.inl rfl) (pe_op op_rep (pe_lst (pa_cons pe_int pa_nil)) (pe_op op_sub (pe_op op_sub (pe_k kH) (pe_k kW)) (pe_callB call_len_seq (by rfl) zl PySem.boot_len (pa_cons (pe_fld (pv 0) rfl) pa_nil)))))
      (pss_cons (ps_set (i := 3) scBytesN.nd rfl (Or.inl rfl) (pe_op op_cat (pe_op op_cat (pe_op op_cat (pv 1) (pe_c C2 hr (pa_cons (pe_fld (pv 0) rfl) pa_nil))) (pe_fld (pv 0) rfl)) (pv 2)))
      (pss_cons (ps_for PassesOwn.never rfl (pi_list (pe_fld (pv 0) rfl)) (pg_name (i := 4) scBytesN.nd rfl (Or.inl rfl))
        (pss_one (ps_expr (pe_bm PySem.F.plainAttrs_list PySem.F.slot_list_extend PySem.F.type_list_extend mt_extend (pv 3) (pa_cons (pe_c C3 hr (pa_cons (pv 4) pa_nil)) pa_nil)))))
      (pss_one (ps_ret (pv 3)))))), ?_⟩
    refine ⟨_, rfl, p, C, dx, _, _, rfl, ob, T.cl, T.me, ndF_me _ _ _ _ _ _ _, _, rfl, p, C, dx, _, _, rfl, ob, T.cl, T.n, ndF_n _ _ _ _ _ _ _, _, rfl, p, C, dx, _, _, rfl, ob, T.cl, T.st, ndF_stage _ _ _ _ _ _ _, _, rfl, p, C, dx, _, _, rfl, ob, T.cl, T.an, ndF_answer _ _ _ _ _ _ _, x.answer, rfl, (by show 8 ≤ sizeLine; decide), fun a1 h1 => ?_⟩
    have s1 : Same H (upd H a1 (.lst (iv (Cq.head x)))) := same_upd h1
    generalize hH1 : upd H a1 (.lst (iv (Cq.head x))) = H1 at s1
    have e1 : H1 a1 = some (.lst (iv (Cq.head x))) := by rw [← hH1]; exact upd_same
    show tSeq _ _ _ _ (upd H a1 (.lst (iv (Cq.head x))))
    rw [hH1]
    refine ⟨(by show 1 ≤ sizeLine; decide), fun a2 h2 => ?_⟩
    have s2 : Same H1 (upd H1 a2 (.lst [V.int 0])) := same_upd h2
    have ob2 := s2 _ _ (s1 _ _ ob)
    refine ⟨_, _, rfl, rfl, _, rfl, p, C, dx, _, _, rfl, ob2, T.cl, T.ow, ndF_own _ _ _ _ _ _ _, o, iv x.own, rfl, .inl (.of (s2 _ _ (s1 _ _ N.ow))), _, _, rfl, rfl, a2, _, _, rfl, rfl, upd_same, by rw [iv_len]; omega, by rw [iv_len]; omega, small' (by rw [iv_len]; show 1 * _ ≤ _; omega), fun a3 h3 => ?_⟩
    rw [iv_len, show ((152 : Int) - 16 - (x.own.length : Int)).toNat = 136 - x.own.length by omega, rep_flat]
    have s3 : Same H1 (upd (upd H1 a2 (.lst [V.int 0])) a3 (.lst (iv (List.replicate (136 - x.own.length) 0)))) := s2.trans (same_upd h3)
    generalize hH3 : upd (upd H1 a2 (.lst [V.int 0])) a3 (.lst (iv (List.replicate (136 - x.own.length) 0))) = H3 at s3
    have e3 : H3 a3 = some (.lst (iv (List.replicate (136 - x.own.length) 0))) := by rw [← hH3]; exact upd_same
    have s03 : Same H H3 := s1.trans s3
    have ob3 := s03 _ _ ob
    show tSeq _ _ _ _ H3
    refine ⟨_, rfl, _, rfl, p, C, dx, _, _, rfl, ob3, T.cl, T.co, ndF_coins _ _ _ _ _ _ _, x.coins, rfl, fun a4 H4 h4 e4 s4 => ?_⟩
    refine ⟨a1, a4, _, _, rfl, rfl, s4 _ _ (s3 _ _ e1), e4, small' (by rw [iv_len, iv_len, Cq.little_len]; show 8 + 8 ≤ _; decide), fun a5 h5 => ?_⟩
    have s5 : Same H4 (upd H4 a5 (.lst (iv (Cq.head x) ++ iv (Sv47.little 8 x.coins)))) := same_upd h5
    have s05 := (s03.trans s4).trans s5
    refine ⟨_, rfl, p, C, dx, _, _, rfl, s05 _ _ ob, T.cl, T.ow, ndF_own _ _ _ _ _ _ _, a5, o, _, _, rfl, rfl, upd_same, s05 _ _ N.ow, small' (by rw [List.length_append, iv_len, iv_len, iv_len, Cq.little_len]; show 8 + 8 + _ ≤ _; omega), fun a6 h6 => ?_⟩
    have s6 := s5.trans (same_upd (o := .lst (iv (Cq.head x) ++ iv (Sv47.little 8 x.coins) ++ iv x.own)) h6)
    refine ⟨_, rfl, a6, a3, _, _, rfl, rfl, upd_same, s6 _ _ (s4 _ _ e3), small' (by rw [List.length_append, List.length_append, iv_len, iv_len, iv_len, iv_len, Cq.little_len, List.length_replicate]; show 8 + 8 + _ + _ ≤ _; omega), fun a7 h7 => ?_⟩
    have epre : iv (Cq.head x) ++ iv (Sv47.little 8 x.coins) ++ iv x.own ++ iv (List.replicate (136 - x.own.length) 0) = iv (preS x) := by
      unfold preS
      rw [iv_app, iv_app, iv_app]
    rw [epre]
    have s7 : Same H (upd (upd (upd H4 a5 (.lst (iv (Cq.head x) ++ iv (Sv47.little 8 x.coins)))) a6 (.lst (iv (Cq.head x) ++ iv (Sv47.little 8 x.coins) ++ iv x.own))) a7 (.lst (iv (preS x)))) := ((s03.trans s4).trans s6).trans (same_upd h7)
    have h7' : H a7 = none := ((s03.trans s4).trans s6).free h7
    have hpre : (preS x).length = 152 := by
      unfold preS
      rw [List.length_append, List.length_append, List.length_append, Cq.little_len, List.length_replicate]
      show 8 + 8 + _ + _ = 152
      omega
    refine ⟨_, rfl, p, C, dx, _, _, rfl, s7 _ _ ob, T.cl, T.hd, ndF_heard _ _ _ _ _ _ _, h, rfl, ⟨_, .of (s7 _ _ N.hl)⟩, ?_⟩
    refine for_list (K := K) (a := h) (xs := ds.map V.ref) (fun i σ H2 => ∃ u, σ = [some (.ref p), some (.ref a1), some (.ref a3), some (.ref a7), u] ∧ H2 a7 = some (.lst (iv (preS x ++ rowsTo x i))) ∧ Same H H2) ⟨none, rfl, ?_, s7⟩ ?_ ?_ ?_
    · rw [upd_same]
      show some (HO.lst (iv (preS x))) = some (HO.lst (iv (preS x ++ [])))
      rw [List.append_nil]
    · rintro i σ H2 hi ⟨u, _, _, sm⟩
      exact .of (sm _ _ N.hl)
    · rintro i y σ H2 hi ⟨u, rfl, h8, sm⟩
      rw [List.getElem?_map] at hi
      obtain ⟨d, hd, rfl⟩ := Option.map_eq_some_iff.mp hi
      have hi128 : i < 128 := by rw [← N.len]; exact (List.getElem?_eq_some_iff.mp hd).1
      refine ⟨_, rfl, .inl ⟨rfl, _, .of h8⟩, _, rfl, d, _, rfl, sm _ _ (N.dc i d hd), fun a9 H9 h9 e9 s9 => ?_⟩
      refine ⟨a7, a9, _, _, rfl, rfl, s9 _ _ h8, e9, small' ?_, ?_⟩
      · rw [iv_len, iv_len, List.length_append, hpre, rowsTo_len, List.length_map, List.length_range]
        omega
      · refine ⟨_, rfl, ?_, ?_⟩
        · rw [upd_same, rowsTo_succ, ← List.append_assoc, iv_app (preS x ++ rowsTo x i)]
        · intro b v e
          rw [upd_ne (ne_of_none e h7')]
          exact s9 _ _ (sm b v e)
    · rintro σ H2 ⟨u, rfl, h8, sm⟩
      refine ⟨_, rfl, k a7 H2 h7' ?_ sm⟩
      rw [List.length_map, N.len] at h8
      rw [save_rows W]
      exact h8
end
end Pn
set_option Elab.async false
set_option linter.all false
set_option maxRecDepth 100000
namespace Pn
open PySem L2 Cx1
theorem bt_any : bootBuiltins "any" = some (.builtin "any") := by decide +kernel
theorem bt_all : bootBuiltins "all" = some (.builtin "all") := by decide +kernel
theorem at_getD {b : List Nat} {i : Nat} (h : i < b.length) : b[i]? = some (b.getD i 0) := by
  rw [List.getD_eq_getElem?_getD, List.getElem?_eq_getElem h]
  rfl
theorem iv_at {b : List Nat} {i : Nat} (h : i < b.length) : atI (iv b) (i : Int) = some (V.int (b.getD i 0 : Nat)) := atI_nat (iv_get (at_getD h))
theorem cut_iv {b : List Nat} {i j : Nat} (h : j ≤ b.length) (hij : i ≤ j) : cutV (iv b) (some (i : Int)) (some (j : Int)) = (Sv47Neutral.ints ((b.drop i).take (j - i))).map V.int := by
  rw [cut_nat (by rw [iv_len]; exact h) hij, ← iv_map]
  unfold iv
  rw [List.map_take, List.map_drop]
theorem any_zero {b : List Nat} {i n : Nat} : (Sv47Neutral.ints ((b.drop i).take n)).any (fun z => z != 0) = false ↔ ∀ j, i ≤ j → j < i + n → b.getD j 0 = 0 := by
  rw [List.any_eq_false]
  constructor
  · intro h j h1 h2
    by_cases hj : j < b.length
    · have hm : (b.getD j 0 : Nat) ∈ (b.drop i).take n := by
        refine List.mem_of_getElem? (i := j - i) ?_
        rw [List.getElem?_take_of_lt (by omega), List.getElem?_drop, show i + (j - i) = j by omega]
        exact at_getD hj
      have q := h ((b.getD j 0 : Nat) : Int) (List.mem_map.mpr ⟨_, hm, rfl⟩)
      rw [bne_iff_ne, ne_eq, Decidable.not_not] at q
      omega
    · rw [List.getD_eq_getElem?_getD, List.getElem?_eq_none (by omega)]
      rfl
  · intro h z hz
    obtain ⟨y, hy, rfl⟩ := List.mem_map.mp hz
    obtain ⟨k, hk⟩ := List.getElem?_of_mem hy
    have hkn : k < n := by
      refine Nat.lt_of_not_le fun q => ?_
      rw [List.getElem?_eq_none (by rw [List.length_take]; omega)] at hk
      cases hk
    rw [List.getElem?_take_of_lt hkn, List.getElem?_drop] at hk
    have e := h (i + k) (by omega) (by omega)
    rw [List.getD_eq_getElem?_getD, hk] at e
    have e : y = 0 := e
    subst e
    simp
theorem pg_pair {X : Cx} {i j kk : Nat} {K : PySem.W.Frag} {x y : Str} {px py pos : Pos} (hK : X.K = K) (hc : X.calm = true) (hN : X.N.Nodup) (hi : X.N[i]? = some x) (hj : X.N[j]? = some y) (hx : Loc X.env.scope x) (hy : Loc X.env.scope y) (fx : X.fn x = true ∨ X.env.scope.names.lookup x = some .local) (fy : X.fn y = true ∨ X.env.scope.names.lookup y = some .local) :
    PG X (.Tuple [.Name x px, .Name y py] kk pos) (gTup K 2 (gCons (gName i) (gCons (gName j) gNil))) := hK ▸ pg_tup hc (pgs_cons (pg_name hN hi hx fx) (pgs_cons (pg_name hN hj hy fy) pgs_nil))
section
variable {P : Program} {w : World} {K : PySem.W.Frag} {mg : Str → Option Value} {base : Heap}
/-- a truth value is told, new things may lie about -/
def Tells (H : Hp) (Q : VK) (p : Prop) : Prop := ∀ (c : Bool) (H' : Hp), (c = true ↔ p) → Same H H' → Q (.bl c) H'
structure HeadP (b : List Nat) : Prop where
  n2 : 2 ≤ b.getD 1 0
  n16 : b.getD 1 0 ≤ 16
  me : b.getD 0 0 < b.getD 1 0
  st : b.getD 2 0 ≤ 128
  an : b.getD 3 0 ≤ 2
  z4 : ∀ i, 4 ≤ i → i < 8 → b.getD i 0 = 0
def spHead (K : PySem.W.Frag) : Sp := fun vs H Q _ => ∃ (a : Addr) (b : List Nat), vs = [.ref a] ∧ SqL K H a (iv b) ∧ b.length = 2200 ∧ Tells H Q (HeadP b)
theorem scHead : FnScope ["saved"] ["saved"] (defScope sHead) := ⟨rfl, rfl, rfl, by decide +kernel, rfl, by decide +kernel, by decide +kernel⟩
theorem ok_head {f : Addr} {fd : FuncData} (F : Fun K "is_right_head" "is_right_head" sHead f fd) (za : mg "any" = none) (kM : Kon mg "ME_AT" 0) (kN : Kon mg "N_AT" 1) (kS : Kon mg "STAGE_AT_saved" 2) (kA : Kon mg "ANSWER_AT" 3) (kZ : Kon mg "HEAD_ZEROS_AT" 4) (kC : Kon mg "COINS_AT" 8)
    (kB : Kon mg "MOST_ANSWER_BYTE" 2) (C1 : Cal P w K mg base 1 "is_node_among" ["me", "n"] spAmong) (C0 : Cal P w K mg base 1 "is_stage" ["number"] spIsSt) : FnOk P w K mg base CX0 2 f fd ["saved"] (spHead K) := by
  refine F.ok scHead (fun vs H Q E h => ?_) (fun cdv A outer s H vs Q E hr h => ?_)
  · obtain ⟨a, b, rfl, _⟩ := h
    rfl
  · obtain ⟨a, b, rfl, hS, hb, k⟩ := h
    refine ⟨_, pss_cons (ps_if (pt_not (pt_val (pe_c C1 hr (pa_cons (pe_ix ix_list (pv 0) (pe_k kM) (fun _ _ => rfl)) (pa_cons (pe_ix ix_list (pv 0) (pe_k kN) (fun _ _ => rfl)) pa_nil))))) (pss_one (ps_ret pe_bl)) pss_nil)
      (pss_cons (ps_if (PW.pt (pw_or (pt_not (pt_val (pe_c C0 hr (pa_cons (pe_ix ix_list (pv 0) (pe_k kS) (fun _ _ => rfl)) pa_nil)))) (pw_or1 (pt_cmpR op_gt (pe_ix ix_list (pv 0) (pe_k kA) (fun _ _ => rfl)) (pe_k kB) (nomark _))))) (pss_one (ps_ret pe_bl)) pss_nil)
      (pss_one (ps_ret (pe_not (pe_callB (cr_anyI rfl) (by rfl) za bt_any (pa_cons (pe_slice sl_list (pv 0) (po_some (pe_k kZ)) (po_some (pe_k kC))) pa_nil)))))), ?_⟩
    refine ⟨_, rfl, a, _, _, _, rfl, rfl, hS, iv_at (i := 0) (by omega), _, rfl, a, _, _, _, rfl, rfl, hS, iv_at (i := 1) (by omega), _, _, rfl, _, rfl, ?_⟩
    refine ite2 (fun h1 => ?_) (fun h1 => ?_)
    · refine k false H ?_ (Same.refl H)
      rw [Bool.not_eq_true', decide_eq_false_iff_not] at h1
      constructor
      · intro z; cases z
      · intro z
        have := z.n2
        have := z.n16
        have := z.me
        exact absurd ⟨by omega, by omega, by omega, by omega⟩ h1
    · rw [Bool.not_eq_true', decide_eq_false_iff_not, Decidable.not_not] at h1
      obtain ⟨h11, h12, h13, h14⟩ := h1
      refine ⟨_, rfl, a, _, _, _, rfl, rfl, hS, iv_at (i := 2) (by omega), _, rfl, _, rfl, ?_⟩
      refine ite2 (fun h2 => ?_) (fun h2 => ?_)
      · rw [Bool.not_eq_true', decide_eq_false_iff_not] at h2
        refine iteT (k false H ?_ (Same.refl H))
        constructor
        · intro z; cases z
        · intro z
          have := z.st
          omega
      · rw [Bool.not_eq_true', decide_eq_false_iff_not, Decidable.not_not] at h2
        refine ⟨_, rfl, a, _, _, _, rfl, rfl, hS, iv_at (i := 3) (by omega), _, _, rfl, rfl, _, rfl, ?_⟩
        refine ite2 (fun h3 => ?_) (fun h3 => ?_)
        · have h3 := of_decide_eq_true h3
          refine k false H ?_ (Same.refl H)
          constructor
          · intro z; cases z
          · intro z
            have := z.an
            omega
        · have h3 : ¬ ((2 : Int) < (b.getD 3 0 : Nat)) := fun q => h3 (decide_eq_true q)
          refine ⟨_, rfl, _, rfl, _, rfl, a, _, rfl, hS, fun l hl => ?_⟩
          refine ⟨l, _, rfl, .of (by rw [upd_same, show (4 : Int) = ((4 : Nat) : Int) from rfl, show (8 : Int) = ((8 : Nat) : Int) from rfl, cut_iv (by omega) (by decide)]), _, rfl, k _ _ ?_ (same_upd hl)⟩
          rw [Bool.not_eq_true', any_zero]
          constructor
          · intro z
            exact ⟨by omega, by omega, by omega, by omega, by omega, z⟩
          · intro z
            exact z.z4

def spOwnFrom (K : PySem.W.Frag) : Sp := fun vs H Q _ => ∃ (a : Addr) (b : List Nat), vs = [.ref a] ∧ SqL K H a (iv b) ∧ b.length = 2200 ∧ b.getD 2 0 ≤ 128 ∧ ∀ l, H l = none → Q (.ref l) (upd H l (.lst (iv ((b.drop 16).take (b.getD 2 0 + 1)))))
theorem scOwnFrom : FnScope ["saved"] ["saved"] (defScope sOwnFrom) := ⟨rfl, rfl, rfl, by decide +kernel, rfl, by decide +kernel, by decide +kernel⟩
theorem ok_ownfrom {f : Addr} {fd : FuncData} (F : Fun K "own_words_from" "own_words_from" sOwnFrom f fd) (kW : Kon mg "WORDS_AT" 16) (kS : Kon mg "STAGE_AT_saved" 2) : FnOk P w K mg base CX0 1 f fd ["saved"] (spOwnFrom K) := by
  refine F.ok scOwnFrom (fun vs H Q E h => ?_) (fun cdv A outer s H vs Q E hr h => ?_)
  · obtain ⟨a, b, rfl, _⟩ := h
    rfl
  · obtain ⟨a, b, rfl, hS, hb, hst, k⟩ := h
    refine ⟨_, pss_one (ps_ret (pe_slice sl_list (pv 0) (po_some (pe_k kW)) (po_some (pe_op op_add (pe_op op_add (pe_k kW) (pe_ix ix_list (pv 0) (pe_k kS) (fun _ _ => rfl))) pe_int)))), ?_⟩
    refine ⟨_, rfl, _, rfl, _, rfl, a, _, _, _, rfl, rfl, hS, iv_at (i := 2) (by omega), _, _, rfl, rfl, _, _, rfl, rfl, _, rfl, a, _, rfl, hS, fun l hl => ?_⟩
    rw [show (16 : Int) = ((16 : Nat) : Int) from rfl, show ((16 : Nat) : Int) + ((b.getD 2 0 : Nat) : Int) + 1 = ((16 + b.getD 2 0 + 1 : Nat) : Int) by omega, cut_iv (by omega) (by omega), ← iv_map, show 16 + b.getD 2 0 + 1 - 16 = b.getD 2 0 + 1 by omega]
    exact k l hl
theorem own_said {b : List Nat} (hb : b.length = 2200) (h : b.getD 2 0 ≤ 128) : (b.drop 16).take (b.getD 2 0 + 1) = (Sv47.said b).own := by
  rw [Cq.said_own, Nat.min_eq_right h]
  refine Cq.ext_getD 0 ?_ fun i hi => ?_
  · rw [List.length_take, List.length_drop, List.length_map, List.length_range, hb]
    omega
  · rw [List.length_take, List.length_drop, hb] at hi
    rw [Cq.getD_range_map _ _ _ _ (by omega), List.getD_eq_getElem?_getD, List.getElem?_take_of_lt (by omega), List.getElem?_drop, ← List.getD_eq_getElem?_getD]
structure OwnP (b : List Nat) : Prop where
  zo : ∀ i, 16 + b.getD 2 0 < i → i < 152 → b.getD i 0 = 0
  ow : ∀ t, t ≤ b.getD 2 0 → Sv47.isWord t (b.getD (16 + t) 0) = true
def spOwn (K : PySem.W.Frag) : Sp := fun vs H Q _ => ∃ (a : Addr) (b : List Nat), vs = [.ref a] ∧ SqL K H a (iv b) ∧ b.length = 2200 ∧ b.getD 2 0 ≤ 128 ∧ Tells H Q (OwnP b)
theorem scOwn : FnScope ["saved", "own_words", "stage", "word"] ["saved"] (defScope sOwn) := ⟨rfl, rfl, rfl, by decide +kernel, rfl, by decide +kernel, by decide +kernel⟩
theorem ok_own {f : Addr} {fd : FuncData} (F : Fun K "are_right_own_words" "are_right_own_words" sOwn f fd) (za : mg "any" = none) (zA : mg "all" = none) (ze : mg "enumerate" = none) (zl : mg "len" = none) (kW : Kon mg "WORDS_AT" 16) (kH : Kon mg "HEARD_AT" 152)
    (C1 : Cal P w K mg base 1 "own_words_from" ["saved"] (spOwnFrom K)) (C2 : Cal P w K mg base 2 "is_word_of_stage" ["word", "stage"] spWord) : FnOk P w K mg base CX0 3 f fd ["saved"] (spOwn K) := by
  refine F.ok scOwn (fun vs H Q E h => ?_) (fun cdv A outer s H vs Q E hr h => ?_)
  · obtain ⟨a, b, rfl, _⟩ := h
    rfl
  · obtain ⟨a, b, rfl, hS, hb, hst, k⟩ := h
    refine ⟨_, pss_cons (ps_set (i := 1) scOwn.nd rfl (Or.inl rfl) (pe_c C1 hr (pa_cons (pv 0) pa_nil)))
      (pss_cons (ps_if (pt_val (pe_callB (cr_anyI rfl) (by rfl) za bt_any (pa_cons (pe_slice sl_list (pv 0) (po_some (pe_op op_add (pe_k kW) (pe_callB call_len_seq (by rfl) zl PySem.boot_len (pa_cons (pv 1) pa_nil)))) (po_some (pe_k kH))) pa_nil))) (pss_one (ps_ret pe_bl)) pss_nil)
      (pss_one (ps_ret (pe_callB (cr_all rfl) (by rfl) zA bt_all (pa_cons (pe_lc (own := [("stage", 2), ("word", 3)]) rfl scOwn.nd (pi_enum rfl ze (pa_cons (pv 1) pa_nil)) (blkOk_by (N := ["saved", "own_words", "stage", "word"]) (sc := defScope sOwn) (by decide +kernel))
        (fun _ _ _ _ _ => pg_pair (i := 2) (j := 3) (K := K) rfl rfl scOwn.nd rfl rfl (Or.inl rfl) (Or.inl rfl) (.inr rfl) (.inr rfl)) (fun _ _ _ _ _ => pts_nil)
        (fun _ _ _ _ _ => pe_c C2 hr (pa_cons (pv 3) (pa_cons (pv 2) pa_nil)))) pa_nil))))), ?_⟩
    have hlen : ((b.drop 16).take (b.getD 2 0 + 1)).length = b.getD 2 0 + 1 := by
      rw [List.length_take, List.length_drop, hb]
      omega
    refine ⟨_, rfl, a, b, rfl, hS, hb, hst, fun l hl => ?_⟩
    have s1 : Same H (upd H l (.lst (iv ((b.drop 16).take (b.getD 2 0 + 1))))) := same_upd hl
    refine ⟨_, rfl, _, rfl, l, _, rfl, .inl (.of upd_same), _, _, rfl, rfl, _, rfl, _, rfl, a, _, rfl, s1.seq hS, fun l2 hl2 => ?_⟩
    rw [iv_len, hlen, show (16 : Int) + ((b.getD 2 0 + 1 : Nat) : Int) = ((17 + b.getD 2 0 : Nat) : Int) by omega, show (152 : Int) = ((152 : Nat) : Int) from rfl, cut_iv (by omega) (by omega)]
    have s2 := s1.trans (same_upd (o := .lst ((Sv47Neutral.ints ((b.drop (17 + b.getD 2 0)).take (152 - (17 + b.getD 2 0)))).map V.int)) hl2)
    have hl12 : l ≠ l2 := fun e => by rw [← e, upd_same] at hl2; cases hl2
    refine ⟨l2, _, rfl, .of upd_same, _, rfl, ?_⟩
    refine ite2 (fun h1 => ?_) (fun h1 => ?_)
    · refine k false _ ?_ s2
      constructor
      · intro z; cases z
      · intro z
        have : (Sv47Neutral.ints ((b.drop (17 + b.getD 2 0)).take (152 - (17 + b.getD 2 0)))).any (fun z => z != 0) = false := any_zero.mpr fun j h2 h3 => z.zo j (by omega) (by omega)
        rw [this] at h1
        cases h1
    · rw [Bool.not_eq_true] at h1
      have hzo := any_zero.mp h1
      generalize hH2 : upd (upd H l (.lst (iv ((b.drop 16).take (b.getD 2 0 + 1))))) l2 (.lst ((Sv47Neutral.ints ((b.drop (17 + b.getD 2 0)).take (152 - (17 + b.getD 2 0)))).map V.int)) = H2 at s2
      have el : H2 l = some (.lst (iv ((b.drop 16).take (b.getD 2 0 + 1)))) := by
        rw [← hH2, upd_ne hl12]
        exact upd_same
      refine ⟨_, rfl, l, _, rfl, .of el, fun D hD => ?_⟩
      have hD0 : H D = none := s2.free hD
      refine ⟨fun i m H3 => m = b.getD 2 0 + 1 - i ∧ i ≤ b.getD 2 0 + 1 ∧ H3 D = some (.lst (((List.range i).map fun t => Sv47.isWord t (b.getD (16 + t) 0)).map V.bl)) ∧ Same H2 H3, ⟨_, rfl, Nat.zero_le _, upd_same, same_upd hD⟩, ?_⟩
      rintro i m H3 ⟨rfl, hi, hD3, s3⟩
      have el3 := s3 _ _ el
      by_cases hlt : i < b.getD 2 0 + 1
      · have hit : (iv ((b.drop 16).take (b.getD 2 0 + 1)))[i]? = some (V.int (b.getD (16 + i) 0 : Nat)) := by
          refine iv_get ?_
          rw [List.getElem?_take_of_lt hlt, List.getElem?_drop]
          exact at_getD (by omega)
        refine .inr ⟨⟨_, _, .of el3, hit⟩, fun H' => H' D = some (.lst (((List.range (i + 1)).map fun t => Sv47.isWord t (b.getD (16 + t) 0)).map V.bl)) ∧ Same H2 H', fun H' q => ⟨b.getD 2 0 + 1 - (i + 1), by omega, rfl, by omega, q⟩, ?_⟩
        rintro x H' ⟨T, y, rfl, hT, rfl, hy⟩
        have ey := hy _ (.of el3)
        rw [hit] at ey
        cases ey
        have hTD : T ≠ D := fun e => by rw [e, hD3] at hT; cases hT
        refine ⟨T, _, rfl, .of upd_same, rfl, _, _, rfl, _, _, rfl, rfl, rfl, yesT ⟨_, rfl, _, rfl, _, _, rfl, _, by rw [upd_ne hTD.symm]; exact hD3, small (by rw [List.length_map, List.length_map, List.length_range]; omega), ?_, ?_⟩⟩
        · rw [upd_same, wordI_nat, List.range_succ, List.map_append, List.map_append]
          rfl
        · intro c u e
          rw [upd_ne (ne_of_none e hD), upd_ne (ne_of_none (s3 _ _ e) hT)]
          exact s3 _ _ e
      · have e : i = b.getD 2 0 + 1 := by omega
        subst e
        refine .inl ⟨⟨_, .of el3, by rw [iv_len, hlen]; omega⟩, D, _, rfl, .of hD3, k _ _ ?_ (s2.trans s3)⟩
        rw [List.all_map, List.all_eq_true]
        constructor
        · intro z
          refine ⟨fun i h2 h3 => hzo i (by omega) (by omega), fun t ht => ?_⟩
          exact z t (List.mem_range.mpr (by omega))
        · intro z t ht
          exact z.ow t (by have := List.mem_range.mp ht; omega)
end
end Pn
set_option Elab.async false
set_option linter.all false
set_option maxRecDepth 100000
namespace Pn
open PySem L2 Cx1
def rowTo (b : List Nat) (t m : Nat) : List (Nat × Nat) := (List.range m).filterMap fun i => if Cq.ent b t i = 0 then none else some (i, Cq.ent b t i - 1)
theorem rowTo_succ (b : List Nat) (t m : Nat) : rowTo b t (m + 1) = rowTo b t m ++ if Cq.ent b t m = 0 then [] else [(m, Cq.ent b t m - 1)] := by
  unfold rowTo
  rw [List.range_succ, List.filterMap_append]
  congr 1
  rw [List.filterMap_cons]
  by_cases h : Cq.ent b t m = 0
  · rw [if_pos h, if_pos h]
    rfl
  · rw [if_neg h, if_neg h]
    rfl
theorem rowTo_none (b : List Nat) (t m : Nat) : Cq.look (rowTo b t m) m = none := by
  unfold rowTo
  rw [Cq.look_filterMap (Cq.ent b t) m _ List.nodup_range, if_neg (by simp)]
theorem rowTo_len (b : List Nat) (t m : Nat) : (rowTo b t m).length ≤ m := Nat.le_trans (List.length_filterMap_le _ _) (by simp)
theorem rowTo_16 (b : List Nat) (t : Nat) : rowTo b t 16 = Cq.row b t := rfl
section
variable {P : Program} {w : World} {K : PySem.W.Frag} {mg : Str → Option Value} {base : Heap}
def spHeardIn (K : PySem.W.Frag) : Sp := fun vs H Q _ => ∃ (a : Addr) (b : List Nat) (t : Nat), vs = [.ref a, .int (t : Int)] ∧ SqL K H a (iv b) ∧ b.length = 2200 ∧ t < 128 ∧ ∀ d H', H d = none → H' d = some (.dK (dv (Cq.row b t))) → Same H H' → Q (.ref d) H'
theorem scHeardIn : FnScope ["saved", "stage", "start", "words", "sender", "told"] ["saved", "stage"] (defScope sHeardIn) := ⟨rfl, rfl, rfl, by decide +kernel, rfl, by decide +kernel, by decide +kernel⟩
theorem ok_heardin {f : Addr} {fd : FuncData} (F : Fun K "heard_in_stage" "heard_in_stage" sHeardIn f fd) (ze : mg "enumerate" = none) (kH : Kon mg "HEARD_AT" 152) (kM : Kon mg "MOST_NODES" 16) : FnOk P w K mg base CX0 1 f fd ["saved", "stage"] (spHeardIn K) := by
  refine F.ok scHeardIn (fun vs H Q E h => ?_) (fun cdv A outer s H vs Q E hr h => ?_)
  · obtain ⟨a, b, t, rfl, _⟩ := h
    rfl
  · obtain ⟨a, b, t, rfl, hS, hb, ht, k⟩ := h
    have hu := hu_of hr
    refine ⟨_, pss_cons (ps_set (i := 2) scHeardIn.nd rfl (Or.inl rfl) (pe_op op_add (pe_k kH) (pe_op op_mul (pe_k kM) (pv 1))))
      (pss_cons (ps_set (i := 3) scHeardIn.nd rfl (Or.inl rfl) pe_dnewK)
      (pss_cons (ps_for PassesOwn.never rfl (pi_enum rfl ze (pa_cons (pe_slice sl_list (pv 0) (po_some (pv 2)) (po_some (pe_op op_add (pv 2) (pe_k kM)))) pa_nil)) (pg_pair (i := 4) (j := 5) (K := K) rfl rfl scHeardIn.nd rfl rfl (Or.inl rfl) (Or.inl rfl) (.inr rfl) (.inr rfl))
        (pss_one (ps_if (pt_cmpR op_gt (pv 5) pe_int (nomark _)) (pss_one (ps_dput hu (pv 3) (pv 4) (pe_op op_sub (pv 5) pe_int) rfl)) pss_nil)))
      (pss_one (ps_ret (pv 3))))), ?_⟩
    refine ⟨_, rfl, _, _, rfl, rfl, .inl ⟨by decide, by decide⟩, _, _, rfl, rfl, ?_⟩
    intro d hd
    have s1 : Same H (upd H d (.dK [])) := same_upd hd
    refine ⟨_, rfl, _, rfl, _, rfl, _, rfl, _, _, rfl, rfl, _, rfl, a, _, rfl, s1.seq hS, fun l hl => ?_⟩
    have ec : cutV (iv b) (some ((152 : Int) + 16 * (t : Int))) (some ((152 : Int) + 16 * (t : Int) + 16)) = iv ((b.drop (152 + 16 * t)).take 16) := by
      rw [show (152 : Int) + 16 * (t : Int) = ((152 + 16 * t : Nat) : Int) by omega, show ((152 + 16 * t : Nat) : Int) + 16 = ((152 + 16 * t + 16 : Nat) : Int) by omega, cut_iv (by omega) (by omega), ← iv_map, show 152 + 16 * t + 16 - (152 + 16 * t) = 16 by omega]
    have hlen : ((b.drop (152 + 16 * t)).take 16).length = 16 := by
      rw [List.length_take, List.length_drop, hb]
      omega
    refine ⟨l, _, rfl, .of upd_same, ?_⟩
    have hdl : d ≠ l := fun e => by rw [← e, upd_same] at hl; cases hl
    have hl0 : H l = none := s1.free hl
    refine ⟨fun i m σ H2 => m = 16 - i ∧ i ≤ 16 ∧ ∃ u v, σ = [some (.ref a), some (.int (t : Int)), some (.int ((152 : Int) + 16 * (t : Int))), some (.ref d), u, v] ∧ H2 d = some (.dK (dv (rowTo b t i))) ∧ H2 l = some (.lst (iv ((b.drop (152 + 16 * t)).take 16))) ∧ Same H H2,
      ⟨_, rfl, Nat.zero_le _, none, none, rfl, ?_, ?_, s1.trans (same_upd hl)⟩, ?_⟩
    · rw [upd_ne hdl]
      exact upd_same
    · rw [upd_same]
      exact congrArg (fun z => some (HO.lst z)) ec
    · rintro i m σ H2 ⟨rfl, hi, u, v, rfl, hd2, hl2, s2⟩
      by_cases hlt : i < 16
      · have hit : (iv ((b.drop (152 + 16 * t)).take 16))[i]? = some (V.int (Cq.ent b t i : Nat)) := by
          refine iv_get ?_
          rw [List.getElem?_take_of_lt hlt, List.getElem?_drop]
          exact at_getD (by omega)
        refine .inr ⟨⟨_, _, .of hl2, hit⟩, fun σ' H' => ∃ u v, σ' = [some (.ref a), some (.int (t : Int)), some (.int ((152 : Int) + 16 * (t : Int))), some (.ref d), u, v] ∧ H' d = some (.dK (dv (rowTo b t (i + 1)))) ∧ H' l = some (.lst (iv ((b.drop (152 + 16 * t)).take 16))) ∧ Same H H',
          fun σ' H' q => ⟨16 - (i + 1), by omega, rfl, by omega, q⟩, ?_⟩
        rintro x H' ⟨T, y, rfl, hT, rfl, hy⟩
        have ey := hy _ (.of hl2)
        rw [hit] at ey
        cases ey
        have s3 : Same H2 (upd H2 T (.tup [.int (i : Nat), V.int (Cq.ent b t i : Nat)])) := same_upd hT
        refine ⟨T, _, rfl, .of upd_same, rfl, _, _, rfl, _, _, rfl, rfl, ?_⟩
        refine ⟨_, rfl, _, _, rfl, rfl, _, rfl, ite2 (fun h1 => ?_) (fun h1 => ?_)⟩
        · have h1 := of_decide_eq_true h1
          have hne : ¬ Cq.ent b t i = 0 := by omega
          refine ⟨_, rfl, _, _, rfl, rfl, _, rfl, _, rfl, d, _, rfl, DPut.k (k := Sum.inl ((i : Nat) : Int)) (s3 _ _ hd2) (small (by rw [dv_len]; have := rowTo_len b t i; omega)), ?_⟩
          have hval : valV (dv (rowTo b t i)) (Sum.inl ((i : Nat) : Int) : Key) = none := by rw [dv_val, rowTo_none]; rfl
          refine ⟨_, _, rfl, ?_, ?_, ?_⟩
          · rw [upd_same, putK_new _ hval]
            show some (HO.dK (dv (rowTo b t i) ++ [((Sum.inl (i : Int) : Key), V.int (((Cq.ent b t i : Nat) : Int) - 1))])) = _
            rw [show ((Cq.ent b t i : Nat) : Int) - 1 = ((Cq.ent b t i - 1 : Nat) : Int) by omega, dv_snoc, rowTo_succ, if_neg hne]
          · rw [upd_ne hdl.symm]
            exact s3 _ _ hl2
          · intro c u' e
            rw [upd_ne (ne_of_none e hd)]
            exact s3 _ _ (s2 c u' e)
        · have h1 : ¬ ((0 : Int) < (Cq.ent b t i : Nat)) := fun q => h1 (decide_eq_true q)
          have he : Cq.ent b t i = 0 := by omega
          refine ⟨_, _, rfl, ?_, s3 _ _ hl2, s2.trans s3⟩
          rw [rowTo_succ, if_pos he, List.append_nil]
          exact s3 _ _ hd2
      · have e : i = 16 := by omega
        subst e
        refine .inl ⟨⟨_, .of hl2, by rw [iv_len, hlen]; omega⟩, _, rfl, k d H2 hd ?_ s2⟩
        exact hd2
def spHeardFrom (K : PySem.W.Frag) : Sp := fun vs H Q _ => ∃ (a : Addr) (b : List Nat), vs = [.ref a] ∧ SqL K H a (iv b) ∧ b.length = 2200 ∧
  ∀ (l : Addr) (ds : List Addr) (H' : Hp), H l = none → H' l = some (.lst (ds.map V.ref)) → ds.length = 128 → ds.Nodup → (∀ t d, ds[t]? = some d → H' d = some (.dK (dv (Cq.row b t))) ∧ H d = none) → Same H H' → Q (.ref l) H'
theorem scHeardFrom : FnScope ["saved", "stage"] ["saved"] (defScope sHeardFrom) := ⟨rfl, rfl, rfl, by decide +kernel, rfl, by decide +kernel, by decide +kernel⟩
theorem ok_heardfrom {f : Addr} {fd : FuncData} (F : Fun K "heard_from" "heard_from" sHeardFrom f fd) (zr : mg "range" = none) (kl : Kon mg "LAST_STAGE" 128) (C1 : Cal P w K mg base 1 "heard_in_stage" ["saved", "stage"] (spHeardIn K)) : FnOk P w K mg base CX0 2 f fd ["saved"] (spHeardFrom K) := by
  refine F.ok scHeardFrom (fun vs H Q E h => ?_) (fun cdv A outer s H vs Q E hr h => ?_)
  · obtain ⟨a, b, rfl, _⟩ := h
    rfl
  · obtain ⟨a, b, rfl, hS, hb, k⟩ := h
    refine ⟨_, pss_one (ps_ret (pe_lc (own := [("stage", 1)]) rfl scHeardFrom.nd (pi_range1 rfl zr (pa_cons (pe_k kl) pa_nil)) (blkOk_by (N := ["saved", "stage"]) (sc := defScope sHeardFrom) (by decide +kernel)) (fun _ _ _ _ _ => pg_name (i := 1) scHeardFrom.nd rfl (Or.inl rfl)) (fun _ _ _ _ _ => pts_nil)
      (fun _ _ _ _ _ => pe_c C1 hr (pa_cons (pv 0) (pa_cons (pv 1) pa_nil))))), ?_⟩
    refine ⟨128, rfl, by decide, by decide, fun D hD => ?_⟩
    refine lc_range (lo := 0) (n := 128) (fun i H2 => ∃ ds : List Addr, ds.length = i ∧ ds.Nodup ∧ H2 D = some (.lst (ds.map V.ref)) ∧ (∀ t d, ds[t]? = some d → H2 d = some (.dK (dv (Cq.row b t))) ∧ H d = none) ∧ Same H H2) ?_ ?_ ?_
    · exact ⟨[], rfl, List.nodup_nil, upd_same, (fun t d q => by simp at q), same_upd hD⟩
    · rintro i H2 hi ⟨ds, hl, hn, hD2, hds, sm⟩
      refine ⟨rfl, yesT ⟨_, rfl, _, rfl, a, b, i, by rw [Int.zero_add]; rfl, sm.seq hS, hb, hi, fun d H3 hd hd3 s3 => ?_⟩⟩
      have hdD : d ≠ D := fun e => by rw [e, hD2] at hd; cases hd
      refine ⟨ds.map V.ref, s3 _ _ hD2, small (by rw [List.length_map]; omega), ds ++ [d], ?_, ?_, ?_, ?_, ?_⟩
      · rw [List.length_append, hl]
        rfl
      · refine nd_snoc hn fun hm => ?_
        obtain ⟨t, ht⟩ := List.getElem?_of_mem hm
        rw [(hds t d ht).1] at hd
        cases hd
      · rw [upd_same, List.map_append]
        rfl
      · intro t e he
        by_cases ht : t < ds.length
        · rw [List.getElem?_append_left ht] at he
          have h1 := hds t e he
          have n1 : e ≠ D := fun z => by rw [z, hD2] at h1; cases h1.1
          rw [upd_ne n1]
          exact ⟨s3 _ _ h1.1, h1.2⟩
        · rw [List.getElem?_append_right (by omega)] at he
          have h0 : t - ds.length = 0 := by
            have := (List.getElem?_eq_some_iff.mp he).1
            simp at this
            omega
          rw [h0] at he
          have e1 : d = e := Option.some.inj he
          subst e1
          have e2 : t = i := by omega
          subst e2
          rw [upd_ne hdD]
          exact ⟨hd3, sm.free hd⟩
      · intro c u e
        rw [upd_ne (ne_of_none e hD)]
        exact s3 _ _ (sm c u e)
    · rintro H2 ⟨ds, hl, hn, hD2, hds, sm⟩
      exact k D ds H2 hD hD2 hl hn hds sm
end
end Pn
set_option Elab.async false
set_option linter.all false
set_option maxRecDepth 100000
namespace Pn
open PySem L2 Cx1
theorem dv_get {l : List (Nat × Nat)} {i : Nat} {k : Key} {v : V} (h : (dv l)[i]? = some (k, v)) : ∃ p : Nat × Nat, l[i]? = some p ∧ k = Sum.inl (p.1 : Int) ∧ v = V.int (p.2 : Int) := by
  unfold dv at h
  rw [List.getElem?_map] at h
  obtain ⟨p, hp, e⟩ := Option.map_eq_some_iff.mp h
  cases e
  exact ⟨p, hp, rfl, rfl⟩
theorem dv_at {l : List (Nat × Nat)} {i : Nat} {p : Nat × Nat} (h : l[i]? = some p) : (dv l)[i]? = some ((Sum.inl (p.1 : Int) : Key), V.int (p.2 : Int)) := by
  unfold dv
  rw [List.getElem?_map, h]
  rfl
section
variable {P : Program} {w : World} {K : PySem.W.Frag} {mg : Str → Option Value} {base : Heap}
abbrev OkW (t me n : Nat) (p : Nat × Nat) : Prop := p.1 < n ∧ p.1 ≠ me ∧ Sv47.isWord t p.2 = true
def spHeardW : Sp := fun vs H Q _ => ∃ (d : Addr) (l : List (Nat × Nat)) (t me n : Nat), vs = [.ref d, .int (t : Int), .int (me : Int), .int (n : Int)] ∧ H d = some (.dK (dv l)) ∧ Tells H Q (∀ p ∈ l, OkW t me n p)
theorem scHeardW : FnScope ["words", "stage", "me", "n", "sender", "word"] ["words", "stage", "me", "n"] (defScope sHeardW) := ⟨rfl, rfl, rfl, by decide +kernel, rfl, by decide +kernel, by decide +kernel⟩
theorem ok_heardw {f : Addr} {fd : FuncData} (F : Fun K "are_right_heard_words" "are_right_heard_words" sHeardW f fd) (C1 : Cal P w K mg base 1 "is_other_node" ["number", "me", "n"] spOther) (C2 : Cal P w K mg base 2 "is_word_of_stage" ["word", "stage"] spWord) : FnOk P w K mg base CX0 3 f fd ["words", "stage", "me", "n"] spHeardW := by
  refine F.ok scHeardW (fun vs H Q E h => ?_) (fun cdv A outer s H vs Q E hr h => ?_)
  · obtain ⟨d, l, t, me, n, rfl, _⟩ := h
    rfl
  · obtain ⟨d, l, t, me, n, rfl, hd, k⟩ := h
    refine ⟨_, pss_cons (ps_lock (ps_for PassesOwn.never rfl (pi_items (pv 0)) (pg_pair (i := 4) (j := 5) (K := K) rfl rfl scHeardW.nd rfl rfl (Or.inl rfl) (Or.inl rfl) (.inr rfl) (.inr rfl))
        (pss_one (ps_if (PW.pt (pw_or (pt_not (pt_val (pe_c C1 hr (pa_cons (pv 4) (pa_cons (pv 2) (pa_cons (pv 3) pa_nil)))))) (pw_or1 (pt_not (pt_val (pe_c C2 hr (pa_cons (pv 5) (pa_cons (pv 1) pa_nil)))))))) (pss_one (ps_ret pe_bl)) pss_nil))))
      (pss_one (ps_ret pe_bl)), ?_⟩
    refine ⟨d, _, hd, trivial, fun od => ?_⟩
    have hdf : (upd H d (.frz od (.dK (dv l)))) d = some (.frz od (.dK (dv l))) := upd_same
    refine ⟨_, rfl, d, od, dv l, rfl, hdf, ?_⟩
    -- unlocked again, all is as it was
    have back : ∀ H2 : Hp, (∀ c u, H c = some u → c ≠ d → H2 c = some u) → Same H (upd H2 d (.dK (dv l))) := fun H2 h2 c u e => by
      by_cases z : c = d
      · rw [z] at e ⊢
        rw [hd] at e
        cases e
        exact upd_same
      · rw [upd_ne z]
        exact h2 c u e z
    refine ⟨fun i m σ H2 => m = l.length - i ∧ i ≤ l.length ∧ ∃ u v, σ = [some (.ref d), some (.int (t : Int)), some (.int (me : Int)), some (.int (n : Int)), u, v] ∧ H2 d = some (.frz od (.dK (dv l))) ∧ (∀ c u, H c = some u → c ≠ d → H2 c = some u) ∧ ∀ p ∈ l.take i, OkW t me n p,
      ⟨_, rfl, Nat.zero_le _, none, none, rfl, hdf, (fun c u e z => by rw [upd_ne z]; exact e), (fun p hp => by simp at hp)⟩, ?_⟩
    rintro i m σ H2 ⟨rfl, hi, u, v, rfl, hd2, h2, hall⟩
    by_cases hlt : i < l.length
    · refine .inr ⟨⟨hd2, by rw [dv_len]; exact hlt⟩, fun σ' H' => ∃ u v, σ' = [some (.ref d), some (.int (t : Int)), some (.int (me : Int)), some (.int (n : Int)), u, v] ∧ H' d = some (.frz od (.dK (dv l))) ∧ (∀ c u, H c = some u → c ≠ d → H' c = some u) ∧ ∀ p ∈ l.take (i + 1), OkW t me n p,
        fun σ' H' q => ⟨l.length - (i + 1), by omega, rfl, by omega, q⟩, ?_⟩
      rintro x H' ⟨T, ky, y, hky, rfl, hT, rfl⟩
      obtain ⟨p, hp, rfl, rfl⟩ := dv_get hky
      have s3 : Same H2 (upd H2 T (.tup [kV (Sum.inl (p.1 : Int)), V.int (p.2 : Int)])) := same_upd hT
      refine ⟨T, _, rfl, .of upd_same, rfl, _, _, rfl, _, _, rfl, rfl, ?_⟩
      refine ⟨_, rfl, _, rfl, _, rfl, _, _, _, rfl, _, rfl, ite2 (fun h1 => ?_) (fun h1 => ?_)⟩
      · rw [Bool.not_eq_true', decide_eq_false_iff_not] at h1
        refine iteT ⟨s3 _ _ hd2, k false _ ?_ (back _ fun c u e z => s3 _ _ (h2 c u e z))⟩
        constructor
        · intro z; cases z
        · intro z
          obtain ⟨z1, z2, z3⟩ := z p (List.mem_of_getElem? hp)
          exact absurd ⟨by omega, by omega, by omega⟩ h1
      · rw [Bool.not_eq_true', decide_eq_false_iff_not, Decidable.not_not] at h1
        obtain ⟨g1, g2, g3⟩ := h1
        refine ⟨_, rfl, _, rfl, _, _, rfl, _, rfl, ?_⟩
        rw [wordI_nat]
        refine ite2 (fun h3 => ?_) (fun h3 => ?_)
        · rw [Bool.not_eq_true'] at h3
          refine ⟨s3 _ _ hd2, k false _ ?_ (back _ fun c u e z => s3 _ _ (h2 c u e z))⟩
          constructor
          · intro z; cases z
          · intro z
            obtain ⟨z1, z2, z3⟩ := z p (List.mem_of_getElem? hp)
            rw [z3] at h3
            cases h3
        · rw [Bool.not_eq_true', Bool.not_eq_false] at h3
          refine ⟨_, _, rfl, s3 _ _ hd2, (fun c u e z => s3 _ _ (h2 c u e z)), fun q hq => ?_⟩
          rw [List.take_add_one, hp] at hq
          rcases List.mem_append.mp hq with z | z
          · exact hall q z
          · have z : q ∈ [p] := z
            obtain rfl := List.mem_singleton.mp z
            exact ⟨by omega, by omega, h3⟩
    · have e : i = l.length := by omega
      subst e
      refine .inl ⟨⟨hd2, by rw [dv_len]; exact Nat.le_refl _⟩, hd2, ?_⟩
      refine k true _ ?_ (back H2 h2)
      rw [List.take_length] at hall
      exact ⟨fun _ => hall, fun _ => rfl⟩
end
end Pn
set_option Elab.async false
set_option linter.all false
set_option maxRecDepth 100000
namespace Pn
open PySem L2 Cx1
theorem cut_take {xs : List V} {j : Nat} (h : j ≤ xs.length) : cutV xs none (some (j : Int)) = xs.take j := by
  unfold cutV
  rw [sIx_nat (i := j) h]
  show (xs.drop 0).take (j - 0) = _
  rw [List.drop_zero, Nat.sub_zero]
def kvsAt (H : Hp) (d : Addr) : List (Key × V) := match H d with
  | some (.dK kvs) => kvs
  | _ => []
theorem kvsAt_eq {H : Hp} {d : Addr} {kvs : List (Key × V)} (h : H d = some (.dK kvs)) : kvsAt H d = kvs := by
  unfold kvsAt
  rw [h]
structure HeardP (b : List Nat) : Prop where
  hb : ∀ t i, t < b.getD 2 0 → t < 128 → i < 16 → Cq.ent b t i = 0
  ha : ∀ t i, b.getD 2 0 ≤ t → t < 128 → i < 16 → Cq.ent b t i ≠ 0 → i < b.getD 1 0 ∧ i ≠ b.getD 0 0 ∧ Sv47.isWord t (Cq.ent b t i - 1) = true
  few : b.getD 2 0 < 128 → (Cq.row b (b.getD 2 0)).length + 1 < b.getD 1 0 - Sv47.stops (b.getD 1 0)
theorem row_nil {b : List Nat} {t : Nat} : Cq.row b t = [] ↔ ∀ i, i < 16 → Cq.ent b t i = 0 := by
  constructor
  · intro h i hi
    refine Classical.byContradiction fun z => ?_
    have hm : (i, Cq.ent b t i - 1) ∈ Cq.row b t := Cq.mem_row.mpr ⟨hi, z, rfl⟩
    rw [h] at hm
    cases hm
  · intro h
    cases e : Cq.row b t with
    | nil => rfl
    | cons p l =>
      have hm : p ∈ Cq.row b t := by rw [e]; exact List.mem_cons_self
      obtain ⟨h1, h2, _⟩ := Cq.mem_row.mp hm
      exact absurd (h p.1 h1) h2
theorem row_ok {b : List Nat} {t me n : Nat} : (∀ p ∈ Cq.row b t, OkW t me n p) ↔ ∀ i, i < 16 → Cq.ent b t i ≠ 0 → i < n ∧ i ≠ me ∧ Sv47.isWord t (Cq.ent b t i - 1) = true := by
  constructor
  · intro h i hi hne
    exact h (i, Cq.ent b t i - 1) (Cq.mem_row.mpr ⟨hi, hne, rfl⟩)
  · intro h p hp
    obtain ⟨h1, h2, h3⟩ := Cq.mem_row.mp hp
    obtain ⟨a1, a2, a3⟩ := h p.1 h1 h2
    exact ⟨a1, a2, by rw [h3]; exact a3⟩
section
variable {P : Program} {w : World} {K : PySem.W.Frag} {mg : Str → Option Value} {base : Heap}
def spHeard (K : PySem.W.Frag) : Sp := fun vs H Q _ => ∃ (a : Addr) (b : List Nat), vs = [.ref a] ∧ SqL K H a (iv b) ∧ b.length = 2200 ∧ b.getD 2 0 ≤ 128 ∧ 2 ≤ b.getD 1 0 ∧ Tells H Q (HeardP b)
theorem scHeard : FnScope ["saved", "now", "heard", "stage"] ["saved"] (defScope sHeard) := ⟨rfl, rfl, rfl, by decide +kernel, rfl, by decide +kernel, by decide +kernel⟩
theorem ok_heard {f : Addr} {fd : FuncData} (F : Fun K "is_right_heard" "is_right_heard" sHeard f fd) (za : mg "any" = none) (zr : mg "range" = none) (zl : mg "len" = none) (kM : Kon mg "ME_AT" 0) (kN : Kon mg "N_AT" 1) (kS : Kon mg "STAGE_AT_saved" 2) (kl : Kon mg "LAST_STAGE" 128)
    (C1 : Cal P w K mg base 2 "heard_from" ["saved"] (spHeardFrom K)) (C2 : Cal P w K mg base 3 "are_right_heard_words" ["words", "stage", "me", "n"] spHeardW) (C3 : Cal P w K mg base 2 "enough_words" ["n"] spEnough) : FnOk P w K mg base CX0 4 f fd ["saved"] (spHeard K) := by
  refine F.ok scHeard (fun vs H Q E h => ?_) (fun cdv A outer s H vs Q E hr h => ?_)
  · obtain ⟨a, b, rfl, _⟩ := h
    rfl
  · obtain ⟨a, b, rfl, hS, hb, hst, hn2, k⟩ := h
    refine ⟨_, pss_cons (ps_set (i := 1) scHeard.nd rfl (Or.inl rfl) (pe_ix ix_list (pv 0) (pe_k kS) (fun _ _ => rfl)))
      (pss_cons (ps_set (i := 2) scHeard.nd rfl (Or.inl rfl) (pe_c C1 hr (pa_cons (pv 0) pa_nil)))
      (pss_cons (ps_if (pt_val (pe_callB (cr_anyD rfl) (by rfl) za bt_any (pa_cons (pe_slice sl_list (pv 2) po_none (po_some (pv 1))) pa_nil))) (pss_one (ps_ret pe_bl)) pss_nil)
      (pss_cons (ps_for PassesOwn.never rfl (pi_range2 rfl zr (pa_cons (pv 1) (pa_cons (pe_k kl) pa_nil))) (pg_name (i := 3) scHeard.nd rfl (Or.inl rfl))
        (pss_one (ps_if (pt_not (pt_val (pe_c C2 hr (pa_cons (pe_ix ix_list (pv 2) (pv 3) (fun _ _ => rfl)) (pa_cons (pv 3) (pa_cons (pe_ix ix_list (pv 0) (pe_k kM) (fun _ _ => rfl)) (pa_cons (pe_ix ix_list (pv 0) (pe_k kN) (fun _ _ => rfl)) pa_nil))))))) (pss_one (ps_ret pe_bl)) pss_nil)))
      (pss_one (ps_ret (pe_or (pe_cmpR op_eq (pv 1) (pe_k kl) (nomark _)) (pe_one (pe_cmpR op_lt (pe_callB call_lenD (by rfl) zl PySem.boot_len (pa_cons (pe_ix ix_list (pv 2) (pv 1) (fun _ _ => rfl)) pa_nil)) (pe_op op_sub (pe_c C3 hr (pa_cons (pe_ix ix_list (pv 0) (pe_k kN) (fun _ _ => rfl)) pa_nil)) pe_int) (nomark _))))))))), ?_⟩
    refine ⟨_, rfl, a, _, _, _, rfl, rfl, hS, iv_at (i := 2) (by omega), ?_⟩
    refine ⟨_, rfl, a, b, rfl, hS, hb, fun l ds H1 hl hl1 hlen hnd hds s1 => ?_⟩
    have hdc : ∀ t d, ds[t]? = some d → H1 d = some (.dK (dv (Cq.row b t))) := fun t d e => (hds t d e).1
    refine ⟨_, rfl, _, rfl, _, rfl, l, _, rfl, .of hl1, fun l2 hl2 => ?_⟩
    rw [cut_take (by rw [List.length_map, hlen]; exact hst), ← List.map_take]
    have s2 : Same H1 (upd H1 l2 (.lst ((ds.take (b.getD 2 0)).map V.ref))) := same_upd hl2
    have sm : ∀ d ∈ ds.take (b.getD 2 0), ∃ t, t < b.getD 2 0 ∧ ds[t]? = some d := fun d hd => by
      obtain ⟨t, ht⟩ := List.getElem?_of_mem hd
      have htl : t < b.getD 2 0 := by
        have := (List.getElem?_eq_some_iff.mp ht).1
        rw [List.length_take] at this
        omega
      rw [List.getElem?_take_of_lt htl] at ht
      exact ⟨t, htl, ht⟩
    refine ⟨l2, ds.take (b.getD 2 0), kvsAt H1, rfl, .of upd_same, fun d hd => ?_, _, rfl, ?_⟩
    · obtain ⟨t, _, ht⟩ := sm d hd
      rw [kvsAt_eq (hdc t d ht)]
      exact s2 _ _ (hdc t d ht)
    have hany : ((ds.take (b.getD 2 0)).any fun d => !(kvsAt H1 d).isEmpty) = false ↔ ∀ t i, t < b.getD 2 0 → t < 128 → i < 16 → Cq.ent b t i = 0 := by
      rw [List.any_eq_false]
      constructor
      · intro h t i ht ht2 hi
        obtain ⟨d, hd⟩ : ∃ d, ds[t]? = some d := ⟨_, List.getElem?_eq_getElem (by rw [hlen]; exact ht2)⟩
        have hm : d ∈ ds.take (b.getD 2 0) := List.mem_of_getElem? (i := t) (by rw [List.getElem?_take_of_lt ht]; exact hd)
        have q := h d hm
        rw [kvsAt_eq (hdc t d hd), Bool.not_eq_true, Bool.not_eq_false', List.isEmpty_iff] at q
        have q2 : Cq.row b t = [] := by
          cases e : Cq.row b t with
          | nil => rfl
          | cons p r => rw [e] at q; cases q
        exact row_nil.mp q2 i hi
      · intro h d hd
        obtain ⟨t, ht, ht2⟩ := sm d hd
        have ht3 : t < 128 := by rw [← hlen]; exact (List.getElem?_eq_some_iff.mp ht2).1
        rw [kvsAt_eq (hdc t d ht2), row_nil.mpr fun i hi => h t i ht ht3 hi]
        simp [dv]
    refine ite2 (fun h1 => ?_) (fun h1 => ?_)
    · refine k false _ ?_ (s1.trans s2)
      constructor
      · intro z; cases z
      · intro z
        rw [hany.mpr z.hb] at h1
        cases h1
    · rw [Bool.not_eq_true] at h1
      have hbef := hany.mp h1
      refine ⟨_, rfl, _, _, rfl, ⟨by omega, by omega, by decide, by decide⟩, ?_⟩
      refine for_range (lo := ((b.getD 2 0 : Nat) : Int)) (n := ((128 : Int) - ((b.getD 2 0 : Nat) : Int)).toNat) (fun i σ H2 => ∃ u, σ = [some (.ref a), some (.int ((b.getD 2 0 : Nat) : Int)), some (.ref l), u] ∧ Same H1 H2 ∧
          ∀ t i', b.getD 2 0 ≤ t → t < b.getD 2 0 + i → i' < 16 → Cq.ent b t i' ≠ 0 → i' < b.getD 1 0 ∧ i' ≠ b.getD 0 0 ∧ Sv47.isWord t (Cq.ent b t i' - 1) = true) ⟨none, rfl, s2, fun t i' h1 h2 => by omega⟩ ?_ ?_
      · rintro i σ H2 hi ⟨u, rfl, s3, hall⟩
        have ht : b.getD 2 0 + i < 128 := by omega
        obtain ⟨d, hd⟩ : ∃ d, ds[b.getD 2 0 + i]? = some d := ⟨_, List.getElem?_eq_getElem (by rw [hlen]; exact ht)⟩
        have ei : ((b.getD 2 0 : Nat) : Int) + (i : Int) = ((b.getD 2 0 + i : Nat) : Int) := by omega
        have hS3 : SqL K H2 a (iv b) := (s1.trans s3).seq hS
        refine ⟨_, rfl, _, rfl, l, _, _, _, rfl, rfl, .of (s3 _ _ hl1), at_of ei (by rw [List.getElem?_map, hd]; rfl), _, rfl, _, rfl, a, _, _, _, rfl, rfl, hS3, iv_at (i := 0) (by omega), _, rfl, a, _, _, _, rfl, rfl, hS3, iv_at (i := 1) (by omega),
          d, _, b.getD 2 0 + i, _, _, by rw [ei]; rfl, s3 _ _ (hdc _ d hd), fun c H4 hc s4 => ⟨_, rfl, ?_⟩⟩
        rw [row_ok] at hc
        refine ite2 (fun h2 => ?_) (fun h2 => ?_)
        · refine k false _ ?_ ((s1.trans s3).trans s4)
          constructor
          · intro z; cases z
          · intro z
            have : c = true := hc.mpr fun i' hi' hne => z.ha _ i' (by omega) ht hi' hne
            rw [this] at h2
            cases h2
        · rw [Bool.not_eq_true', Bool.not_eq_false] at h2
          refine ⟨_, rfl, s3.trans s4, fun t i' h3 h4 h5 h6 => ?_⟩
          by_cases e : t = b.getD 2 0 + i
          · subst e
            exact hc.mp h2 i' h5 h6
          · exact hall t i' h3 (by omega) h5 h6
      · rintro σ H2 ⟨u, rfl, s3, hall⟩
        rw [show ((128 : Int) - ((b.getD 2 0 : Nat) : Int)).toNat = 128 - b.getD 2 0 by omega] at hall
        have hha : ∀ t i, b.getD 2 0 ≤ t → t < 128 → i < 16 → Cq.ent b t i ≠ 0 → i < b.getD 1 0 ∧ i ≠ b.getD 0 0 ∧ Sv47.isWord t (Cq.ent b t i - 1) = true := fun t i h1 h2 => hall t i h1 (by omega)
        refine ⟨_, rfl, rfl, _, rfl, ite2 (fun h2 => ?_) (fun h2 => ?_)⟩
        · have h3 : b.getD 2 0 = 128 := by
            have := of_decide_eq_true h2
            injection this with this
            omega
          refine k true _ ?_ (s1.trans s3)
          exact ⟨fun _ => ⟨hbef, hha, fun z => by omega⟩, fun _ => rfl⟩
        · have h3 : b.getD 2 0 < 128 := by
            refine Nat.lt_of_le_of_ne hst fun z => h2 (decide_eq_true ?_)
            rw [z]
            rfl
          obtain ⟨d, hd⟩ : ∃ d, ds[b.getD 2 0]? = some d := ⟨_, List.getElem?_eq_getElem (by rw [hlen]; exact h3)⟩
          refine ⟨_, rfl, _, rfl, l, _, _, _, rfl, rfl, .of (s3 _ _ hl1), atI_nat (by rw [List.getElem?_map, hd]; rfl), d, _, rfl, s3 _ _ (hdc _ d hd), _, rfl, a, _, _, _, rfl, rfl, (s1.trans s3).seq hS, iv_at (i := 1) (by omega), _, rfl, _, _, rfl, rfl, _, _, rfl, rfl, ?_⟩
          refine k _ _ ?_ (s1.trans s3)
          rw [decide_eq_true_iff, dv_len, stops_int (by omega)]
          have : Sv47.stops (b.getD 1 0) ≤ b.getD 1 0 := by unfold Sv47.stops; omega
          constructor
          · intro z
            exact ⟨hbef, hha, fun _ => by omega⟩
          · intro z
            have := z.few h3
            omega
theorem good_iff (b : List Nat) : Cq.Good b ↔ HeadP b ∧ OwnP b ∧ HeardP b := by
  constructor
  · intro g
    exact ⟨⟨g.n2, g.n16, g.me, g.st, g.an, g.z4⟩, ⟨g.zo, g.ow⟩, ⟨g.hb, g.ha, g.few⟩⟩
  · rintro ⟨h1, h2, h3⟩
    exact ⟨h1.n2, h1.n16, h1.me, h1.st, h1.an, h1.z4, h2.zo, h2.ow, h3.hb, h3.ha, h3.few⟩
def spIsSaved (K : PySem.W.Frag) : Sp := fun vs H Q _ => ∃ (a : Addr) (b : List Nat), vs = [.ref a] ∧ SqL K H a (iv b) ∧ b.length = 2200 ∧ Tells H Q (Cq.Good b)
theorem scIsSaved : FnScope ["saved"] ["saved"] (defScope sIsSaved) := ⟨rfl, rfl, rfl, by decide +kernel, rfl, by decide +kernel, by decide +kernel⟩
theorem ok_issaved {f : Addr} {fd : FuncData} (F : Fun K "is_saved_node" "is_saved_node" sIsSaved f fd) (C1 : Cal P w K mg base 2 "is_right_head" ["saved"] (spHead K)) (C2 : Cal P w K mg base 3 "are_right_own_words" ["saved"] (spOwn K)) (C3 : Cal P w K mg base 4 "is_right_heard" ["saved"] (spHeard K)) : FnOk P w K mg base CX0 5 f fd ["saved"] (spIsSaved K) := by
  refine F.ok scIsSaved (fun vs H Q E h => ?_) (fun cdv A outer s H vs Q E hr h => ?_)
  · obtain ⟨a, b, rfl, _⟩ := h
    rfl
  · obtain ⟨a, b, rfl, hS, hb, k⟩ := h
    refine ⟨_, pss_one (ps_ret (pe_and (pe_c C1 hr (pa_cons (pv 0) pa_nil)) (pe_and (pe_c C2 hr (pa_cons (pv 0) pa_nil)) (pe_one (pe_c C3 hr (pa_cons (pv 0) pa_nil)))))), ?_⟩
    refine ⟨_, rfl, a, b, rfl, hS, hb, fun c1 H1 e1 s1 => ⟨_, rfl, ite2 (fun h1 => ?_) (fun h1 => ?_)⟩⟩
    · have p1 := e1.mp h1
      refine ⟨_, rfl, a, b, rfl, s1.seq hS, hb, p1.st, fun c2 H2 e2 s2 => ⟨_, rfl, ite2 (fun h2 => ?_) (fun h2 => ?_)⟩⟩
      · have p2 := e2.mp h2
        refine ⟨_, rfl, a, b, rfl, (s1.trans s2).seq hS, hb, p1.st, p1.n2, fun c3 H3 e3 s3 => k c3 H3 ?_ ((s1.trans s2).trans s3)⟩
        rw [e3, good_iff]
        exact ⟨fun p3 => ⟨p1, p2, p3⟩, fun z => z.2.2⟩
      · refine k false H2 ?_ (s1.trans s2)
        rw [good_iff]
        exact ⟨(fun z => by cases z), fun z => absurd (e2.mpr z.2.1) h2⟩
    · refine k false H1 ?_ s1
      rw [good_iff]
      exact ⟨(fun z => by cases z), fun z => absurd (e1.mpr z.1) h1⟩
end
end Pn
set_option Elab.async false
set_option linter.all false
set_option maxRecDepth 100000
namespace Pn
open PySem L2 Cx1
def numTo (l : List Nat) (i : Nat) : Nat := (l.drop (8 - i)).foldr (fun c n => n * 256 + c) 0
theorem numTo_succ {l : List Nat} (hl : l.length = 8) {i : Nat} (hi : i < 8) : numTo l (i + 1) = numTo l i * 256 + l.getD (7 - i) 0 := by
  unfold numTo
  rw [show 8 - (i + 1) = 7 - i by omega, List.drop_eq_getElem_cons (by omega), List.foldr_cons, show 7 - i + 1 = 8 - i by omega]
  congr 1
  rw [List.getD_eq_getElem?_getD, List.getElem?_eq_getElem (by omega)]
  rfl
section
variable {P : Program} {w : World} {K : PySem.W.Frag} {mg : Str → Option Value} {base : Heap}
def spCoinsFrom (K : PySem.W.Frag) : Sp := fun vs H Q _ => ∃ (a : Addr) (b : List Nat), vs = [.ref a] ∧ SqL K H a (iv b) ∧ b.length = 2200 ∧ (∀ z ∈ b, z < 256) ∧ ∀ H', Same H H' → Q (.int (Sv47.word b 8 8 : Nat)) H'
theorem scCoinsFrom : FnScope ["saved", "coins", "part"] ["saved"] (defScope sCoinsFrom) := ⟨rfl, rfl, rfl, by decide +kernel, rfl, by decide +kernel, by decide +kernel⟩
theorem ok_coinsfrom {f : Addr} {fd : FuncData} (F : Fun K "coins_from" "coins_from" sCoinsFrom f fd) (zv : mg "reversed" = none) (kC : Kon mg "COINS_AT" 8) (kW : Kon mg "WORDS_AT" 16) : FnOk P w K mg base CX0 1 f fd ["saved"] (spCoinsFrom K) := by
  refine F.ok scCoinsFrom (fun vs H Q E h => ?_) (fun cdv A outer s H vs Q E hr h => ?_)
  · obtain ⟨a, b, rfl, _⟩ := h
    rfl
  · obtain ⟨a, b, rfl, hS, hb, hz, k⟩ := h
    refine ⟨_, pss_cons (ps_set (i := 1) scCoinsFrom.nd rfl (Or.inl rfl) pe_int)
      (pss_cons (ps_for PassesOwn.never rfl (pi_reversed rfl zv (pa_cons (pe_slice sl_list (pv 0) (po_some (pe_k kC)) (po_some (pe_k kW))) pa_nil)) (pg_name (i := 2) scCoinsFrom.nd rfl (Or.inl rfl))
        (pss_one (ps_set (i := 1) scCoinsFrom.nd rfl (Or.inl rfl) (pe_op op_add (pe_op op_mul (pv 1) pe_int) (pv 2)))))
      (pss_one (ps_ret (pv 1)))), ?_⟩
    refine ⟨_, rfl, _, rfl, _, rfl, a, _, rfl, hS, fun l hl => ?_⟩
    have ec : cutV (iv b) (some (8 : Int)) (some (16 : Int)) = iv ((b.drop 8).take 8) := by
      rw [show (8 : Int) = ((8 : Nat) : Int) from rfl, show (16 : Int) = ((16 : Nat) : Int) from rfl, cut_iv (by omega) (by decide), ← iv_map]
    have hlen : ((b.drop 8).take 8).length = 8 := by
      rw [List.length_take, List.length_drop, hb]
      rfl
    rw [ec]
    refine ⟨l, iv ((b.drop 8).take 8), rfl, .of upd_same, ?_⟩
    rw [iv_len, hlen]
    refine ⟨fun i m σ H2 => m = 8 - i ∧ i ≤ 8 ∧ ∃ u, σ = [some (.ref a), some (.int (numTo ((b.drop 8).take 8) i : Nat)), u] ∧ H2 l = some (.lst (iv ((b.drop 8).take 8))) ∧ Same H H2, ⟨_, rfl, Nat.zero_le _, none, ?_, upd_same, same_upd hl⟩, ?_⟩
    · have e0 : numTo ((b.drop 8).take 8) 0 = 0 := by
        unfold numTo
        rw [List.drop_of_length_le (by rw [hlen]; exact Nat.le_refl _)]
        rfl
      rw [e0]
      rfl
    · rintro i m σ H2 ⟨rfl, hi, u, rfl, hl2, s2⟩
      by_cases hlt : i < 8
      · have hit : (iv ((b.drop 8).take 8))[8 - 1 - i]? = some (V.int (((b.drop 8).take 8).getD (7 - i) 0 : Nat)) := by
          refine iv_get ?_
          rw [show 8 - 1 - i = 7 - i by omega]
          exact at_getD (by rw [hlen]; omega)
        refine .inr ⟨⟨hlt, _, _, .of hl2, hit⟩, fun σ' H' => ∃ u, σ' = [some (.ref a), some (.int (numTo ((b.drop 8).take 8) (i + 1) : Nat)), u] ∧ H' l = some (.lst (iv ((b.drop 8).take 8))) ∧ Same H H', fun σ' H' q => ⟨8 - (i + 1), by omega, rfl, by omega, q⟩, ?_⟩
        rintro x H' ⟨rfl, hy⟩
        have ey := hy _ (.of hl2)
        rw [hit] at ey
        cases ey
        refine ⟨_, rfl, _, _, rfl, rfl, .inr ⟨by decide, by decide⟩, _, rfl, _, _, rfl, rfl, ?_⟩
        refine ⟨some (V.int (((b.drop 8).take 8).getD (7 - i) 0 : Nat)), ?_, hl2, s2⟩
        rw [numTo_succ hlen hlt]
        show [some (V.ref a), some (V.int (((numTo ((b.drop 8).take 8) i : Nat) : Int) * 256 + ((((b.drop 8).take 8).getD (7 - i) 0 : Nat) : Int))), _] = _
        rw [show ((numTo ((b.drop 8).take 8) i : Nat) : Int) * 256 + ((((b.drop 8).take 8).getD (7 - i) 0 : Nat) : Int) = ((numTo ((b.drop 8).take 8) i * 256 + ((b.drop 8).take 8).getD (7 - i) 0 : Nat) : Int) by omega]
      · have e : i = 8 := by omega
        subst e
        refine .inl ⟨Nat.le_refl _, _, rfl, ?_⟩
        have q := k H2 s2
        rw [Cq.word_eq, Cq.numOf_small _ (fun z hz' => hz z (List.mem_of_mem_drop (List.mem_of_mem_take hz')))] at q
        exact q
def spNodeFrom (K : PySem.W.Frag) (C : Addr) : Sp := fun vs H Q _ => ∃ (a : Addr) (b : List Nat), vs = [.ref a] ∧ SqL K H a (iv b) ∧ b.length = 2200 ∧ (∀ z ∈ b, z < 256) ∧ Cq.Good b ∧
  ∀ p o h ds H', NodeAt C H' (Sv47.said b) p o h ds → Same H H' → New H p o h ds → Q (.ref p) H'
theorem scNodeFrom : FnScope ["saved", "answer", "coins"] ["saved"] (defScope sNodeFrom) := ⟨rfl, rfl, rfl, by decide +kernel, rfl, by decide +kernel, by decide +kernel⟩
theorem ok_nodefrom {f C : Addr} {fd : FuncData} (F : Fun K "node_from_bytes" "node_from_bytes" sNodeFrom f fd) (NN : NewN P w K mg base C) (kA : Kon mg "ANSWER_AT" 3) (kM : Kon mg "ME_AT" 0) (kN : Kon mg "N_AT" 1)
    (C1 : Cal P w K mg base 1 "coins_from" ["saved"] (spCoinsFrom K)) (C2 : Cal P w K mg base 1 "own_words_from" ["saved"] (spOwnFrom K)) (C3 : Cal P w K mg base 2 "heard_from" ["saved"] (spHeardFrom K)) : FnOk P w K mg base CX0 3 f fd ["saved"] (spNodeFrom K C) := by
  refine F.ok scNodeFrom (fun vs H Q E h => ?_) (fun cdv A outer s H vs Q E hr h => ?_)
  · obtain ⟨a, b, rfl, _⟩ := h
    rfl
  · obtain ⟨a, b, rfl, hS, hb, hz, G, k⟩ := h
    refine ⟨_, pss_cons (ps_set (i := 1) scNodeFrom.nd rfl (Or.inl rfl) (pe_ifExp (pt_cmpR op_eq (pe_ix ix_list (pv 0) (pe_k kA) (fun _ _ => rfl)) pe_int (nomark _)) pe_non (pe_op op_sub (pe_ix ix_list (pv 0) (pe_k kA) (fun _ _ => rfl)) pe_int)))
      (pss_cons (ps_set (i := 2) scNodeFrom.nd rfl (Or.inl rfl) (pe_c C1 hr (pa_cons (pv 0) pa_nil)))
      (pss_one (ps_ret (pe_newN NN hr (pa_cons (pe_ix ix_list (pv 0) (pe_k kM) (fun _ _ => rfl)) (pa_cons (pe_ix ix_list (pv 0) (pe_k kN) (fun _ _ => rfl)) (pa_cons (pv 2) (pa_cons (pe_c C2 hr (pa_cons (pv 0) pa_nil)) (pa_cons (pv 1) (pa_cons (pe_c C3 hr (pa_cons (pv 0) pa_nil)) pa_nil)))))) ?mono)))), ?_⟩
    case mono =>
      rintro σ H Q Q' hq ⟨v0, e0, p0, x0, i0, w0, r0, t0, q0, a0, v1, e1, p1, x1, i1, w1, r1, t1, q1, a1, v2, e2, v3, e3, a3, b3, r3, s3, l3, g3, h3⟩
      refine ⟨v0, e0, p0, x0, i0, w0, r0, t0, q0, a0, v1, e1, p1, x1, i1, w1, r1, t1, q1, a1, v2, e2, v3, e3, a3, b3, r3, s3, l3, g3, fun l hl => ?_⟩
      obtain ⟨v4, e4, v5, e5, a5, b5, r5, s5, l5, h5⟩ := h3 l hl
      exact ⟨v4, e4, v5, e5, a5, b5, r5, s5, l5, fun l' ds' H' c1 c2 c3 c4 c5 c6 => hq _ _ (h5 l' ds' H' c1 c2 c3 c4 c5 c6)⟩
    have ga := G.an
    have tail : tSeq (tAsg (tCall (spCoinsFrom K) [] E0 (tCons (tVar 0) tNil)) (gName 2)) (tRet (tNewN K C (tCons (tOp (rIxL K) (tVar 0) (tC (.int 0))) (tCons (tOp (rIxL K) (tVar 0) (tC (.int 1))) (tCons (tVar 2) (tCons (tCall (spOwnFrom K) [] E0 (tCons (tVar 0) tNil)) (tCons (tVar 1) (tCons (tCall (spHeardFrom K) [] E0 (tCons (tVar 0) tNil)) tNil))))))))
        { nx := fun _ H' => Q .non H', rt := Q } [some (.ref a), some (ansV (Sv47.said b).answer), none] H := by
      refine ⟨_, rfl, a, b, rfl, hS, hb, hz, fun H1 s1 => ?_⟩
      have hS1 := s1.seq hS
      refine ⟨_, rfl, a, _, _, _, rfl, rfl, hS1, iv_at (i := 0) (by omega), _, rfl, a, _, _, _, rfl, rfl, hS1, iv_at (i := 1) (by omega), _, rfl, _, rfl, a, b, rfl, hS1, hb, G.st, fun o ho => ?_⟩
      rw [own_said hb G.st]
      have s2 : Same H1 (upd H1 o (.lst (iv (Sv47.said b).own))) := same_upd ho
      refine ⟨_, rfl, _, rfl, a, b, rfl, (s1.trans s2).seq hS, hb, fun h ds H3 hh hh3 hlen hnd hds s3 => ?_⟩
      refine ⟨_, _, _, o, _, h, iv (Sv47.said b).own, rfl, .of (s3 _ _ upd_same), fun p dx hp hdx ne => ?_⟩
      have W := Cq.wf_said hb hz G
      have est : ((iv (Sv47.said b).own).length : Int) - 1 = (((Sv47.said b).stage : Nat) : Int) := by
        rw [iv_len, W.len]
        omega
      rw [est]
      have s4 : Same H3 (upd (upd H3 dx (.own p)) p (.ins C dx (ndF ((b.getD 0 0 : Nat) : Int) ((b.getD 1 0 : Nat) : Int) ((Sv47.word b 8 8 : Nat) : Int) ((Sv47.said b).stage : Nat) o (ansV (Sv47.said b).answer) h))) := fun c u e => by
        rw [upd_ne (ne_of_none e hp), upd_ne (ne_of_none e hdx)]
        exact e
      have s13 := (s1.trans s2).trans s3
      refine k p o h ds _ ⟨⟨dx, upd_same⟩, s4 _ _ (s3 _ _ upd_same), s4 _ _ hh3, hlen, fun t d e => ?_, hnd⟩ (s13.trans s4) ⟨s13.free hp, s1.free ho, (s1.trans s2).free hh, fun d hd => ?_⟩
      · have ht : t < 128 := by rw [← hlen]; exact (List.getElem?_eq_some_iff.mp e).1
        rw [Cq.dct_said, if_pos ht]
        exact s4 _ _ (hds t d e).1
      · obtain ⟨t, ht⟩ := List.getElem?_of_mem hd
        exact (s1.trans s2).free (hds t d ht).2
    refine ⟨_, rfl, a, _, _, _, rfl, rfl, hS, iv_at (i := 3) (by omega), rfl, _, rfl, ite2 (fun h1 => ?_) (fun h1 => ?_)⟩
    · have e3 : b.getD 3 0 = 0 := by
        have := of_decide_eq_true h1
        injection this with this
        omega
      rw [Cq.said_answer, if_pos e3] at tail
      exact tail
    · have e3 : ¬ b.getD 3 0 = 0 := fun z => h1 (decide_eq_true (by rw [z]; rfl))
      rw [Cq.said_answer, if_neg e3] at tail
      refine ⟨_, rfl, a, _, _, _, rfl, rfl, hS, iv_at (i := 3) (by omega), _, _, rfl, rfl, ?_⟩
      have ea : V.int (((b.getD 3 0 : Nat) : Int) - 1) = ansV (some (b.getD 3 0 - 1)) := by
        show _ = V.int ((b.getD 3 0 - 1 : Nat) : Int)
        rw [show ((b.getD 3 0 : Nat) : Int) - 1 = ((b.getD 3 0 - 1 : Nat) : Int) by omega]
      rw [← ea] at tail
      exact tail
end
end Pn
set_option Elab.async false
set_option linter.all false
set_option maxRecDepth 100000
namespace Pn
open PySem L2 Cx1

/-! ### a right letter -/
structure LetP (x : Sv47.Node) (b : List Nat) : Prop where
  len : b.length = 8
  to : b.getD 0 0 = x.me
  lt : b.getD 1 0 < x.n
  ne : b.getD 1 0 ≠ x.me
  st : b.getD 2 0 ≤ 128
  wd : Sv47.isWord (b.getD 2 0) (b.getD 3 0) = true
  z : ∀ j, 4 ≤ j → j < 8 → b.getD j 0 = 0
def letOf (b : List Nat) : Sv47.Letter := ⟨b.getD 0 0, b.getD 1 0, b.getD 2 0, b.getD 3 0⟩
theorem LetP.bytes {x : Sv47.Node} {b : List Nat} (h : LetP x b) : (letOf b).bytes = b := by
  refine Cq.ext_getD 0 (by rw [h.len]; rfl) fun i hi => ?_
  have hi : i < 8 := hi
  match i, hi with
  | 0, _ => rfl
  | 1, _ => rfl
  | 2, _ => rfl
  | 3, _ => rfl
  | 4, _ => exact (h.z 4 (by decide) (by decide)).symm
  | 5, _ => exact (h.z 5 (by decide) (by decide)).symm
  | 6, _ => exact (h.z 6 (by decide) (by decide)).symm
  | 7, _ => exact (h.z 7 (by decide) (by decide)).symm
theorem LetP.letter {x : Sv47.Node} {b : List Nat} (h : LetP x b) : Sv47.letterOf b = some (letOf b) ∧ Sv47.right x (letOf b) = true := by
  refine ⟨?_, ?_⟩
  · unfold Sv47.letterOf
    exact if_pos h.bytes
  · unfold Sv47.right
    simp only [Bool.and_eq_true, decide_eq_true_eq, bne_iff_ne, ne_eq, beq_iff_eq]
    exact ⟨h.to, h.ne, h.lt, h.st, h.wd⟩
theorem letP_of {x : Sv47.Node} {b : List Nat} {l : Sv47.Letter} (h : Sv47.letterOf b = some l) (hr : Sv47.right x l = true) : LetP x b := by
  unfold Sv47.letterOf at h
  have h : (if (letOf b).bytes = b then some (letOf b) else none) = some l := h
  by_cases e : (letOf b).bytes = b
  · rw [if_pos e] at h
    cases h
    unfold Sv47.right at hr
    simp only [Bool.and_eq_true, decide_eq_true_eq, bne_iff_ne, ne_eq, beq_iff_eq] at hr
    obtain ⟨r1, r2, r3, r4, r5⟩ := hr
    refine ⟨by rw [← e]; rfl, r1, r3, r2, r4, r5, fun j h1 h2 => ?_⟩
    rw [← e]
    match j, h1, h2 with
    | 4, _, _ => rfl
    | 5, _, _ => rfl
    | 6, _, _ => rfl
    | 7, _, _ => rfl
  · rw [if_neg e] at h
    cases h
theorem cut_from {xs : List V} {i : Nat} (h : i ≤ xs.length) : cutV xs (some (i : Int)) none = xs.drop i := by
  unfold cutV
  rw [sIx_nat (i := i) h]
  show (xs.drop i).take (xs.length - i) = _
  rw [List.take_of_length_le (by rw [List.length_drop]; exact Nat.le_refl _)]
section
variable {P : Program} {w : World} {K : PySem.W.Frag} {mg : Str → Option Value} {base : Heap}
def spRight (K : PySem.W.Frag) (C : Addr) : Sp := fun vs H Q _ => ∃ (a p o h : Addr) (ds : List Addr) (b : List Nat) (x : Sv47.Node), vs = [.ref a, .ref p] ∧ SqL K H a (iv b) ∧ NodeAt C H x p o h ds ∧ Tells H Q (LetP x b)
theorem scRight : FnScope ["letter", "node"] ["letter", "node"] (defScope sRight) := ⟨rfl, rfl, rfl, by decide +kernel, rfl, by decide +kernel, by decide +kernel⟩
theorem ok_right {f C : Addr} {fd : FuncData} (F : Fun K "is_right_letter" "is_right_letter" sRight f fd) (T : TN K C) (za : mg "any" = none) (zl : mg "len" = none) (kB : Kon mg "LETTER_BYTES" 8) (kT : Kon mg "TO_AT" 0) (kF : Kon mg "FROM_AT" 1) (kS : Kon mg "STAGE_AT_letters" 2) (kW : Kon mg "WORD_AT" 3) (kZ : Kon mg "ZEROS_AT" 4) (C0 : Cal P w K mg base 1 "is_stage" ["number"] spIsSt)
    (C1 : Cal P w K mg base 1 "is_other_node" ["number", "me", "n"] spOther) (C2 : Cal P w K mg base 2 "is_word_of_stage" ["word", "stage"] spWord) : FnOk P w K mg base CX0 3 f fd ["letter", "node"] (spRight K C) := by
  refine F.ok scRight (fun vs H Q E h => ?_) (fun cdv A outer s H vs Q E hr h => ?_)
  · obtain ⟨a, p, o, h, ds, b, x, rfl, _⟩ := h
    rfl
  · obtain ⟨a, p, o, h, ds, b, x, rfl, hS, N, k⟩ := h
    obtain ⟨dx, ob⟩ := N.ob
    refine ⟨_, pss_cons (ps_if (pt_cmpR op_ne (pe_callB call_len_seq (by rfl) zl PySem.boot_len (pa_cons (pv 0) pa_nil)) (pe_k kB) (nomark _)) (pss_one (ps_ret pe_bl)) pss_nil)
      (pss_cons (ps_if (PW.pt (pw_or (pt_cmpR op_ne (pe_ix ix_list (pv 0) (pe_k kT) (fun _ _ => rfl)) (pe_fld (pv 1) rfl) (nomark _)) (pw_or1 (pt_not (pt_val (pe_c C1 hr (pa_cons (pe_ix ix_list (pv 0) (pe_k kF) (fun _ _ => rfl)) (pa_cons (pe_fld (pv 1) rfl) (pa_cons (pe_fld (pv 1) rfl) pa_nil))))))))) (pss_one (ps_ret pe_bl)) pss_nil)
      (pss_cons (ps_if (PW.pt (pw_or (pt_not (pt_val (pe_c C0 hr (pa_cons (pe_ix ix_list (pv 0) (pe_k kS) (fun _ _ => rfl)) pa_nil)))) (pw_or1 (pt_not (pt_val (pe_c C2 hr (pa_cons (pe_ix ix_list (pv 0) (pe_k kW) (fun _ _ => rfl)) (pa_cons (pe_ix ix_list (pv 0) (pe_k kS) (fun _ _ => rfl)) pa_nil)))))))) (pss_one (ps_ret pe_bl)) pss_nil)
      (pss_one (ps_ret (pe_not (pe_callB (cr_anyI rfl) (by rfl) za bt_any (pa_cons (pe_slice sl_list (pv 0) (po_some (pe_k kZ)) po_none) pa_nil))))))), ?_⟩
    have no : ∀ {c : Bool}, c = false → ¬ LetP x b → Q (.bl c) H := fun {c} e z => by
      subst e
      exact k false H ⟨(fun q => by cases q), fun q => absurd q z⟩ (Same.refl H)
    refine ⟨_, rfl, a, _, rfl, .inl hS, rfl, _, rfl, ite2 (fun h1 => ?_) (fun h1 => ?_)⟩
    · refine no rfl fun z => ?_
      rw [Bool.not_eq_true', decide_eq_false_iff_not] at h1
      refine h1 ?_
      rw [iv_len, z.len]
      rfl
    · rw [Bool.not_eq_true', decide_eq_false_iff_not, Decidable.not_not] at h1
      have hl : b.length = 8 := by
        injection h1 with h1
        rw [iv_len] at h1
        omega
      refine ⟨_, rfl, a, _, _, _, rfl, rfl, hS, iv_at (i := 0) (by omega), _, rfl, p, C, dx, _, _, rfl, ob, T.cl, T.me, ndF_me _ _ _ _ _ _ _, rfl, _, rfl, ite2 (fun h2 => ?_) (fun h2 => ?_)⟩
      · refine iteT (no rfl fun z => ?_)
        rw [Bool.not_eq_true', decide_eq_false_iff_not] at h2
        refine h2 ?_
        rw [z.to]
      · rw [Bool.not_eq_true', decide_eq_false_iff_not, Decidable.not_not] at h2
        have h2' : b.getD 0 0 = x.me := by
          injection h2 with h2
          omega
        refine ⟨_, rfl, a, _, _, _, rfl, rfl, hS, iv_at (i := 1) (by omega), _, rfl, p, C, dx, _, _, rfl, ob, T.cl, T.me, ndF_me _ _ _ _ _ _ _, _, rfl, p, C, dx, _, _, rfl, ob, T.cl, T.n, ndF_n _ _ _ _ _ _ _, _, _, _, rfl, _, rfl, ite2 (fun h3 => ?_) (fun h3 => ?_)⟩
        · refine no rfl fun z => ?_
          rw [Bool.not_eq_true', decide_eq_false_iff_not] at h3
          have := z.lt
          have := z.ne
          exact h3 ⟨by omega, by omega, by omega⟩
        · rw [Bool.not_eq_true', decide_eq_false_iff_not, Decidable.not_not] at h3
          obtain ⟨g1, g2, g3⟩ := h3
          refine ⟨_, rfl, a, _, _, _, rfl, rfl, hS, iv_at (i := 2) (by omega), _, rfl, _, rfl, ite2 (fun h4 => ?_) (fun h4 => ?_)⟩
          · refine iteT (no rfl fun z => ?_)
            rw [Bool.not_eq_true', decide_eq_false_iff_not] at h4
            have := z.st
            omega
          · rw [Bool.not_eq_true', decide_eq_false_iff_not, Decidable.not_not] at h4
            refine ⟨_, rfl, a, _, _, _, rfl, rfl, hS, iv_at (i := 3) (by omega), _, rfl, a, _, _, _, rfl, rfl, hS, iv_at (i := 2) (by omega), _, _, rfl, _, rfl, ?_⟩
            rw [wordI_nat]
            refine ite2 (fun h5 => ?_) (fun h5 => ?_)
            · refine no rfl fun z => ?_
              rw [Bool.not_eq_true'] at h5
              rw [z.wd] at h5
              cases h5
            · rw [Bool.not_eq_true', Bool.not_eq_false] at h5
              refine ⟨_, rfl, _, rfl, a, _, rfl, hS, fun l hl' => ?_⟩
              have ec : cutV (iv b) (some (4 : Int)) none = (Sv47Neutral.ints ((b.drop 4).take 4)).map V.int := by
                rw [show (4 : Int) = ((4 : Nat) : Int) from rfl, cut_from (by rw [iv_len]; omega), ← iv_map, List.take_of_length_le (by rw [List.length_drop]; omega)]
                unfold iv
                rw [List.map_drop]
              rw [ec]
              refine ⟨l, _, rfl, .of upd_same, _, rfl, k _ _ ?_ (same_upd hl')⟩
              rw [Bool.not_eq_true', any_zero]
              exact ⟨fun z => ⟨hl, h2', by omega, by omega, by omega, h5, z⟩, fun z => z.z⟩
end
end Pn
set_option Elab.async false
set_option linter.all false
set_option maxRecDepth 100000
namespace Pn
open PySem L2 Cx1

/-! ### the sixteen objects -/
structure Nodes (C : Addr) (H : Hp) (d t : Addr) (S : Sv47Neutral.S) (kvs : List (Key × V)) : Prop where
  hd : H d = some (.dK kvs)
  at_ : ∀ (o : Nat) (x : Sv47.Node), S.getD o none = some x → ∃ (p ow h : Addr) (ds : List Addr), valV kvs (Sum.inl (o : Int) : Key) = some (.ref p) ∧ NodeAt C H x p ow h ds ∧ Cq.WF x ∧ d ∉ ds ∧ t ≠ ow ∧ t ≠ h
theorem set_get {S : Sv47Neutral.S} {o j : Nat} {y : Sv47.Abs} (h : o < S.length) : (S.set o y).getD j none = if j = o then y else S.getD j none := by
  rw [List.getD_eq_getElem?_getD, List.getD_eq_getElem?_getD]
  by_cases e : j = o
  · subst e
    rw [if_pos rfl, List.getElem?_set_self h]
    rfl
  · rw [if_neg e, List.getElem?_set_ne (Ne.symm e)]
theorem ins_ne {H : Hp} {p r C CR dx dr o h a : Addr} {me n c st : Int} {an : V} {i : Nat} (h1 : H p = some (.ins C dx (ndF me n c st o an h))) (h2 : H r = some (.ins CR dr (rdF a i))) : p ≠ r := ne_of h1 h2 (by
  intro z
  injection z with _ _ z
  have := congrArg List.length z
  simp [ndF, rdF] at this)
/-- all that was tracked but the reader stands -/
theorem Nodes.keep {C CR : Addr} {H H' : Hp} {d t r dr a : Addr} {i : Nat} {S : Sv47Neutral.S} {kvs : List (Key × V)} (N : Nodes C H d t S kvs) (hr : H r = some (.ins CR dr (rdF a i))) (kp : ∀ b u, H b = some u → b ≠ r → H' b = some u) : Nodes C H' d t S kvs := by
  refine ⟨kp _ _ N.hd (ins_ne_dk hr N.hd).symm, fun o x e => ?_⟩
  obtain ⟨p, ow, h, ds, h1, h2, h3, h4, h5, h6⟩ := N.at_ o x e
  obtain ⟨dx, ob⟩ := h2.ob
  exact ⟨p, ow, h, ds, h1, ⟨⟨dx, kp _ _ ob (ins_ne ob hr)⟩, kp _ _ h2.ow (lst_ne_ins h2.ow hr), kp _ _ h2.hl (lst_ne_ins h2.hl hr), h2.len, fun t d e => kp _ _ (h2.dc t d e) (ins_ne_dk hr (h2.dc t d e)).symm, h2.nd⟩, h3, h4, h5, h6⟩
theorem Nodes.same {C : Addr} {H : Hp} {d t : Addr} {o : Nat} {S : Sv47Neutral.S} {kvs : List (Key × V)} (N : Nodes C H d t S kvs) (ho : o < S.length) : Nodes C H d t (S.set o (S.getD o none)) kvs := by
  refine ⟨N.hd, fun j x e => N.at_ j x ?_⟩
  rw [set_get ho] at e
  by_cases z : j = o
  · rw [if_pos z] at e
    rw [z]
    exact e
  · rw [if_neg z] at e
    exact e
/-- a new node is put in its place -/
theorem Nodes.put {C : Addr} {H : Hp} {d t p ow h : Addr} {ds : List Addr} {o : Nat} {y : Sv47.Node} {S : Sv47Neutral.S} {kvs : List (Key × V)} (N : Nodes C H d t S kvs) (ho : o < S.length) (hn : NodeAt C H y p ow h ds) (W : Cq.WF y) (h1 : d ∉ ds) (h2 : t ≠ ow) (h3 : t ≠ h) :
    Nodes C (upd H d (.dK (putK kvs (Sum.inl (o : Int) : Key) (.ref p)))) d t (S.set o (some y)) (putK kvs (Sum.inl (o : Int) : Key) (.ref p)) := by
  have mv : ∀ {x : Sv47.Node} {p ow h : Addr} {ds : List Addr}, NodeAt C H x p ow h ds → d ∉ ds → NodeAt C (upd H d (.dK (putK kvs (Sum.inl (o : Int) : Key) (.ref p)))) x p ow h ds := fun {x p ow h ds} q nd => by
    obtain ⟨dx, ob⟩ := q.ob
    exact q.keep (upd_ne (ins_ne_dk ob N.hd)) (upd_ne (lst_ne_dk q.ow N.hd)) (upd_ne (lst_ne_dk q.hl N.hd)) fun e he => upd_ne fun z => nd (by rw [← z]; exact he)
  have mv' : ∀ {v : HO} {x : Sv47.Node} {p ow h : Addr} {ds : List Addr}, NodeAt C H x p ow h ds → d ∉ ds → NodeAt C (upd H d v) x p ow h ds := fun {v x p ow h ds} q nd => by
    obtain ⟨dx, ob⟩ := q.ob
    exact q.keep (upd_ne (ins_ne_dk ob N.hd)) (upd_ne (lst_ne_dk q.ow N.hd)) (upd_ne (lst_ne_dk q.hl N.hd)) fun e he => upd_ne fun z => nd (by rw [← z]; exact he)
  refine ⟨upd_same, fun j x e => ?_⟩
  rw [set_get ho] at e
  by_cases z : j = o
  · rw [if_pos z] at e
    cases e
    refine ⟨p, ow, h, ds, ?_, mv' hn h1, W, h1, h2, h3⟩
    rw [z, valV_put, if_pos rfl]
  · rw [if_neg z] at e
    obtain ⟨p', ow', h', ds', g1, g2, g3, g4, g5, g6⟩ := N.at_ j x e
    refine ⟨p', ow', h', ds', ?_, mv' g2 g4, g3, g4, g5, g6⟩
    rw [valV_put, if_neg (fun q => z (by have := Sum.inl.inj q; omega))]
    exact g1

/-! ### methods of the reader -/
def Mth (P : Program) (w : World) (K : PySem.W.Frag) (mg : Str → Option Value) (base : Heap) (k : Nat) (C : Addr) (m : Str) (ps : List Str) (sp : Sp) : Prop :=
  ∃ (g : Addr) (fd : FuncData), FnOk P w K mg base CX0 k g fd ps sp ∧ Binds K fd ps [] ∧ Meth K C m g
theorem pe_m0 {X : Cx} {j k : Nat} {C : Addr} {m : Str} {ps : List Str} {sp : Sp} {o : Expr} {ta : TE} {apos pos : Pos} {pl : Sem Bool} (M : Mth X.prog X.w X.K X.mg X.base k C m ps sp) (c : Cls X.K C) (hr : Room j X.A) (he : PE X o ta) (hj : k ≤ j := by decide)
    (ht : eval (.Call (.Attribute o m apos) [] [] pos) X.env = (do
      let ov ← eval o X.env
      standAt apos.atName
      let (f, first) ← holding [ov] (getMethod ov m pl)
      callWith pos f first (backTo pos (starEach [] X.env)) (backToKw pos (keywordEach [] X.env))) := by rfl) :
    PE X (.Call (.Attribute o m apos) [] [] pos) (tMeth C m sp [] E0 ta tNil) := by
  obtain ⟨g, fd, F, hb, hm⟩ := M
  exact pe_meth0 he c hm F (hr.mono hj) hb .nil pass0 ht
theorem drop_cons {ns : List Int} {i : Nat} {z : Int} {r : List Int} (h : ns.drop i = z :: r) : (ns.map V.int)[i]? = some (V.int z) ∧ ns.drop (i + 1) = r := by
  have hlt : i < ns.length := by
    refine Nat.lt_of_not_le fun q => ?_
    rw [List.drop_of_length_le q] at h
    cases h
  rw [List.drop_eq_getElem_cons hlt] at h
  injection h with h1 h2
  refine ⟨?_, h2⟩
  rw [List.getElem?_map, List.getElem?_eq_getElem hlt, h1]
  rfl
theorem drop_row {ns : List Int} {i : Nat} {b : List Nat} {r : List Int} (h : ns.drop i = (b.length : Int) :: (Sv47Neutral.ints b ++ r)) :
    i + 1 + b.length ≤ (ns.map V.int).length ∧ ((ns.map V.int).drop (i + 1)).take b.length = iv b ∧ ns.drop (i + 1 + b.length) = r := by
  obtain ⟨_, h2⟩ := drop_cons h
  have hl : (ns.drop (i + 1)).length = b.length + r.length := by
    rw [h2, List.length_append, Cq.ints_len]
  rw [List.length_drop] at hl
  have hi : i < ns.length := by
    refine Nat.lt_of_not_le fun q => ?_
    rw [List.drop_of_length_le q] at h
    cases h
  refine ⟨by rw [List.length_map]; omega, ?_, ?_⟩
  · rw [← List.map_drop, h2, List.map_append, List.take_append_of_le_length (by rw [List.length_map, Cq.ints_len]; exact Nat.le_refl _), List.take_of_length_le (by rw [List.length_map, Cq.ints_len]; exact Nat.le_refl _), iv_map]
  · rw [← List.drop_drop, h2, List.drop_append_of_le_length (by rw [Cq.ints_len]; exact Nat.le_refl _), List.drop_of_length_le (by rw [Cq.ints_len]; exact Nat.le_refl _)]
    rfl
/-- the answer, number by number -/
def ansL (a : Sv47.Ans) : List Int := a.v :: Sv47Neutral.ints a.l
/-- what each of the calls promises; num: its number -/
def spCall (K : PySem.W.Frag) (CN CR : Addr) (num : Int) : Sp := fun vs H Q _ => ∃ (d r dr a t : Addr) (i o : Nat) (ns r' : List Int) (S : Sv47Neutral.S) (kvs : List (Key × V)) (x : Sv47.Call), vs = [.ref d, .ref r] ∧ H r = some (.ins CR dr (rdF a i)) ∧ SqL K H a (ns.map V.int) ∧
  Cq.Parsed num (ns.drop i) o x r' ∧ (Cq.begins x = true ∨ ∃ y, S.getD o none = some y) ∧ Nodes CN H d t S kvs ∧ S.length = 16 ∧ kvs.length ≤ 1000 ∧ (∃ ts, H t = some (.lst ts)) ∧
  ∀ (l : Addr) (H' : Hp) (kvs' : List (Key × V)) (i' : Nat), H l = none → H' l = some (.lst ((ansL (Sv47.does (S.getD o none) x).2).map V.int)) → H' r = some (.ins CR dr (rdF a i')) → ns.drop i' = r' → Nodes CN H' d t (S.set o (Sv47.does (S.getD o none) x).1) kvs' → kvs'.length ≤ kvs.length + 1 →
    (∀ b u, H b = some u → b ≠ d → b ≠ r → H' b = some u) → Q (.ref l) H'
section
variable {P : Program} {w : World} {K : PySem.W.Frag} {mg : Str → Option Value} {base : Heap}
theorem scBegin : FnScope ["nodes", "reader", "which", "me", "n", "value", "coins"] ["nodes", "reader"] (defScope sBegin) := ⟨rfl, rfl, rfl, by decide +kernel, rfl, by decide +kernel, by decide +kernel⟩
theorem ok_begin {f CN CR : Addr} {fd : FuncData} (F : Fun K "yn_begin" "yn_begin" sBegin f fd) (TRd : TR K CR) (M : Mth P w K mg base 1 CR "take_number" ["self"] (spTakeN K CR)) (kB : Kon mg "BAD_ARGUMENTS" (-2)) (kD : Kon mg "DONE" 0)
    (C1 : Cal P w K mg base 1 "is_node_among" ["me", "n"] spAmong) (C2 : Cal P w K mg base 3 "begun_node" ["me", "n", "value", "coins"] (spBegun CN)) : FnOk P w K mg base CX0 4 f fd ["nodes", "reader"] (spCall K CN CR 0) := by
  refine F.ok scBegin (fun vs H Q E h => ?_) (fun cdv A outer s H vs Q E hr h => ?_)
  · obtain ⟨d, r, dr, a, t, i, o, ns, r', S, kvs, x, rfl, _⟩ := h
    rfl
  · obtain ⟨d, r, dr, a, t, i, o, ns, r', S, kvs, x, rfl, hR, hS, hP, hbg, N, hSl, hkv, ⟨ts, hts⟩, k⟩ := h
    have hu := hu_of hr
    refine ⟨_, pss_cons (ps_set (i := 2) scBegin.nd rfl (Or.inl rfl) (pe_m0 M TRd.cl hr (pv 1)))
      (pss_cons (ps_set (i := 3) scBegin.nd rfl (Or.inl rfl) (pe_m0 M TRd.cl hr (pv 1)))
      (pss_cons (ps_set (i := 4) scBegin.nd rfl (Or.inl rfl) (pe_m0 M TRd.cl hr (pv 1)))
      (pss_cons (ps_set (i := 5) scBegin.nd rfl (Or.inl rfl) (pe_m0 M TRd.cl hr (pv 1)))
      (pss_cons (ps_set (i := 6) scBegin.nd rfl (Or.inl rfl) (pe_m0 M TRd.cl hr (pv 1)))
      (pss_cons (ps_if (PW.pt (pw_or (pt_not (pt_val (pe_c C1 hr (pa_cons (pv 3) (pa_cons (pv 4) pa_nil))))) (pw_or1 (pt_not (pt_chain op_le op_le pe_int (pv 5) pe_int))))) (pss_one (ps_ret (pe_lst (pa_cons (pe_k kB) pa_nil)))) pss_nil)
      (pss_cons (ps_dput hu (pv 0) (pv 2) (pe_c C2 hr (pa_cons (pv 3) (pa_cons (pv 4) (pa_cons (pv 5) (pa_cons (pv 6) pa_nil))))) rfl)
      (pss_one (ps_ret (pe_lst (pa_cons (pe_k kD) pa_nil)))))))))), ?_⟩
    generalize hw : ns.drop i = whole at hP
    cases hP with
    | begin_ _ me n v coins _ ho i1 i2 i3 hco =>
      obtain ⟨g1, e1⟩ := drop_cons hw
      obtain ⟨g2, e2⟩ := drop_cons e1
      obtain ⟨g3, e3⟩ := drop_cons e2
      obtain ⟨g4, e4⟩ := drop_cons e3
      obtain ⟨g5, e5⟩ := drop_cons e4
      have no : ∀ j, (rdF a j).lookup ("take_number" : Str) = none := fun j => rdF_no _ _ (by decide +kernel) (by decide +kernel)
      refine ⟨_, rfl, r, dr, _, rfl, hR, no _, r, dr, a, i, _, _, rfl, hR, hS, g1, ?_⟩
      refine ⟨_, rfl, r, dr, _, rfl, upd_same, no _, r, dr, a, i + 1, _, _, rfl, upd_same, seq_upd hS hR, g2, ?_⟩
      rw [upd_upd]
      refine ⟨_, rfl, r, dr, _, rfl, upd_same, no _, r, dr, a, i + 1 + 1, _, _, rfl, upd_same, seq_upd hS hR, g3, ?_⟩
      rw [upd_upd]
      refine ⟨_, rfl, r, dr, _, rfl, upd_same, no _, r, dr, a, i + 1 + 1 + 1, _, _, rfl, upd_same, seq_upd hS hR, g4, ?_⟩
      rw [upd_upd]
      refine ⟨_, rfl, r, dr, _, rfl, upd_same, no _, r, dr, a, i + 1 + 1 + 1 + 1, _, _, rfl, upd_same, seq_upd hS hR, g5, ?_⟩
      rw [upd_upd]
      generalize hH1 : upd H r (.ins CR dr (rdF a (i + 1 + 1 + 1 + 1 + 1))) = H1
      have hR1 : H1 r = some (.ins CR dr (rdF a (i + 1 + 1 + 1 + 1 + 1))) := by rw [← hH1]; exact upd_same
      have kp1 : ∀ b u, H b = some u → b ≠ r → H1 b = some u := fun b u e z => by rw [← hH1, upd_ne z]; exact e
      have lv1 : Live H H1 := by rw [← hH1]; exact live_upd
      have N1 := N.keep hR kp1
      -- a refusal
      have bad : ¬ (Among me n ∧ 0 ≤ v ∧ v ≤ 1) → ∀ l, H1 l = none → Q (.ref l) (upd H1 l (.lst [V.int (-2)])) := fun hno l hl => by
        have ed : Sv47.does (S.getD o none) (.begin_ me n v coins) = (S.getD o none, Sv47.ok (-2)) := by
          show (if _ then _ else _) = _
          refine if_neg fun z => hno ?_
          obtain ⟨z1, z2, z3, z4⟩ := z
          unfold Sv47.within at z1 z4
          simp at z1 z4
          exact ⟨⟨z1.1, z1.2, z2, z3⟩, z4.1, z4.2⟩
        refine k l _ kvs _ (lv1 _ hl) ?_ (by rw [upd_ne (ne_of_none hR1 hl)]; exact hR1) e5 ?_ (Nat.le_succ _) fun b u e _ z2 => ?_
        · rw [upd_same, ed]
          rfl
        · rw [ed]
          exact (N1.keep hR1 fun b u e _ => by rw [upd_ne (ne_of_none e hl)]; exact e).same (by rw [hSl]; exact ho)
        · rw [upd_ne (ne_of_none (kp1 b u e z2) hl)]
          exact kp1 b u e z2
      refine ⟨_, rfl, _, rfl, _, _, rfl, _, rfl, ite2 (fun h1 => ?_) (fun h1 => ?_)⟩
      · rw [Bool.not_eq_true', decide_eq_false_iff_not] at h1
        refine iteT ⟨(by show 1 ≤ sizeLine; decide), bad fun z => h1 z.1⟩
      · rw [Bool.not_eq_true', decide_eq_false_iff_not, Decidable.not_not] at h1
        refine ⟨_, rfl, _, _, rfl, rfl, _, rfl, ite2 (fun h2 => ?_) (fun h2 => ?_)⟩
        · have h2 := of_decide_eq_true h2
          refine ⟨_, _, rfl, rfl, _, rfl, ite2 (fun h3 => ?_) (fun h3 => ?_)⟩
          · rw [Bool.not_eq_true', decide_eq_false_iff_not] at h3
            exact ⟨(by show 1 ≤ sizeLine; decide), bad fun z => h3 z.2.2⟩
          · rw [Bool.not_eq_true', decide_eq_false_iff_not, Decidable.not_not] at h3
            obtain ⟨a1, a2, a3, a4⟩ := h1
            obtain ⟨me', rfl⟩ : ∃ m : Nat, me = (m : Int) := ⟨me.toNat, by omega⟩
            obtain ⟨n', rfl⟩ : ∃ m : Nat, n = (m : Int) := ⟨n.toNat, by omega⟩
            obtain ⟨v', rfl⟩ : ∃ m : Nat, v = (m : Int) := ⟨v.toNat, by omega⟩
            have ed : Sv47.does (S.getD o none) (.begin_ (me' : Int) (n' : Int) (v' : Int) coins) = (some (Sv47.fresh me' n' v' coins), Sv47.ok 0) := by
              show (if _ then _ else _) = _
              rw [if_pos]
              · rfl
              · unfold Sv47.within
                simp
                omega
            have W := Cq.wf_fresh (me := me') (n := n') (v := v') (coins := coins) (by omega) (by omega) (by omega) (by omega) hco
            refine ⟨_, rfl, _, rfl, _, rfl, _, rfl, me', n', v', coins, rfl, fun p ow h ds H2 hn s2 nw => ?_⟩
            have N2 : Nodes CN H2 d t S kvs := N1.keep hR1 fun b u e _ => s2 b u e
            have hR2 := s2 _ _ hR1
            refine ⟨_, rfl, _, rfl, d, _, rfl, DPut.k (k := Sum.inl (o : Int)) N2.hd (small (by omega)), ?_⟩
            have hts1 : H1 t = some (.lst ts) := kp1 _ _ hts (lst_ne_ins hts hR)
            have N3 := N2.put (o := o) (by rw [hSl]; exact ho) hn W (fun z => by have := nw.d d z; rw [N1.hd] at this; cases this) (ne_of_none hts1 nw.o) (ne_of_none hts1 nw.h)
            have hdr : d ≠ r := (ins_ne_dk hR2 N2.hd).symm
            refine ⟨(by show 1 ≤ sizeLine; decide), fun l hl => ?_⟩
            have hR3 : (upd H2 d (.dK (putK kvs (Sum.inl (o : Int) : Key) (.ref p)))) r = some (.ins CR dr (rdF a (i + 1 + 1 + 1 + 1 + 1))) := by rw [upd_ne hdr.symm]; exact hR2
            refine k l _ (putK kvs (Sum.inl (o : Int) : Key) (.ref p)) _ (lv1 _ (s2.free (live_upd _ hl))) ?_ (by rw [upd_ne (ne_of_none hR3 hl)]; exact hR3) e5 ?_ (length_putK _ _ _) fun b u e z1 z2 => ?_
            · rw [upd_same, ed]
              rfl
            · rw [ed]
              exact N3.keep hR3 fun b u e _ => by rw [upd_ne (ne_of_none e hl)]; exact e
            · have e2 := s2 _ _ (kp1 b u e z2)
              have e3 : (upd H2 d (.dK (putK kvs (Sum.inl (o : Int) : Key) (.ref p)))) b = some u := by rw [upd_ne z1]; exact e2
              rw [upd_ne (ne_of_none e3 hl)]
              exact e3
        · have h2 : ¬ (0 ≤ v) := fun q => h2 (decide_eq_true q)
          exact ⟨_, rfl, (by show 1 ≤ sizeLine; decide), bad fun z => h2 z.2.1⟩
end
end Pn
set_option Elab.async false
set_option linter.all false
set_option maxRecDepth 100000
namespace Pn
open PySem L2 Cx1
/-- nothing but the reader has changed, new things may lie about -/
theorem fin_read {CN CR : Addr} {H H1 H' : Hp} {d t r dr a : Addr} {i i' o : Nat} {S : Sv47Neutral.S} {kvs : List (Key × V)} (N : Nodes CN H d t S kvs) (hR : H r = some (.ins CR dr (rdF a i))) (kp : ∀ b u, H b = some u → b ≠ r → H1 b = some u) (hR1 : H1 r = some (.ins CR dr (rdF a i'))) (sm : Same H1 H') (ho : o < S.length) :
    Nodes CN H' d t (S.set o (S.getD o none)) kvs ∧ H' r = some (.ins CR dr (rdF a i')) ∧ ∀ b u, H b = some u → b ≠ d → b ≠ r → H' b = some u :=
  ⟨((N.keep hR kp).keep hR1 fun b u e _ => sm b u e).same ho, sm _ _ hR1, fun b u e _ z => sm _ _ (kp b u e z)⟩
/-- a node was put in its place besides -/
theorem fin_put {CN CR : Addr} {H H1 H2 H' : Hp} {d t r dr a p ow h : Addr} {ds : List Addr} {ts : List V} {i i' o : Nat} {y : Sv47.Node} {S : Sv47Neutral.S} {kvs : List (Key × V)} (N : Nodes CN H d t S kvs) (hR : H r = some (.ins CR dr (rdF a i))) (kp : ∀ b u, H b = some u → b ≠ r → H1 b = some u) (hR1 : H1 r = some (.ins CR dr (rdF a i')))
    (hts : H t = some (.lst ts)) (s2 : Same H1 H2) (hn : NodeAt CN H2 y p ow h ds) (W : Cq.WF y) (nw : New H1 p ow h ds) (sm : Same (upd H2 d (.dK (putK kvs (Sum.inl (o : Int) : Key) (.ref p)))) H') (ho : o < S.length) :
    Nodes CN H' d t (S.set o (some y)) (putK kvs (Sum.inl (o : Int) : Key) (.ref p)) ∧ H' r = some (.ins CR dr (rdF a i')) ∧ ∀ b u, H b = some u → b ≠ d → b ≠ r → H' b = some u := by
  have N1 := N.keep hR kp
  have N2 : Nodes CN H2 d t S kvs := N1.keep hR1 fun b u e _ => s2 b u e
  have hR2 := s2 _ _ hR1
  have hts1 : H1 t = some (.lst ts) := kp _ _ hts (lst_ne_ins hts hR)
  have N3 := N2.put (o := o) ho hn W (fun z => by have := nw.d d z; rw [N1.hd] at this; cases this) (ne_of_none hts1 nw.o) (ne_of_none hts1 nw.h)
  have hdr : d ≠ r := (ins_ne_dk hR2 N2.hd).symm
  have hR3 : (upd H2 d (.dK (putK kvs (Sum.inl (o : Int) : Key) (.ref p)))) r = some (.ins CR dr (rdF a i')) := by rw [upd_ne hdr.symm]; exact hR2
  refine ⟨N3.keep hR3 fun b u e _ => sm b u e, sm _ _ hR3, fun b u e z1 z2 => sm _ _ ?_⟩
  rw [upd_ne z1]
  exact s2 _ _ (kp b u e z2)
theorem dget_of {C : Addr} {H : Hp} {d t p : Addr} {o : Nat} {S : Sv47Neutral.S} {kvs : List (Key × V)} (N : Nodes C H d t S kvs) (h : valV kvs (Sum.inl (o : Int) : Key) = some (.ref p)) : DGet H d (.int (o : Int)) (some (.ref p)) := by
  have g := DGet.k (k := Sum.inl (o : Int)) N.hd
  rw [h] at g
  exact g
theorem no_tn (a : Addr) (j : Nat) : (rdF a j).lookup ("take_number" : Str) = none := rdF_no _ _ (by decide +kernel) (by decide +kernel)
theorem no_tr (a : Addr) (j : Nat) : (rdF a j).lookup ("take_row" : Str) = none := rdF_no _ _ (by decide +kernel) (by decide +kernel)
section
variable {P : Program} {w : World} {K : PySem.W.Frag} {mg : Str → Option Value} {base : Heap}
theorem scSave : FnScope ["nodes", "reader", "which"] ["nodes", "reader"] (defScope sSave) := ⟨rfl, rfl, rfl, by decide +kernel, rfl, by decide +kernel, by decide +kernel⟩
theorem ok_save {f CN CR : Addr} {fd : FuncData} (F : Fun K "yn_save" "yn_save" sSave f fd) (TRd : TR K CR) (M : Mth P w K mg base 1 CR "take_number" ["self"] (spTakeN K CR)) (kD : Kon mg "DONE" 0) (C1 : Cal P w K mg base 2 "bytes_of_node" ["node"] (spBytesN CN)) : FnOk P w K mg base CX0 3 f fd ["nodes", "reader"] (spCall K CN CR 1) := by
  refine F.ok scSave (fun vs H Q E h => ?_) (fun cdv A outer s H vs Q E hr h => ?_)
  · obtain ⟨d, r, dr, a, t, i, o, ns, r', S, kvs, x, rfl, _⟩ := h
    rfl
  · obtain ⟨d, r, dr, a, t, i, o, ns, r', S, kvs, x, rfl, hR, hS, hP, hbg, N, hSl, hkv, ⟨ts, hts⟩, k⟩ := h
    have hu := hu_of hr
    refine ⟨_, pss_cons (ps_set (i := 2) scSave.nd rfl (Or.inl rfl) (pe_m0 M TRd.cl hr (pv 1)))
      (pss_one (ps_ret (pe_op op_cat (pe_lst (pa_cons (pe_k kD) pa_nil)) (pe_c C1 hr (pa_cons (pe_dget hu (pv 0) (pv 2) (fun _ _ => rfl)) pa_nil))))), ?_⟩
    generalize hw : ns.drop i = whole at hP
    cases hP with
    | save _ _ ho =>
      obtain ⟨g1, e1⟩ := drop_cons hw
      obtain ⟨y, hy⟩ : ∃ y, S.getD o none = some y := hbg.resolve_left (by intro z; cases z)
      refine ⟨_, rfl, r, dr, _, rfl, hR, no_tn _ _, r, dr, a, i, _, _, rfl, hR, hS, g1, ?_⟩
      generalize hH1 : upd H r (.ins CR dr (rdF a (i + 1))) = H1
      have hR1 : H1 r = some (.ins CR dr (rdF a (i + 1))) := by rw [← hH1]; exact upd_same
      have kp1 : ∀ b u, H b = some u → b ≠ r → H1 b = some u := fun b u e z => by rw [← hH1, upd_ne z]; exact e
      have lv1 : Live H H1 := by rw [← hH1]; exact live_upd
      have N1 := N.keep hR kp1
      obtain ⟨p, ow, h, ds, v1, v2, v3, v4, v5, v6⟩ := N1.at_ o y hy
      refine ⟨(by show 1 ≤ sizeLine; decide), fun l1 hl1 => ?_⟩
      have s1 : Same H1 (upd H1 l1 (.lst [V.int 0])) := same_upd hl1
      have N2 : Nodes CN (upd H1 l1 (.lst [V.int 0])) d t S kvs := N1.keep hR1 fun b u e _ => s1 b u e
      refine ⟨_, rfl, _, rfl, d, _, rfl, dget_of N2 v1, p, ow, h, ds, y, rfl, v2.same s1, v3, fun l2 H3 hl2 e3 s3 => ?_⟩
      refine ⟨l1, l2, _, _, rfl, rfl, s3 _ _ upd_same, e3, small' (by rw [iv_len, Cq.save_len]; show 1 + 2200 ≤ _; decide), fun l hl => ?_⟩
      have sm := (s1.trans s3).trans (same_upd (o := .lst ([V.int 0] ++ iv (Sv47.save y))) hl)
      have ed : Sv47.does (S.getD o none) .save = (S.getD o none, ⟨0, Sv47.save y⟩) := by rw [hy]; rfl
      obtain ⟨f1, f2, f3⟩ := fin_read (o := o) N hR kp1 hR1 sm (by rw [hSl]; exact ho)
      refine k l _ kvs _ (lv1 _ ((s1.trans s3).free hl)) ?_ f2 e1 ?_ (Nat.le_succ _) f3
      · rw [upd_same, ed, iv_map]
        rfl
      · rw [ed]
        exact f1
theorem scLoad : FnScope ["nodes", "reader", "which", "saved"] ["nodes", "reader"] (defScope sLoad) := ⟨rfl, rfl, rfl, by decide +kernel, rfl, by decide +kernel, by decide +kernel⟩
theorem ok_load {f CN CR : Addr} {fd : FuncData} (F : Fun K "yn_load" "yn_load" sLoad f fd) (TRd : TR K CR) (M : Mth P w K mg base 1 CR "take_number" ["self"] (spTakeN K CR)) (MR : Mth P w K mg base 2 CR "take_row" ["self"] (spTakeR K CR)) (kD : Kon mg "DONE" 0) (kB : Kon mg "BAD_BYTES" (-3))
    (C1 : Cal P w K mg base 5 "is_saved_node" ["saved"] (spIsSaved K)) (C2 : Cal P w K mg base 3 "node_from_bytes" ["saved"] (spNodeFrom K CN)) : FnOk P w K mg base CX0 6 f fd ["nodes", "reader"] (spCall K CN CR 2) := by
  refine F.ok scLoad (fun vs H Q E h => ?_) (fun cdv A outer s H vs Q E hr h => ?_)
  · obtain ⟨d, r, dr, a, t, i, o, ns, r', S, kvs, x, rfl, _⟩ := h
    rfl
  · obtain ⟨d, r, dr, a, t, i, o, ns, r', S, kvs, x, rfl, hR, hS, hP, hbg, N, hSl, hkv, ⟨ts, hts⟩, k⟩ := h
    have hu := hu_of hr
    refine ⟨_, pss_cons (ps_set (i := 2) scLoad.nd rfl (Or.inl rfl) (pe_m0 M TRd.cl hr (pv 1)))
      (pss_cons (ps_set (i := 3) scLoad.nd rfl (Or.inl rfl) (pe_m0 MR TRd.cl hr (pv 1)))
      (pss_cons (ps_if (pt_not (pt_val (pe_c C1 hr (pa_cons (pv 3) pa_nil)))) (pss_one (ps_ret (pe_lst (pa_cons (pe_k kB) pa_nil)))) pss_nil)
      (pss_cons (ps_dput hu (pv 0) (pv 2) (pe_c C2 hr (pa_cons (pv 3) pa_nil)) rfl)
      (pss_one (ps_ret (pe_lst (pa_cons (pe_k kD) pa_nil))))))), ?_⟩
    generalize hw : ns.drop i = whole at hP
    cases hP with
    | load _ b _ ho hb hz =>
      obtain ⟨g1, e1⟩ := drop_cons hw
      obtain ⟨g2, _⟩ := drop_cons e1
      obtain ⟨m1, m2, m3⟩ := drop_row e1
      refine ⟨_, rfl, r, dr, _, rfl, hR, no_tn _ _, r, dr, a, i, _, _, rfl, hR, hS, g1, ?_⟩
      refine ⟨_, rfl, r, dr, _, rfl, upd_same, no_tr _ _, r, dr, a, i + 1, b.length, _, rfl, upd_same, seq_upd hS hR, g2, m1, fun la H1 hla ela hR1 kpa => ?_⟩
      rw [m2] at ela
      have hla0 : H la = none := live_upd _ hla
      have hlar : la ≠ r := fun z => by rw [z, hR] at hla0; cases hla0
      have kp1 : ∀ b u, H b = some u → b ≠ r → H1 b = some u := fun c u e z => by
        rw [kpa c z (ne_of_none e hla0), upd_ne z]
        exact e
      have lv1 : Live H H1 := fun c e => by
        by_cases z : c = r
        · rw [z, hR1] at e; cases e
        · by_cases z2 : c = la
          · rw [z2, ela] at e; cases e
          · rw [kpa c z z2, upd_ne z] at e
            exact e
      have N1 := N.keep hR kp1
      refine ⟨_, rfl, la, b, rfl, .of ela, hb, fun c H2 hc s2 => ⟨_, rfl, ite2 (fun h1 => ?_) (fun h1 => ?_)⟩⟩
      · have hG : ¬ Cq.Good b := fun z => by
          rw [hc.mpr z] at h1
          cases h1
        have ed : Sv47.does (S.getD o none) (.load b) = (S.getD o none, Sv47.ok (-3)) := by
          show (match Sv47.load b with | some x => _ | none => _) = _
          rw [Cq.load_bad hG]
        refine ⟨(by show 1 ≤ sizeLine; decide), fun l hl => ?_⟩
        obtain ⟨f1, f2, f3⟩ := fin_read (o := o) N hR kp1 hR1 (s2.trans (same_upd (o := .lst [V.int (-3)]) hl)) (by rw [hSl]; exact ho)
        refine k l _ kvs _ (lv1 _ (s2.free hl)) ?_ f2 m3 ?_ (Nat.le_succ _) f3
        · rw [upd_same, ed]
          rfl
        · rw [ed]
          exact f1
      · have hG : Cq.Good b := by
          refine hc.mp ?_
          cases c with
          | true => rfl
          | false => exact absurd rfl h1
        have ed : Sv47.does (S.getD o none) (.load b) = (some (Sv47.said b), Sv47.ok 0) := by
          show (match Sv47.load b with | some x => _ | none => _) = _
          rw [Cq.load_good hb hz hG]
        refine ⟨_, rfl, la, b, rfl, .of (s2 _ _ ela), hb, hz, hG, fun p ow h ds H3 hn s3 nw => ?_⟩
        have s13 := s2.trans s3
        have hd3 := s13 _ _ N1.hd
        refine ⟨_, rfl, _, rfl, d, _, rfl, DPut.k (k := Sum.inl (o : Int)) hd3 (small (by omega)), ?_⟩
        refine ⟨(by show 1 ≤ sizeLine; decide), fun l hl => ?_⟩
        obtain ⟨f1, f2, f3⟩ := fin_put (o := o) N hR kp1 hR1 hts s13 hn (Cq.wf_said hb hz hG) ⟨s2.free nw.p, s2.free nw.o, s2.free nw.h, fun e he => s2.free (nw.d e he)⟩ (same_upd (o := .lst [V.int 0]) hl) (by rw [hSl]; exact ho)
        refine k l _ (putK kvs (Sum.inl (o : Int) : Key) (.ref p)) _ (lv1 _ (s13.free (live_upd _ hl))) ?_ f2 m3 ?_ (length_putK _ _ _) f3
        · rw [upd_same, ed]
          rfl
        · rw [ed]
          exact f1
end
end Pn
set_option Elab.async false
set_option linter.all false
set_option maxRecDepth 100000
namespace Pn
open PySem L2 Cx1
section
variable {P : Program} {w : World} {K : PySem.W.Frag} {mg : Str → Option Value} {base : Heap}
theorem scReceive : FnScope ["nodes", "reader", "which", "most", "letter", "changed", "sent"] ["nodes", "reader"] (defScope sReceive) := ⟨rfl, rfl, rfl, by decide +kernel, rfl, by decide +kernel, by decide +kernel⟩
theorem ok_receive {f CN CR : Addr} {fd : FuncData} (F : Fun K "yn_receive" "yn_receive" sReceive f fd) (TRd : TR K CR) (M : Mth P w K mg base 1 CR "take_number" ["self"] (spTakeN K CR)) (MR : Mth P w K mg base 2 CR "take_row" ["self"] (spTakeR K CR)) (zl : mg "len" = none)
    (kL : Kon mg "LONGEST_LETTER" 1024) (kA : Kon mg "BAD_ARGUMENTS" (-2)) (kB : Kon mg "BAD_BYTES" (-3)) (kT : Kon mg "TOO_LONG" (-7))
    (C1 : Cal P w K mg base 3 "is_right_letter" ["letter", "node"] (spRight K CN)) (C2 : Cal P w K mg base 3 "copied_node" ["node"] (spCopied CN)) (C3 : Cal P w K mg base 4 "take_letter" ["node", "letter"] (spTakeL K CN)) : FnOk P w K mg base CX0 5 f fd ["nodes", "reader"] (spCall K CN CR 3) := by
  refine F.ok scReceive (fun vs H Q E h => ?_) (fun cdv A outer s H vs Q E hr h => ?_)
  · obtain ⟨d, r, dr, a, t, i, o, ns, r', S, kvs, x, rfl, _⟩ := h
    rfl
  · obtain ⟨d, r, dr, a, t, i, o, ns, r', S, kvs, x, rfl, hR, hS, hP, hbg, N, hSl, hkv, ⟨ts, hts⟩, k⟩ := h
    have hu := hu_of hr
    refine ⟨_, pss_cons (ps_set (i := 2) scReceive.nd rfl (Or.inl rfl) (pe_m0 M TRd.cl hr (pv 1)))
      (pss_cons (ps_set (i := 3) scReceive.nd rfl (Or.inl rfl) (pe_m0 M TRd.cl hr (pv 1)))
      (pss_cons (ps_set (i := 4) scReceive.nd rfl (Or.inl rfl) (pe_m0 MR TRd.cl hr (pv 1)))
      (pss_cons (ps_if (PW.pt (pw_or (pt_cmpR op_gt (pe_callB call_len_seq (by rfl) zl PySem.boot_len (pa_cons (pv 4) pa_nil)) (pe_k kL) (nomark _)) (pw_or1 (pt_cmpR op_lt (pv 3) pe_int (nomark _))))) (pss_one (ps_ret (pe_lst (pa_cons (pe_k kA) pa_nil)))) pss_nil)
      (pss_cons (ps_if (pt_not (pt_val (pe_c C1 hr (pa_cons (pv 4) (pa_cons (pe_dget hu (pv 0) (pv 2) (fun _ _ => rfl)) pa_nil))))) (pss_one (ps_ret (pe_lst (pa_cons (pe_k kB) pa_nil)))) pss_nil)
      (pss_cons (ps_set (i := 5) scReceive.nd rfl (Or.inl rfl) (pe_c C2 hr (pa_cons (pe_dget hu (pv 0) (pv 2) (fun _ _ => rfl)) pa_nil)))
      (pss_cons (ps_set (i := 6) scReceive.nd rfl (Or.inl rfl) (pe_c C3 hr (pa_cons (pv 5) (pa_cons (pv 4) pa_nil))))
      (pss_cons (ps_if (pt_cmpR op_gt (pe_callB call_len_seq (by rfl) zl PySem.boot_len (pa_cons (pv 6) pa_nil)) (pv 3) (nomark _)) (pss_one (ps_ret (pe_lst (pa_cons (pe_k kT) pa_nil)))) pss_nil)
      (pss_cons (ps_dput hu (pv 0) (pv 2) (pv 5) rfl)
      (pss_one (ps_ret (pe_op op_cat (pe_lst (pa_cons (pe_callB call_len_seq (by rfl) zl PySem.boot_len (pa_cons (pv 6) pa_nil)) pa_nil)) (pv 6)))))))))))), ?_⟩
    generalize hw : ns.drop i = whole at hP
    cases hP with
    | receive _ most b _ ho im hb hz =>
      obtain ⟨g1, e1⟩ := drop_cons hw
      obtain ⟨g2, e2⟩ := drop_cons e1
      obtain ⟨g3, _⟩ := drop_cons e2
      obtain ⟨m1, m2, m3⟩ := drop_row e2
      obtain ⟨y, hy⟩ : ∃ y, S.getD o none = some y := hbg.resolve_left (by intro z; cases z)
      refine ⟨_, rfl, r, dr, _, rfl, hR, no_tn _ _, r, dr, a, i, _, _, rfl, hR, hS, g1, ?_⟩
      refine ⟨_, rfl, r, dr, _, rfl, upd_same, no_tn _ _, r, dr, a, i + 1, _, _, rfl, upd_same, seq_upd hS hR, g2, ?_⟩
      rw [upd_upd]
      refine ⟨_, rfl, r, dr, _, rfl, upd_same, no_tr _ _, r, dr, a, i + 1 + 1, b.length, _, rfl, upd_same, seq_upd hS hR, g3, m1, fun la H1 hla ela hR1 kpa => ?_⟩
      rw [m2] at ela
      have hla0 : H la = none := live_upd _ hla
      have kp1 : ∀ b u, H b = some u → b ≠ r → H1 b = some u := fun c u e z => by
        rw [kpa c z (ne_of_none e hla0), upd_ne z]
        exact e
      have lv1 : Live H H1 := fun c e => by
        by_cases z : c = r
        · rw [z, hR1] at e; cases e
        · by_cases z2 : c = la
          · rw [z2, ela] at e; cases e
          · rw [kpa c z z2, upd_ne z] at e
            exact e
      have N1 := N.keep hR kp1
      obtain ⟨p0, ow0, h0, ds0, v1, v2, v3, v4, v5, v6⟩ := N1.at_ o y hy
      -- a refusal at a heap that has grown
      have bad : ∀ (z : Int), Sv47.does (S.getD o none) (.receive b (b.length : Int) most) = (S.getD o none, Sv47.ok z) → ∀ H2 : Hp, Same H1 H2 → ∀ l, H2 l = none → Q (.ref l) (upd H2 l (.lst [V.int z])) := fun z ed H2 s2 l hl => by
        obtain ⟨f1, f2, f3⟩ := fin_read (o := o) N hR kp1 hR1 (s2.trans (same_upd (o := .lst [V.int z]) hl)) (by rw [hSl]; exact ho)
        refine k l _ kvs _ (lv1 _ (s2.free hl)) ?_ f2 m3 ?_ (Nat.le_succ _) f3
        · rw [upd_same, ed]
          rfl
        · rw [ed]
          exact f1
      have edo : Sv47.does (S.getD o none) (.receive b (b.length : Int) most) = Sv47.on y (.receive b (b.length : Int) most) := by rw [hy]; rfl
      have hwi : Sv47.within (b.length : Int) 0 1024 = true := by
        unfold Sv47.within
        simp
        omega
      refine ⟨_, rfl, la, _, rfl, .inl (.of ela), _, _, rfl, rfl, _, rfl, ?_⟩
      rw [iv_len]
      refine ite2 (fun h1 => ?_) (fun h1 => ?_)
      · have := of_decide_eq_true h1
        omega
      · refine ⟨_, rfl, _, _, rfl, rfl, _, rfl, ite2 (fun h2 => ?_) (fun h2 => ?_)⟩
        · have h2 := of_decide_eq_true h2
          refine ⟨(by show 1 ≤ sizeLine; decide), bad (-2) ?_ H1 (Same.refl H1)⟩
          rw [edo, hy]
          exact if_pos (.inr h2)
        · have h2 : ¬ (most < 0) := fun q => h2 (decide_eq_true q)
          have hno : ¬ (Sv47.within (b.length : Int) 0 1024 = false ∨ most < 0) := by
            rintro (z | z)
            · rw [hwi] at z
              cases z
            · exact h2 z
          refine ⟨_, rfl, _, rfl, _, rfl, d, _, rfl, dget_of N1 v1, la, p0, ow0, h0, ds0, b, y, rfl, .of ela, v2, fun c H2 hc s2 => ⟨_, rfl, ite2 (fun h3 => ?_) (fun h3 => ?_)⟩⟩
          · have hL : ¬ LetP y b := fun z => by
              rw [hc.mpr z] at h3
              cases h3
            refine ⟨(by show 1 ≤ sizeLine; decide), bad (-3) ?_ H2 s2⟩
            rw [edo, hy]
            show (if _ then _ else _) = _
            rw [if_neg hno]
            cases el : Sv47.letterOf b with
            | none => rfl
            | some l =>
              show (if Sv47.right y l = false then _ else _) = _
              rw [if_pos]
              cases er : Sv47.right y l with
              | false => rfl
              | true => exact absurd (letP_of el er) hL
          · have hL : LetP y b := by
              refine hc.mp ?_
              cases c with
              | true => rfl
              | false => exact absurd rfl h3
            obtain ⟨el, er⟩ := hL.letter
            have ed : Sv47.does (S.getD o none) (.receive b (b.length : Int) most) = Sv47.sent y most (Sv47.receive y (letOf b)) := by
              rw [edo]
              show (if _ then _ else _) = _
              rw [if_neg hno, el]
              show (if Sv47.right y (letOf b) = false then _ else _) = _
              rw [er]
              rfl
            have N2 : Nodes CN H2 d t S kvs := N1.keep hR1 fun b u e _ => s2 b u e
            refine ⟨_, rfl, _, rfl, d, _, rfl, dget_of N2 v1, p0, ow0, h0, ds0, y, rfl, v2.same s2, v3, fun p ow h ds H3 hn3 s3 nw => ?_⟩
            have s13 := s2.trans s3
            have ela3 := s13 _ _ ela
            refine ⟨_, rfl, _, rfl, p, ow, h, la, ds, y, letOf b, rfl, hn3, v3, .of (by rw [hL.bytes]; exact ela3), er, fun sb ds4 H4 hn4 hsb esb rs hds lv4 => ?_⟩
            -- all that was there ahead of the copy stands
            have s14 : Same H1 H4 := fun c u e => by
              have e2 := s2 _ _ e
              exact rs c u (s13 _ _ e) (ne_of_none e2 nw.p) (ne_of_none e2 nw.o) (ne_of_none e2 nw.h) fun z => by
                have := nw.d c z
                rw [this] at e2
                cases e2
            refine ⟨_, rfl, sb, _, rfl, .inl (.of esb), _, rfl, _, _, rfl, rfl, _, rfl, ?_⟩
            rw [iv_len]
            refine ite2 (fun h4 => ?_) (fun h4 => ?_)
            · have h4 := of_decide_eq_true h4
              refine ⟨(by show 1 ≤ sizeLine; decide), bad (-7) ?_ H4 s14⟩
              rw [ed, hy]
              exact if_pos h4
            · have h4 : ¬ (most < (((Sv47.receive y (letOf b)).2.flatMap Sv47.Letter.bytes).length : Int)) := fun q => h4 (decide_eq_true q)
              have ed2 : Sv47.does (S.getD o none) (.receive b (b.length : Int) most) = (some (Sv47.receive y (letOf b)).1, ⟨((Sv47.receive y (letOf b)).2.flatMap Sv47.Letter.bytes).length, (Sv47.receive y (letOf b)).2.flatMap Sv47.Letter.bytes⟩) := by
                rw [ed]
                exact if_neg h4
              have hd4 := s14 _ _ N1.hd
              refine ⟨_, rfl, _, rfl, _, rfl, d, _, rfl, DPut.k (k := Sum.inl (o : Int)) hd4 (small (by omega)), ?_⟩
              have esb5 : (upd H4 d (.dK (putK kvs (Sum.inl (o : Int) : Key) (.ref p)))) sb = some (.lst (iv ((Sv47.receive y (letOf b)).2.flatMap Sv47.Letter.bytes))) := by
                rw [upd_ne (lst_ne_dk esb hd4)]
                exact esb
              have hlen : ((Sv47.receive y (letOf b)).2.flatMap Sv47.Letter.bytes).length ≤ 128 * 129 := by
                unfold Sv47.receive
                split
                · exact Nat.zero_le _
                · exact Cq.goOn_sent 129 v3.n16
              refine ⟨_, rfl, sb, _, rfl, .inl (.of esb5), (by show 1 ≤ sizeLine; decide), fun l1 hl1 => ?_⟩
              have s5 : Same (upd H4 d (.dK (putK kvs (Sum.inl (o : Int) : Key) (.ref p)))) (upd (upd H4 d (.dK (putK kvs (Sum.inl (o : Int) : Key) (.ref p)))) l1 (.lst [V.int (((iv ((Sv47.receive y (letOf b)).2.flatMap Sv47.Letter.bytes)).length : Nat) : Int)])) := same_upd hl1
              refine ⟨_, rfl, l1, sb, _, _, rfl, rfl, upd_same, s5 _ _ esb5, small' (by rw [iv_len]; show 1 + _ ≤ _; omega), fun l hl => ?_⟩
              obtain ⟨f1, f2, f3⟩ := fin_put (o := o) N hR kp1 hR1 hts s14 hn4 (Cq.wf_receive v3 er)
                ⟨s2.free nw.p, s2.free nw.o, s2.free nw.h, fun e he => (hds e he).elim (fun q => s2.free (nw.d e q)) fun q => s13.free q⟩ (s5.trans (same_upd (o := .lst ([V.int (((iv ((Sv47.receive y (letOf b)).2.flatMap Sv47.Letter.bytes)).length : Nat) : Int)] ++ iv ((Sv47.receive y (letOf b)).2.flatMap Sv47.Letter.bytes))) hl)) (by rw [hSl]; exact ho)
              refine k l _ (putK kvs (Sum.inl (o : Int) : Key) (.ref p)) _ (lv1 _ (s14.free (live_upd _ (s5.free hl)))) ?_ f2 m3 ?_ (length_putK _ _ _) f3
              · rw [upd_same, ed2, iv_len, iv_map]
                rfl
              · rw [ed2]
                exact f1
end
end Pn
set_option Elab.async false
set_option linter.all false
set_option maxRecDepth 100000
namespace Pn
open PySem PySem.Spec PyProof.Rows L2 Cx1
/-- a dict of the module, whole numbers to defs -/
def EntOk (e : DictEntry) (p : Int × Addr) : Prop := ∃ t, e = ⟨hashInt p.1, .int p.1 t, .ref p.2⟩
def TabK (K : PySem.W.Frag) (c : Addr) (fs : List (Int × Addr)) : Prop :=
  ∃ (es : List DictEntry) (ep : Nat), K.lookup c = some ⟨.type "dict", none, .dict es.toArray ep, #[]⟩ ∧ Paired EntOk es fs ∧ (fs.map (·.1)).Nodup
def tabF (fs : List (Int × Addr)) (i : Int) : Option Addr := (fs.find? fun p => decide (p.1 = i)).map (·.2)
theorem tab_pairs {P : Program} {w : World} : ∀ {es : List DictEntry} {fs : List (Int × Addr)}, Paired EntOk es fs → Pairs (mixKind P w) es (fs.map fun p => ((Sum.inl p.1 : Key), Value.ref p.2))
  | _, _, .nil => .nil
  | _, _, .cons (a := e) (b := p) h t => by
    obtain ⟨tk, rfl⟩ := h
    exact .cons (keyIs_int p.1 tk) rfl (tab_pairs t)
theorem tab_keys {P : Program} {w : World} : ∀ {es : List DictEntry} {fs : List (Int × Addr)}, Paired EntOk es fs → ∀ e ∈ es, ∃ k, (mixKind P w).is k e.key = true ∧ e.hash = (mixKind P w).hash k
  | _, _, .nil, _, h => by cases h
  | _, _, .cons (a := e) (b := p) h t, e', hm => by
    rcases List.mem_cons.mp hm with q | q
    · obtain ⟨tk, rfl⟩ := h
      rw [q]
      exact ⟨Sum.inl p.1, keyIs_int p.1 tk, rfl⟩
    · exact tab_keys t e' q
theorem tab_val (i : Int) (f : Addr) : ∀ {fs : List (Int × Addr)}, tabF fs i = some f → valueAt (fs.map fun p => ((Sum.inl p.1 : Key), Value.ref p.2)) (Sum.inl i) = some (.ref f)
  | [], h => by cases h
  | p :: fs, h => by
    unfold tabF at h
    unfold valueAt
    rw [List.map_cons, List.find?_cons]
    rw [List.find?_cons] at h
    by_cases e : p.1 = i
    · have e1 : decide (p.1 = i) = true := decide_eq_true e
      have e2 : decide ((Sum.inl p.1 : Key) = Sum.inl i) = true := decide_eq_true (by rw [e])
      rw [e1] at h
      simp only [e2]
      cases h
      rfl
    · have e1 : decide (p.1 = i) = false := decide_eq_false e
      have e2 : decide ((Sum.inl p.1 : Key) = Sum.inl i) = false := decide_eq_false fun q => e (Sum.inl.inj q)
      rw [e1] at h
      simp only [e2]
      exact tab_val i f (fs := fs) h
theorem nodup_inl : ∀ {l : List Int}, l.Nodup → (l.map fun i => (Sum.inl i : Key)).Nodup
  | [], _ => List.nodup_nil
  | a :: l, h => by
    obtain ⟨h1, h2⟩ := List.nodup_cons.mp h
    refine List.nodup_cons.mpr ⟨fun hm => ?_, nodup_inl h2⟩
    obtain ⟨b, hb, e⟩ := List.mem_map.mp hm
    cases e
    exact h1 hb
theorem tab_dict {P : Program} {w : World} {K : PySem.W.Frag} {c : Addr} {fs : List (Int × Addr)} {h : Heap} (T : TabK K c fs) (X : K.In h) : h.DictOf (mixKind P w) c (fs.map fun p => ((Sum.inl p.1 : Key), Value.ref p.2)) := by
  obtain ⟨es, ep, lk, hp, nd⟩ := T
  refine ⟨_, es.toArray, ep, X _ _ lk, ⟨rfl, rfl, rfl⟩, rfl, fun e he => tab_keys hp e (by simpa using he), by simpa using tab_pairs hp, ?_⟩
  rw [List.map_map]
  have q := nodup_inl nd
  rw [List.map_map] at q
  exact q
/-- D[e](e, ..) -/
def tCallD (P : Program) (w : World) (K : PySem.W.Frag) (mg : Str → Option Value) (base : Heap) (k : Nat) (fs : List (Int × Addr)) (ti : TE) (t : TA) : TE := fun σ H Q => ti σ H fun y H1 => ∃ (i : Int) (f : Addr) (fd : FuncData) (ps : List Str) (sp : Sp), y = .int i ∧ tabF fs i = some f ∧
  FnOk P w K mg base CX0 k f fd ps sp ∧ PySem.W.keepIn K (.ref f) = true ∧ Binds K fd ps [] ∧ t σ H1 fun vs H2 => sp (vs ++ []) H2 Q E0
theorem pe_callD {X : Cx} {j k : Nat} {x : Str} {c : Addr} {fs : List (Int × Addr)} {p1 p2 pos : Pos} {idx e : Expr} {es : List Expr} {ti : TE} {t : TA} (T : TabK X.K c fs) (hm : X.mg x = some (.ref c)) (hr : Room j X.A) (hi : PE X idx ti) (hs : NoSl idx) (ha : PA X (e :: es) t) (hj : k ≤ j := by decide) (hg : Gl X x := by rfl)
    (hd : (x == ("__debug__" : Str)) = false := by decide) (he : starEach (e :: es) X.env = (false, eval e X.env) :: starEach es X.env := by rfl) (hpl : (backTo pos (starEach es X.env)).any (·.1) = false := by rfl)
    (hev : eval (.Call (.Subscript (.Name x p1) idx p2) (e :: es) [] pos) X.env = (do callWith pos (← eval (.Subscript (.Name x p1) idx p2) X.env) [] (backTo pos (starEach (e :: es) X.env)) (backToKw pos (keywordEach [] X.env))) := by rfl) :
    PE X (.Call (.Subscript (.Name x p1) idx p2) (e :: es) [] pos) (tCallD X.prog X.w X.K X.mg X.base k fs ti t) := by
  intro pins s σ H Q I h
  rw [hev]
  refine wpAny_bind ?_
  refine subD_of PySem.F.slot_dict_getitem.lookup hs (ld_glob I hg hm ?_ hd)
  refine thn (hi pins s σ H _ I h) fun iv s2 ⟨y, H2, I2, ry, i, f, fd, ps, sp, ey, ht, F, hk, hb, q⟩ => ?_
  subst ey
  obtain ⟨tok, rfl⟩ := ry
  have dd := tab_dict (P := X.prog) (w := X.w) T I2.kIn
  refine ⟨dd.typeIs, wpAny_getItem_of (knd := mixKind X.prog X.w) (k := Sum.inl i) (keyIs_int i tok) dd.mapOf (tab_val i f ht) ?_⟩
  refine PySem.W.callWith_K (h₀ := X.base) I2.ok.mod.kin hk (thn (ha pos pins _ σ H2 _ (I2.tok _) q) fun us s1 ⟨vs, H1, I1, r, q1⟩ => ⟨I1.kIn, ?_⟩) he hpl
  exact run_fn F (hr.mono hj) hb .nil pass0 I1 r q1
end Pn
set_option Elab.async false
set_option linter.all false
set_option maxRecDepth 100000
namespace Pn
open PySem L2 Cx1
/-- the request: known to the object, or an object of the module -/
def FrzL (K : PySem.W.Frag) (H : Hp) (a : Addr) (xs : List V) : Prop :=
  (∃ o, H a = some (.frz o (.lst xs))) ∨ ∃ (o : Obj) (its : Array Value) (n : Nat), K.lookup a = some o ∧ o.cls = .type "list" ∧ o.dict = none ∧ o.data = .seq its n ∧ its.size ≤ sizeLine ∧ Vals xs its.toList
theorem FrzL.sq {K : PySem.W.Frag} {H : Hp} {a : Addr} {xs : List V} (h : FrzL K H a xs) : SqL K H a xs := by
  rcases h with ⟨o, h⟩ | h
  · exact .inl (.inr ⟨o, h⟩)
  · exact .inr h
theorem FrzL.of {K : PySem.W.Frag} {H : Hp} {a : Addr} {xs : List V} (hO : Only H) (h : SqL K H a xs) : FrzL K H a xs := by
  rcases h with (h | ⟨o, h⟩) | h
  · rcases hO a with z | ⟨o, ys, z⟩
    · rw [h] at z; cases z
    · rw [h] at z; cases z
  · exact .inl ⟨o, h⟩
  · exact .inr h
theorem FrzL.keep {K : PySem.W.Frag} {H H' : Hp} {a : Addr} {xs : List V} (h : FrzL K H a xs) (kp : ∀ o u, H a = some (.frz o u) → H' a = some (.frz o u)) : FrzL K H' a xs := by
  rcases h with ⟨o, h⟩ | h
  · exact .inl ⟨o, kp o _ h⟩
  · exact .inr h
theorem Nodes.told {C : Addr} {H : Hp} {d t : Addr} {S : Sv47Neutral.S} {kvs : List (Key × V)} {ts : List V} {u : HO} (N : Nodes C H d t S kvs) (ht : H t = some (.lst ts)) : Nodes C (upd H t u) d t S kvs := by
  refine ⟨by rw [upd_ne (lst_ne_dk ht N.hd).symm]; exact N.hd, fun o x e => ?_⟩
  obtain ⟨p, ow, h, ds, h1, h2, h3, h4, h5, h6⟩ := N.at_ o x e
  obtain ⟨dx, ob⟩ := h2.ob
  refine ⟨p, ow, h, ds, h1, h2.keep (upd_ne (lst_ne_ins ht ob).symm) (upd_ne h5.symm) (upd_ne h6.symm) (fun d hd => ?_), h3, h4, h5, h6⟩
  obtain ⟨tt, htt⟩ := List.getElem?_of_mem hd
  exact upd_ne (lst_ne_dk ht (h2.dc tt d htt)).symm
section
variable {P : Program} {w : World} {K : PySem.W.Frag} {mg : Str → Option Value} {base : Heap}
def NewR (P : Program) (w : World) (K : PySem.W.Frag) (mg : Str → Option Value) (base : Heap) (C : Addr) : Prop :=
  ∃ (f : Addr) (fd : FuncData), Mk K C f ∧ FnOk P w K mg base CX0 1 f fd ["self", "numbers"] (spRInit C) ∧ mg "Reader" = some (.ref C) ∧ Binds K fd ["self", "numbers"] []
theorem pe_newR {X : Cx} {j : Nat} {C : Addr} {p pos : Pos} {e : Expr} {es : List Expr} {t : TA} (N : NewR X.prog X.w X.K X.mg X.base C) (hr : Room j X.A) (ha : PA X (e :: es) t) (hj : 2 ≤ j := by decide) (hg : Gl X "Reader" := by rfl)
    (he : starEach (e :: es) X.env = (false, eval e X.env) :: starEach es X.env := by rfl) (hpl : (backTo pos (starEach es X.env)).any (·.1) = false := by rfl) :
    PE X (.Call (.Name "Reader" p) (e :: es) [] pos) (tMake C (spRInit C) [] E0 t) := by
  obtain ⟨f, fd, M, F, hm, hb⟩ := N
  exact pe_make M F (hr.mono hj) hg hm hb .nil pass0 ha (by decide) he hpl
def spAnswers (K : PySem.W.Frag) : Sp := fun vs H Q _ => ∃ (a : Addr) (ns : List Int), vs = [.ref a] ∧ FrzL K H a (ns.map V.int) ∧ PySv47.answers_asked ns = true ∧ ∀ l H', H' l = some (.lst ((PySv47.answers ns).map V.int)) → Q (.ref l) H'
theorem scAnswers : FnScope ["calls", "reader", "nodes", "told", "number", "answer"] ["calls"] (defScope sAnswers) := ⟨rfl, rfl, rfl, by decide +kernel, rfl, by decide +kernel, by decide +kernel⟩
theorem ok_answers {f CN CR c : Addr} {fd : FuncData} {fs : List (Int × Addr)} (F : Fun K "answers" "answers" sAnswers f fd) (TRd : TR K CR) (NR : NewR P w K mg base CR) (MH : Mth P w K mg base 1 CR "has_more" ["self"] (spHas K CR)) (M : Mth P w K mg base 1 CR "take_number" ["self"] (spTakeN K CR)) (zl : mg "len" = none)
    (T : TabK K c fs) (hm : mg "CALLS" = some (.ref c))
    (D : ∀ (p : Int) (r : List Int) (o : Nat) (x : Sv47.Call) (r' : List Int), Cq.Parsed p r o x r' → ∃ (f : Addr) (fd : FuncData), tabF fs p = some f ∧ FnOk P w K mg base CX0 6 f fd ["nodes", "reader"] (spCall K CN CR p) ∧ PySem.W.keepIn K (.ref f) = true ∧ Binds K fd ["nodes", "reader"] []) :
    FnOk P w K mg base CX0 7 f fd ["calls"] (spAnswers K) := by
  refine F.ok scAnswers (fun vs H Q E h => ?_) (fun cdv A outer s H vs Q E hr h => ?_)
  · obtain ⟨a, ns, rfl, _⟩ := h
    rfl
  · obtain ⟨a, ns, rfl, hF, hask, k⟩ := h
    obtain ⟨R0, hlen⟩ := Cq.rest_start hask
    refine ⟨_, pss_cons (ps_set (i := 1) scAnswers.nd rfl (Or.inl rfl) (pe_newR NR hr (pa_cons (pv 0) pa_nil)))
      (pss_cons (ps_set (i := 2) scAnswers.nd rfl (Or.inl rfl) pe_dnewK)
      (pss_cons (ps_set (i := 3) scAnswers.nd rfl (Or.inl rfl) (pe_lst pa_nil))
      (pss_cons (ps_while PassesOwn.never (pt_val (pe_m0 MH TRd.cl hr (pv 1)))
        (pss_cons (ps_set (i := 4) scAnswers.nd rfl (Or.inl rfl) (pe_m0 M TRd.cl hr (pv 1)))
        (pss_cons (ps_set (i := 5) scAnswers.nd rfl (Or.inl rfl) (pe_callD (k := 6) T hm hr (pv 4) (fun _ _ => rfl) (pa_cons (pv 2) (pa_cons (pv 1) pa_nil))))
        (pss_cons (ps_expr (pe_bm PySem.F.plainAttrs_list PySem.F.slot_list_append PySem.F.type_list_append mt_append (pv 3) (pa_cons (pe_callB call_len_seq (by rfl) zl PySem.boot_len (pa_cons (pv 5) pa_nil)) pa_nil)))
        (pss_one (ps_expr (pe_bm PySem.F.plainAttrs_list PySem.F.slot_list_extend PySem.F.type_list_extend mt_extend (pv 3) (pa_cons (pv 5) pa_nil))))))))
      (pss_one (ps_ret (pv 3)))))), ?_⟩
    refine ⟨_, rfl, fun r dr nr ndr ner => ⟨r, dr, a, rfl, upd_same, rfl, ?_⟩⟩
    rw [upd_upd, upd_upd]
    generalize hH1 : upd (upd H dr (.own r)) r (.ins CR dr (rdF a 0)) = H1
    have hR1 : H1 r = some (.ins CR dr (rdF a 0)) := by rw [← hH1]; exact upd_same
    have s1 : Same H H1 := fun b u e => by
      rw [← hH1, upd_ne (ne_of_none e nr), upd_ne (ne_of_none e ndr)]
      exact e
    intro d hd
    have s2 : Same H1 (upd H1 d (.dK [])) := same_upd hd
    refine ⟨(by show 0 ≤ sizeLine; decide), fun t ht => ?_⟩
    have s3 := s2.trans (same_upd (o := .lst []) ht)
    have hdt : d ≠ t := fun e => by rw [← e, upd_same] at ht; cases ht
    refine ⟨fun m σ H2 => ∃ (i : Nat) (S : Sv47Neutral.S) (kvs : List (Key × V)) (B A' : List Int) (u v : Option V), σ = [some (.ref a), some (.ref r), some (.ref d), some (.ref t), u, v] ∧ H2 r = some (.ins CR dr (rdF a i)) ∧ FrzL K H2 a (ns.map V.int) ∧ Nodes CN H2 d t S kvs ∧ S.length = 16 ∧ kvs.length + m ≤ 400 ∧
        H2 t = some (.lst (B.map V.int)) ∧ Cq.Rest S (ns.drop i) A' m ∧ PySv47.answers ns = B ++ A',
      ⟨400, 0, Sv47Neutral.start, [], [], PySv47.answers ns, none, none, rfl, s3 _ _ hR1, hF.keep fun o u e => s3 _ _ (s1 _ _ e), ⟨by rw [upd_ne hdt]; exact upd_same, fun o x e => ?_⟩, rfl, Nat.le_refl _, upd_same, R0, rfl⟩, ?_⟩
    · exfalso
      unfold Sv47Neutral.start at e
      rw [List.getD_eq_getElem?_getD, List.getElem?_replicate] at e
      split at e <;> cases e
    rintro m σ H2 ⟨i, S, kvs, B, A', u, v, rfl, hR, hFr, N, hSl, hkv, ht2, hRest, eA⟩
    have hS := hFr.sq
    refine ⟨_, rfl, r, dr, _, rfl, hR, rdF_no _ _ (by decide +kernel) (by decide +kernel), r, dr, a, i, _, rfl, hR, hS, _, rfl, ?_⟩
    rw [List.length_map]
    refine ite2 (fun h1 => ?_) (fun h1 => ?_)
    · have hi := of_decide_eq_true h1
      refine ⟨fun σ' H' => ∃ m', m' < m ∧ ∃ (i : Nat) (S : Sv47Neutral.S) (kvs : List (Key × V)) (B A' : List Int) (u v : Option V), σ' = [some (.ref a), some (.ref r), some (.ref d), some (.ref t), u, v] ∧ H' r = some (.ins CR dr (rdF a i)) ∧ FrzL K H' a (ns.map V.int) ∧ Nodes CN H' d t S kvs ∧ S.length = 16 ∧ kvs.length + m' ≤ 400 ∧
        H' t = some (.lst (B.map V.int)) ∧ Cq.Rest S (ns.drop i) A' m' ∧ PySv47.answers ns = B ++ A', fun σ' H' q => q, ?_⟩
      obtain ⟨p, rr, hpr⟩ : ∃ p rr, ns.drop i = p :: rr := ⟨_, _, List.drop_eq_getElem_cons hi⟩
      obtain ⟨g1, e1⟩ := drop_cons hpr
      rw [hpr] at hRest
      obtain ⟨o, x, r', A2, m', hP, hbg, rfl, eA2, hRest2⟩ := Cq.rest_cons hRest
      have ho : o < 16 := by cases hP <;> assumption
      obtain ⟨f', fd', hf1, hf2, hf3, hf4⟩ := D p rr o x r' hP
      refine ⟨_, rfl, r, dr, _, rfl, hR, no_tn _ _, r, dr, a, i, _, _, rfl, hR, hS, g1, ?_⟩
      generalize hH3 : upd H2 r (.ins CR dr (rdF a (i + 1))) = H3
      have hR3 : H3 r = some (.ins CR dr (rdF a (i + 1))) := by rw [← hH3]; exact upd_same
      have kp3 : ∀ b u, H2 b = some u → b ≠ r → H3 b = some u := fun b u e z => by rw [← hH3, upd_ne z]; exact e
      have N3 := N.keep hR kp3
      have ht3 : H3 t = some (.lst (B.map V.int)) := kp3 _ _ ht2 (lst_ne_ins ht2 hR)
      have hF3 : FrzL K H3 a (ns.map V.int) := hFr.keep fun o u e => kp3 _ _ e (ne_of e hR (by intro z; cases z))
      refine ⟨_, rfl, p, f', fd', _, _, rfl, hf1, hf2, hf3, hf4, _, rfl, _, rfl, d, r, dr, a, t, i + 1, o, ns, r', S, kvs, x, rfl, hR3, hF3.sq, by rw [e1]; exact hP, hbg, N3, hSl, by omega, ⟨_, ht3⟩, ?_⟩
      intro l H4 kvs4 i4 hl el hR4 hi4 N4 hk4 kp4
      have htd : t ≠ d := lst_ne_dk ht3 N3.hd
      have htr : t ≠ r := lst_ne_ins ht3 hR3
      have ht4 : H4 t = some (.lst (B.map V.int)) := kp4 _ _ ht3 htd htr
      have htl : t ≠ l := ne_of_none ht3 hl
      have lenA : (PySv47.answers ns).length = B.length + ((ansL (Sv47.does (S.getD o none) x).2).length + 1 + A2.length) := by
        rw [eA, eA2, List.length_append, List.length_cons, List.length_cons, List.length_append, Cq.ints_len]
        show _ = B.length + ((Sv47Neutral.ints (Sv47.does (S.getD o none) x).2.l).length + 1 + 1 + A2.length)
        rw [Cq.ints_len]
        omega
      refine ⟨_, rfl, .inl ⟨rfl, _, .of ht4⟩, _, rfl, l, _, rfl, .inl (.of el), t, _, _, rfl, rfl, ht4, small (by rw [List.length_map]; omega), ?_⟩
      have ht5 := upd_same (H := H4) (a := t) (o := HO.lst (B.map V.int ++ [V.int ((((ansL (Sv47.does (S.getD o none) x).2).map V.int).length : Nat) : Int)]))
      have el5 : (upd H4 t (.lst (B.map V.int ++ [V.int ((((ansL (Sv47.does (S.getD o none) x).2).map V.int).length : Nat) : Int)]))) l = some (.lst ((ansL (Sv47.does (S.getD o none) x).2).map V.int)) := by
        rw [upd_ne htl.symm]
        exact el
      refine ⟨_, rfl, .inl ⟨rfl, _, .of ht5⟩, _, rfl, t, l, _, _, rfl, rfl, ht5, el5, small' (by rw [List.length_append, List.length_map, List.length_map]; show B.length + 1 + _ ≤ _; omega), ?_⟩
      rw [upd_upd]
      refine ⟨m', Nat.lt_succ_self _, i4, _, kvs4, B ++ ((((ansL (Sv47.does (S.getD o none) x).2).length : Nat) : Int) :: ansL (Sv47.does (S.getD o none) x).2), A2, _, _, rfl, ?_, ?_, N4.told ht4, by rw [List.length_set]; exact hSl, by omega, ?_, by rw [hi4]; exact hRest2, ?_⟩
      · rw [upd_ne htr.symm]
        exact hR4
      · refine hF3.keep fun o u e => ?_
        rw [upd_ne (ne_of e ht3 (by intro z; cases z))]
        exact kp4 _ _ e (ne_of e N3.hd (by intro z; cases z)) (ne_of e hR3 (by intro z; cases z))
      · rw [upd_same, List.map_append, List.map_cons, List.length_map, List.append_assoc]
        rfl
      · rw [eA, eA2, List.append_assoc, List.cons_append]
        show _ = B ++ ((((Sv47Neutral.ints (Sv47.does (S.getD o none) x).2.l).length + 1 : Nat) : Int) :: ((Sv47.does (S.getD o none) x).2.v :: (Sv47Neutral.ints (Sv47.does (S.getD o none) x).2.l ++ A2)))
        rw [Cq.ints_len]
    · have hi : ¬ i < ns.length := fun q => h1 (decide_eq_true q)
      rw [List.drop_of_length_le (by omega)] at hRest
      have e := Cq.rest_nil hRest
      subst e
      rw [List.append_nil] at eA
      refine ⟨_, rfl, k t H2 ?_⟩
      rw [eA]
      exact ht2
end
end Pn
set_option Elab.async false
set_option linter.all false
set_option maxRecDepth 100000
namespace Pn
open PySem L2 Cx1
section
variable {P : Program} {w : World} {K : PySem.W.Frag} {mg : Str → Option Value} {base : Heap}
theorem scStg : FnScope ["nodes", "reader", "node"] ["nodes", "reader"] (defScope sStg) := ⟨rfl, rfl, rfl, by decide +kernel, rfl, by decide +kernel, by decide +kernel⟩
theorem ok_stg {f CN CR : Addr} {fd : FuncData} (F : Fun K "yn_stage" "yn_stage" sStg f fd) (T : TN K CN) (TRd : TR K CR) (M : Mth P w K mg base 1 CR "take_number" ["self"] (spTakeN K CR)) : FnOk P w K mg base CX0 2 f fd ["nodes", "reader"] (spCall K CN CR 6) := by
  refine F.ok scStg (fun vs H Q E h => ?_) (fun cdv A outer s H vs Q E hr h => ?_)
  · obtain ⟨d, r, dr, a, t, i, o, ns, r', S, kvs, x, rfl, _⟩ := h
    rfl
  · obtain ⟨d, r, dr, a, t, i, o, ns, r', S, kvs, x, rfl, hR, hS, hP, hbg, N, hSl, hkv, ⟨ts, hts⟩, k⟩ := h
    have hu := hu_of hr
    refine ⟨_, pss_cons (ps_set (i := 2) scStg.nd rfl (Or.inl rfl) (pe_dget hu (pv 0) (pe_m0 M TRd.cl hr (pv 1)) (fun _ _ => rfl)))
      (pss_one (ps_ret (pe_lst (pa_cons (pe_fld (pv 2) rfl) pa_nil)))), ?_⟩
    generalize hw : ns.drop i = whole at hP
    cases hP with
    | stage _ _ ho =>
      obtain ⟨g1, e1⟩ := drop_cons hw
      obtain ⟨y, hy⟩ : ∃ y, S.getD o none = some y := hbg.resolve_left (by intro z; cases z)
      refine ⟨_, rfl, _, rfl, r, dr, _, rfl, hR, no_tn _ _, r, dr, a, i, _, _, rfl, hR, hS, g1, ?_⟩
      generalize hH1 : upd H r (.ins CR dr (rdF a (i + 1))) = H1
      have hR1 : H1 r = some (.ins CR dr (rdF a (i + 1))) := by rw [← hH1]; exact upd_same
      have kp1 : ∀ b u, H b = some u → b ≠ r → H1 b = some u := fun b u e z => by rw [← hH1, upd_ne z]; exact e
      have lv1 : Live H H1 := by rw [← hH1]; exact live_upd
      have N1 := N.keep hR kp1
      obtain ⟨p, ow, h, ds, v1, v2, v3, v4, v5, v6⟩ := N1.at_ o y hy
      obtain ⟨dx, ob⟩ := v2.ob
      refine ⟨d, _, rfl, dget_of N1 v1, ?_⟩
      refine ⟨_, rfl, p, CN, dx, _, _, rfl, ob, T.cl, T.st, ndF_stage _ _ _ _ _ _ _, (by show 1 ≤ sizeLine; decide), fun l hl => ?_⟩
      have ed : Sv47.does (S.getD o none) .stage = (S.getD o none, Sv47.ok (y.stage : Nat)) := by rw [hy]; rfl
      obtain ⟨f1, f2, f3⟩ := fin_read (o := o) N hR kp1 hR1 (same_upd (o := .lst [V.int (y.stage : Nat)]) hl) (by rw [hSl]; exact ho)
      refine k l _ kvs _ (lv1 _ hl) ?_ f2 e1 ?_ (Nat.le_succ _) f3
      · rw [upd_same, ed]
        rfl
      · rw [ed]
        exact f1
theorem scAnswer : FnScope ["nodes", "reader", "node"] ["nodes", "reader"] (defScope sAnswer) := ⟨rfl, rfl, rfl, by decide +kernel, rfl, by decide +kernel, by decide +kernel⟩
theorem ok_answer {f CN CR : Addr} {fd : FuncData} (F : Fun K "yn_answer" "yn_answer" sAnswer f fd) (T : TN K CN) (TRd : TR K CR) (M : Mth P w K mg base 1 CR "take_number" ["self"] (spTakeN K CR)) (kN : Kon mg "NOT_COME_TO" (-4)) : FnOk P w K mg base CX0 2 f fd ["nodes", "reader"] (spCall K CN CR 5) := by
  refine F.ok scAnswer (fun vs H Q E h => ?_) (fun cdv A outer s H vs Q E hr h => ?_)
  · obtain ⟨d, r, dr, a, t, i, o, ns, r', S, kvs, x, rfl, _⟩ := h
    rfl
  · obtain ⟨d, r, dr, a, t, i, o, ns, r', S, kvs, x, rfl, hR, hS, hP, hbg, N, hSl, hkv, ⟨ts, hts⟩, k⟩ := h
    have hu := hu_of hr
    refine ⟨_, pss_cons (ps_set (i := 2) scAnswer.nd rfl (Or.inl rfl) (pe_dget hu (pv 0) (pe_m0 M TRd.cl hr (pv 1)) (fun _ _ => rfl)))
      (pss_cons (ps_if (pt_cmp (pc_isN (pe_fld (pv 2) rfl))) (pss_one (ps_ret (pe_lst (pa_cons (pe_k kN) pa_nil)))) pss_nil)
      (pss_one (ps_ret (pe_lst (pa_cons (pe_fld (pv 2) rfl) pa_nil))))), ?_⟩
    generalize hw : ns.drop i = whole at hP
    cases hP with
    | answer _ _ ho =>
      obtain ⟨g1, e1⟩ := drop_cons hw
      obtain ⟨y, hy⟩ : ∃ y, S.getD o none = some y := hbg.resolve_left (by intro z; cases z)
      refine ⟨_, rfl, _, rfl, r, dr, _, rfl, hR, no_tn _ _, r, dr, a, i, _, _, rfl, hR, hS, g1, ?_⟩
      generalize hH1 : upd H r (.ins CR dr (rdF a (i + 1))) = H1
      have hR1 : H1 r = some (.ins CR dr (rdF a (i + 1))) := by rw [← hH1]; exact upd_same
      have kp1 : ∀ b u, H b = some u → b ≠ r → H1 b = some u := fun b u e z => by rw [← hH1, upd_ne z]; exact e
      have lv1 : Live H H1 := by rw [← hH1]; exact live_upd
      have N1 := N.keep hR kp1
      obtain ⟨p, ow, h, ds, v1, v2, v3, v4, v5, v6⟩ := N1.at_ o y hy
      obtain ⟨dx, ob⟩ := v2.ob
      refine ⟨d, _, rfl, dget_of N1 v1, ?_⟩
      have fin : ∀ (z : Int), Sv47.does (S.getD o none) .answer = (S.getD o none, Sv47.ok z) → ∀ l, H1 l = none → Q (.ref l) (upd H1 l (.lst [V.int z])) := fun z ed l hl => by
        obtain ⟨f1, f2, f3⟩ := fin_read (o := o) N hR kp1 hR1 (same_upd (o := .lst [V.int z]) hl) (by rw [hSl]; exact ho)
        refine k l _ kvs _ (lv1 _ hl) ?_ f2 e1 ?_ (Nat.le_succ _) f3
        · rw [upd_same, ed]
          rfl
        · rw [ed]
          exact f1
      refine ⟨_, rfl, p, CN, dx, _, _, rfl, ob, T.cl, T.an, ndF_answer _ _ _ _ _ _ _, _, rfl, ?_⟩
      cases ea : y.answer with
      | none =>
        refine ite2 (fun h1 => ?_) (fun h1 => absurd (decide_eq_true rfl) h1)
        exact ⟨(by show 1 ≤ sizeLine; decide), fin (-4) (by rw [hy]; show (some y, match y.answer with | some v => _ | none => _) = _; rw [ea])⟩
      | some v =>
        refine ite2 (fun h1 => (by have := of_decide_eq_true h1; cases this)) (fun h1 => ?_)
        rw [ea] at ob
        refine ⟨_, rfl, p, CN, dx, _, _, rfl, ob, T.cl, T.an, ndF_answer _ _ _ _ _ _ _, (by show 1 ≤ sizeLine; decide), ?_⟩
        exact fin (v : Nat) (by rw [hy]; show (some y, match y.answer with | some v => _ | none => _) = _; rw [ea])
theorem scAgain : FnScope ["nodes", "reader", "node", "to", "stage", "most", "sent"] ["nodes", "reader"] (defScope sAgain) := ⟨rfl, rfl, rfl, by decide +kernel, rfl, by decide +kernel, by decide +kernel⟩
theorem ok_again {f CN CR : Addr} {fd : FuncData} (F : Fun K "yn_again" "yn_again" sAgain f fd) (T : TN K CN) (TRd : TR K CR) (M : Mth P w K mg base 1 CR "take_number" ["self"] (spTakeN K CR)) (zl : mg "len" = none)
    (kA : Kon mg "BAD_ARGUMENTS" (-2)) (kN : Kon mg "NOT_COME_TO" (-4)) (kT : Kon mg "TOO_LONG" (-7))
    (C1 : Cal P w K mg base 1 "is_other_node" ["number", "me", "n"] spOther) (C0 : Cal P w K mg base 1 "is_stage" ["number"] spIsSt) (C2 : Cal P w K mg base 1 "written_letter" ["node", "receiver", "stage"] (spWritten CN)) : FnOk P w K mg base CX0 2 f fd ["nodes", "reader"] (spCall K CN CR 4) := by
  refine F.ok scAgain (fun vs H Q E h => ?_) (fun cdv A outer s H vs Q E hr h => ?_)
  · obtain ⟨d, r, dr, a, t, i, o, ns, r', S, kvs, x, rfl, _⟩ := h
    rfl
  · obtain ⟨d, r, dr, a, t, i, o, ns, r', S, kvs, x, rfl, hR, hS, hP, hbg, N, hSl, hkv, ⟨ts, hts⟩, k⟩ := h
    have hu := hu_of hr
    refine ⟨_, pss_cons (ps_set (i := 2) scAgain.nd rfl (Or.inl rfl) (pe_dget hu (pv 0) (pe_m0 M TRd.cl hr (pv 1)) (fun _ _ => rfl)))
      (pss_cons (ps_set (i := 3) scAgain.nd rfl (Or.inl rfl) (pe_m0 M TRd.cl hr (pv 1)))
      (pss_cons (ps_set (i := 4) scAgain.nd rfl (Or.inl rfl) (pe_m0 M TRd.cl hr (pv 1)))
      (pss_cons (ps_set (i := 5) scAgain.nd rfl (Or.inl rfl) (pe_m0 M TRd.cl hr (pv 1)))
      (pss_cons (ps_if (PW.pt (pw_or (pt_not (pt_val (pe_c C1 hr (pa_cons (pv 3) (pa_cons (pe_fld (pv 2) rfl) (pa_cons (pe_fld (pv 2) rfl) pa_nil)))))) (pw_or (pt_not (pt_val (pe_c C0 hr (pa_cons (pv 4) pa_nil)))) (pw_or1 (pt_cmpR op_lt (pv 5) pe_int (nomark _)))))) (pss_one (ps_ret (pe_lst (pa_cons (pe_k kA) pa_nil)))) pss_nil)
      (pss_cons (ps_if (pt_cmpR op_lt (pe_fld (pv 2) rfl) (pv 4) (nomark _)) (pss_one (ps_ret (pe_lst (pa_cons (pe_k kN) pa_nil)))) pss_nil)
      (pss_cons (ps_set (i := 6) scAgain.nd rfl (Or.inl rfl) (pe_c C2 hr (pa_cons (pv 2) (pa_cons (pv 3) (pa_cons (pv 4) pa_nil)))))
      (pss_cons (ps_if (pt_cmpR op_gt (pe_callB call_len_seq (by rfl) zl PySem.boot_len (pa_cons (pv 6) pa_nil)) (pv 5) (nomark _)) (pss_one (ps_ret (pe_lst (pa_cons (pe_k kT) pa_nil)))) pss_nil)
      (pss_one (ps_ret (pe_op op_cat (pe_lst (pa_cons (pe_callB call_len_seq (by rfl) zl PySem.boot_len (pa_cons (pv 6) pa_nil)) pa_nil)) (pv 6))))))))))), ?_⟩
    generalize hw : ns.drop i = whole at hP
    cases hP with
    | again _ to st most _ ho i1 i2 i3 =>
      obtain ⟨g1, e1⟩ := drop_cons hw
      obtain ⟨g2, e2⟩ := drop_cons e1
      obtain ⟨g3, e3⟩ := drop_cons e2
      obtain ⟨g4, e4⟩ := drop_cons e3
      obtain ⟨y, hy⟩ : ∃ y, S.getD o none = some y := hbg.resolve_left (by intro z; cases z)
      refine ⟨_, rfl, _, rfl, r, dr, _, rfl, hR, no_tn _ _, r, dr, a, i, _, _, rfl, hR, hS, g1, ?_⟩
      have Na : Nodes CN (upd H r (.ins CR dr (rdF a (i + 1)))) d t S kvs := N.keep hR fun b u e z => by rw [upd_ne z]; exact e
      obtain ⟨p, _, _, _, v1, _⟩ := N.at_ o y hy
      refine ⟨d, _, rfl, dget_of Na v1, ?_⟩
      refine ⟨_, rfl, r, dr, _, rfl, upd_same, no_tn _ _, r, dr, a, i + 1, _, _, rfl, upd_same, seq_upd hS hR, g2, ?_⟩
      rw [upd_upd]
      refine ⟨_, rfl, r, dr, _, rfl, upd_same, no_tn _ _, r, dr, a, i + 1 + 1, _, _, rfl, upd_same, seq_upd hS hR, g3, ?_⟩
      rw [upd_upd]
      refine ⟨_, rfl, r, dr, _, rfl, upd_same, no_tn _ _, r, dr, a, i + 1 + 1 + 1, _, _, rfl, upd_same, seq_upd hS hR, g4, ?_⟩
      rw [upd_upd]
      generalize hH1 : upd H r (.ins CR dr (rdF a (i + 1 + 1 + 1 + 1))) = H1
      have hR1 : H1 r = some (.ins CR dr (rdF a (i + 1 + 1 + 1 + 1))) := by rw [← hH1]; exact upd_same
      have kp1 : ∀ b u, H b = some u → b ≠ r → H1 b = some u := fun b u e z => by rw [← hH1, upd_ne z]; exact e
      have lv1 : Live H H1 := by rw [← hH1]; exact live_upd
      have N1 := N.keep hR kp1
      obtain ⟨p', ow, h, ds, w1, v2, v3, _, _, _⟩ := N1.at_ o y hy
      have ep : p = p' := by
        rw [v1] at w1
        cases w1
        rfl
      subst ep
      obtain ⟨dx, ob⟩ := v2.ob
      have bad : ∀ (z : Int), Sv47.does (S.getD o none) (.again to st most) = (S.getD o none, Sv47.ok z) → ∀ H2 : Hp, Same H1 H2 → ∀ l, H2 l = none → Q (.ref l) (upd H2 l (.lst [V.int z])) := fun z ed H2 s2 l hl => by
        obtain ⟨f1, f2, f3⟩ := fin_read (o := o) N hR kp1 hR1 (s2.trans (same_upd (o := .lst [V.int z]) hl)) (by rw [hSl]; exact ho)
        refine k l _ kvs _ (lv1 _ (s2.free hl)) ?_ f2 e4 ?_ (Nat.le_succ _) f3
        · rw [upd_same, ed]
          rfl
        · rw [ed]
          exact f1
      have edo : Sv47.does (S.getD o none) (.again to st most) = Sv47.on y (.again to st most) := by rw [hy]; rfl
      have b2 : (to < 0 ∨ y.others.contains to.toNat = false ∨ Sv47.within st 0 128 = false ∨ most < 0) → Sv47.does (S.getD o none) (.again to st most) = (S.getD o none, Sv47.ok (-2)) := fun z => by
        rw [edo, hy]
        exact if_pos z
      refine ⟨_, rfl, _, rfl, p, CN, dx, _, _, rfl, ob, T.cl, T.me, ndF_me _ _ _ _ _ _ _, _, rfl, p, CN, dx, _, _, rfl, ob, T.cl, T.n, ndF_n _ _ _ _ _ _ _, _, _, _, rfl, _, rfl, ite2 (fun h1 => ?_) (fun h1 => ?_)⟩
      · rw [Bool.not_eq_true', decide_eq_false_iff_not] at h1
        refine iteT ⟨(by show 1 ≤ sizeLine; decide), bad (-2) (b2 ?_) H1 (Same.refl H1)⟩
        by_cases q : to < 0
        · exact .inl q
        · refine .inr (.inl (Bool.eq_false_iff.mpr fun z => h1 ?_))
          obtain ⟨z1, z2⟩ := Cq.others_contains.mp z
          exact ⟨by omega, by omega, by omega⟩
      · rw [Bool.not_eq_true', decide_eq_false_iff_not, Decidable.not_not] at h1
        obtain ⟨q1, q2, q3⟩ := h1
        refine ⟨_, rfl, _, rfl, _, rfl, ite2 (fun h2 => ?_) (fun h2 => ?_)⟩
        · rw [Bool.not_eq_true', decide_eq_false_iff_not] at h2
          refine iteT ⟨(by show 1 ≤ sizeLine; decide), bad (-2) (b2 (.inr (.inr (.inl ?_)))) H1 (Same.refl H1)⟩
          unfold Sv47.within
          refine Bool.eq_false_iff.mpr fun z => h2 ?_
          simp at z
          exact z
        · rw [Bool.not_eq_true', decide_eq_false_iff_not, Decidable.not_not] at h2
          refine ⟨_, rfl, _, _, rfl, rfl, _, rfl, ite2 (fun h3 => ?_) (fun h3 => ?_)⟩
          · have h3 := of_decide_eq_true h3
            exact ⟨(by show 1 ≤ sizeLine; decide), bad (-2) (b2 (.inr (.inr (.inr h3)))) H1 (Same.refl H1)⟩
          · have h3 : ¬ (most < 0) := fun q => h3 (decide_eq_true q)
            obtain ⟨to', rfl⟩ : ∃ m : Nat, to = (m : Int) := ⟨to.toNat, by omega⟩
            obtain ⟨st', rfl⟩ : ∃ m : Nat, st = (m : Int) := ⟨st.toNat, by omega⟩
            have hno : ¬ ((to' : Int) < 0 ∨ y.others.contains (to' : Int).toNat = false ∨ Sv47.within (st' : Int) 0 128 = false ∨ most < 0) := by
              rintro (z | z | z | z)
              · omega
              · rw [Cq.others_contains.mpr ⟨by omega, by omega⟩] at z
                cases z
              · unfold Sv47.within at z
                simp at z
                omega
              · exact h3 z
            have ed1 : Sv47.does (S.getD o none) (.again (to' : Int) (st' : Int) most) = match Sv47.again y to' st' with
                | none => (some y, Sv47.ok (-4))
                | some l => Sv47.sent y most (y, l) := by
              rw [edo]
              exact if_neg hno
            refine ⟨_, rfl, p, CN, dx, _, _, rfl, ob, T.cl, T.st, ndF_stage _ _ _ _ _ _ _, _, rfl, _, _, rfl, rfl, _, rfl, ite2 (fun h4 => ?_) (fun h4 => ?_)⟩
            · have h4 := of_decide_eq_true h4
              refine ⟨(by show 1 ≤ sizeLine; decide), bad (-4) ?_ H1 (Same.refl H1)⟩
              rw [ed1, hy]
              unfold Sv47.again
              rw [if_pos (by omega)]
            · have h4 : ¬ (((y.stage : Nat) : Int) < (st' : Int)) := fun q => h4 (decide_eq_true q)
              have hv : y.own[st']? = some (y.own.getD st' 0) := at_getD (by rw [v3.len]; omega)
              have ed2 : Sv47.does (S.getD o none) (.again (to' : Int) (st' : Int) most) = Sv47.sent y most (y, [⟨to', y.me, st', y.own.getD st' 0⟩]) := by
                rw [ed1]
                unfold Sv47.again
                rw [if_neg (by omega)]
              refine ⟨_, rfl, _, rfl, _, rfl, p, ow, h, ds, y, to', st', _, rfl, v2, hv, fun sb hsb => ?_⟩
              generalize hb : Sv47.Letter.bytes ⟨to', y.me, st', y.own.getD st' 0⟩ = b
              have hbl : b.length = 8 := by rw [← hb]; rfl
              have hbf : ([⟨to', y.me, st', y.own.getD st' 0⟩] : List Sv47.Letter).flatMap Sv47.Letter.bytes = b := by rw [← hb]; rfl
              have sS : Same H1 (upd H1 sb (.lst (iv b))) := same_upd hsb
              refine ⟨_, rfl, sb, _, rfl, .inl (.of upd_same), _, rfl, _, _, rfl, rfl, _, rfl, ?_⟩
              rw [iv_len]
              refine ite2 (fun h5 => ?_) (fun h5 => ?_)
              · have h5 := of_decide_eq_true h5
                refine ⟨(by show 1 ≤ sizeLine; decide), bad (-7) ?_ _ sS⟩
                rw [ed2, hy]
                refine if_pos ?_
                rw [hbf]
                exact h5
              · have h5 : ¬ (most < ((b.length : Nat) : Int)) := fun q => h5 (decide_eq_true q)
                have ed3 : Sv47.does (S.getD o none) (.again (to' : Int) (st' : Int) most) = (S.getD o none, ⟨b.length, b⟩) := by
                  rw [ed2, hy]
                  unfold Sv47.sent
                  rw [hbf]
                  exact if_neg h5
                refine ⟨_, rfl, sb, _, rfl, .inl (.of upd_same), (by show 1 ≤ sizeLine; decide), fun l1 hl1 => ?_⟩
                have s5 : Same (upd H1 sb (.lst (iv b))) (upd (upd H1 sb (.lst (iv b))) l1 (.lst [V.int (((iv b).length : Nat) : Int)])) := same_upd hl1
                refine ⟨_, rfl, l1, sb, _, _, rfl, rfl, upd_same, s5 _ _ upd_same, small' (by rw [iv_len, hbl]; show 1 + 8 ≤ _; decide), fun l hl => ?_⟩
                obtain ⟨f1, f2, f3⟩ := fin_read (o := o) N hR kp1 hR1 ((sS.trans s5).trans (same_upd (o := .lst ([V.int (((iv b).length : Nat) : Int)] ++ iv b)) hl)) (by rw [hSl]; exact ho)
                refine k l _ kvs _ (lv1 _ ((sS.trans s5).free hl)) ?_ f2 e4 ?_ (Nat.le_succ _) f3
                · rw [upd_same, ed3, iv_len, iv_map]
                  rfl
                · rw [ed3]
                  exact f1
end
end Pn
set_option Elab.async false
set_option linter.all false
set_option maxRecDepth 100000
namespace Pn
open PySem L2 Cx1
/-- a whole number that the top wrote -/
def KonK (K : PySem.W.Frag) (x : Str) (i : Int) : Prop := ∃ t, PySem.W.nsIn K mainGlobals x = some (some (.int i t))
theorem konK {K : PySem.W.Frag} {x : Str} {i : Int} {t : Tok} (h : PySem.W.nsIn K mainGlobals x = some (some (.int i t))) : KonK K x i := ⟨t, h⟩
theorem KonK.kon {K : PySem.W.Frag} {h : Heap} {mg : Str → Option Value} {x : Str} {i : Int} (X : K.In h) (G : h.Ns mainGlobals mg) (k : KonK K x i) : Kon mg x i := by
  obtain ⟨t, e⟩ := k
  exact ⟨t, PySem.W.mg_of X G e⟩
/-- a def that the top wrote, at f -/
def FunF (K : PySem.W.Frag) (x qual : Str) (st : Stmt) (f : Addr) : Prop := ∃ fd, Fun K x qual st f fd
theorem funF {K : PySem.W.Frag} {x qual : Str} {st : Stmt} {f : Addr} {oc : Value} {od an : Option Addr} {osl : Array (Option Value)} {kV doc pm cdv ct : Value} (l : K.lookup f = some ⟨oc, od, .func (PySem.W.fnOf x qual (defArgs st) (defBody st) (defScope st) .none kV doc pm an cdv ct), osl⟩)
    (c : PySem.W.codeIn K cdv qual = true) (k : PySem.W.keepIn K (.ref f) = true) : FunF K x qual st f := ⟨_, fun_mk l c k⟩
def TopF (K : PySem.W.Frag) (x : Str) (st : Stmt) : Prop := ∃ f, PySem.W.nsIn K mainGlobals x = some (some (.ref f)) ∧ FunF K x x st f
theorem topF {K : PySem.W.Frag} {x : Str} {st : Stmt} {f : Addr} (a : PySem.W.nsIn K mainGlobals x = some (some (.ref f))) (F : FunF K x x st f) : TopF K x st := ⟨f, a, F⟩
/-- a method that the top wrote -/
def MetF (K : PySem.W.Frag) (C : Addr) (m qual : Str) (st : Stmt) : Prop := ∃ f, Meth K C m f ∧ FunF K m qual st f
theorem metF {K : PySem.W.Frag} {C : Addr} {m qual : Str} {st : Stmt} {f : Addr} (a : PySem.W.findIn K (.ref C) m = some (some (.ref f))) (i : PySem.W.isFn K (.ref f) = true) (k : PySem.W.keepIn K (.ref f) = true) (F : FunF K m qual st f) : MetF K C m qual st := ⟨f, ⟨a, i, k⟩, F⟩
/-- a class that the top wrote -/
structure ClsF (K : PySem.W.Frag) (x : Str) (C : Addr) : Prop where
  at_ : PySem.W.nsIn K mainGlobals x = some (some (.ref C))
  cl : Cls K C
  mkk : PySem.W.makesIn K C = true
  kp : PySem.W.keepIn K (.ref C) = true
abbrev BindF (x qual : Str) (st : Stmt) (ps : List Str) : Prop := ∀ (kV doc pm : Value) (an : Option Addr) (cdv ct : Value) (us : List Value), us.length = ps.length → bindArgs (PySem.W.fnOf x qual (defArgs st) (defBody st) (defScope st) .none kV doc pm an cdv ct) ⟨us, []⟩ = pure (ps.zip us)
theorem bind1 {fd : FuncData} {ps : List Str} (h : ∀ a : Value, bindArgs fd ⟨[a], []⟩ = pure (ps.zip [a])) : ∀ us : List Value, us.length = 1 → bindArgs fd ⟨us, []⟩ = pure (ps.zip us)
  | [a], _ => h a
theorem bind2 {fd : FuncData} {ps : List Str} (h : ∀ a b : Value, bindArgs fd ⟨[a, b], []⟩ = pure (ps.zip [a, b])) : ∀ us : List Value, us.length = 2 → bindArgs fd ⟨us, []⟩ = pure (ps.zip us)
  | [a, b], _ => h a b
theorem bind3 {fd : FuncData} {ps : List Str} (h : ∀ a b c : Value, bindArgs fd ⟨[a, b, c], []⟩ = pure (ps.zip [a, b, c])) : ∀ us : List Value, us.length = 3 → bindArgs fd ⟨us, []⟩ = pure (ps.zip us)
  | [a, b, c], _ => h a b c
theorem bind4 {fd : FuncData} {ps : List Str} (h : ∀ a b c d : Value, bindArgs fd ⟨[a, b, c, d], []⟩ = pure (ps.zip [a, b, c, d])) : ∀ us : List Value, us.length = 4 → bindArgs fd ⟨us, []⟩ = pure (ps.zip us)
  | [a, b, c, d], _ => h a b c d
theorem bind7 {fd : FuncData} {ps : List Str} (h : ∀ a b c d e f g : Value, bindArgs fd ⟨[a, b, c, d, e, f, g], []⟩ = pure (ps.zip [a, b, c, d, e, f, g])) : ∀ us : List Value, us.length = 7 → bindArgs fd ⟨us, []⟩ = pure (ps.zip us)
  | [a, b, c, d, e, f, g], _ => h a b c d e f g
section
variable {P : Program} {w : World} {K : PySem.W.Frag} {mg : Str → Option Value} {base h : Heap}
theorem TopF.cal {x : Str} {st : Stmt} {k : Nat} {ps : List Str} {sp : Sp} (d : TopF K x st) (X : K.In h) (G : h.Ns mainGlobals mg) (hb : BindF x x st ps) (ok : ∀ (f : Addr) (fd : FuncData), Fun K x x st f fd → FnOk P w K mg base CX0 k f fd ps sp) : Cal P w K mg base k x ps sp := by
  obtain ⟨f, a, fd, F⟩ := d
  exact ⟨f, fd, ok f fd F, PySem.W.mg_of X G a, F.kp, F.binds hb⟩
theorem MetF.mth {C : Addr} {m qual : Str} {st : Stmt} {k : Nat} {ps : List Str} {sp : Sp} (d : MetF K C m qual st) (hb : BindF m qual st ps) (ok : ∀ (f : Addr) (fd : FuncData), Fun K m qual st f fd → FnOk P w K mg base CX0 k f fd ps sp) : Mth P w K mg base k C m ps sp := by
  obtain ⟨f, M, fd, F⟩ := d
  exact ⟨f, fd, ok f fd F, F.binds hb, M⟩
theorem FunF.tab {x : Str} {st : Stmt} {f : Addr} {j k : Nat} {ps : List Str} {sp : Sp} {fs : List (Int × Addr)} {p : Int} (d : FunF K x x st f) (ht : tabF fs p = some f) (hb : BindF x x st ps) (ok : ∀ (fd : FuncData), Fun K x x st f fd → FnOk P w K mg base CX0 j f fd ps sp) (hj : j ≤ k) :
    ∃ (f : Addr) (fd : FuncData), tabF fs p = some f ∧ FnOk P w K mg base CX0 k f fd ps sp ∧ PySem.W.keepIn K (.ref f) = true ∧ Binds K fd ps [] := by
  obtain ⟨fd, F⟩ := d
  exact ⟨f, fd, ht, (ok fd F).mono hj, F.kp, F.binds hb⟩
/-- all that the top wrote, as the walk asks it -/
structure Wrote (K : PySem.W.Frag) (CN CR c : Addr) (f0 f1 f2 f3 f4 f5 f6 fa : Addr) : Prop where
  clN : ClsF K "Node" CN
  clR : ClsF K "Reader" CR
  nN_me : NoAttr K CN "me"
  nN_n : NoAttr K CN "n"
  nN_coins : NoAttr K CN "coins"
  nN_stage : NoAttr K CN "stage"
  nN_own_words : NoAttr K CN "own_words"
  nN_answer : NoAttr K CN "answer"
  nN_heard : NoAttr K CN "heard"
  nR_numbers : NoAttr K CR "numbers"
  nR_place : NoAttr K CR "place"
  mN_init : MetF K CN "__init__" "Node.__init__" sNInit
  mR_init : MetF K CR "__init__" "Reader.__init__" sRInit
  mR_has : MetF K CR "has_more" "Reader.has_more" sHas
  mR_num : MetF K CR "take_number" "Reader.take_number" sTakeN
  mR_row : MetF K CR "take_row" "Reader.take_row" sTakeR
  k_FEWEST_NODES : KonK K "FEWEST_NODES" 2
  k_MOST_NODES : KonK K "MOST_NODES" 16
  k_LAST_STAGE : KonK K "LAST_STAGE" 128
  k_NOTHING : KonK K "NOTHING" 2
  k_LETTER_BYTES : KonK K "LETTER_BYTES" 8
  k_TO_AT : KonK K "TO_AT" 0
  k_FROM_AT : KonK K "FROM_AT" 1
  k_STAGE_AT_letters : KonK K "STAGE_AT_letters" 2
  k_WORD_AT : KonK K "WORD_AT" 3
  k_ZEROS_AT : KonK K "ZEROS_AT" 4
  k_ME_AT : KonK K "ME_AT" 0
  k_N_AT : KonK K "N_AT" 1
  k_STAGE_AT_saved : KonK K "STAGE_AT_saved" 2
  k_ANSWER_AT : KonK K "ANSWER_AT" 3
  k_HEAD_ZEROS_AT : KonK K "HEAD_ZEROS_AT" 4
  k_COINS_AT : KonK K "COINS_AT" 8
  k_WORDS_AT : KonK K "WORDS_AT" 16
  k_HEARD_AT : KonK K "HEARD_AT" 152
  k_MOST_ANSWER_BYTE : KonK K "MOST_ANSWER_BYTE" 2
  k_DONE : KonK K "DONE" 0
  k_BAD_ARGUMENTS : KonK K "BAD_ARGUMENTS" (-2)
  k_BAD_BYTES : KonK K "BAD_BYTES" (-3)
  k_NOT_COME_TO : KonK K "NOT_COME_TO" (-4)
  k_TOO_LONG : KonK K "TOO_LONG" (-7)
  k_LONGEST_LETTER : KonK K "LONGEST_LETTER" 1024
  z_len : PySem.W.nsIn K mainGlobals "len" = some none
  z_any : PySem.W.nsIn K mainGlobals "any" = some none
  z_all : PySem.W.nsIn K mainGlobals "all" = some none
  z_range : PySem.W.nsIn K mainGlobals "range" = some none
  z_enumerate : PySem.W.nsIn K mainGlobals "enumerate" = some none
  z_reversed : PySem.W.nsIn K mainGlobals "reversed" = some none
  z_dict : PySem.W.nsIn K mainGlobals "dict" = some none
  z_list : PySem.W.nsIn K mainGlobals "list" = some none
  d_most_stopped : TopF K "most_stopped" sMost
  d_enough_words : TopF K "enough_words" sEnough
  d_is_node_among : TopF K "is_node_among" sAmong
  d_is_other_node : TopF K "is_other_node" sOther
  d_is_stage : TopF K "is_stage" sStage
  d_is_first_of_round : TopF K "is_first_of_round" sFirst
  d_is_word_of_stage : TopF K "is_word_of_stage" sWord
  d_begun_node : TopF K "begun_node" sBegun
  d_copied_node : TopF K "copied_node" sCopied
  d_is_right_letter : TopF K "is_right_letter" sRight
  d_written_letter : TopF K "written_letter" sWritten
  d_letters_to_others : TopF K "letters_to_others" sLetters
  d_byte_of_answer : TopF K "byte_of_answer" sByteA
  d_bytes_of_coins : TopF K "bytes_of_coins" sBytesC
  d_bytes_of_heard : TopF K "bytes_of_heard" sBytesH
  d_bytes_of_node : TopF K "bytes_of_node" sBytesN
  d_is_right_head : TopF K "is_right_head" sHead
  d_own_words_from : TopF K "own_words_from" sOwnFrom
  d_are_right_own_words : TopF K "are_right_own_words" sOwn
  d_heard_in_stage : TopF K "heard_in_stage" sHeardIn
  d_heard_from : TopF K "heard_from" sHeardFrom
  d_are_right_heard_words : TopF K "are_right_heard_words" sHeardW
  d_is_right_heard : TopF K "is_right_heard" sHeard
  d_is_saved_node : TopF K "is_saved_node" sIsSaved
  d_coins_from : TopF K "coins_from" sCoinsFrom
  d_node_from_bytes : TopF K "node_from_bytes" sNodeFrom
  d_is_news : TopF K "is_news" sNews
  d_words_there : TopF K "words_there" sThere
  d_can_go_on : TopF K "can_go_on" sCan
  d_coin_of_round : TopF K "coin_of_round" sCoin
  d_word_of_most : TopF K "word_of_most" sWMost
  d_word_of_any : TopF K "word_of_any" sWAny
  d_answer_of : TopF K "answer_of" sAnsOf
  d_go_on : TopF K "go_on" sGoOn
  d_take_letter : TopF K "take_letter" sTakeL
  tabA : PySem.W.nsIn K mainGlobals "CALLS" = some (some (.ref c))
  tab : TabK K c [(0, f0), (1, f1), (2, f2), (3, f3), (4, f4), (5, f5), (6, f6)]
  d_yn_begin : FunF K "yn_begin" "yn_begin" sBegin f0
  d_yn_save : FunF K "yn_save" "yn_save" sSave f1
  d_yn_load : FunF K "yn_load" "yn_load" sLoad f2
  d_yn_receive : FunF K "yn_receive" "yn_receive" sReceive f3
  d_yn_again : FunF K "yn_again" "yn_again" sAgain f4
  d_yn_answer : FunF K "yn_answer" "yn_answer" sAnswer f5
  d_yn_stage : FunF K "yn_stage" "yn_stage" sStg f6
  ansA : PySem.W.nsIn K mainGlobals "answers" = some (some (.ref fa))
  ans : FunF K "answers" "answers" sAnswers fa
set_option maxHeartbeats 0 in
theorem Wrote.ok {CN CR c f0 f1 f2 f3 f4 f5 f6 fa fa' : Addr} (W : Wrote K CN CR c f0 f1 f2 f3 f4 f5 f6 fa) (X : K.In h) (G : h.Ns mainGlobals mg) (hfa : mg "answers" = some (.ref fa')) :
    ∃ fd : FuncData, (∀ (s : Shared) (u : Value), BindsTo s fd ⟨[u], []⟩ [("calls", u)]) ∧ ∀ base : Heap, K.In base → base.Ns mainGlobals mg → FnOk P w K mg base CX0 7 fa' fd ["calls"] (spAnswers K) := by
  have e := hfa.symm.trans (PySem.W.mg_of X G W.ansA)
  cases e
  obtain ⟨fd, F⟩ := W.ans
  refine ⟨fd, ?_, fun base _ _ => ?_⟩
  · obtain ⟨oc, od, kV, doc, pm, an, cdv, ct, osl, rfl, lk, hcd⟩ := F.ex
    exact fun s u => .of_eq rfl
  have T : TN K CN := ⟨W.clN.cl, W.nN_me, W.nN_n, W.nN_coins, W.nN_stage, W.nN_own_words, W.nN_answer, W.nN_heard⟩
  have TRd : TR K CR := ⟨W.clR.cl, W.nR_numbers, W.nR_place⟩
  have k_FEWEST_NODES := W.k_FEWEST_NODES.kon X G
  have k_MOST_NODES := W.k_MOST_NODES.kon X G
  have k_LAST_STAGE := W.k_LAST_STAGE.kon X G
  have k_NOTHING := W.k_NOTHING.kon X G
  have k_LETTER_BYTES := W.k_LETTER_BYTES.kon X G
  have k_TO_AT := W.k_TO_AT.kon X G
  have k_FROM_AT := W.k_FROM_AT.kon X G
  have k_STAGE_AT_letters := W.k_STAGE_AT_letters.kon X G
  have k_WORD_AT := W.k_WORD_AT.kon X G
  have k_ZEROS_AT := W.k_ZEROS_AT.kon X G
  have k_ME_AT := W.k_ME_AT.kon X G
  have k_N_AT := W.k_N_AT.kon X G
  have k_STAGE_AT_saved := W.k_STAGE_AT_saved.kon X G
  have k_ANSWER_AT := W.k_ANSWER_AT.kon X G
  have k_HEAD_ZEROS_AT := W.k_HEAD_ZEROS_AT.kon X G
  have k_COINS_AT := W.k_COINS_AT.kon X G
  have k_WORDS_AT := W.k_WORDS_AT.kon X G
  have k_HEARD_AT := W.k_HEARD_AT.kon X G
  have k_MOST_ANSWER_BYTE := W.k_MOST_ANSWER_BYTE.kon X G
  have k_DONE := W.k_DONE.kon X G
  have k_BAD_ARGUMENTS := W.k_BAD_ARGUMENTS.kon X G
  have k_BAD_BYTES := W.k_BAD_BYTES.kon X G
  have k_NOT_COME_TO := W.k_NOT_COME_TO.kon X G
  have k_TOO_LONG := W.k_TOO_LONG.kon X G
  have k_LONGEST_LETTER := W.k_LONGEST_LETTER.kon X G
  have z_len := PySem.W.mg_none_of X G W.z_len
  have z_any := PySem.W.mg_none_of X G W.z_any
  have z_all := PySem.W.mg_none_of X G W.z_all
  have z_range := PySem.W.mg_none_of X G W.z_range
  have z_enumerate := PySem.W.mg_none_of X G W.z_enumerate
  have z_reversed := PySem.W.mg_none_of X G W.z_reversed
  have z_dict := PySem.W.mg_none_of X G W.z_dict
  have z_list := PySem.W.mg_none_of X G W.z_list
  have NN : NewN P w K mg base CN := by
    obtain ⟨f, M, fd', F'⟩ := W.mN_init
    exact ⟨f, fd', ⟨W.clN.mkk, M.at_, M.fn, W.clN.kp⟩, ok_ninit F' T z_len, PySem.W.mg_of X G W.clN.at_, F'.binds (fun _ _ _ _ _ _ => bind7 fun _ _ _ _ _ _ _ => rfl)⟩
  have NR : NewR P w K mg base CR := by
    obtain ⟨f, M, fd', F'⟩ := W.mR_init
    exact ⟨f, fd', ⟨W.clR.mkk, M.at_, M.fn, W.clR.kp⟩, ok_rinit F' TRd, PySem.W.mg_of X G W.clR.at_, F'.binds (fun _ _ _ _ _ _ => bind2 fun _ _ => rfl)⟩
  have MH : Mth P w K mg base 1 CR "has_more" ["self"] (spHas K CR) := W.mR_has.mth (fun _ _ _ _ _ _ => bind1 fun _ => rfl) fun f fd F => ok_has F TRd z_len
  have M : Mth P w K mg base 1 CR "take_number" ["self"] (spTakeN K CR) := W.mR_num.mth (fun _ _ _ _ _ _ => bind1 fun _ => rfl) fun f fd F => ok_taken F TRd
  have MR : Mth P w K mg base 2 CR "take_row" ["self"] (spTakeR K CR) := by
    obtain ⟨g, fdg, Gf, bG, mG⟩ := M
    exact W.mR_row.mth (fun _ _ _ _ _ _ => bind1 fun _ => rfl) fun f fd F => ok_taker F TRd Gf bG mG
  have c_most_stopped : Cal P w K mg base 1 "most_stopped" ["n"] spMost := W.d_most_stopped.cal X G (fun _ _ _ _ _ _ => bind1 fun _ => rfl) fun f fd F => ok_most F 
  have c_enough_words : Cal P w K mg base 2 "enough_words" ["n"] spEnough := W.d_enough_words.cal X G (fun _ _ _ _ _ _ => bind1 fun _ => rfl) fun f fd F => ok_enough F c_most_stopped
  have c_is_node_among : Cal P w K mg base 1 "is_node_among" ["me", "n"] spAmong := W.d_is_node_among.cal X G (fun _ _ _ _ _ _ => bind2 fun _ _ => rfl) fun f fd F => ok_among F k_FEWEST_NODES k_MOST_NODES
  have c_is_other_node : Cal P w K mg base 1 "is_other_node" ["number", "me", "n"] spOther := W.d_is_other_node.cal X G (fun _ _ _ _ _ _ => bind3 fun _ _ _ => rfl) fun f fd F => ok_other F 
  have c_is_stage : Cal P w K mg base 1 "is_stage" ["number"] spIsSt := W.d_is_stage.cal X G (fun _ _ _ _ _ _ => bind1 fun _ => rfl) fun f fd F => ok_isst F k_LAST_STAGE
  have c_is_first_of_round : Cal P w K mg base 1 "is_first_of_round" ["stage"] spFirst := W.d_is_first_of_round.cal X G (fun _ _ _ _ _ _ => bind1 fun _ => rfl) fun f fd F => ok_first F 
  have c_is_word_of_stage : Cal P w K mg base 2 "is_word_of_stage" ["word", "stage"] spWord := W.d_is_word_of_stage.cal X G (fun _ _ _ _ _ _ => bind2 fun _ _ => rfl) fun f fd F => ok_word F c_is_first_of_round k_NOTHING
  have c_begun_node : Cal P w K mg base 3 "begun_node" ["me", "n", "value", "coins"] (spBegun CN) := W.d_begun_node.cal X G (fun _ _ _ _ _ _ => bind4 fun _ _ _ _ => rfl) fun f fd F => ok_begun F NN k_LAST_STAGE z_range
  have c_copied_node : Cal P w K mg base 3 "copied_node" ["node"] (spCopied CN) := W.d_copied_node.cal X G (fun _ _ _ _ _ _ => bind1 fun _ => rfl) fun f fd F => ok_copied F T NN z_dict z_list
  have c_is_right_letter : Cal P w K mg base 3 "is_right_letter" ["letter", "node"] (spRight K CN) := W.d_is_right_letter.cal X G (fun _ _ _ _ _ _ => bind2 fun _ _ => rfl) fun f fd F => ok_right F T z_any z_len k_LETTER_BYTES k_TO_AT k_FROM_AT k_STAGE_AT_letters k_WORD_AT k_ZEROS_AT c_is_stage c_is_other_node c_is_word_of_stage
  have c_written_letter : Cal P w K mg base 1 "written_letter" ["node", "receiver", "stage"] (spWritten CN) := W.d_written_letter.cal X G (fun _ _ _ _ _ _ => bind3 fun _ _ _ => rfl) fun f fd F => ok_written F T
  have c_letters_to_others : Cal P w K mg base 2 "letters_to_others" ["node"] (spLetters CN) := W.d_letters_to_others.cal X G (fun _ _ _ _ _ _ => bind1 fun _ => rfl) fun f fd F => ok_letters F T z_range c_written_letter
  have c_byte_of_answer : Cal P w K mg base 1 "byte_of_answer" ["answer"] spByteA := W.d_byte_of_answer.cal X G (fun _ _ _ _ _ _ => bind1 fun _ => rfl) fun f fd F => ok_bytea F 
  have c_bytes_of_coins : Cal P w K mg base 1 "bytes_of_coins" ["coins"] spBytesC := W.d_bytes_of_coins.cal X G (fun _ _ _ _ _ _ => bind1 fun _ => rfl) fun f fd F => ok_bytesc F z_range k_WORDS_AT k_COINS_AT
  have c_bytes_of_heard : Cal P w K mg base 1 "bytes_of_heard" ["words"] spBytesH := W.d_bytes_of_heard.cal X G (fun _ _ _ _ _ _ => bind1 fun _ => rfl) fun f fd F => ok_bytesh F z_range k_MOST_NODES
  have c_bytes_of_node : Cal P w K mg base 2 "bytes_of_node" ["node"] (spBytesN CN) := W.d_bytes_of_node.cal X G (fun _ _ _ _ _ _ => bind1 fun _ => rfl) fun f fd F => ok_bytesn F T z_len k_HEARD_AT k_WORDS_AT c_byte_of_answer c_bytes_of_coins c_bytes_of_heard
  have c_is_right_head : Cal P w K mg base 2 "is_right_head" ["saved"] (spHead K) := W.d_is_right_head.cal X G (fun _ _ _ _ _ _ => bind1 fun _ => rfl) fun f fd F => ok_head F z_any k_ME_AT k_N_AT k_STAGE_AT_saved k_ANSWER_AT k_HEAD_ZEROS_AT k_COINS_AT k_MOST_ANSWER_BYTE c_is_node_among c_is_stage
  have c_own_words_from : Cal P w K mg base 1 "own_words_from" ["saved"] (spOwnFrom K) := W.d_own_words_from.cal X G (fun _ _ _ _ _ _ => bind1 fun _ => rfl) fun f fd F => ok_ownfrom F k_WORDS_AT k_STAGE_AT_saved
  have c_are_right_own_words : Cal P w K mg base 3 "are_right_own_words" ["saved"] (spOwn K) := W.d_are_right_own_words.cal X G (fun _ _ _ _ _ _ => bind1 fun _ => rfl) fun f fd F => ok_own F z_any z_all z_enumerate z_len k_WORDS_AT k_HEARD_AT c_own_words_from c_is_word_of_stage
  have c_heard_in_stage : Cal P w K mg base 1 "heard_in_stage" ["saved", "stage"] (spHeardIn K) := W.d_heard_in_stage.cal X G (fun _ _ _ _ _ _ => bind2 fun _ _ => rfl) fun f fd F => ok_heardin F z_enumerate k_HEARD_AT k_MOST_NODES
  have c_heard_from : Cal P w K mg base 2 "heard_from" ["saved"] (spHeardFrom K) := W.d_heard_from.cal X G (fun _ _ _ _ _ _ => bind1 fun _ => rfl) fun f fd F => ok_heardfrom F z_range k_LAST_STAGE c_heard_in_stage
  have c_are_right_heard_words : Cal P w K mg base 3 "are_right_heard_words" ["words", "stage", "me", "n"] spHeardW := W.d_are_right_heard_words.cal X G (fun _ _ _ _ _ _ => bind4 fun _ _ _ _ => rfl) fun f fd F => ok_heardw F c_is_other_node c_is_word_of_stage
  have c_is_right_heard : Cal P w K mg base 4 "is_right_heard" ["saved"] (spHeard K) := W.d_is_right_heard.cal X G (fun _ _ _ _ _ _ => bind1 fun _ => rfl) fun f fd F => ok_heard F z_any z_range z_len k_ME_AT k_N_AT k_STAGE_AT_saved k_LAST_STAGE c_heard_from c_are_right_heard_words c_enough_words
  have c_is_saved_node : Cal P w K mg base 5 "is_saved_node" ["saved"] (spIsSaved K) := W.d_is_saved_node.cal X G (fun _ _ _ _ _ _ => bind1 fun _ => rfl) fun f fd F => ok_issaved F c_is_right_head c_are_right_own_words c_is_right_heard
  have c_coins_from : Cal P w K mg base 1 "coins_from" ["saved"] (spCoinsFrom K) := W.d_coins_from.cal X G (fun _ _ _ _ _ _ => bind1 fun _ => rfl) fun f fd F => ok_coinsfrom F z_reversed k_COINS_AT k_WORDS_AT
  have c_node_from_bytes : Cal P w K mg base 3 "node_from_bytes" ["saved"] (spNodeFrom K CN) := W.d_node_from_bytes.cal X G (fun _ _ _ _ _ _ => bind1 fun _ => rfl) fun f fd F => ok_nodefrom F NN k_ANSWER_AT k_ME_AT k_N_AT c_coins_from c_own_words_from c_heard_from
  have c_is_news : Cal P w K mg base 1 "is_news" ["node", "letter"] (spNews K CN) := W.d_is_news.cal X G (fun _ _ _ _ _ _ => bind2 fun _ _ => rfl) fun f fd F => ok_news F T k_STAGE_AT_letters k_FROM_AT k_LAST_STAGE
  have c_words_there : Cal P w K mg base 1 "words_there" ["node"] (spThere CN) := W.d_words_there.cal X G (fun _ _ _ _ _ _ => bind1 fun _ => rfl) fun f fd F => ok_there F T z_list
  have c_can_go_on : Cal P w K mg base 3 "can_go_on" ["node"] (spCan CN) := W.d_can_go_on.cal X G (fun _ _ _ _ _ _ => bind1 fun _ => rfl) fun f fd F => ok_can F T z_len k_LAST_STAGE c_words_there c_enough_words
  have c_coin_of_round : Cal P w K mg base 1 "coin_of_round" ["node"] (spCoin CN) := W.d_coin_of_round.cal X G (fun _ _ _ _ _ _ => bind1 fun _ => rfl) fun f fd F => ok_coin F T
  have c_word_of_most : Cal P w K mg base 1 "word_of_most" ["words", "n"] (spWMost K) := W.d_word_of_most.cal X G (fun _ _ _ _ _ _ => bind2 fun _ _ => rfl) fun f fd F => ok_wmost F k_NOTHING
  have c_word_of_any : Cal P w K mg base 1 "word_of_any" ["words", "coin"] (spWAny K) := W.d_word_of_any.cal X G (fun _ _ _ _ _ _ => bind2 fun _ _ => rfl) fun f fd F => ok_wany F 
  have c_answer_of : Cal P w K mg base 2 "answer_of" ["words", "n"] (spAnsOf K) := W.d_answer_of.cal X G (fun _ _ _ _ _ _ => bind2 fun _ _ => rfl) fun f fd F => ok_ansof F c_most_stopped
  have c_go_on : Cal P w K mg base 3 "go_on" ["node"] (spGoOn CN) := W.d_go_on.cal X G (fun _ _ _ _ _ _ => bind1 fun _ => rfl) fun f fd F => ok_goon F T c_words_there c_is_first_of_round c_word_of_most c_word_of_any c_coin_of_round c_answer_of
  have c_take_letter : Cal P w K mg base 4 "take_letter" ["node", "letter"] (spTakeL K CN) := W.d_take_letter.cal X G (fun _ _ _ _ _ _ => bind2 fun _ _ => rfl) fun f fd F => ok_takel F T k_STAGE_AT_letters k_FROM_AT k_WORD_AT c_is_news c_can_go_on c_go_on c_letters_to_others
  refine ok_answers (CN := CN) F TRd NR MH M z_len W.tab (PySem.W.mg_of X G W.tabA) fun p r o x r' hP => ?_
  cases hP with
  | begin_ => exact W.d_yn_begin.tab rfl (fun _ _ _ _ _ _ => bind2 fun _ _ => rfl) (fun fd F => ok_begin F TRd M k_BAD_ARGUMENTS k_DONE c_is_node_among c_begun_node) (by decide)
  | save => exact W.d_yn_save.tab rfl (fun _ _ _ _ _ _ => bind2 fun _ _ => rfl) (fun fd F => ok_save F TRd M k_DONE c_bytes_of_node) (by decide)
  | load => exact W.d_yn_load.tab rfl (fun _ _ _ _ _ _ => bind2 fun _ _ => rfl) (fun fd F => ok_load F TRd M MR k_DONE k_BAD_BYTES c_is_saved_node c_node_from_bytes) (by decide)
  | receive => exact W.d_yn_receive.tab rfl (fun _ _ _ _ _ _ => bind2 fun _ _ => rfl) (fun fd F => ok_receive F TRd M MR z_len k_LONGEST_LETTER k_BAD_ARGUMENTS k_BAD_BYTES k_TOO_LONG c_is_right_letter c_copied_node c_take_letter) (by decide)
  | again => exact W.d_yn_again.tab rfl (fun _ _ _ _ _ _ => bind2 fun _ _ => rfl) (fun fd F => ok_again F T TRd M z_len k_BAD_ARGUMENTS k_NOT_COME_TO k_TOO_LONG c_is_other_node c_is_stage c_written_letter) (by decide)
  | answer => exact W.d_yn_answer.tab rfl (fun _ _ _ _ _ _ => bind2 fun _ _ => rfl) (fun fd F => ok_answer F T TRd M k_NOT_COME_TO) (by decide)
  | stage => exact W.d_yn_stage.tab rfl (fun _ _ _ _ _ _ => bind2 fun _ _ => rfl) (fun fd F => ok_stg F T TRd M) (by decide)
end
end Pn
set_option Elab.async false
set_option linter.all false
set_option maxRecDepth 100000
namespace Pn
open PySem L2 Cx1
abbrev Rw : PySem.W.OpenSpec := PySem.Challenge.rw_coinagree_s01_answers
theorem said : Rw.wellSaid = true := by decide +kernel
def Okay (ns : List Int) : Prop := PySem.W.Codec.withinAll Rw.args (ns, ()) = true ∧ PySv47.answers_asked ns = true
theorem room7 : Room 7 callerA := ⟨rfl, by decide, by decide⟩
theorem pre_of (args : List PySem.W.WData) (h : Rw.pre args = true) : ∃ ns : List Int, args = [.list (ns.map .int)] ∧ ns.length ≤ sizeLine ∧ Okay ns := by
  obtain ⟨⟨ns, u⟩, h1, h2, rfl⟩ := (PySem.W.OpenSpec.pre_iff said args).mp h
  refine ⟨ns, rfl, ?_, h1, h2⟩
  have h3 : ((decide (0 ≤ ns.length) && decide (ns.length ≤ 16000)) && ns.all _ && true) = true := h1
  simp only [Bool.and_eq_true, decide_eq_true_eq] at h3
  exact small' (by omega)
theorem post_of (ns : List Int) (h : Okay ns) : Rw.post [.list (ns.map .int)] (.list ((PySv47.answers ns).map .int)) = true :=
  (PySem.W.OpenSpec.post_iff said h.1 (.list ((PySv47.answers ns).map .int)) []).mpr rfl
theorem sp_of (K : PySem.W.Frag) (H : Hp) (a : Addr) (ns : List Int) (h : Okay ns) (hO : Only H) (hS : SqL K H a (ns.map V.int)) : spAnswers K [.ref a] H (Cx2.Ans (PySv47.answers ns)) E0 :=
  ⟨a, ns, rfl, FrzL.of hO hS, h.2, fun l H' e => ⟨l, rfl, e⟩⟩
theorem tabK {K : PySem.W.Frag} {c f0 f1 f2 f3 f4 f5 f6 : Addr} {t0 t1 t2 t3 t4 t5 t6 : Tok} {ep : Nat}
    (l : K.lookup c = some ⟨.type "dict", none, .dict [⟨hashInt 0, .int 0 t0, .ref f0⟩, ⟨hashInt 1, .int 1 t1, .ref f1⟩, ⟨hashInt 2, .int 2 t2, .ref f2⟩, ⟨hashInt 3, .int 3 t3, .ref f3⟩, ⟨hashInt 4, .int 4 t4, .ref f4⟩, ⟨hashInt 5, .int 5 t5, .ref f5⟩, ⟨hashInt 6, .int 6 t6, .ref f6⟩].toArray ep, #[]⟩) :
    TabK K c [(0, f0), (1, f1), (2, f2), (3, f3), (4, f4), (5, f5), (6, f6)] :=
  ⟨_, ep, l, .cons ⟨t0, rfl⟩ (.cons ⟨t1, rfl⟩ (.cons ⟨t2, rfl⟩ (.cons ⟨t3, rfl⟩ (.cons ⟨t4, rfl⟩ (.cons ⟨t5, rfl⟩ (.cons ⟨t6, rfl⟩ .nil)))))), by show ([0, 1, 2, 3, 4, 5, 6] : List Int).Nodup; decide⟩
end Pn
open PySem PySem.W PyProof.Rows
set_option Elab.async false
/-! these names are taken so that the head lays no second copy of its heaps (the compiled file must stay small) -/
def PySem.W.Fast.tw7914898737437789928 : Nat := 0
def PySem.W.Fast.tw12940457347478598386 : Nat := 0
def PySem.W.Fast.tw5898252966401591354 : Nat := 0
def PySem.W.Fast.tw4430760505530114333 : Nat := 0
def PySem.W.Fast.tw11645128150682514605 : Nat := 0
def PySem.W.Fast.tw2560114140056942369 : Nat := 0
set_option maxRecDepth 100000 in
set_option maxHeartbeats 0 in
theorem PySem.Challenge.cw_coinagree_s01_answers_holds : PySem.Challenge.rw_coinagree_s01_answers.Holds := by
  w_on; k_headS; (case hw => exact ⟨[.list [.int 0, .int 0, .int 0, .int 2, .int 0, .int 0]], by decide +kernel, by decide +kernel⟩)
  k_fillS
  refine Cx2.walk_spec (r := PySem.Challenge.rw_coinagree_s01_answers) (k := 7) (x := "calls") (sp := Pn.spAnswers) (ok := Pn.Okay) (f := PySv47.answers) Pn.room7 (fun w h Y => PySem.W.kIn_of Y) Pn.pre_of Pn.post_of ?F Pn.sp_of
  case F =>
    intro w mg fa h KX G hmg
    refine' Pn.Wrote.ok ?W0 KX G hmg
    case W0 =>
      refine' ⟨?clN, ?clR, ?nN_me, ?nN_n, ?nN_coins, ?nN_stage, ?nN_own_words, ?nN_answer, ?nN_heard, ?nR_numbers, ?nR_place, ?mN_init, ?mR_init, ?mR_has, ?mR_num, ?mR_row, ?k_FEWEST_NODES, ?k_MOST_NODES, ?k_LAST_STAGE, ?k_NOTHING, ?k_LETTER_BYTES, ?k_TO_AT, ?k_FROM_AT, ?k_STAGE_AT_letters, ?k_WORD_AT, ?k_ZEROS_AT, ?k_ME_AT, ?k_N_AT, ?k_STAGE_AT_saved, ?k_ANSWER_AT, ?k_HEAD_ZEROS_AT, ?k_COINS_AT, ?k_WORDS_AT, ?k_HEARD_AT, ?k_MOST_ANSWER_BYTE, ?k_DONE, ?k_BAD_ARGUMENTS, ?k_BAD_BYTES, ?k_NOT_COME_TO, ?k_TOO_LONG, ?k_LONGEST_LETTER, ?z_len, ?z_any, ?z_all, ?z_range, ?z_enumerate, ?z_reversed, ?z_dict, ?z_list, ?d_most_stopped, ?d_enough_words, ?d_is_node_among, ?d_is_other_node, ?d_is_stage, ?d_is_first_of_round, ?d_is_word_of_stage, ?d_begun_node, ?d_copied_node, ?d_is_right_letter, ?d_written_letter, ?d_letters_to_others, ?d_byte_of_answer, ?d_bytes_of_coins, ?d_bytes_of_heard, ?d_bytes_of_node, ?d_is_right_head, ?d_own_words_from, ?d_are_right_own_words, ?d_heard_in_stage, ?d_heard_from, ?d_are_right_heard_words, ?d_is_right_heard, ?d_is_saved_node, ?d_coins_from, ?d_node_from_bytes, ?d_is_news, ?d_words_there, ?d_can_go_on, ?d_coin_of_round, ?d_word_of_most, ?d_word_of_any, ?d_answer_of, ?d_go_on, ?d_take_letter, ?tabA, ?tab, ?d_yn_begin, ?d_yn_save, ?d_yn_load, ?d_yn_receive, ?d_yn_again, ?d_yn_answer, ?d_yn_stage, ?ansA, ?ans⟩
      (case clN => refine' ⟨?ca1, ⟨?cb1, ?cc1, ?cd1, ?ce1⟩, ?cf1, ?cg1⟩; (case ca1 => k_is); (case cb1 => k_is); (case cc1 => k_is); (case cd1 => k_is); (case ce1 => k_is); (case cf1 => k_is); (case cg1 => k_is))
      (case clR => refine' ⟨?ca2, ⟨?cb2, ?cc2, ?cd2, ?ce2⟩, ?cf2, ?cg2⟩; (case ca2 => k_is); (case cb2 => k_is); (case cc2 => k_is); (case cd2 => k_is); (case ce2 => k_is); (case cf2 => k_is); (case cg2 => k_is))
      (case nN_me => show PySem.W.findIn _ _ _ = _; k_is)
      (case nN_n => show PySem.W.findIn _ _ _ = _; k_is)
      (case nN_coins => show PySem.W.findIn _ _ _ = _; k_is)
      (case nN_stage => show PySem.W.findIn _ _ _ = _; k_is)
      (case nN_own_words => show PySem.W.findIn _ _ _ = _; k_is)
      (case nN_answer => show PySem.W.findIn _ _ _ = _; k_is)
      (case nN_heard => show PySem.W.findIn _ _ _ = _; k_is)
      (case nR_numbers => show PySem.W.findIn _ _ _ = _; k_is)
      (case nR_place => show PySem.W.findIn _ _ _ = _; k_is)
      (case mN_init => refine' Pn.metF ?ma12 ?mi12 ?mk12 ?mf12; (case ma12 => k_is); (case mi12 => k_is); (case mk12 => k_is); (case mf12 => refine' Pn.funF ?fl12 ?fq12 ?fk12; (case fl12 => k_is); (case fq12 => k_is); (case fk12 => k_is)))
      (case mR_init => refine' Pn.metF ?ma13 ?mi13 ?mk13 ?mf13; (case ma13 => k_is); (case mi13 => k_is); (case mk13 => k_is); (case mf13 => refine' Pn.funF ?fl13 ?fq13 ?fk13; (case fl13 => k_is); (case fq13 => k_is); (case fk13 => k_is)))
      (case mR_has => refine' Pn.metF ?ma14 ?mi14 ?mk14 ?mf14; (case ma14 => k_is); (case mi14 => k_is); (case mk14 => k_is); (case mf14 => refine' Pn.funF ?fl14 ?fq14 ?fk14; (case fl14 => k_is); (case fq14 => k_is); (case fk14 => k_is)))
      (case mR_num => refine' Pn.metF ?ma15 ?mi15 ?mk15 ?mf15; (case ma15 => k_is); (case mi15 => k_is); (case mk15 => k_is); (case mf15 => refine' Pn.funF ?fl15 ?fq15 ?fk15; (case fl15 => k_is); (case fq15 => k_is); (case fk15 => k_is)))
      (case mR_row => refine' Pn.metF ?ma16 ?mi16 ?mk16 ?mf16; (case ma16 => k_is); (case mi16 => k_is); (case mk16 => k_is); (case mf16 => refine' Pn.funF ?fl16 ?fq16 ?fk16; (case fl16 => k_is); (case fq16 => k_is); (case fk16 => k_is)))
      (case k_FEWEST_NODES => refine' Pn.konK ?ka17; (case ka17 => k_is))
      (case k_MOST_NODES => refine' Pn.konK ?ka18; (case ka18 => k_is))
      (case k_LAST_STAGE => refine' Pn.konK ?ka19; (case ka19 => k_is))
      (case k_NOTHING => refine' Pn.konK ?ka20; (case ka20 => k_is))
      (case k_LETTER_BYTES => refine' Pn.konK ?ka21; (case ka21 => k_is))
      (case k_TO_AT => refine' Pn.konK ?ka22; (case ka22 => k_is))
      (case k_FROM_AT => refine' Pn.konK ?ka23; (case ka23 => k_is))
      (case k_STAGE_AT_letters => refine' Pn.konK ?ka24; (case ka24 => k_is))
      (case k_WORD_AT => refine' Pn.konK ?ka25; (case ka25 => k_is))
      (case k_ZEROS_AT => refine' Pn.konK ?ka26; (case ka26 => k_is))
      (case k_ME_AT => refine' Pn.konK ?ka27; (case ka27 => k_is))
      (case k_N_AT => refine' Pn.konK ?ka28; (case ka28 => k_is))
      (case k_STAGE_AT_saved => refine' Pn.konK ?ka29; (case ka29 => k_is))
      (case k_ANSWER_AT => refine' Pn.konK ?ka30; (case ka30 => k_is))
      (case k_HEAD_ZEROS_AT => refine' Pn.konK ?ka31; (case ka31 => k_is))
      (case k_COINS_AT => refine' Pn.konK ?ka32; (case ka32 => k_is))
      (case k_WORDS_AT => refine' Pn.konK ?ka33; (case ka33 => k_is))
      (case k_HEARD_AT => refine' Pn.konK ?ka34; (case ka34 => k_is))
      (case k_MOST_ANSWER_BYTE => refine' Pn.konK ?ka35; (case ka35 => k_is))
      (case k_DONE => refine' Pn.konK ?ka36; (case ka36 => k_is))
      (case k_BAD_ARGUMENTS => refine' Pn.konK ?ka37; (case ka37 => k_is))
      (case k_BAD_BYTES => refine' Pn.konK ?ka38; (case ka38 => k_is))
      (case k_NOT_COME_TO => refine' Pn.konK ?ka39; (case ka39 => k_is))
      (case k_TOO_LONG => refine' Pn.konK ?ka40; (case ka40 => k_is))
      (case k_LONGEST_LETTER => refine' Pn.konK ?ka41; (case ka41 => k_is))
      (case z_len => k_is)
      (case z_any => k_is)
      (case z_all => k_is)
      (case z_range => k_is)
      (case z_enumerate => k_is)
      (case z_reversed => k_is)
      (case z_dict => k_is)
      (case z_list => k_is)
      (case d_most_stopped => refine' Pn.topF ?ta50 ?tf50; (case ta50 => k_is); (case tf50 => refine' Pn.funF ?fl50 ?fq50 ?fk50; (case fl50 => k_is); (case fq50 => k_is); (case fk50 => k_is)))
      (case d_enough_words => refine' Pn.topF ?ta51 ?tf51; (case ta51 => k_is); (case tf51 => refine' Pn.funF ?fl51 ?fq51 ?fk51; (case fl51 => k_is); (case fq51 => k_is); (case fk51 => k_is)))
      (case d_is_node_among => refine' Pn.topF ?ta52 ?tf52; (case ta52 => k_is); (case tf52 => refine' Pn.funF ?fl52 ?fq52 ?fk52; (case fl52 => k_is); (case fq52 => k_is); (case fk52 => k_is)))
      (case d_is_other_node => refine' Pn.topF ?ta53 ?tf53; (case ta53 => k_is); (case tf53 => refine' Pn.funF ?fl53 ?fq53 ?fk53; (case fl53 => k_is); (case fq53 => k_is); (case fk53 => k_is)))
      (case d_is_stage => refine' Pn.topF ?ta54 ?tf54; (case ta54 => k_is); (case tf54 => refine' Pn.funF ?fl54 ?fq54 ?fk54; (case fl54 => k_is); (case fq54 => k_is); (case fk54 => k_is)))
      (case d_is_first_of_round => refine' Pn.topF ?ta55 ?tf55; (case ta55 => k_is); (case tf55 => refine' Pn.funF ?fl55 ?fq55 ?fk55; (case fl55 => k_is); (case fq55 => k_is); (case fk55 => k_is)))
      (case d_is_word_of_stage => refine' Pn.topF ?ta56 ?tf56; (case ta56 => k_is); (case tf56 => refine' Pn.funF ?fl56 ?fq56 ?fk56; (case fl56 => k_is); (case fq56 => k_is); (case fk56 => k_is)))
      (case d_begun_node => refine' Pn.topF ?ta57 ?tf57; (case ta57 => k_is); (case tf57 => refine' Pn.funF ?fl57 ?fq57 ?fk57; (case fl57 => k_is); (case fq57 => k_is); (case fk57 => k_is)))
      (case d_copied_node => refine' Pn.topF ?ta58 ?tf58; (case ta58 => k_is); (case tf58 => refine' Pn.funF ?fl58 ?fq58 ?fk58; (case fl58 => k_is); (case fq58 => k_is); (case fk58 => k_is)))
      (case d_is_right_letter => refine' Pn.topF ?ta59 ?tf59; (case ta59 => k_is); (case tf59 => refine' Pn.funF ?fl59 ?fq59 ?fk59; (case fl59 => k_is); (case fq59 => k_is); (case fk59 => k_is)))
      (case d_written_letter => refine' Pn.topF ?ta60 ?tf60; (case ta60 => k_is); (case tf60 => refine' Pn.funF ?fl60 ?fq60 ?fk60; (case fl60 => k_is); (case fq60 => k_is); (case fk60 => k_is)))
      (case d_letters_to_others => refine' Pn.topF ?ta61 ?tf61; (case ta61 => k_is); (case tf61 => refine' Pn.funF ?fl61 ?fq61 ?fk61; (case fl61 => k_is); (case fq61 => k_is); (case fk61 => k_is)))
      (case d_byte_of_answer => refine' Pn.topF ?ta62 ?tf62; (case ta62 => k_is); (case tf62 => refine' Pn.funF ?fl62 ?fq62 ?fk62; (case fl62 => k_is); (case fq62 => k_is); (case fk62 => k_is)))
      (case d_bytes_of_coins => refine' Pn.topF ?ta63 ?tf63; (case ta63 => k_is); (case tf63 => refine' Pn.funF ?fl63 ?fq63 ?fk63; (case fl63 => k_is); (case fq63 => k_is); (case fk63 => k_is)))
      (case d_bytes_of_heard => refine' Pn.topF ?ta64 ?tf64; (case ta64 => k_is); (case tf64 => refine' Pn.funF ?fl64 ?fq64 ?fk64; (case fl64 => k_is); (case fq64 => k_is); (case fk64 => k_is)))
      (case d_bytes_of_node => refine' Pn.topF ?ta65 ?tf65; (case ta65 => k_is); (case tf65 => refine' Pn.funF ?fl65 ?fq65 ?fk65; (case fl65 => k_is); (case fq65 => k_is); (case fk65 => k_is)))
      (case d_is_right_head => refine' Pn.topF ?ta66 ?tf66; (case ta66 => k_is); (case tf66 => refine' Pn.funF ?fl66 ?fq66 ?fk66; (case fl66 => k_is); (case fq66 => k_is); (case fk66 => k_is)))
      (case d_own_words_from => refine' Pn.topF ?ta67 ?tf67; (case ta67 => k_is); (case tf67 => refine' Pn.funF ?fl67 ?fq67 ?fk67; (case fl67 => k_is); (case fq67 => k_is); (case fk67 => k_is)))
      (case d_are_right_own_words => refine' Pn.topF ?ta68 ?tf68; (case ta68 => k_is); (case tf68 => refine' Pn.funF ?fl68 ?fq68 ?fk68; (case fl68 => k_is); (case fq68 => k_is); (case fk68 => k_is)))
      (case d_heard_in_stage => refine' Pn.topF ?ta69 ?tf69; (case ta69 => k_is); (case tf69 => refine' Pn.funF ?fl69 ?fq69 ?fk69; (case fl69 => k_is); (case fq69 => k_is); (case fk69 => k_is)))
      (case d_heard_from => refine' Pn.topF ?ta70 ?tf70; (case ta70 => k_is); (case tf70 => refine' Pn.funF ?fl70 ?fq70 ?fk70; (case fl70 => k_is); (case fq70 => k_is); (case fk70 => k_is)))
      (case d_are_right_heard_words => refine' Pn.topF ?ta71 ?tf71; (case ta71 => k_is); (case tf71 => refine' Pn.funF ?fl71 ?fq71 ?fk71; (case fl71 => k_is); (case fq71 => k_is); (case fk71 => k_is)))
      (case d_is_right_heard => refine' Pn.topF ?ta72 ?tf72; (case ta72 => k_is); (case tf72 => refine' Pn.funF ?fl72 ?fq72 ?fk72; (case fl72 => k_is); (case fq72 => k_is); (case fk72 => k_is)))
      (case d_is_saved_node => refine' Pn.topF ?ta73 ?tf73; (case ta73 => k_is); (case tf73 => refine' Pn.funF ?fl73 ?fq73 ?fk73; (case fl73 => k_is); (case fq73 => k_is); (case fk73 => k_is)))
      (case d_coins_from => refine' Pn.topF ?ta74 ?tf74; (case ta74 => k_is); (case tf74 => refine' Pn.funF ?fl74 ?fq74 ?fk74; (case fl74 => k_is); (case fq74 => k_is); (case fk74 => k_is)))
      (case d_node_from_bytes => refine' Pn.topF ?ta75 ?tf75; (case ta75 => k_is); (case tf75 => refine' Pn.funF ?fl75 ?fq75 ?fk75; (case fl75 => k_is); (case fq75 => k_is); (case fk75 => k_is)))
      (case d_is_news => refine' Pn.topF ?ta76 ?tf76; (case ta76 => k_is); (case tf76 => refine' Pn.funF ?fl76 ?fq76 ?fk76; (case fl76 => k_is); (case fq76 => k_is); (case fk76 => k_is)))
      (case d_words_there => refine' Pn.topF ?ta77 ?tf77; (case ta77 => k_is); (case tf77 => refine' Pn.funF ?fl77 ?fq77 ?fk77; (case fl77 => k_is); (case fq77 => k_is); (case fk77 => k_is)))
      (case d_can_go_on => refine' Pn.topF ?ta78 ?tf78; (case ta78 => k_is); (case tf78 => refine' Pn.funF ?fl78 ?fq78 ?fk78; (case fl78 => k_is); (case fq78 => k_is); (case fk78 => k_is)))
      (case d_coin_of_round => refine' Pn.topF ?ta79 ?tf79; (case ta79 => k_is); (case tf79 => refine' Pn.funF ?fl79 ?fq79 ?fk79; (case fl79 => k_is); (case fq79 => k_is); (case fk79 => k_is)))
      (case d_word_of_most => refine' Pn.topF ?ta80 ?tf80; (case ta80 => k_is); (case tf80 => refine' Pn.funF ?fl80 ?fq80 ?fk80; (case fl80 => k_is); (case fq80 => k_is); (case fk80 => k_is)))
      (case d_word_of_any => refine' Pn.topF ?ta81 ?tf81; (case ta81 => k_is); (case tf81 => refine' Pn.funF ?fl81 ?fq81 ?fk81; (case fl81 => k_is); (case fq81 => k_is); (case fk81 => k_is)))
      (case d_answer_of => refine' Pn.topF ?ta82 ?tf82; (case ta82 => k_is); (case tf82 => refine' Pn.funF ?fl82 ?fq82 ?fk82; (case fl82 => k_is); (case fq82 => k_is); (case fk82 => k_is)))
      (case d_go_on => refine' Pn.topF ?ta83 ?tf83; (case ta83 => k_is); (case tf83 => refine' Pn.funF ?fl83 ?fq83 ?fk83; (case fl83 => k_is); (case fq83 => k_is); (case fk83 => k_is)))
      (case d_take_letter => refine' Pn.topF ?ta84 ?tf84; (case ta84 => k_is); (case tf84 => refine' Pn.funF ?fl84 ?fq84 ?fk84; (case fl84 => k_is); (case fq84 => k_is); (case fk84 => k_is)))
      (case tabA => k_is)
      (case tab => refine' Pn.tabK ?tl86; (case tl86 => k_is))
      (case d_yn_begin => refine' Pn.funF ?fl87 ?fq87 ?fk87; (case fl87 => k_is); (case fq87 => k_is); (case fk87 => k_is))
      (case d_yn_save => refine' Pn.funF ?fl88 ?fq88 ?fk88; (case fl88 => k_is); (case fq88 => k_is); (case fk88 => k_is))
      (case d_yn_load => refine' Pn.funF ?fl89 ?fq89 ?fk89; (case fl89 => k_is); (case fq89 => k_is); (case fk89 => k_is))
      (case d_yn_receive => refine' Pn.funF ?fl90 ?fq90 ?fk90; (case fl90 => k_is); (case fq90 => k_is); (case fk90 => k_is))
      (case d_yn_again => refine' Pn.funF ?fl91 ?fq91 ?fk91; (case fl91 => k_is); (case fq91 => k_is); (case fk91 => k_is))
      (case d_yn_answer => refine' Pn.funF ?fl92 ?fq92 ?fk92; (case fl92 => k_is); (case fq92 => k_is); (case fk92 => k_is))
      (case d_yn_stage => refine' Pn.funF ?fl93 ?fq93 ?fk93; (case fl93 => k_is); (case fq93 => k_is); (case fk93 => k_is))
      (case ansA => k_is)
      (case ans => refine' Pn.funF ?fl95 ?fq95 ?fk95; (case fl95 => k_is); (case fq95 => k_is); (case fk95 => k_is))
#print axioms PySem.Challenge.cw_coinagree_s01_answers_holds

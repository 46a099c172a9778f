import PyProof.Rows.All
import Wide.All
import OpenK.AllK
import Wide.FinOn
import PyProof.EqAt
import PyProof.EqKinds
import PyProof.TupleCall
import KE.BitLaws
import KE.KSetDisp
import PyProof.Draws
import PyProof.EnumMake
import PyProof.SetRoads
import KE.KTabLook
import PyProof.NeKinds
import PyProof.ListMulAny
import PyProof.DictUpdate
import KE.KDictList
import KE.KDictSum
import KE.KDictLaws
import KE.KDictOf
import PyProof.InstNe
import PyProof.MeetsIn
import KE.KSortKey
import PyProof.Rows.SortStr
import PySem.Challenge.RW_websplit_k63_disks_that_fall
set_option Elab.async false
set_option linter.all false
set_option maxRecDepth 100000
/-! THE HAND LAYER, for ints, bools, texts, own classes, lists, tuples, dicts, comprehensions, walks over dicts, enumerate, zip, reversed, texts, calls, loops. Paste it whole ahead of your own text; what your proof does not reach may be deleted. -/
namespace L2
open PySem PySem.Spec PyProof.Rows

/-- a key: an int or a str -/
abbrev Key := Sum Int Str
def keyIs : Key → Value → Bool
  | .inl k, v => Value.isInt k v
  | .inr x, v => Value.isStrOf x v
def keyH (w : World) : Key → Int
  | .inl k => hashInt k
  | .inr x => hashStr w x
theorem keyIs_shape : ∀ {k : Key} {v : Value}, keyIs k v = true → (∃ i t, k = Sum.inl i ∧ v = Value.int i t) ∨ (∃ x t, k = Sum.inr x ∧ v = Value.str x t)
  | .inl i, v, h => by
    obtain ⟨t, e⟩ := Value.isInt_shape (k := i) (v := v) h
    exact .inl ⟨i, t, rfl, e⟩
  | .inr x, v, h => by
    obtain ⟨t, e⟩ := Value.isStrOf_shape (x := x) (v := v) h
    exact .inr ⟨x, t, rfl, e⟩
theorem keyIs_int (i : Int) (t : Tok) : keyIs (.inl i) (.int i t) = true := by simp [keyIs, Value.isInt]
theorem keyIs_str (x : Str) (t : Tok) : keyIs (.inr x) (.str x t) = true := by simp [keyIs, Value.isStrOf]
theorem key_ll (a b : Int) : decide ((Sum.inl a : Key) = Sum.inl b) = (a == b) := by
  by_cases e : a = b
  · subst e; simp
  · have h : ¬ (Sum.inl a : Key) = Sum.inl b := fun q => e (Sum.inl.inj q)
    rw [decide_eq_false h]
    exact (beq_eq_false_iff_ne.mpr e).symm
theorem key_rr (a b : Str) : decide ((Sum.inr a : Key) = Sum.inr b) = decide (a = b) := by
  by_cases e : a = b
  · subst e; simp
  · have h : ¬ (Sum.inr a : Key) = Sum.inr b := fun q => e (Sum.inr.inj q)
    rw [decide_eq_false h, decide_eq_false e]
theorem key_lr (a : Int) (b : Str) : decide ((Sum.inl a : Key) = Sum.inr b) = false := decide_eq_false (fun q => nomatch q)
theorem key_rl (a : Str) (b : Int) : decide ((Sum.inr a : Key) = Sum.inl b) = false := decide_eq_false (fun q => nomatch q)

def mixKind (prog : Program) (w : World) : PySem.KeyKind prog w Key where
  is := keyIs
  hash := keyH w
  inj := fun v a b ha hb => by
    rcases keyIs_shape ha with ⟨i, t, rfl, rfl⟩ | ⟨x, t, rfl, rfl⟩
    · rcases keyIs_shape hb with ⟨j, u, rfl, e⟩ | ⟨y, u, rfl, e⟩
      · injection e with e1 _; rw [e1]
      · exact nomatch e
    · rcases keyIs_shape hb with ⟨j, u, rfl, e⟩ | ⟨y, u, rfl, e⟩
      · exact nomatch e
      · injection e with e1 _; rw [e1]
  byValue := fun k v h => by
    rcases keyIs_shape h with ⟨i, t, rfl, rfl⟩ | ⟨x, t, rfl, rfl⟩ <;> rfl
  pyHash := fun hv h => by
    rcases keyIs_shape hv with ⟨i, t, rfl, rfl⟩ | ⟨x, t, rfl, rfl⟩
    · exact wpAny_pyHash_int h
    · exact wpAny_pyHash_str h
  eqBool := fun hu hv h => by
    rcases keyIs_shape hu with ⟨i, t, rfl, rfl⟩ | ⟨x, t, rfl, rfl⟩
    · rcases keyIs_shape hv with ⟨j, u, rfl, rfl⟩ | ⟨y, u, rfl, rfl⟩
      · rw [key_ll] at h; exact wpAny_eqBool_int h
      · rw [key_lr] at h; exact SeqAt.EqAt.int_str i t y u _ _ _ _ h
    · rcases keyIs_shape hv with ⟨j, u, rfl, rfl⟩ | ⟨y, u, rfl, rfl⟩
      · rw [key_rl] at h; exact SeqAt.EqAt.str_int x t j u _ _ _ _ h
      · rw [key_rr] at h; exact wpAny_eqBool_str h
  «strs» := fun k x t v h => by
    rcases keyIs_shape h with ⟨i, u, rfl, e⟩ | ⟨y, u, rfl, e⟩
    · exact nomatch e
    · injection e with e1 _
      subst e1
      cases v <;> rfl

theorem mixKind_int (prog : Program) (w : World) (i : Int) (t : Tok) : (mixKind prog w).is (.inl i) (.int i t) = true := keyIs_int i t
theorem mixKind_str (prog : Program) (w : World) (x : Str) (t : Tok) : (mixKind prog w).is (.inr x) (.str x t) = true := keyIs_str x t
end L2

namespace L2
open PySem PySem.Spec PyProof.Rows

/-- a value, without the heap -/
inductive V where
  | non | bl (b : Bool) | int (i : Int) | str (x : Str) | byt (b : Array UInt8) | flt (b : UInt64) | ref (a : Addr) | ty (n : String)
  deriving DecidableEq

def RelV : V → Value → Prop
  | .non, u => u = Value.none
  | .bl b, u => u = Value.bool b
  | .int i, u => ∃ t, u = Value.int i t
  | .str x, u => ∃ t, u = Value.str x t
  | .byt b, u => ∃ t, u = Value.bytes b t
  | .flt b, u => ∃ t, u = Value.float b t
  | .ref a, u => u = Value.ref a
  | .ty n, u => u = Value.type n

abbrev Vals : List V → List Value → Prop := Paired RelV
theorem Vals.length {xs : List V} {us : List Value} (r : Vals xs us) : xs.length = us.length := Paired.length r
theorem Vals.get : ∀ {xs : List V} {us : List Value} {i : Nat} {x : V}, Vals xs us → xs[i]? = some x → ∃ u, us[i]? = some u ∧ RelV x u
  | _, _, _, _, .nil, e => by simp at e
  | _, _, 0, _, .cons r _, e => by simp at e; subst e; exact ⟨_, rfl, r⟩
  | _, _, i + 1, x, .cons _ t, e => by
    obtain ⟨u, h1, h2⟩ := Vals.get (i := i) (x := x) t (by simpa using e)
    exact ⟨u, by simpa using h1, h2⟩
theorem Vals.set {x : V} {u : Value} (r : RelV x u) : ∀ {xs : List V} {us : List Value} (i : Nat), Vals xs us → Vals (xs.set i x) (us.set i u)
  | _, _, _, .nil => .nil
  | _, _, 0, .cons _ t => .cons r t
  | _, _, i + 1, .cons q t => .cons q (Vals.set r i t)
theorem Vals.append : ∀ {xs ys : List V} {us ws : List Value}, Vals xs us → Vals ys ws → Vals (xs ++ ys) (us ++ ws)
  | _, _, _, _, .nil, s => s
  | _, _, _, _, .cons r t, s => .cons r (Vals.append t s)
theorem Vals.take : ∀ {xs : List V} {us : List Value} (n : Nat), Vals xs us → Vals (xs.take n) (us.take n)
  | _, _, 0, _ => .nil
  | _, _, _ + 1, .nil => .nil
  | _, _, n + 1, .cons r t => .cons r (Vals.take n t)
theorem Vals.drop : ∀ {xs : List V} {us : List Value} (n : Nat), Vals xs us → Vals (xs.drop n) (us.drop n)
  | _, _, 0, r => r
  | _, _, _ + 1, .nil => .nil
  | _, _, n + 1, .cons _ t => Vals.drop n t
theorem Vals.none_of : ∀ {xs : List V} {us : List Value} {i : Nat}, Vals xs us → xs[i]? = none → us[i]? = none := fun {xs us i} r e => by
  have h1 := r.length
  have h2 : xs.length ≤ i := List.getElem?_eq_none_iff.mp e
  exact List.getElem?_eq_none_iff.mpr (by omega)

def RelO : Option V → Option Value → Prop
  | some v, some u => RelV v u
  | none, none => True
  | _, _ => False
def KV {κ : Type} : List (κ × V) → List (κ × Value) → Prop := Paired fun (p : κ × V) (q : κ × Value) => p.1 = q.1 ∧ RelV p.2 q.2

/-- a key of a dict (00_mix): an int or a text -/
def kV : Key → V
  | .inl i => .int i
  | .inr x => .str x

/-- what stands at a tracked address -/
inductive HO where
  /-- a list -/
  | lst (xs : List V)
  /-- a tuple (never changes) -/
  | tup (xs : List V)
  /-- a dict whose keys are ints and texts; one whose keys are tuples of ints and texts (the empty one is both) -/
  | dK (kvs : List (Key × V)) | dT (kvs : List (List Key × V))
  /-- a set of ints: its members, its size -/
  | set (S : Int → Bool) (n : Nat)
  /-- an instance of the class at C, its dict at dx, its attributes -/
  | ins (C dx : Addr) (fs : List (Str × V))
  /-- the dict of the instance at x -/
  | own (x : Addr)
  /-- the dict of an exception -/
  | xd (fs : List (Str × V))
  /-- a bound method, f of x -/
  | met (f x : Addr)
  /-- a range object lo, lo + 1, .. below hi -/
  | rng (lo hi : Int)
  /-- a thing that is known to the object (the script; a dict while a loop walks it): read, never written while it is so -/
  | frz (o : Obj) (u : HO)
  /-- a code object's table -/
  | tbl (ps : Array Value)
  /-- any other thing, by what is true of its one object (a def of one's own: SetO a S n := HO.ext fun h => ..) -/
  | ext (φ : Heap → Prop)

abbrev Hp := Addr → Option HO
def upd (H : Hp) (a : Addr) (o : HO) : Hp := fun b => if b = a then some o else H b
theorem upd_same {H : Hp} {a : Addr} {o : HO} : upd H a o a = some o := by unfold upd; rw [if_pos rfl]
theorem upd_ne {H : Hp} {a b : Addr} {o : HO} (h : b ≠ a) : upd H a o b = H b := by unfold upd; rw [if_neg h]
theorem upd_upd {H : Hp} {a : Addr} {o u : HO} : upd (upd H a o) a u = upd H a u := by
  funext b; unfold upd; split <;> rfl
/-- two objects of different content stand apart -/
theorem ne_of {H : Hp} {a b : Addr} {o u : HO} (h : H a = some o) (h' : H b = some u) (d : o ≠ u) : a ≠ b := by
  intro e; subst e; rw [h] at h'; exact d (Option.some.inj h')
theorem ne_of_none {H : Hp} {a b : Addr} {o : HO} (h : H a = some o) (h' : H b = none) : a ≠ b := by
  intro e; subst e; rw [h] at h'; cases h'

/-- a tuple with no names of its own -/
structure TupB (h : Heap) (a : Addr) (items : Array Value) : Prop where
  ex : ∃ o, h.get? a = some o ∧ o.cls = .type "tuple" ∧ o.dict = none ∧ ∃ n, o.data = .seq items n
theorem TupB.tup {h : Heap} {a : Addr} {items : Array Value} (x : TupB h a items) : IsTup h a items := let ⟨o, h1, h2, _, h3⟩ := x.ex; ⟨o, h1, h2, h3⟩
theorem TupB.lt {h : Heap} {a : Addr} {items : Array Value} (x : TupB h a items) : a < h.objs.size := x.tup.lt
theorem TupB.new (h : Heap) (items : Array Value) : TupB (h.push { cls := .type "tuple", data := .seq items }) h.objs.size items := ⟨_, Heap.get?_push_size _ rfl, rfl, rfl, _, rfl⟩
section
variable (P : Program) (w : World)
def ObjOk (H : Hp) (h : Heap) (a : Addr) : HO → Prop
  | .lst xs => xs.length ≤ sizeLine ∧ ∃ (its : List Value) (n : Nat), Vals xs its ∧ h.get? a = some { cls := .type "list", data := .seq its.toArray n }
  | .tup xs => xs.length ≤ sizeLine ∧ ∃ its : List Value, Vals xs its ∧ TupB h a its.toArray
  | .dK kvs => kvs.length ≤ sizeLine ∧ (a == sysModules) = false ∧ ∃ vs, KV kvs vs ∧ h.DictOf (mixKind P w) a vs
  | .dT kvs => kvs.length ≤ sizeLine ∧ (a == sysModules) = false ∧ ∃ xs : List (List Key × Addr × Value),
      Paired (fun (p : List Key × V) (q : List Key × Addr × Value) => p.1 = q.1 ∧ H q.2.1 = some (.tup (p.1.map kV)) ∧ RelV p.2 q.2.2) kvs xs ∧
      ∃ o es ep, h.get? a = some o ∧ o.ExactDict ∧ o.data = .dict es ep ∧ es.toList = xs.map (entryOfKey (tupleKind (mixKind P w))) ∧ (xs.map (·.1)).Nodup
  | .set S n => h.SetOf (intKind P w) a S n
  | .ins C dx fs => H dx = some (.own a) ∧ fs.length ≤ 1000 ∧ dx ≠ a ∧ h.get? a = some (PySem.W.instObj C dx) ∧
      ∃ mA, h.Ns1 dx mA ∧ (∀ f, RelO (fs.lookup f) (mA f)) ∧ PySem.Within mA (fs.map (·.1))
  | .own _ => ∃ o, h.get? a = some o
  | .xd fs => ∃ mA, h.Ns1 a mA ∧ ∀ f, RelO (fs.lookup f) (mA f)
  | .rng lo hi => ∃ t u v, h.get? a = some { cls := .type "range", data := .fields #[.int lo t, .int hi u, .int 1 v] }
  | .frz o u => h.get? a = some o ∧ ObjOk H h a u
  | .tbl ps => h.get? a = some { cls := .none, data := .fields ps }
  | .met f x => h.get? a = some (PySem.W.methodObj (.ref f) (.ref x))
  | .ext φ => φ h ∧ (∃ o, h.get? a = some o) ∧ ∀ h1 h2 : Heap, φ h1 → (∀ o, h1.get? a = some o → h2.get? a = some o) → φ h2
/-- the abstract heap is held -/
def HOk (H : Hp) (h : Heap) : Prop := ∀ a o, H a = some o → ObjOk P w H h a o
end

section
variable {P : Program} {w : World} {H H' : Hp} {h h' : Heap} {a : Addr} {o : HO}
theorem ObjOk.lt (x : ObjOk P w H h a o) : a < h.objs.size := by
  cases o with
  | lst xs => obtain ⟨_, _, _, _, e⟩ := x; exact Heap.lt_size e
  | tup xs => obtain ⟨_, _, _, p⟩ := x; exact p.lt
  | dK kvs => obtain ⟨_, _, _, _, o, _, _, e, _⟩ := x; exact Heap.lt_size e
  | dT kvs => obtain ⟨_, _, _, _, o, _, _, e, _⟩ := x; exact Heap.lt_size e
  | set S n => obtain ⟨o, _, _, _, e, _⟩ := x; exact Heap.lt_size e
  | ins C dx fs => obtain ⟨_, _, _, e, _⟩ := x; exact Heap.lt_size e
  | own y => obtain ⟨_, e⟩ := x; exact Heap.lt_size e
  | xd fs => obtain ⟨_, ⟨_, _, _, e, _⟩, _⟩ := x; exact Heap.lt_size e
  | rng lo hi => obtain ⟨_, _, _, e⟩ := x; exact Heap.lt_size e
  | frz ob u => obtain ⟨e, _⟩ := x; exact Heap.lt_size e
  | tbl ps => exact Heap.lt_size (show h.get? a = some _ from x)
  | met f y => exact Heap.lt_size (show h.get? a = some _ from x)
  | ext φ => obtain ⟨_, ⟨_, e⟩, _⟩ := x; exact Heap.lt_size e
theorem Paired.mapP {α β : Type} {F G : α → β → Prop} : ∀ {l₁ : List α} {l₂ : List β}, Paired F l₁ l₂ → (∀ a b, F a b → G a b) → Paired G l₁ l₂
  | _, _, .nil, _ => .nil
  | _, _, .cons r t, f => .cons (f _ _ r) (Paired.mapP t f)
/-- what an object's description leans on: its own object, its own dict, the tuples -/
theorem ObjOk.stay (x : ObjOk P w H h a o) (k : ∀ b u, (b = a ∨ H b = some (.own a)) → h.get? b = some u → h'.get? b = some u)
    (ho : ∀ b, H b = some (.own a) → H' b = some (.own a)) (ht : ∀ b xs, H b = some (.tup xs) → H' b = some (.tup xs)) : ObjOk P w H' h' a o := by
  induction o with
  | lst xs => obtain ⟨z, its, n, r, e⟩ := x; exact ⟨z, its, n, r, k _ _ (.inl rfl) e⟩
  | tup xs => obtain ⟨z, its, r, ob, e, c⟩ := x; exact ⟨z, its, r, ob, k _ _ (.inl rfl) e, c⟩
  | dK kvs => obtain ⟨z, y, vs, r, ob, es, ep, e, c⟩ := x; exact ⟨z, y, vs, r, ob, es, ep, k _ _ (.inl rfl) e, c⟩
  | dT kvs =>
    obtain ⟨z, y, xs, r, ob, es, ep, e, c⟩ := x
    exact ⟨z, y, xs, Paired.mapP r fun p q z => ⟨z.1, ht _ _ z.2.1, z.2.2⟩, ob, es, ep, k _ _ (.inl rfl) e, c⟩
  | set S n => obtain ⟨ob, es, ep, t, e, c⟩ := x; exact ⟨ob, es, ep, t, k _ _ (.inl rfl) e, c⟩
  | ins C dx fs =>
    obtain ⟨d, z, ne, e, mA, ⟨od, es, ep, e2, c⟩, r⟩ := x
    exact ⟨ho _ d, z, ne, k _ _ (.inl rfl) e, mA, ⟨od, es, ep, k _ _ (.inr d) e2, c⟩, r⟩
  | own y => obtain ⟨ob, e⟩ := x; exact ⟨ob, k _ _ (.inl rfl) e⟩
  | xd fs => obtain ⟨mA, ⟨od, es, ep, e, c⟩, r⟩ := x; exact ⟨mA, ⟨od, es, ep, k _ _ (.inl rfl) e, c⟩, r⟩
  | rng lo hi => obtain ⟨t, u, v, e⟩ := x; exact ⟨t, u, v, k _ _ (.inl rfl) e⟩
  | frz ob u ih => obtain ⟨e, q⟩ := x; exact ⟨k _ _ (.inl rfl) e, ih q⟩
  | tbl ps =>
    have e : h.get? a = some { cls := .none, data := .fields ps } := x
    show h'.get? a = some { cls := .none, data := .fields ps }
    exact k a _ (.inl rfl) e
  | met f y =>
    have e : h.get? a = some (PySem.W.methodObj (.ref f) (.ref y)) := x
    show h'.get? a = some (PySem.W.methodObj (.ref f) (.ref y))
    exact k a _ (.inl rfl) e
  | ext φ => obtain ⟨p, ⟨o, e⟩, st⟩ := x; exact ⟨st _ _ p fun o q => k _ _ (.inl rfl) q, ⟨o, k _ _ (.inl rfl) e⟩, st⟩
theorem HOk.lt (x : HOk P w H h) (e : H a = some o) : a < h.objs.size := (x a o e).lt
theorem HOk.fresh (x : HOk P w H h) (e : h.objs.size ≤ a) : H a = none := by
  cases q : H a with
  | none => rfl
  | some u => exact absurd (Nat.lt_of_lt_of_le (x.lt q) e) (Nat.lt_irrefl _)
/-- every object of the heap is kept -/
theorem HOk.kept (x : HOk P w H h) (k : ∀ b u, h.get? b = some u → h'.get? b = some u) : HOk P w H h' := fun a o e =>
  (x a o e).stay (fun b u _ q => k b u q) (fun _ q => q) fun _ _ q => q
/-- a new object is laid and tracked -/
theorem HOk.laid (x : HOk P w H h) (k : ∀ b u, h.get? b = some u → h'.get? b = some u) (hp : h.objs.size ≤ a) (new : ObjOk P w (upd H a o) h' a o) : HOk P w (upd H a o) h' := fun b u e => by
  have hn := x.fresh hp
  by_cases hb : b = a
  · subst hb; rw [upd_same] at e; cases e; exact new
  · rw [upd_ne hb] at e
    exact (x b u e).stay (fun c v _ q => k c v q) (fun c q => by rw [upd_ne (ne_of_none q hn)]; exact q) fun c xs q => by rw [upd_ne (ne_of_none q hn)]; exact q
end

/-- what may be read as u: it is u, or a known u -/
def Rd (H : Hp) (a : Addr) (u : HO) : Prop := H a = some u ∨ ∃ o, H a = some (.frz o u)
theorem Rd.of {H : Hp} {a : Addr} {u : HO} (h : H a = some u) : Rd H a u := .inl h
theorem Rd.ok {P : Program} {w : World} {H : Hp} {h : Heap} {a : Addr} {u : HO} (r : Rd H a u) (x : HOk P w H h) : ObjOk P w H h a u := by
  rcases r with r | ⟨o, r⟩
  · exact x a u r
  · obtain ⟨_, q⟩ := x a _ r
    exact q
/-- what may be written -/
def Mut : Option HO → Prop
  | some (.lst _) => True
  | some (.dK _) => True
  | some (.dT _) => True
  | some (.set _ _) => True
  | some (.ins _ _ _) => True
  | some (.ext _) => True
  | _ => False
section
variable {P : Program} {w : World} {H : Hp} {h h' : Heap} {x e : Addr} {o' : HO}
/-- the object at e is changed: x itself, or the dict of the instance x -/
theorem HOk.write (ok : HOk P w H h) (mu : Mut (H x)) (he : e = x ∨ H e = some (.own x)) (k : ∀ b u, b ≠ e → h.get? b = some u → h'.get? b = some u) (heo : ∃ u, h'.get? e = some u)
    (new : ObjOk P w (upd H x o') h' x o') : HOk P w (upd H x o') h' := fun b u q => by
  have nown : ∀ c y, H c = some (.own y) → c ≠ x := fun c y r z => by subst z; rw [r] at mu; exact mu
  have ntup : ∀ c xs, H c = some (.tup xs) → c ≠ x := fun c xs r z => by subst z; rw [r] at mu; exact mu
  by_cases hb : b = x
  · subst hb; rw [upd_same] at q; cases q; exact new
  · rw [upd_ne hb] at q
    by_cases hbe : b = e
    · have q' : H b = some (.own x) := by
        rcases he with z | z
        · exact absurd (hbe.trans z) hb
        · rw [hbe]; exact z
      rw [q] at q'; cases q'
      obtain ⟨v, hv⟩ := heo
      exact ⟨v, by rw [hbe]; exact hv⟩
    · refine (ok b u q).stay (fun c v hc r => k c v ?_ r) (fun c r => by rw [upd_ne (nown c b r)]; exact r) fun c xs r => by rw [upd_ne (ntup c xs r)]; exact r
      rcases hc with rfl | hc
      · exact hbe
      · rintro rfl
        rcases he with z | z
        · exact nown c b hc z
        · rw [hc] at z; cases z; exact hb rfl
end

/-! ### kept unless tracked; of the frames at fs (the callers') the slots may change (an exception that passes writes there); of the records at ex (iterators) nothing is said -/
structure Un (fs ex : List Addr) (H H' : Hp) (h h' : Heap) : Prop where
  keep : ∀ b o, h.get? b = some o → H b = none → b ∉ fs → b ∉ ex → h'.get? b = some o
  slot : ∀ b o, h.get? b = some o → H b = none → b ∈ fs → b ∉ ex → ∃ sl, h'.get? b = some { o with slots := sl }
  free : ∀ b o, h.get? b = some o → H b = none → b ∉ ex → H' b = none
  there : ∀ b o, h.get? b = some o → b ∉ ex → ∃ o', h'.get? b = some o'
  tups : ∀ b xs, H b = some (.tup xs) → H' b = some (.tup xs)
  frzs : ∀ b o u, H b = some (.frz o u) → H' b = some (.frz o u)
  tbls : ∀ b ps, H b = some (.tbl ps) → ∃ more, H' b = some (.tbl (ps ++ more))
section
variable {fs fs' ex ex' : List Addr} {H H1 H2 : Hp} {h h1 h2 h' : Heap} {a x e : Addr} {o : HO}
theorem Un.any (u : Un fs ex H H1 h h1) {b : Addr} {ob : Obj} (q : h.get? b = some ob) (n : H b = none) (hx : b ∉ ex) : ∃ sl, h1.get? b = some { ob with slots := sl } := by
  by_cases hb : b ∈ fs
  · exact u.slot b ob q n hb hx
  · exact ⟨ob.slots, u.keep b ob q n hb hx⟩
theorem Un.trans (a : Un fs ex H H1 h h1) (b : Un fs ex H1 H2 h1 h2) : Un fs ex H H2 h h2 where
  keep := fun c ob q n hc hx => b.keep c ob (a.keep c ob q n hc hx) (a.free c ob q n hx) hc hx
  slot := fun c ob q n hc hx => by
    obtain ⟨sl, e1⟩ := a.slot c ob q n hc hx
    obtain ⟨sl', e2⟩ := b.slot c _ e1 (a.free c ob q n hx) hc hx
    exact ⟨sl', e2⟩
  free := fun c ob q n hx => by
    obtain ⟨o', e1⟩ := a.there c ob q hx
    exact b.free c o' e1 (a.free c ob q n hx) hx
  there := fun c ob q hx => by
    obtain ⟨o', e1⟩ := a.there c ob q hx
    exact b.there c o' e1 hx
  tups := fun c xs q => b.tups c xs (a.tups c xs q)
  frzs := fun c ob xs q => b.frzs c ob xs (a.frzs c ob xs q)
  tbls := fun c ps q => by
    obtain ⟨m1, e1⟩ := a.tbls c ps q
    obtain ⟨m2, e2⟩ := b.tbls c _ e1
    exact ⟨m1 ++ m2, by rw [e2, Array.append_assoc]⟩
theorem Un.kept (k : ∀ b u, h.get? b = some u → h'.get? b = some u) : Un fs ex H H h h' :=
  ⟨fun b ob q _ _ _ => k b ob q, fun b ob q _ _ _ => ⟨ob.slots, k b ob q⟩, fun _ _ _ n _ => n, fun b ob q _ => ⟨ob, k b ob q⟩, fun _ _ q => q, fun _ _ _ q => q, fun _ ps q => ⟨#[], by rw [q]; simp⟩⟩
theorem Un.refl : Un fs ex H H h h := Un.kept fun _ _ q => q
theorem Un.laid (k : ∀ b u, h.get? b = some u → h'.get? b = some u) (hp : h.objs.size ≤ a) (hn : H a = none) : Un fs ex H (upd H a o) h h' where
  keep := fun b u q _ _ _ => k b u q
  slot := fun b u q _ _ _ => ⟨u.slots, k b u q⟩
  free := fun b u q n _ => by rw [upd_ne (Nat.ne_of_lt (Nat.lt_of_lt_of_le (Heap.lt_size q) hp))]; exact n
  there := fun b u q _ => ⟨u, k b u q⟩
  tups := fun b xs q => by rw [upd_ne (ne_of_none q hn)]; exact q
  frzs := fun b u xs q => by rw [upd_ne (ne_of_none q hn)]; exact q
  tbls := fun b ps q => ⟨#[], by rw [upd_ne (ne_of_none q hn), q]; simp⟩
theorem Un.write (mu : Mut (H x)) (he : e = x ∨ H e = some (.own x)) (k : ∀ b u, b ≠ e → h.get? b = some u → h'.get? b = some u) (heo : ∃ u, h'.get? e = some u) : Un fs ex H (upd H x o) h h' := by
  have hx : ∀ b, H b = none → b ≠ x := fun b n z => by subst z; rw [n] at mu; exact mu
  have hb : ∀ b, H b = none → b ≠ e := fun b n z => by
    subst z
    rcases he with r | r
    · exact hx b n r
    · rw [n] at r; cases r
  have hm : ∀ b u, H b = some u → ¬ Mut (some u) → b ≠ x := fun b u q nm z => by subst z; rw [q] at mu; exact nm mu
  refine ⟨fun b u q n _ _ => k b u (hb b n) q, fun b u q n _ _ => ⟨u.slots, k b u (hb b n) q⟩, fun b u q n _ => by rw [upd_ne (hx b n)]; exact n, fun b u q _ => ?_,
    fun b xs q => by rw [upd_ne (hm b _ q fun z => z)]; exact q, fun b u xs q => by rw [upd_ne (hm b _ q fun z => z)]; exact q, fun b ps q => ⟨#[], by rw [upd_ne (hm b _ q fun z => z), q]; simp⟩⟩
  by_cases hbe : b = e
  · subst hbe; exact heo
  · exact ⟨u, k b u hbe q⟩
theorem Un.mono (u : Un fs ex H H1 h h1) (hs : ∀ b ∈ fs, b ∈ fs') (hx : ∀ b ∈ ex, b ∈ ex') : Un fs' ex' H H1 h h1 :=
  ⟨fun b ob q n hb he => u.keep b ob q n (fun z => hb (hs b z)) fun z => he (hx b z), fun _ _ q n _ he => u.any q n fun z => he (hx _ z), fun b ob q n he => u.free b ob q n fun z => he (hx b z), fun b ob q he => u.there b ob q fun z => he (hx b z), u.tups, u.frzs, u.tbls⟩
end

/-! ### the heap without what is tracked -/
def trk (h : Heap) (H : Hp) : List Addr := (List.range h.objs.size).filter fun a => (H a).isSome
def hidT (h : Heap) (H : Hp) : Heap := PySem.W.hideAll h (trk h H)
theorem hidT_size (h : Heap) (H : Hp) : (hidT h H).objs.size = h.objs.size := PySem.W.hideAll_size _ _
theorem hidT_get {h : Heap} {H : Hp} {b : Addr} {o : Obj} (e : h.get? b = some o) (n : H b = none) : (hidT h H).get? b = some o :=
  PySem.W.hideAll_get _ e fun hm => by
    have q : (H b).isSome = true := (List.mem_filter.mp hm).2
    rw [n] at q; simp at q
theorem of_hidT {h : Heap} {H : Hp} {b : Addr} {o : Obj} (e : (hidT h H).get? b = some o) : h.get? b = some o ∧ H b = none := by
  have e' : h.get? b = some o := PySem.W.of_hideAll (trk h H) e
  refine ⟨e', ?_⟩
  cases q : H b with
  | none => rfl
  | some x =>
    have hm : b ∈ trk h H := List.mem_filter.mpr ⟨List.mem_range.mpr (Heap.lt_size e'), by simp [q]⟩
    have z : (hidT h H).get? b = none := PySem.W.hideAll_none (trk h H) hm
    rw [z] at e; cases e

/-! ### OpenK's ledger, filled with every new object but one -/
def allNews (g h : Heap) (L : Addr) : List (Addr × Obj) := (List.range h.objs.size).filterMap fun a => if a = L ∨ (g.get? a).isSome = true then none else (h.get? a).map fun o => (a, o)
def rest (g h : Heap) (L d : Addr) : List (Addr × Obj) := (allNews g h L).filter fun p => decide (p.1 ≠ d)
end L2

namespace L2
open PySem PySem.Spec PyProof.Rows

/-- the module's facts, over the base: the heap at the law's entry without what is tracked there -/
structure Mod (K : PySem.W.Frag) (mg : Str → Option Value) (base : Heap) : Prop where
  kin : K.In base
  glob : base.Ns mainGlobals mg
  blt : ∃ mb, base.Ns builtinsNs mb ∧ ∀ x : Str, x ≠ "__name__" → mb x = bootBuiltins x
  nolimit : base.NoLimit

/-- the context: a def's body (or a comprehension's block) running. base: fixed through the whole law; s₀, H₀: the entry; outer: the frames whose slots others may change (a def's callers); stack: all frames that run;
   ex: iterators that were made ahead of the entry and are walked here (a comprehension's); fn: the names whose cells were made at the entry (a def: all; a comprehension's block: its own); calm: not within an except suite; pn: pins that every state bears; xe: what is wanted of an exception that leaves the code -/
structure Cx where
  prog : Program
  w : World
  K : PySem.W.Frag
  mg : Str → Option Value
  base : Heap
  A : Around
  N : List Str
  s_0 : Shared
  H_0 : Hp
  env : Env
  outer : List Env
  stack : List Env
  ex : List Addr
  fn : Str → Bool
  calm : Bool
  pn : List (Addr × Obj)
  xe : Value → Shared → Prop
/-- the callers' frames -/
def frs (l : List Env) : List Addr := l.filterMap (·.frame)
abbrev Cx.fs (X : Cx) : List Addr := frs X.outer

def Vis (sc : Scope) (x : Str) : Prop := sc.names.lookup x = some .local ∨ sc.names.lookup x = some .cell ∨ sc.names.lookup x = some .free
def Loc (sc : Scope) (x : Str) : Prop := sc.names.lookup x = some .local ∨ sc.names.lookup x = some .cell
def Look (env : Env) (h : Heap) (m : Str → Option Value) (x : Str) (u : Value) : Prop :=
  (env.kindOf x = some .local ∧ m x = some u) ∨ ((env.kindOf x = some .cell ∨ env.kindOf x = some .free) ∧ ∃ c, env.cells.lookup x = some c ∧ h.IsCell c (some u))

structure Cx.Ok (X : Cx) : Prop where
  mod : Mod X.K X.mg X.base
  kind : X.env.scope.kind = .function
  glob : X.env.globals = mainGlobals
  blt : X.env.builtins = builtinsNs
  above : X.s_0.heap.objs.size ≤ X.env.locals
  inj : ∀ x y c, X.env.cells.lookup x = some c → X.env.cells.lookup y = some c → x = y
  has : ∀ x, (X.env.kindOf x = some .cell ∨ X.env.kindOf x = some .free) → ∃ c, X.env.cells.lookup x = some c
  cab : ∀ x c, X.fn x = true → X.env.cells.lookup x = some c → X.s_0.heap.objs.size ≤ c
  hd : X.calm = true → X.A.handled = none
  frames : X.A.frames = some X.stack
  stk : X.stack = X.outer ∨ (X.stack = X.env :: X.outer ∧ X.env.frame = some X.env.locals)
  exf : ∀ b ∈ X.ex, b ≠ X.env.locals ∧ ∀ x c, X.env.cells.lookup x = some c → c ≠ b
  bs : ∀ b o, X.base.get? b = some o → X.s_0.heap.get? b = some o ∧ X.H_0 b = none
  bsz : X.base.objs.size ≤ X.s_0.heap.objs.size
  noex : ∀ b o, X.base.get? b = some o → b ∉ X.ex
  exfs : ∀ b ∈ X.ex, b ∉ X.fs
  funs : X.s_0.heap.FunFrames X.base X.outer
  frf : ∀ b ∈ X.fs, X.H_0 b = none

structure Inv (X : Cx) (pins : List (Addr × Obj)) (σ : List (Option V)) (H : Hp) (s : Shared) : Prop where
  ok : X.Ok
  os : s.os = X.s_0.os
  bare : AllBare s.gens
  base : Un X.fs X.ex X.H_0 H X.s_0.heap s.heap
  loc : ∃ m, s.heap.Ns X.env.locals m ∧ ∀ (i : Nat) (x : Str) (v : V), X.N[i]? = some x → σ[i]? = some (some v) → Vis X.env.scope x → ∃ u, RelV v u ∧ Look X.env s.heap m x u
  cell : ∀ x c, X.env.cells.lookup x = some c → ∃ v, s.heap.IsCell c v
  free : H X.env.locals = none
  freeC : ∀ x c, X.env.cells.lookup x = some c → H c = none
  pin : ∀ p ∈ X.pn ++ pins, s.heap.get? p.1 = some p.2 ∧ H p.1 = none ∧ p.1 ≠ X.env.locals ∧ p.1 ∉ X.fs ∧ ∀ v, p.2.data ≠ .cell v
  hok : HOk X.prog X.w H s.heap
  len : σ.length = X.N.length

section
variable {X : Cx} {pins : List (Addr × Obj)} {σ : List (Option V)} {H H' : Hp} {s : Shared} {h' : Heap}

theorem Cx.Ok.nofr (ok : X.Ok) {b : Addr} {o : Obj} (e : X.base.get? b = some o) : b ∉ X.fs := fun hb => by
  have := (ok.funs.mem hb).1
  rw [e] at this; cases this
theorem Inv.bs (I : Inv X pins σ H s) : ∀ b o, X.base.get? b = some o → s.heap.get? b = some o ∧ H b = none := fun b o e =>
  ⟨I.base.keep b o (I.ok.bs b o e).1 (I.ok.bs b o e).2 (I.ok.nofr e) (I.ok.noex b o e), I.base.free b o (I.ok.bs b o e).1 (I.ok.bs b o e).2 (I.ok.noex b o e)⟩
theorem Inv.bk (I : Inv X pins σ H s) : ∀ b o, X.base.get? b = some o → s.heap.get? b = some o := fun b o e => (I.bs b o e).1
theorem Inv.mod (I : Inv X pins σ H s) : Mod X.K X.mg X.base := I.ok.mod
theorem Inv.kIn (I : Inv X pins σ H s) : X.K.In s.heap := I.ok.mod.kin.keeps I.bk
theorem Inv.nolimit (I : Inv X pins σ H s) : s.heap.NoLimit := I.ok.mod.nolimit.keeps I.bk
/-- the frame over the base: for OpenK's rules (K.In X.base is I.mod.kin) -/
theorem Inv.fr (I : Inv X pins σ H s) : ∃ m, Fr X.base X.env.locals s.heap m :=
  let ⟨m, hn, _⟩ := I.loc
  ⟨m, hn, I.bk, Nat.le_trans I.ok.bsz I.ok.above⟩
theorem Inv.lt (I : Inv X pins σ H s) : X.env.locals < s.heap.objs.size := let ⟨_, hn, _⟩ := I.loc; hn.lt
theorem Inv.sz (I : Inv X pins σ H s) : X.s_0.heap.objs.size ≤ s.heap.objs.size := Nat.le_trans I.ok.above (Nat.le_of_lt I.lt)
theorem Inv.nofs (I : Inv X pins σ H s) {a : Addr} (h : s.heap.objs.size ≤ a) : a ∉ X.fs := fun hb => by
  obtain ⟨_, o, ho, _⟩ := I.ok.funs.mem hb
  exact absurd (Nat.lt_of_lt_of_le (Heap.lt_size ho) (Nat.le_trans I.sz h)) (Nat.lt_irrefl _)
theorem Inv.cne (I : Inv X pins σ H s) : ∀ x c, X.env.cells.lookup x = some c → c ≠ X.env.locals := fun x c e z => by
  obtain ⟨v, o, ho, hd⟩ := I.cell x c e
  obtain ⟨m, ⟨o', es, ep, ho', hd', _⟩, _⟩ := I.loc
  rw [z, ho'] at ho; cases ho; rw [hd'] at hd; cases hd
theorem Inv.funs (I : Inv X pins σ H s) : s.heap.FunFrames X.base X.outer := by
  have all : ∀ (l : List Env), (∀ b ∈ frs l, b ∈ X.fs) → X.s_0.heap.FunFrames X.base l → s.heap.FunFrames X.base l := by
    intro l
    induction l with
    | nil => intro _ _; trivial
    | cons env r ih =>
      intro hs hl
      obtain ⟨hk, ⟨L, o, hf, hn, ho, hd⟩, hr⟩ := hl
      have hL : L ∈ X.fs := hs L (by unfold frs; rw [List.filterMap_cons, hf]; exact List.mem_cons_self)
      obtain ⟨sl, e⟩ := I.base.slot L o ho (I.ok.frf L hL) hL fun z => I.ok.exfs L z hL
      exact ⟨hk, ⟨L, _, hf, hn, e, hd⟩, ih (fun b hb => hs b (by unfold frs; rw [List.filterMap_cons, hf]; exact List.mem_cons_of_mem _ hb)) hr⟩
  exact all X.outer (fun _ hb => hb) I.ok.funs

/-- the frames that run, for a call -/
theorem Inv.stack (I : Inv X pins σ H s) : s.heap.FunFrames X.base X.stack := by
  rcases I.ok.stk with e | ⟨e, hf⟩
  · rw [e]; exact I.funs
  · rw [e]
    obtain ⟨m, hn, _⟩ := I.loc
    refine .cons (by rw [I.ok.kind]; decide) hf hn ?_ I.funs
    exact Heap.get?_none_of_le (Nat.le_trans I.ok.bsz I.ok.above)
theorem Inv.stkSub (I : Inv X pins σ H s) : ∀ b ∈ frs X.stack, b ∈ X.env.locals :: X.fs := fun b hb => by
  rcases I.ok.stk with e | ⟨e, hf⟩
  · rw [e] at hb; exact List.mem_cons_of_mem _ hb
  · rw [e] at hb
    unfold frs at hb
    rw [List.filterMap_cons, hf] at hb
    exact hb
theorem Inv.stkFree (I : Inv X pins σ H s) : ∀ b ∈ frs X.stack, H b = none := fun b hb => by
  rcases List.mem_cons.mp (I.stkSub b hb) with e | hb
  · rw [e]; exact I.free
  · obtain ⟨_, o, ho, _⟩ := I.ok.funs.mem hb
    exact I.base.free b o ho (I.ok.frf b hb) fun z => I.ok.exfs b z hb

/-- THE STEP: the untracked objects but the frame and the records at ch are kept (the callers' frames up to slots), the frame's map is kept, the new abstract heap is held -/
theorem Inv.step {g' : Array GenState} {t' : Nat} {d' : Drawn} {ch : List Addr} (I : Inv X pins σ H s)
    (hch : ∀ b ∈ ch, (b ∈ X.ex ∨ X.s_0.heap.objs.size ≤ b) ∧ b ≠ X.env.locals ∧ (∀ x c, X.env.cells.lookup x = some c → c ≠ b) ∧ ∀ p ∈ X.pn ++ pins, p.1 ≠ b)
    (keep : ∀ b o, b ≠ X.env.locals → b ∉ X.fs → b ∉ ch → s.heap.get? b = some o → H b = none → h'.get? b = some o)
    (slot : ∀ b o, b ≠ X.env.locals → b ∈ X.fs → b ∉ ch → s.heap.get? b = some o → H b = none → ∃ sl, h'.get? b = some { o with slots := sl }) (free : ∀ b o, b ∉ ch → s.heap.get? b = some o → H b = none → H' b = none)
    (there : ∀ b o, b ∉ ch → s.heap.get? b = some o → ∃ o', h'.get? b = some o')
    (tups : ∀ b xs, H b = some (.tup xs) → H' b = some (.tup xs)) (frzs : ∀ b o u, H b = some (.frz o u) → H' b = some (.frz o u)) (tbls : ∀ b ps, H b = some (.tbl ps) → ∃ more, H' b = some (.tbl (ps ++ more)))
    (ns : ∀ m, s.heap.Ns X.env.locals m → h'.Ns X.env.locals m) (hok : HOk X.prog X.w H' h') (hg : AllBare g') :
    Inv X pins σ H' { s with heap := h', gens := g', drawn := d', toks := t' } := by
  have neL : ∀ b o, X.s_0.heap.get? b = some o → b ≠ X.env.locals := fun b o e => Nat.ne_of_lt (Nat.lt_of_lt_of_le (Heap.lt_size e) I.ok.above)
  have neC : ∀ b o, X.s_0.heap.get? b = some o → b ∉ X.ex → b ∉ ch := fun b o e hx hb => by
    rcases (hch b hb).1 with z | z
    · exact hx z
    · exact absurd (Nat.lt_of_lt_of_le (Heap.lt_size e) z) (Nat.lt_irrefl _)
  have cellK : ∀ x c, X.env.cells.lookup x = some c → ∀ v, s.heap.IsCell c v → h'.IsCell c v := fun x c e v ⟨o, ho, hd⟩ => by
    have nch : c ∉ ch := fun z => (hch c z).2.2.1 x c e rfl
    by_cases hc : c ∈ X.fs
    · obtain ⟨sl, q⟩ := slot c o (I.cne x c e) hc nch ho (I.freeC x c e)
      exact ⟨_, q, hd⟩
    · exact ⟨o, keep c o (I.cne x c e) hc nch ho (I.freeC x c e), hd⟩
  refine ⟨I.ok, I.os, hg, ⟨fun b o e n hb hx => ?_, fun b o e n hb hx => ?_, fun b o e n hx => ?_, fun b o e hx => ?_, fun b xs e => tups b xs (I.base.tups b xs e), fun b o xs e => frzs b o xs (I.base.frzs b o xs e), fun b ps e => ?_⟩, ?_, fun x c e => ?_, ?_, fun x c e => ?_, fun p hp => ?_, hok, I.len⟩
  · exact keep b o (neL b o e) hb (neC b o e hx) (I.base.keep b o e n hb hx) (I.base.free b o e n hx)
  · obtain ⟨sl, e1⟩ := I.base.slot b o e n hb hx
    obtain ⟨sl', e2⟩ := slot b _ (neL b o e) hb (neC b o e hx) e1 (I.base.free b o e n hx)
    exact ⟨sl', e2⟩
  · obtain ⟨o', e1⟩ := I.base.there b o e hx
    exact free b o' (neC b o e hx) e1 (I.base.free b o e n hx)
  · obtain ⟨o', e1⟩ := I.base.there b o e hx
    exact there b o' (neC b o e hx) e1
  · obtain ⟨m1, e1⟩ := I.base.tbls b ps e
    obtain ⟨m2, e2⟩ := tbls b _ e1
    exact ⟨m1 ++ m2, by rw [e2, Array.append_assoc]⟩
  · obtain ⟨m, hn, hl⟩ := I.loc
    refine ⟨m, ns m hn, fun i x v e1 e2 e3 => ?_⟩
    obtain ⟨u, r, l⟩ := hl i x v e1 e2 e3
    refine ⟨u, r, ?_⟩
    rcases l with l | ⟨k, c, e, z⟩
    · exact .inl l
    · exact .inr ⟨k, c, e, cellK x c e _ z⟩
  · obtain ⟨v, z⟩ := I.cell x c e
    exact ⟨v, cellK x c e v z⟩
  · obtain ⟨m, ⟨o, _, _, ho, _⟩, _⟩ := I.loc
    exact free _ o (fun z => (hch _ z).2.1 rfl) ho I.free
  · obtain ⟨v, o, ho, hd⟩ := I.cell x c e
    exact free c o (fun z => (hch c z).2.2.1 x c e rfl) ho (I.freeC x c e)
  · obtain ⟨e, n, ne, nf, d⟩ := I.pin p hp
    have nch : p.1 ∉ ch := fun z => (hch p.1 z).2.2.2 p hp rfl
    exact ⟨keep p.1 p.2 ne nf nch e n, free p.1 p.2 nch e n, ne, nf, d⟩
/-- .. where the frame's own object is kept too -/
theorem Inv.un {t' : Nat} (I : Inv X pins σ H s) (u : Un X.fs [] H H' s.heap h') (hok : HOk X.prog X.w H' h') : Inv X pins σ H' { s with heap := h', toks := t' } := by
  obtain ⟨m, ⟨o, es, ep, ho, r⟩, _⟩ := id I.loc
  obtain ⟨sl, hL⟩ := u.any ho I.free (by simp)
  exact I.step (g' := s.gens) (d' := s.drawn) (ch := []) (fun _ z => nomatch z) (fun b o _ hb _ e n => u.keep b o e n hb (by simp)) (fun b o _ hb _ e n => u.slot b o e n hb (by simp)) (fun b o _ e n => u.free b o e n (by simp)) (fun b o _ e => u.there b o e (by simp)) u.tups u.frzs u.tbls (fun m' hm => by
    obtain ⟨o', es', ep', ho', r'⟩ := hm
    rw [ho] at ho'; cases ho'
    exact ⟨_, es', ep', hL, r'⟩) hok I.bare
/-- behind a call (or a comprehension's block): the slots of this frame may have changed too, the records at ch may have turned -/
theorem Inv.call {g' : Array GenState} {t' : Nat} {d' : Drawn} {ch : List Addr} (I : Inv X pins σ H s) (u : Un (frs X.stack) ch H H' s.heap h') (hok : HOk X.prog X.w H' h') (hg : AllBare g')
    (hch : ∀ b ∈ ch, (b ∈ X.ex ∨ X.s_0.heap.objs.size ≤ b) ∧ b ≠ X.env.locals ∧ (∀ x c, X.env.cells.lookup x = some c → c ≠ b) ∧ ∀ p ∈ X.pn ++ pins, p.1 ≠ b) :
    Inv X pins σ H' { s with heap := h', gens := g', drawn := d', toks := t' } := by
  obtain ⟨m, ⟨o, es, ep, ho, r⟩, _⟩ := id I.loc
  obtain ⟨sl, hL⟩ := u.any ho I.free fun z => (hch _ z).2.1 rfl
  exact I.step (ch := ch) hch (fun b o hL hb hc e n => u.keep b o e n (fun z => (List.mem_cons.mp (I.stkSub b z)).elim hL hb) hc) (fun b o _ _ hc e n => u.any e n hc) (fun b o hc e n => u.free b o e n hc) (fun b o hc e => u.there b o e hc) u.tups u.frzs u.tbls (fun m' hm => by
    obtain ⟨o', es', ep', ho', r'⟩ := hm
    rw [ho] at ho'; cases ho'
    exact ⟨_, es', ep', hL, r'⟩) hok hg
/-- an untracked record of ours (an iterator) has turned -/
theorem Inv.turned {t' : Nat} {it : Addr} (I : Inv X pins σ H s) (k : ∀ b o, b ≠ it → s.heap.get? b = some o → h'.get? b = some o) (hn : H it = none) (hL : it ≠ X.env.locals)
    (h1 : it ∈ X.ex ∨ X.s_0.heap.objs.size ≤ it) (h2 : ∀ x c, X.env.cells.lookup x = some c → c ≠ it) (h3 : ∀ p ∈ X.pn ++ pins, p.1 ≠ it) : Inv X pins σ H { s with heap := h', toks := t' } := by
  have nit : ∀ b u, H b = some u → b ≠ it := fun b u e z => by rw [z, hn] at e; cases e
  refine I.step (g' := s.gens) (d' := s.drawn) (ch := [it]) (fun b hb => ?_) (fun b o _ _ hc e _ => k b o (fun z => hc (by simp [z])) e) (fun b o _ _ hc e _ => ⟨o.slots, k b o (fun z => hc (by simp [z])) e⟩) (fun _ _ _ _ n => n)
    (fun b o hc e => ⟨o, k b o (fun z => hc (by simp [z])) e⟩) (fun _ _ e => e) (fun _ _ _ e => e) (fun b ps e => ⟨#[], by rw [e]; simp⟩) (fun m hm => ?_) (fun b u e => ?_) I.bare
  · have e : b = it := by simpa using hb
    subst e
    exact ⟨h1, hL, h2, h3⟩
  · obtain ⟨o, es, ep, ho, r⟩ := hm
    exact ⟨o, es, ep, k _ o (Ne.symm hL) ho, r⟩
  · refine (I.hok b u e).stay (fun c v hc q => k c v ?_ q) (fun _ q => q) fun _ _ q => q
    rcases hc with z | z
    · rw [z]; exact nit b u e
    · exact nit c _ z
theorem Inv.tok (I : Inv X pins σ H s) (t : Nat) : Inv X pins σ H { s with toks := t } := I.un (h' := s.heap) (t' := t) Un.refl I.hok
/-- all objects kept -/
theorem Inv.kept {t' : Nat} (I : Inv X pins σ H s) (k : ∀ b u, s.heap.get? b = some u → h'.get? b = some u) : Inv X pins σ H { s with heap := h', toks := t' } := I.un (Un.kept k) (I.hok.kept k)
/-- a new object laid and tracked -/
theorem Inv.laid {a : Addr} {o : HO} {t' : Nat} (I : Inv X pins σ H s) (k : ∀ b u, s.heap.get? b = some u → h'.get? b = some u) (hp : s.heap.objs.size ≤ a) (new : ObjOk X.prog X.w (upd H a o) h' a o) :
    Inv X pins σ (upd H a o) { s with heap := h', toks := t' } := I.un (Un.laid k hp (I.hok.fresh hp)) (I.hok.laid k hp new)
/-- an object written -/
theorem Inv.write {x e : Addr} {o : HO} {t' : Nat} (I : Inv X pins σ H s) (mu : Mut (H x)) (he : e = x ∨ H e = some (.own x)) (k : ∀ b u, b ≠ e → s.heap.get? b = some u → h'.get? b = some u) (heo : ∃ u, h'.get? e = some u)
    (new : ObjOk X.prog X.w (upd H x o) h' x o) : Inv X pins σ (upd H x o) { s with heap := h', toks := t' } := I.un (Un.write mu he k heo) (I.hok.write mu he k heo new)
/-- forgetting slots, pins -/
theorem Inv.weak {σ' : List (Option V)} (I : Inv X pins σ H s) (hl : σ'.length = σ.length) (w : ∀ (i : Nat) v, σ'[i]? = some (some v) → σ[i]? = some (some v)) : Inv X pins σ' H s :=
  ⟨I.ok, I.os, I.bare, I.base, let ⟨m, hn, hl'⟩ := I.loc; ⟨m, hn, fun i x v e1 e2 e3 => hl' i x v e1 (w i v e2) e3⟩, I.cell, I.free, I.freeC, I.pin, I.hok, hl.trans I.len⟩
theorem Inv.pins_of {pins' : List (Addr × Obj)} (I : Inv X pins σ H s) (h : ∀ p ∈ pins', s.heap.get? p.1 = some p.2 ∧ H p.1 = none ∧ p.1 ≠ X.env.locals ∧ p.1 ∉ X.fs ∧ ∀ v, p.2.data ≠ .cell v) : Inv X pins' σ H s :=
  ⟨I.ok, I.os, I.bare, I.base, I.loc, I.cell, I.free, I.freeC, fun p hp => (List.mem_append.mp hp).elim (fun z => I.pin p (List.mem_append_left _ z)) (h p), I.hok, I.len⟩

theorem nodup_ix {N : List Str} (hN : N.Nodup) {i j : Nat} {x : Str} (a : N[i]? = some x) (b : N[j]? = some x) : i = j := by
  obtain ⟨h1, e1⟩ := List.getElem?_eq_some_iff.mp a
  obtain ⟨h2, e2⟩ := List.getElem?_eq_some_iff.mp b
  exact (List.getElem_inj hN).mp (e1.trans e2.symm)

/-- a name is stored; what changed -/
theorem store_ok2 {M : Model} {A : Around} {E : Value → Shared → Prop} {i : Nat} {x : Str} {v : V} {u : Value} {Q : Unit → Shared → Prop} (I : Inv X pins σ H s) (hN : X.N.Nodup) (hi : X.N[i]? = some x) (hx : Loc X.env.scope x) (r : RelV v u)
    (h : ∀ s', Inv X pins (σ.set i (some v)) H s' → (∃ a, Heap.SameBut a s.heap s'.heap ∧ (a = X.env.locals ∨ X.env.cells.lookup x = some a)) → Q () s') (hf : X.fn x = true ∨ X.env.scope.names.lookup x = some .local := by first | exact .inl rfl | exact .inr rfl | assumption) : wpAny M A (storeName X.env x u) Q E s := by
  obtain ⟨m, hn, hl⟩ := id I.loc
  have hcls : (X.env.scope.kind == .class || (X.env.scope.kind == .module && X.env.locals != X.env.globals)) = false := by rw [I.ok.kind]; rfl
  have hiσ : i < σ.length := by rw [I.len]; exact (List.getElem?_eq_some_iff.mp hi).1
  have cne := I.cne
  have tracked : ∀ {a : Addr} {h' : Heap}, (∃ o, s.heap.get? a = some o ∧ H a = none) → Heap.SameBut a s.heap h' → HOk X.prog X.w H h' := fun {a h'} ha hs b ob e => by
    obtain ⟨_, _, hfree⟩ := ha
    refine (I.hok b ob e).stay (fun c w' hc q => (hs.2 c ?_).trans q) (fun _ q => q) fun _ _ q => q
    rintro rfl
    rcases hc with rfl | hc
    · rw [hfree] at e; cases e
    · rw [hfree] at hc; cases hc
  rcases hx with hk | hk
  · refine wpAny_storeName_local hk hn (fun h' hn' hs => ?_) hcls
    obtain ⟨oL, _, _, hoL, _⟩ := id hn
    refine h _ ⟨I.ok, I.os, I.bare, ⟨fun b o e n hb hx => ?_, fun b o e n hb hx => ?_, I.base.free, fun b o e hx => ?_, I.base.tups, I.base.frzs, I.base.tbls⟩, ⟨_, hn', fun j y v' e1 e2 e3 => ?_⟩, fun y c e => ?_, I.free, I.freeC, fun p hp => ?_, tracked ⟨oL, hoL, I.free⟩ hs, by simpa using I.len⟩ ⟨_, hs, .inl rfl⟩
    · exact (hs.2 b (Nat.ne_of_lt (Nat.lt_of_lt_of_le (Heap.lt_size e) I.ok.above))).trans (I.base.keep b o e n hb hx)
    · obtain ⟨sl, e1⟩ := I.base.slot b o e n hb hx
      exact ⟨sl, (hs.2 b (Nat.ne_of_lt (Nat.lt_of_lt_of_le (Heap.lt_size e) I.ok.above))).trans e1⟩
    · obtain ⟨o', e1⟩ := I.base.there b o e hx
      exact ⟨o', (hs.2 b (Nat.ne_of_lt (Nat.lt_of_lt_of_le (Heap.lt_size e) I.ok.above))).trans e1⟩
    · by_cases hj : j = i
      · subst hj
        rw [hi] at e1; cases e1
        rw [List.getElem?_set_self hiσ] at e2
        cases e2
        exact ⟨u, r, .inl ⟨hk, by simp⟩⟩
      · rw [List.getElem?_set_ne (Ne.symm hj)] at e2
        obtain ⟨u', r', q⟩ := hl j y v' e1 e2 e3
        refine ⟨u', r', ?_⟩
        rcases q with ⟨k, e⟩ | ⟨k, c, e, z⟩
        · refine .inl ⟨k, ?_⟩
          have : y ≠ x := fun e => hj (nodup_ix hN e1 (e ▸ hi))
          simp [this, e]
        · exact .inr ⟨k, c, e, z.sameBut hs (cne y c e)⟩
    · obtain ⟨w', z⟩ := I.cell y c e
      exact ⟨w', z.sameBut hs (cne y c e)⟩
    · obtain ⟨e, n, ne, nf, d⟩ := I.pin p hp
      exact ⟨(hs.2 p.1 ne).trans e, n, ne, nf, d⟩
  · have hfn : X.fn x = true := by
      rcases hf with z | z
      · exact z
      · rw [z] at hk; cases hk
    obtain ⟨c, hc⟩ := I.ok.has x (.inl hk)
    obtain ⟨w', z⟩ := I.cell x c hc
    refine wpAny_storeName_cell I.ok.kind hk hc z (fun h' hc' hs => ?_)
    obtain ⟨oc, hoc, hocd⟩ := id z
    refine h { s with heap := h' } ⟨I.ok, I.os, I.bare, ⟨fun b o e n hb hx => ?_, fun b o e n hb hx => ?_, I.base.free, fun b o e hx => ?_, I.base.tups, I.base.frzs, I.base.tbls⟩, ⟨m, hn.sameBut hs (Ne.symm (cne x c hc)), fun j y v' e1 e2 e3 => ?_⟩, fun y c' e => ?_, I.free, I.freeC, fun p hp => ?_, tracked ⟨oc, hoc, I.freeC x c hc⟩ hs, by simpa using I.len⟩ ⟨c, hs, .inr hc⟩
    · exact (hs.2 b (Nat.ne_of_lt (Nat.lt_of_lt_of_le (Heap.lt_size e) (I.ok.cab x c hfn hc)))).trans (I.base.keep b o e n hb hx)
    · obtain ⟨sl, e1⟩ := I.base.slot b o e n hb hx
      exact ⟨sl, (hs.2 b (Nat.ne_of_lt (Nat.lt_of_lt_of_le (Heap.lt_size e) (I.ok.cab x c hfn hc)))).trans e1⟩
    · obtain ⟨o', e1⟩ := I.base.there b o e hx
      exact ⟨o', (hs.2 b (Nat.ne_of_lt (Nat.lt_of_lt_of_le (Heap.lt_size e) (I.ok.cab x c hfn hc)))).trans e1⟩
    · by_cases hj : j = i
      · subst hj
        rw [hi] at e1; cases e1
        rw [List.getElem?_set_self hiσ] at e2
        cases e2
        exact ⟨u, r, .inr ⟨.inl hk, c, hc, hc'⟩⟩
      · rw [List.getElem?_set_ne (Ne.symm hj)] at e2
        obtain ⟨u', r', q⟩ := hl j y v' e1 e2 e3
        refine ⟨u', r', ?_⟩
        rcases q with q | ⟨k, c', e, z'⟩
        · exact .inl q
        · refine .inr ⟨k, c', e, z'.sameBut hs ?_⟩
          rintro rfl
          exact hj (nodup_ix hN e1 (I.ok.inj _ _ _ e hc ▸ hi))
    · by_cases hcc : c' = c
      · subst hcc; exact ⟨_, hc'⟩
      · obtain ⟨w2, z2⟩ := I.cell y c' e
        exact ⟨w2, z2.sameBut hs hcc⟩
    · obtain ⟨e, n, ne, nf, d⟩ := I.pin p hp
      refine ⟨(hs.2 p.1 ?_).trans e, n, ne, nf, d⟩
      intro q
      rw [q, hoc] at e
      have q' : oc = p.2 := Option.some.inj e
      exact d w' (by rw [← q']; exact hocd)
theorem store_ok {M : Model} {A : Around} {E : Value → Shared → Prop} {i : Nat} {x : Str} {v : V} {u : Value} {Q : Unit → Shared → Prop} (I : Inv X pins σ H s) (hN : X.N.Nodup) (hi : X.N[i]? = some x) (hx : Loc X.env.scope x) (r : RelV v u)
    (h : ∀ s', Inv X pins (σ.set i (some v)) H s' → Q () s') (hf : X.fn x = true ∨ X.env.scope.names.lookup x = some .local := by first | exact .inl rfl | exact .inr rfl | assumption) : wpAny M A (storeName X.env x u) Q E s :=
  store_ok2 I hN hi hx r (fun s' I' _ => h s' I') hf
/-- behind a call or a block, the state as it is -/
theorem Inv.call' {s' : Shared} {ch : List Addr} (I : Inv X pins σ H s) (ho : s'.os = s.os) (u : Un (frs X.stack) ch H H' s.heap s'.heap) (hok : HOk X.prog X.w H' s'.heap) (hg : AllBare s'.gens)
    (hch : ∀ b ∈ ch, (b ∈ X.ex ∨ X.s_0.heap.objs.size ≤ b) ∧ b ≠ X.env.locals ∧ (∀ x c, X.env.cells.lookup x = some c → c ≠ b) ∧ ∀ p ∈ X.pn ++ pins, p.1 ≠ b) : Inv X pins σ H' s' := by
  obtain ⟨h', g', d', t', o'⟩ := s'
  have e : o' = s.os := ho
  subst e
  exact I.call (g' := g') (t' := t') (d' := d') u hok hg hch
end

/-! ### the judgements -/
/-- an exception: its class, its own dict's address (where it has one), the abstract heap behind it -/
abbrev XK := Value → Option Addr → Hp → Prop
abbrev St := List (Option V)
abbrev VK := V → Hp → Prop
/-- an expression's reading; a test's; an argument list's -/
abbrev TE := St → Hp → VK → Prop
abbrev TT := St → Hp → (Bool → Hp → Prop) → Prop
abbrev TA := St → Hp → (List V → Hp → Prop) → Prop
/-- what is wanted behind a statement -/
structure Ends where
  nx : St → Hp → Prop
  rt : VK
  bk : St → Hp → Prop := fun _ _ => False
  ct : St → Hp → Prop := fun _ _ => False
abbrev TS := Ends → St → Hp → Prop

def EP (X : Cx) (pins : List (Addr × Obj)) (σ : St) (Q : VK) (u : Value) (s' : Shared) : Prop := ∃ v H', Inv X pins σ H' s' ∧ RelV v u ∧ Q v H'
def TP (X : Cx) (pins : List (Addr × Obj)) (σ : St) (Q : Bool → Hp → Prop) (b : Bool) (s' : Shared) : Prop := ∃ H', Inv X pins σ H' s' ∧ Q b H'
def AP (X : Cx) (pins : List (Addr × Obj)) (σ : St) (Q : List V → Hp → Prop) (us : List Value) (s' : Shared) : Prop := ∃ vs H', Inv X pins σ H' s' ∧ Vals vs us ∧ Q vs H'
def SP (X : Cx) (pins : List (Addr × Obj)) (D : Ends) (f : Flow) (s' : Shared) : Prop :=
  match f with
  | .next => ∃ σ' H', Inv X pins σ' H' s' ∧ D.nx σ' H'
  | .brk => ∃ σ' H', Inv X pins σ' H' s' ∧ D.bk σ' H'
  | .cont => ∃ σ' H', Inv X pins σ' H' s' ∧ D.ct σ' H'
  | .ret u => ∃ v σ' H', Inv X pins σ' H' s' ∧ RelV v u ∧ D.rt v H'

def PE (X : Cx) (e : Expr) (t : TE) : Prop :=
  ∀ (pins : List (Addr × Obj)) (s : Shared) (σ : St) (H : Hp) (Q : VK), Inv X pins σ H s → t σ H Q → wpAny (model X.prog X.w) X.A (eval e X.env) (EP X pins σ Q) X.xe s
def PT (X : Cx) (e : Expr) (t : TT) : Prop :=
  ∀ (pins : List (Addr × Obj)) (s : Shared) (σ : St) (H : Hp) (Q : Bool → Hp → Prop), Inv X pins σ H s → t σ H Q → wpAny (model X.prog X.w) X.A (isTrue e X.env (eval e X.env)) (TP X pins σ Q) X.xe s
/-- a test whatever its 'whole' is (and, or) -/
def PW (X : Cx) (e : Expr) (t : TT) : Prop :=
  ∀ (whole : Sem Value) (pins : List (Addr × Obj)) (s : Shared) (σ : St) (H : Hp) (Q : Bool → Hp → Prop), Inv X pins σ H s → t σ H Q → wpAny (model X.prog X.w) X.A (isTrue e X.env whole) (TP X pins σ Q) X.xe s
theorem PW.pt {X : Cx} {e : Expr} {t : TT} (h : PW X e t) : PT X e t := h _
/-- an argument list (no star), from the left -/
def PA (X : Cx) (es : List Expr) (t : TA) : Prop :=
  ∀ (pos : Pos) (pins : List (Addr × Obj)) (s : Shared) (σ : St) (H : Hp) (Q : List V → Hp → Prop), Inv X pins σ H s → t σ H Q → wpAny (model X.prog X.w) X.A (spliced (backTo pos (starEach es X.env))) (AP X pins σ Q) X.xe s
def PS (X : Cx) (st : Stmt) (t : TS) : Prop :=
  ∀ (pins : List (Addr × Obj)) (s : Shared) (σ : St) (H : Hp) (D : Ends), Inv X pins σ H s → t D σ H → wpAny (model X.prog X.w) X.A (exec st X.env) (SP X pins D) X.xe s
def PSs (X : Cx) (st : List Stmt) (t : TS) : Prop :=
  ∀ (pins : List (Addr × Obj)) (s : Shared) (σ : St) (H : Hp) (D : Ends), Inv X pins σ H s → t D σ H → wpAny (model X.prog X.w) X.A (execs st X.env) (SP X pins D) X.xe s
/-- weaken the end -/
theorem thn {α : Type} {t : Sem α} {Q Q' : α → Shared → Prop} {M : Model} {A : Around} {E : Value → Shared → Prop} {s : Shared} (h : wpAny M A t Q E s) (hQ : ∀ a s, Q a s → Q' a s) : wpAny M A t Q' E s := wpAny_mono h hQ fun _ _ x => x
end L2

namespace L2
open PySem PySem.Spec PyProof.Rows
section
variable {X : Cx}

/-! ### names and constants -/
def tVar (i : Nat) : TE := fun σ H Q => ∃ v, σ[i]? = some (some v) ∧ Q v H
def tC (v : V) : TE := fun _ H Q => Q v H
theorem pe_var {i : Nat} {x : Str} {pos : Pos} (hN : X.N[i]? = some x) (hv : Vis X.env.scope x) (hd : (x == ("__debug__" : Str)) = false := by decide) (hcd : (x == ("__classdict__" : Str)) = false := by decide) : PE X (.Name x pos) (tVar i) := by
  intro pins s σ H Q I h
  obtain ⟨v, e, h⟩ := h
  obtain ⟨m, hn, hl⟩ := I.loc
  obtain ⟨u, r, l⟩ := hl i x v hN e hv
  have fin : EP X pins σ Q u s := ⟨v, H, I, r, h⟩
  rcases l with ⟨hk, hm⟩ | ⟨hk, c, hc, hcell⟩
  · exact wpAny_Name (wpAny_loadName_local I.ok.kind hk hn hm fin) hd
  · rcases hk with hk | hk
    · exact wpAny_Name (wpAny_loadName_cell I.ok.kind hk hc hcell fin) hd
    · exact wpAny_Name (wpAny_loadName_free I.ok.kind hk hc hcell fin hcd) hd
theorem pe_int {i j pos} : PE X (.Constant (.int i) j pos) (tC (.int i)) := fun _ _ _ H _ I h => wpAny_Constant_int ⟨.int i, H, I.tok _, ⟨_, rfl⟩, h⟩
theorem pe_bl {b j pos} : PE X (.Constant (.bool b) j pos) (tC (.bl b)) := fun _ _ _ H _ I h => Constant_bool ⟨.bl b, H, I, rfl, h⟩
theorem pe_non {j pos} : PE X (.Constant .none j pos) (tC .non) := fun _ _ _ H _ I h => Constant_none ⟨.non, H, I, rfl, h⟩
theorem pe_str {x j pos} : PE X (.Constant (.str x) j pos) (tC (.str x)) := fun _ _ _ H _ I h => Calls.Constant_str ⟨.str x, H, I.tok _, ⟨_, rfl⟩, h⟩

/-- a global name of the def -/
def Gl (X : Cx) (x : Str) : Prop := X.env.kindOf x = some .globalImplicit
theorem ld_glob {E : Value → Shared → Prop} {pins : List (Addr × Obj)} {s : Shared} {σ : St} {H : Hp} {x : Str} {u : Value} {pos : Pos} {Q : Value → Shared → Prop} (I : Inv X pins σ H s) (hg : Gl X x) (hm : X.mg x = some u) (h : Q u s)
    (hd : (x == ("__debug__" : Str)) = false := by decide) : wpAny (model X.prog X.w) X.A (eval (.Name x pos) X.env) Q E s :=
  Calls.Name_function_global I.ok.kind hg (Calls.loadGlobal_global (by rw [I.ok.glob]; exact I.mod.glob.keeps I.bk) hm h) hd
theorem ld_blt {E : Value → Shared → Prop} {pins : List (Addr × Obj)} {s : Shared} {σ : St} {H : Hp} {x : Str} {u : Value} {pos : Pos} {Q : Value → Shared → Prop} (I : Inv X pins σ H s) (hg : Gl X x) (hm : X.mg x = none) (hv : bootBuiltins x = some u) (h : Q u s)
    (hn : x ≠ "__name__" := by decide) (hd : (x == ("__debug__" : Str)) = false := by decide) : wpAny (model X.prog X.w) X.A (eval (.Name x pos) X.env) Q E s := by
  obtain ⟨mb, h1, h2⟩ := I.mod.blt
  exact Calls.Name_function_global I.ok.kind hg (Calls.loadGlobal_builtin (by rw [I.ok.glob]; exact I.mod.glob.keeps I.bk) hm (by rw [I.ok.blt]; exact h1.keeps I.bk) ((h2 x hn).trans hv) h) hd
/-- a module's constant, a class, a function, as a value -/
theorem pe_glob {x : Str} {v : V} {u : Value} {pos : Pos} (hg : Gl X x) (hm : X.mg x = some u) (r : RelV v u) (hd : (x == ("__debug__" : Str)) = false := by decide) : PE X (.Name x pos) (tC v) :=
  fun _ _ _ H _ I h => ld_glob I hg hm ⟨v, H, I, r, h⟩ hd
theorem pe_bltn {x : Str} {v : V} {u : Value} {pos : Pos} (hg : Gl X x) (hm : X.mg x = none) (hv : bootBuiltins x = some u) (r : RelV v u) (hn : x ≠ "__name__" := by decide) (hd : (x == ("__debug__" : Str)) = false := by decide) : PE X (.Name x pos) (tC v) :=
  fun _ _ _ H _ I h => ld_blt I hg hm hv ⟨v, H, I, r, h⟩ hn hd

variable {a b : Expr} {ta tb : TE} {pos : Pos}
/-! ### comparisons -/
def PC (X : Cx) (op : CmpOp) (a b : Expr) (t : TE) : Prop :=
  ∀ (pins : List (Addr × Obj)) (s : Shared) (σ : St) (H : Hp) (Q : VK), Inv X pins σ H s → t σ H Q →
    wpAny (model X.prog X.w) X.A (eval a X.env) (fun v s₁ => wpAny (model X.prog X.w) X.A (eval b X.env) (fun u s₂ => wpAny (model X.prog X.w) X.A (compareOp op v u) (EP X pins σ Q) X.xe s₂) X.xe s₁) X.xe s
theorem nobehind (b : Expr) {op : CmpOp} (h : op ≠ .In) (h2 : op ≠ .NotIn) : behindInMarks op b = false := by
  have e1 : (op == CmpOp.In) = false := by cases op <;> first | rfl | exact absurd rfl h
  have e2 : (op == CmpOp.NotIn) = false := by cases op <;> first | rfl | exact absurd rfl h2
  cases b <;> simp [behindInMarks, e1, e2]
/-- is None -/
def tIsN (ta : TE) : TE := fun σ H Q => ta σ H fun x H1 => Q (.bl (decide (x = .non))) H1
def tNotN (ta : TE) : TE := fun σ H Q => ta σ H fun x H1 => Q (.bl (!decide (x = .non))) H1
theorem RelV.none_iff {x : V} {v : Value} (r : RelV x v) : (v == Value.none) = decide (x = .non) := by
  cases x with
  | non => cases r; rfl
  | bl _ => cases r; rfl
  | int _ => obtain ⟨t, rfl⟩ := r; rfl
  | str _ => obtain ⟨t, rfl⟩ := r; rfl
  | byt _ => obtain ⟨t, rfl⟩ := r; rfl
  | flt _ => obtain ⟨t, rfl⟩ := r; rfl
  | ref _ => cases r; rfl
  | ty _ => cases r; rfl
theorem pc_isN {j pos'} (ha : PE X a ta) : PC X .Is a (.Constant .none j pos') (tIsN ta) := by
  intro pins s σ H Q I h
  refine thn (ha pins s σ H _ I h) fun v s1 ⟨x, H1, I1, r1, q1⟩ => ?_
  exact Constant_none (is_none_gen ⟨.bl _, H1, I1, by rw [r1.none_iff]; rfl, q1⟩)
theorem pc_notN {j pos'} (ha : PE X a ta) : PC X .IsNot a (.Constant .none j pos') (tNotN ta) := by
  intro pins s σ H Q I h
  refine thn (ha pins s σ H _ I h) fun v s1 ⟨x, H1, I1, r1, q1⟩ => ?_
  exact Constant_none (isnot_none_gen ⟨.bl _, H1, I1, by rw [r1.none_iff]; rfl, q1⟩)
/-- a comparison as a value, as a test -/
def tB (t : TE) : TT := fun σ H Q => t σ H fun x H1 => ∃ c, x = .bl c ∧ Q c H1
theorem pt_cmp {op : CmpOp} {t : TE} (h : PC X op a b t) (h1 : behindInMarks op b = false := by first | exact nobehind _ (by decide) (by decide) | rfl) : PT X (.Compare a [op] [b] pos) (tB t) := by
  intro pins s σ H Q I hw
  refine wpAny_isTrue_Compare1 (thn (h pins s σ H _ I hw) fun v s1 h1 => thn h1 fun u s2 h2 => thn h2 fun c s3 ⟨x, H1, I1, r1, q1⟩ => ?_) h1
  obtain ⟨d, rfl, q⟩ := q1
  cases r1
  exact wpAny_truthy_bool ⟨H1, I1, q⟩
/-- an expression whose value is a bool, as a test -/
theorem pt_val {e : Expr} {t : TE} (h : PE X e t) (he : ∀ whole, isTrue e X.env whole = (do let v ← whole; standAt e.pos; holding [v] (truthy v)) := by intro _; rfl) : PT X e (tB t) := by
  intro pins s σ H Q I hw
  refine isTrue_plain (thn (h pins s σ H _ I hw) fun v s1 ⟨x, H1, I1, r1, q1⟩ => ?_) (he _)
  obtain ⟨d, rfl, q⟩ := q1
  cases r1
  exact wpAny_truthy_bool ⟨H1, I1, q⟩

/-! ### and, or, not -/
variable {tA tB' : TT} {rest : List Expr}
def tAnd (t u : TT) : TT := fun σ H Q => t σ H fun c H1 => if c = true then u σ H1 Q else Q false H1
def tOr (t u : TT) : TT := fun σ H Q => t σ H fun c H1 => if c = true then Q true H1 else u σ H1 Q
def tNot (t : TT) : TT := fun σ H Q => t σ H fun c H1 => Q (!c) H1
theorem pw_and1 (ha : PT X a tA) : PW X (.BoolOp .And [a] pos) tA := by
  intro wh pins s σ H Q I h
  refine isTrue_and (thn (ha pins s σ H Q I h) fun c s1 e => ?_)
  cases c with
  | true => exact isTrue_and_nil e
  | false => exact e
theorem pw_or1 (ha : PT X a tA) : PW X (.BoolOp .Or [a] pos) tA := by
  intro wh pins s σ H Q I h
  refine isTrue_or (thn (ha pins s σ H Q I h) fun c s1 e => ?_)
  cases c with
  | false => exact isTrue_or_nil e
  | true => exact e
theorem pw_and (ha : PT X a tA) (hb : PW X (.BoolOp .And (b :: rest) pos) tB') : PW X (.BoolOp .And (a :: b :: rest) pos) (tAnd tA tB') := by
  intro wh pins s σ H Q I h
  refine isTrue_and (thn (ha pins s σ H _ I h) fun c s1 ⟨H1, I1, q1⟩ => ?_)
  cases c with
  | true => exact hb wh pins s1 σ H1 Q I1 q1
  | false => exact ⟨H1, I1, q1⟩
theorem pw_or (ha : PT X a tA) (hb : PW X (.BoolOp .Or (b :: rest) pos) tB') : PW X (.BoolOp .Or (a :: b :: rest) pos) (tOr tA tB') := by
  intro wh pins s σ H Q I h
  refine isTrue_or (thn (ha pins s σ H _ I h) fun c s1 ⟨H1, I1, q1⟩ => ?_)
  cases c with
  | true => exact ⟨H1, I1, q1⟩
  | false => exact hb wh pins s1 σ H1 Q I1 q1
theorem pt_not (ha : PT X a tA) : PT X (.UnaryOp .Not a pos) (tNot tA) := by
  intro pins s σ H Q I h
  exact isTrue_not (ha pins s σ H (fun c H1 => Q (!c) H1) I h)
def tOrV (ta tb : TE) : TE := fun σ H Q => ta σ H fun x H1 => ∃ c, x = .bl c ∧ if c = true then Q (.bl true) H1 else tb σ H1 Q
def tNotV (ta : TE) : TE := fun σ H Q => ta σ H fun x H1 => ∃ c, x = .bl c ∧ Q (.bl (!c)) H1
theorem pe_one {op} {t : TE} (h : PE X a t) : PE X (.BoolOp op [a] pos) t := fun pins s σ H Q I hw => BoolOp_one (h pins s σ H Q I hw)
theorem pe_or (ha : PE X a ta) (hb : PE X (.BoolOp .Or (b :: rest) pos) tb) : PE X (.BoolOp .Or (a :: b :: rest) pos) (tOrV ta tb) := by
  intro pins s σ H Q I h
  refine BoolOp_or (thn (ha pins s σ H _ I h) fun v s1 ⟨x, H1, I1, r1, q1⟩ => ?_)
  obtain ⟨c, rfl, q1⟩ := q1
  cases r1
  refine wpAny_truthy_bool ?_
  cases c with
  | false => exact hb pins s1 σ H1 Q I1 q1
  | true => exact ⟨.bl true, H1, I1, rfl, q1⟩
theorem pe_not (ha : PE X a ta) : PE X (.UnaryOp .Not a pos) (tNotV ta) := by
  intro pins s σ H Q I h
  refine UnaryOp_ (thn (ha pins s σ H _ I h) fun v s1 ⟨x, H1, I1, r1, q1⟩ => ?_)
  obtain ⟨c, rfl, q1⟩ := q1
  cases r1
  exact not_of (wpAny_truthy_bool ⟨.bl (!c), H1, I1, rfl, q1⟩)
/-- a if t else b -/
def tIf (t : TT) (ta tb : TE) : TE := fun σ H Q => t σ H fun c H1 => if c = true then ta σ H1 Q else tb σ H1 Q
theorem pe_ifExp {c : Expr} (hc : PT X c tA) (ha : PE X a ta) (hb : PE X b tb) : PE X (.IfExp c a b pos) (tIf tA ta tb) := by
  intro pins s σ H Q I h
  refine wpAny_IfExp (thn (hc pins s σ H _ I h) fun d s1 ⟨H1, I1, q1⟩ => ?_)
  cases d with
  | true => exact ha pins s1 σ H1 Q I1 q1
  | false => exact hb pins s1 σ H1 Q I1 q1
end
end L2

namespace L2
open PySem PySem.Spec PyProof.Rows

/-! ### a list, a tuple that is read: tracked, frozen, or an object of the module -/
def SqL (K : PySem.W.Frag) (H : Hp) (a : Addr) (xs : List V) : Prop :=
  Rd H a (.lst xs) ∨
    ∃ (o : Obj) (its : Array Value) (n : Nat), K.lookup a = some o ∧ o.cls = .type "list" ∧ o.dict = none ∧ o.data = .seq its n ∧ its.size ≤ sizeLine ∧ Vals xs its.toList
def SqT (K : PySem.W.Frag) (H : Hp) (a : Addr) (xs : List V) : Prop :=
  Rd H a (.tup xs) ∨
    ∃ (o : Obj) (its : Array Value) (n : Nat), K.lookup a = some o ∧ o.cls = .type "tuple" ∧ o.data = .seq its n ∧ its.size ≤ sizeLine ∧ Vals xs its.toList
def absV : Value → Option V
  | .none => some .non
  | .bool b => some (.bl b)
  | .int i _ => some (.int i)
  | .str x _ => some (.str x)
  | .bytes b _ => some (.byt b)
  | .float b _ => some (.flt b)
  | .ref a => some (.ref a)
  | .type n => some (.ty n)
  | _ => none
theorem RelV.abs {x : V} {u : Value} (r : RelV x u) : absV u = some x := by
  cases x with
  | non => cases r; rfl
  | bl _ => cases r; rfl
  | int _ => obtain ⟨t, rfl⟩ := r; rfl
  | str _ => obtain ⟨t, rfl⟩ := r; rfl
  | byt _ => obtain ⟨t, rfl⟩ := r; rfl
  | flt _ => obtain ⟨t, rfl⟩ := r; rfl
  | ref _ => cases r; rfl
  | ty _ => cases r; rfl
theorem RelV.inj {x y : V} {u : Value} (r : RelV x u) (q : RelV y u) : x = y := Option.some.inj (r.abs.symm.trans q.abs)
theorem Vals.inj : ∀ {xs ys : List V} {us : List Value}, Vals xs us → Vals ys us → xs = ys
  | _, _, _, .nil, .nil => rfl
  | _, _, _, .cons r t, .cons r' t' => by rw [r.inj r', Vals.inj t t']
section
variable {X : Cx} {pins : List (Addr × Obj)} {σ : St} {H : Hp} {s : Shared} {a : Addr} {xs ys : List V}
theorem SqL.of {K : PySem.W.Frag} (h : H a = some (.lst xs)) : SqL K H a xs := .inl (.inl h)
theorem SqT.of {K : PySem.W.Frag} (h : H a = some (.tup xs)) : SqT K H a xs := .inl (.inl h)
theorem Inv.list (I : Inv X pins σ H s) (h : SqL X.K H a xs) : ∃ its : List Value, Vals xs its ∧ PlainL s.heap a its.toArray ∧ xs.length ≤ sizeLine := by
  rcases h with h | ⟨o, its, n, hk, hc, hd, hs, hz, r⟩
  · obtain ⟨z, its, n, r, e⟩ := h.ok I.hok
    exact ⟨its, r, ⟨_, n, e, rfl, rfl, rfl⟩, z⟩
  · refine ⟨its.toList, r, ⟨o, n, I.kIn a o hk, hc, hd, by simpa using hs⟩, ?_⟩
    have e := r.length
    simp only [Array.length_toList] at e
    omega
theorem Inv.tuple (I : Inv X pins σ H s) (h : SqT X.K H a xs) : ∃ its : List Value, Vals xs its ∧ IsTup s.heap a its.toArray ∧ xs.length ≤ sizeLine := by
  rcases h with h | ⟨o, its, n, hk, hc, hs, hz, r⟩
  · obtain ⟨z, its, r, p⟩ := h.ok I.hok
    exact ⟨its, r, p.tup, z⟩
  · refine ⟨its.toList, r, ⟨o, I.kIn a o hk, hc, n, by simpa using hs⟩, ?_⟩
    have e := r.length
    simp only [Array.length_toList] at e
    omega
theorem Inv.list_inj (I : Inv X pins σ H s) (h : SqL X.K H a xs) (h' : SqL X.K H a ys) : xs = ys := by
  obtain ⟨its, r, ⟨o, n, e, _, _, d⟩, _⟩ := I.list h
  obtain ⟨its', r', ⟨o', n', e', _, _, d'⟩, _⟩ := I.list h'
  rw [e] at e'; cases e'
  rw [d] at d'
  injection d' with d1 _
  have : its = its' := by simpa using congrArg Array.toList d1
  subst this
  exact r.inj r'
theorem Inv.tuple_inj (I : Inv X pins σ H s) (h : SqT X.K H a xs) (h' : SqT X.K H a ys) : xs = ys := by
  obtain ⟨its, r, ⟨o, e, _, n, d⟩, _⟩ := I.tuple h
  obtain ⟨its', r', ⟨o', e', _, n', d'⟩, _⟩ := I.tuple h'
  rw [e] at e'; cases e'
  rw [d] at d'
  injection d' with d1 _
  have : its = its' := by simpa using congrArg Array.toList d1
  subst this
  exact r.inj r'
end

/-! ### another wish about exceptions -/
abbrev Cx.wish (X : Cx) (E : Value → Shared → Prop) : Cx := { X with xe := E }
/-- no exception leaves -/
abbrev Cx.nox (X : Cx) : Cx := X.wish fun _ _ => False
theorem Cx.Ok.wish {X : Cx} (ok : X.Ok) (E : Value → Shared → Prop) : (X.wish E).Ok :=
  ⟨ok.mod, ok.kind, ok.glob, ok.blt, ok.above, ok.inj, ok.has, ok.cab, ok.hd, ok.frames, ok.stk, ok.exf, ok.bs, ok.bsz, ok.noex, ok.exfs, ok.funs, ok.frf⟩
theorem Cx.Ok.unwish {X : Cx} {E : Value → Shared → Prop} (ok : (X.wish E).Ok) : X.Ok :=
  ⟨ok.mod, ok.kind, ok.glob, ok.blt, ok.above, ok.inj, ok.has, ok.cab, ok.hd, ok.frames, ok.stk, ok.exf, ok.bs, ok.bsz, ok.noex, ok.exfs, ok.funs, ok.frf⟩
section
variable {X : Cx} {pins : List (Addr × Obj)} {σ : St} {H : Hp} {s : Shared} {E : Value → Shared → Prop}
theorem Inv.wish (I : Inv X pins σ H s) (E : Value → Shared → Prop) : Inv (X.wish E) pins σ H s := ⟨I.ok.wish E, I.os, I.bare, I.base, I.loc, I.cell, I.free, I.freeC, I.pin, I.hok, I.len⟩
theorem Inv.unwish (I : Inv (X.wish E) pins σ H s) : Inv X pins σ H s := ⟨I.ok.unwish, I.os, I.bare, I.base, I.loc, I.cell, I.free, I.freeC, I.pin, I.hok, I.len⟩
theorem SP.unwish {D : Ends} {f : Flow} {s' : Shared} (h : SP (X.wish E) pins D f s') : SP X pins D f s' := by
  cases f with
  | next => obtain ⟨σ', H', I, q⟩ := h; exact ⟨σ', H', I.unwish, q⟩
  | brk => obtain ⟨σ', H', I, q⟩ := h; exact ⟨σ', H', I.unwish, q⟩
  | cont => obtain ⟨σ', H', I, q⟩ := h; exact ⟨σ', H', I.unwish, q⟩
  | ret u => obtain ⟨v, σ', H', I, r, q⟩ := h; exact ⟨v, σ', H', I.unwish, r, q⟩
theorem PE.nox {e : Expr} {t : TE} (h : PE X.nox e t) : PE X e t := fun pins s σ H Q I hw =>
  wpAny_mono (h pins s σ H Q (I.wish _) hw) (fun _ _ ⟨v, H', I', r, q⟩ => ⟨v, H', I'.unwish, r, q⟩) fun _ _ z => False.elim z
theorem PT.nox {e : Expr} {t : TT} (h : PT X.nox e t) : PT X e t := fun pins s σ H Q I hw =>
  wpAny_mono (h pins s σ H Q (I.wish _) hw) (fun _ _ ⟨H', I', q⟩ => ⟨H', I'.unwish, q⟩) fun _ _ z => False.elim z
theorem PSs.nox {st : List Stmt} {t : TS} (h : PSs X.nox st t) : PSs X st t := fun pins s σ H D I hw =>
  wpAny_mono (h pins s σ H D (I.wish _) hw) (fun _ _ q => q.unwish) fun _ _ z => False.elim z
end

/-! ### blocks and small statements -/
section
variable {X : Cx} {st : Stmt} {rest : List Stmt} {t u : TS} {e : Expr} {te : TE} {pos : Pos}
def tNext : TS := fun D σ H => D.nx σ H
def tSeq (t u : TS) : TS := fun D σ H => t { D with nx := u D } σ H
theorem pss_nil : PSs X [] tNext := fun _ _ σ H _ I h => wpAny_execs_nil ⟨σ, H, I, h⟩
theorem pss_cons (h1 : PS X st t) (h2 : PSs X rest u) : PSs X (st :: rest) (tSeq t u) := by
  intro pins s σ H D I h
  refine wpAny_execs_cons (thn (h1 pins s σ H { D with nx := u D } I h) fun f s1 q => ?_)
  cases f with
  | next =>
    obtain ⟨σ', H', I', q⟩ := q
    exact h2 pins s1 σ' H' D I' q
  | ret v => exact q
  | brk => exact q
  | cont => exact q
theorem pss_one (h1 : PS X st t) : PSs X [st] t := by
  intro pins s σ H D I h
  refine wpAny_execs_cons (thn (h1 pins s σ H D I h) fun f s1 q => ?_)
  cases f with
  | next => exact wpAny_execs_nil q
  | ret v => exact q
  | brk => exact q
  | cont => exact q
/-- in a def's body nothing is shown -/
theorem Inv.quiet {pins : List (Addr × Obj)} {σ : St} {H : Hp} {s : Shared} (I : Inv X pins σ H s) : interactive X.env = false := by simp [interactive, I.ok.kind]
/-- an expression whose value is dropped -/
def tDrop (te : TE) : TS := fun D σ H => te σ H fun _ H1 => D.nx σ H1
theorem ps_expr (he : PE X e te) (hs : swapsWith e none pos.line X.env = pure false := by rfl) : PS X (.Expr e pos) (tDrop te) := by
  intro pins s σ H D I h
  exact wpAny_Expr_any (thn (he pins s σ H _ I h) fun v s1 ⟨x, H1, I1, r1, q1⟩ => ⟨σ, H1, I1, q1⟩) I.quiet hs
def tRet (te : TE) : TS := fun D σ H => te σ H D.rt
theorem ps_ret (he : PE X e te) : PS X (.Return (some e) pos) (tRet te) := by
  intro pins s σ H D I h
  exact wpAny_Return_some (thn (he pins s σ H _ I h) fun v s1 ⟨x, H1, I1, r1, q1⟩ => ⟨x, σ, H1, I1, r1, q1⟩)
def tIfS (c : TT) (t u : TS) : TS := fun D σ H => c σ H fun b H1 => if b = true then t D σ H1 else u D σ H1
theorem ps_if {c : Expr} {a b : List Stmt} {tc : TT} (hc : PT X c tc) (ha : PSs X a t) (hb : PSs X b u) : PS X (.If c a b pos) (tIfS tc t u) := by
  intro pins s σ H D I h
  refine wpAny_If (thn (hc pins s σ H _ I h) fun d s1 ⟨H1, I1, q1⟩ => ?_)
  cases d with
  | true => exact ha pins s1 σ H1 D I1 q1
  | false => exact hb pins s1 σ H1 D I1 q1
end

/-! ### targets -/
abbrev TG := V → St → Hp → (St → Hp → Prop) → Prop
abbrev TGs := List V → St → Hp → (St → Hp → Prop) → Prop
def PG (X : Cx) (target : Expr) (t : TG) : Prop :=
  ∀ (pins : List (Addr × Obj)) (s : Shared) (σ : St) (H : Hp) (v : V) (u : Value) (Q : St → Hp → Prop), Inv X pins σ H s → RelV v u → t v σ H Q →
    wpAny (model X.prog X.w) X.A (assign target X.env u) (fun _ s' => ∃ σ' H', Inv X pins σ' H' s' ∧ Q σ' H') X.xe s
/-- several targets, one after another -/
def PGs (X : Cx) (ts : List Expr) (t : TGs) : Prop :=
  ∀ (pins : List (Addr × Obj)) (s : Shared) (σ : St) (H : Hp) (vs : List V) (us : List Value) (Q : St → Hp → Prop), Inv X pins σ H s → Vals vs us → t vs σ H Q →
    wpAny (model X.prog X.w) X.A (assignInOrder ((assignEach ts X.env).map (·.2)) us) (fun _ s' => ∃ σ' H', Inv X pins σ' H' s' ∧ Q σ' H') X.xe s
/-- o[i] = v, by values -/
abbrev TSet := V → V → V → Hp → (Hp → Prop) → Prop
def PSet (X : Cx) (t : TSet) : Prop :=
  ∀ (pins : List (Addr × Obj)) (s : Shared) (σ : St) (H : Hp) (o i v : V) (ov iv u : Value) (Q : Hp → Prop), Inv X pins σ H s → RelV o ov → RelV i iv → RelV v u → t o i v H Q →
    wpAny (model X.prog X.w) X.A (setItem ov iv u) (fun _ s' => ∃ H', Inv X pins σ H' s' ∧ Q H') X.xe s
section
variable {X : Cx} {pos : Pos}
def gName (i : Nat) : TG := fun v σ H Q => Q (σ.set i (some v)) H
theorem pg_name {i : Nat} {x : Str} (hN : X.N.Nodup) (hi : X.N[i]? = some x) (hx : Loc X.env.scope x) (hf : X.fn x = true ∨ X.env.scope.names.lookup x = some .local := by first | exact .inl rfl | exact .inr rfl | assumption) : PG X (.Name x pos) (gName i) := by
  intro pins s σ H v u Q I r h
  exact wpAny_assign_Name (store_ok I hN hi hx r (fun s' I' => ⟨_, H, I', h⟩) hf)
def gNil : TGs := fun vs σ H Q => vs = [] ∧ Q σ H
def gCons (t : TG) (u : TGs) : TGs := fun vs σ H Q => ∃ v r, vs = v :: r ∧ t v σ H fun σ' H' => u r σ' H' Q
theorem pgs_nil : PGs X [] gNil := by
  intro pins s σ H vs us Q I r h
  obtain ⟨e, h⟩ := h
  subst e
  cases r
  exact assignInOrder_nil ⟨σ, H, I, h⟩
theorem pgs_cons {e : Expr} {es : List Expr} {t : TG} {u : TGs} (h1 : PG X e t) (h2 : PGs X es u)
    (hs : (assignEach (e :: es) X.env).map (·.2) = assign e X.env :: (assignEach es X.env).map (·.2) := by rfl) : PGs X (e :: es) (gCons t u) := by
  intro pins s σ H vs us Q I r h
  obtain ⟨v, vr, e1, h⟩ := h
  subst e1
  cases r with
  | cons r rr =>
    rw [hs]
    refine assignInOrder_cons (thn (h1 pins s σ H _ _ _ I r h) fun _ s1 ⟨σ1, H1, I1, q1⟩ => ?_)
    exact h2 pins s1 σ1 H1 _ _ Q I1 rr q1
/-- (a, b, ..) = a tuple of that length -/
def gTup (K : PySem.W.Frag) (n : Nat) (t : TGs) : TG := fun v σ H Q => ∃ a xs, v = .ref a ∧ SqT K H a xs ∧ xs.length = n ∧ t xs σ H Q
theorem pg_tup {es : List Expr} {k : Nat} {t : TGs} {n : Nat} (hc : X.calm = true) (h : PGs X es t)
    (hn : (assignEach es X.env).length = n := by rfl) (hst : (assignEach es X.env).findIdx? (·.1) = none := by rfl) : PG X (.Tuple es k pos) (gTup X.K n t) := by
  intro pins s σ H v u Q I r hw
  obtain ⟨a, xs, e1, hq, hl, hw⟩ := hw
  subst e1
  cases r
  obtain ⟨its, rv, ht, hz⟩ := I.tuple hq
  refine assign_Tuple_tuple (I.ok.hd hc) ht (by simp [hn, ← hl, rv.length]) hst fun h' hx => ?_
  have I1 : Inv X pins σ H { s with heap := h' } := I.kept (t' := s.toks) fun b o e => hx b o (Nat.ne_of_lt (Heap.lt_size e)) e
  exact h pins _ σ H xs _ Q I1 (by simpa using rv) hw
/-- target = value -/
def tAsg (te : TE) (g : TG) : TS := fun D σ H => te σ H fun x H1 => g x σ H1 D.nx
theorem ps_asg {tg e : Expr} {te : TE} {g : TG} (he : PE X e te) (hg : PG X tg g) (hs : swapsWithSole [tg] e pos.line X.env = pure false := by rfl) (hw : swappedStores [tg] e X.env = pure none := by rfl)
    (h1 : (assignEach [tg] X.env).map (·.2) = [assign tg X.env] := by rfl) : PS X (.Assign [tg] e pos) (tAsg te g) := by
  intro pins s σ H D I h
  refine wpAny_Assign_stores (thn (he pins s σ H _ I h) fun v s1 ⟨x, H1, I1, r1, q1⟩ => ?_) hs hw
  rw [h1]
  exact thn (hg pins s1 σ H1 x v _ I1 r1 q1) fun _ s2 q => q
/-- name = value -/
theorem ps_set {i : Nat} {x : Str} {e : Expr} {te : TE} {pos' : Pos} (hN : X.N.Nodup) (hi : X.N[i]? = some x) (hx : Loc X.env.scope x) (he : PE X e te) (hs : swapsWith e (some (.Name x pos')) pos.line X.env = pure false := by rfl) (hf : X.fn x = true ∨ X.env.scope.names.lookup x = some .local := by first | exact .inl rfl | exact .inr rfl | assumption) :
    PS X (.Assign [.Name x pos'] e pos) (tAsg te (gName i)) := by
  intro pins s σ H D I h
  refine wpAny_Assign_Name (thn (he pins s σ H _ I h) fun v s1 ⟨y, H1, I1, r1, q1⟩ => ?_) hs
  exact store_ok I1 hN hi hx r1 (fun s2 I2 => ⟨_, H1, I2, q1⟩) hf
/-- a, b = x, y with plain local names: stored from the right; the pair itself is not tracked (the opening rows as in PyProof/Rows/TupAssign.lean:23) -/
def tPar (i j : Nat) (ta : TA) : TS := fun D σ H => ta σ H fun vs H1 => ∃ v w, vs = [v, w] ∧ D.nx ((σ.set i (some v)).set j (some w)) H1
theorem ps_par {i j : Nat} {x y : Str} {a b : Expr} {ta : TA} {px py pt : Pos} {kt k2 pt2} (hc : X.calm = true) (hN : X.N.Nodup) (hi : X.N[i]? = some x) (hj : X.N[j]? = some y) (hij : i ≠ j)
    (hx : X.env.scope.names.lookup x = some .local) (hy : X.env.scope.names.lookup y = some .local) (ha : PA X [a, b] ta)
    (hw : swappedStores [.Tuple [.Name x px, .Name y py] kt pt] (.Tuple [a, b] k2 pt2) X.env = pure (some [x, y]))
    (hs : swapsWithSole [.Tuple [.Name x px, .Name y py] kt pt] (.Tuple [a, b] k2 pt2) pos.line X.env = pure false := by rfl) :
    PS X (.Assign [.Tuple [.Name x px, .Name y py] kt pt] (.Tuple [a, b] k2 pt2) pos) (tPar i j ta) := by
  intro pins s σ H D I h
  rw [exec_Assign_arm]
  refine wpAny_bind (wpAny_standAt ?_)
  rw [hs]
  refine wpAny_bind (wpAny_pure ?_)
  rw [if_neg (by decide)]
  refine wpAny_bind (Tuple_ (thn (ha _ pins s σ H _ I h) fun us s1 ⟨vs, H1, I1, r1, q1⟩ => ?_))
  obtain ⟨v, w, e1, q1⟩ := q1
  subst e1
  obtain ⟨u1, u2, rfl, rv, rw'⟩ : ∃ u1 u2, us = [u1, u2] ∧ RelV v u1 ∧ RelV w u2 := by
    cases r1 with
    | cons p q =>
      cases q with
      | cons p' q' =>
        cases q'
        exact ⟨_, _, rfl, p, p'⟩
  refine wpAny_newObj_type ?_ (by show 2 ≤ sizeLine; decide)
  have I2 : Inv X pins σ H1 { s1 with heap := s1.heap.push { cls := .type "tuple", data := .seq [u1, u2].toArray } } := I1.kept (t' := s1.toks) fun b o e => Heap.get?_push_of_some _ e
  rw [hw]
  refine wpAny_bind (wpAny_pure ?_)
  show wpAny (model X.prog X.w) X.A (do rule "assign.swapped-stores"; let items ← unpackItems (.ref s1.heap.objs.size) 2 none; assignInOrder [fun v => bindName X.env y v, fun v => bindName X.env x v] items.reverse; pure Flow.next) _ _ _
  refine wpAny_bind (wpAny_rule (wpAny_bind (unpackItems_tuple (items := #[u1, u2]) (I.ok.hd hc) (IsTup.new s1.heap _) fun h' hx' => ?_)))
  have I3 := I2.kept (h' := h') (t' := s1.toks) fun b o e => hx' b o (Nat.ne_of_lt (Heap.lt_size e)) e
  show wpAny _ _ (assignInOrder [fun v => bindName X.env y v, fun v => bindName X.env x v] [u2, u1] >>= fun _ => pure Flow.next) _ _ _
  refine wpAny_bind (assignInOrder_cons (wpAny_bindName (store_ok I3 hN hj (.inl hy) rw' (fun s2 I4 => ?_) (.inr hy))))
  refine assignInOrder_cons (wpAny_bindName (store_ok I4 hN hi (.inl hx) rv (fun s3 I5 => assignInOrder_nil (wpAny_pure ?_)) (.inr hx)))
  rw [List.set_comm _ _ (Ne.symm hij)] at I5
  exact ⟨_, H1, I5, q1⟩
end

/-! ### while -/
section
variable {X : Cx} {pos : Pos}
end

/-! ### what a loop or a comprehension walks -/
/-- at turn i: it yields x (the heap may grow), or it stops -/
structure It where
  go : Nat → Hp → Prop
  yld : Nat → Hp → V → Hp → Prop
  stop : Nat → Hp → Prop
/-- the iterator's own objects may turn: they are not the frame's, not pinned, younger than the entry (or a comprehension's own) -/
def FpOk (X : Cx) (pins : List (Addr × Obj)) (H : Hp) (b : Addr) : Prop :=
  H b = none ∧ b ≠ X.env.locals ∧ b ∉ X.fs ∧ (b ∈ X.ex ∨ X.s_0.heap.objs.size ≤ b) ∧ (∀ x c, X.env.cells.lookup x = some c → c ≠ b) ∧ ∀ p ∈ X.pn ++ pins, p.1 ≠ b
theorem Inv.fpOk {X : Cx} {pins : List (Addr × Obj)} {σ : St} {H H' : Hp} {s : Shared} {b : Addr} (I : Inv X pins σ H s) (hb : s.heap.objs.size ≤ b) (hn : H' b = none) : FpOk X pins H' b := by
  refine ⟨hn, Nat.ne_of_gt (Nat.lt_of_lt_of_le I.lt hb), I.nofs hb, .inr (Nat.le_trans I.sz hb), fun x c e z => ?_, fun p hp z => ?_⟩
  · obtain ⟨v, q⟩ := I.cell x c e
    exact absurd (Nat.lt_of_lt_of_le q.lt (by rw [z]; exact hb)) (Nat.lt_irrefl _)
  · exact absurd (Nat.lt_of_lt_of_le (Heap.lt_size (I.pin p hp).1) (by rw [z]; exact hb)) (Nat.lt_irrefl _)
structure Turn (P : Program) (w : World) (K : PySem.W.Frag) (tg : Expr) (J : It) (fp : List Addr) (it : Addr) (tn : Nat → Heap → Prop) : Prop where
  mem : it ∈ fp
  obj : ∀ i h, tn i h → ∀ b ∈ fp, ∃ o, h.get? b = some o ∧ ∀ v, o.data ≠ .cell v
  keep : ∀ i h h', tn i h → (∀ b ∈ fp, ∀ o, h.get? b = some o → h'.get? b = some o) → tn i h'
  item : ∀ (X : Cx), X.prog = P → X.w = w → X.K = K → X.calm = true → ∀ (i : Nat) (pins : List (Addr × Obj)) (s : Shared) (σ : St) (H : Hp) (E : Value → Shared → Prop), Inv X pins σ H s → (∀ b ∈ fp, FpOk X pins H b) → tn i s.heap → J.go i H →
    wpAny (model P w) X.A (pyNext (.ref it)) (fun r s1 => ∃ u, r = some u ∧
      wpAny (model P w) X.A (letOwnedTupleGo tg (.ref it) u) (fun _ s2 => ∃ x H', Inv X pins σ H' s2 ∧ RelV x u ∧ J.yld i H x H' ∧ tn (i + 1) s2.heap ∧ ∀ b ∈ fp, H' b = none) E s1) E s
  done : ∀ (X : Cx), X.prog = P → X.w = w → X.K = K → X.calm = true → ∀ (i : Nat) (pins : List (Addr × Obj)) (s : Shared) (σ : St) (H : Hp) (E : Value → Shared → Prop), Inv X pins σ H s → (∀ b ∈ fp, FpOk X pins H b) → tn i s.heap → J.stop i H →
    wpAny (model P w) X.A (pyNext (.ref it)) (fun r s1 => r = none ∧ Inv X pins σ H s1) E s
  self : ∀ (A : Around) (i : Nat) (s : Shared) (Q : Value → Shared → Prop) (E : Value → Shared → Prop), tn i s.heap → Q (.ref it) s → wpAny (model P w) A (pyIter (.ref it)) Q E s
abbrev TI := St → Hp → (It → Hp → Prop) → Prop
/-- an iterator has come -/
def PIE (X : Cx) (pins : List (Addr × Obj)) (σ : St) (tg : Expr) (R : It → Hp → Prop) (itv : Value) (s2 : Shared) : Prop :=
  ∃ (it : Addr) (fp : List Addr) (tn : Nat → Heap → Prop) (J : It) (H' : Hp), itv = .ref it ∧ Inv X pins σ H' s2 ∧ Turn X.prog X.w X.K tg J fp it tn ∧ tn 0 s2.heap ∧ (∀ b ∈ fp, FpOk X pins H' b) ∧ R J H'
def PI (X : Cx) (tg iter : Expr) (wi : TI) : Prop :=
  ∀ (pins : List (Addr × Obj)) (s : Shared) (σ : St) (H : Hp) (R : It → Hp → Prop), Inv X pins σ H s → wi σ H R →
    wpAny (model X.prog X.w) X.A (eval iter X.env) (fun v s1 => wpAny (model X.prog X.w) X.A (pyIter v) (PIE X pins σ tg R) X.xe s1) X.xe s

/-- the step ahead of the store is nothing for an iterator that keeps no tuple -/
theorem go_of {M : Model} {A : Around} {E : Value → Shared → Prop} {s : Shared} {tg : Expr} {it : Addr} {u : Value} {o : Obj} {n : String} {vs : Array Value} {Q : Unit → Shared → Prop} (ho : s.heap.get? it = some o) (hc : o.cls = .type n) (hd : o.data = .fields vs)
    (hn : ["enumerate", "zip", "dict_itemiterator", "dict_reverseitemiterator", "odict_iterator", "itertools.zip_longest", "itertools.pairwise"].contains n = false) (hQ : Q () s) : wpAny M A (letOwnedTupleGo tg (.ref it) u) Q E s := by
  unfold letOwnedTupleGo
  cases tg <;> first
    | exact wpAny_pure hQ
    | (cases u <;> first
        | exact wpAny_pure hQ
        | (refine wpAny_bind (wpAny_load ho ?_)
           rw [hc, hd]
           show wpAny M A (if (["enumerate", "zip", "dict_itemiterator", "dict_reverseitemiterator", "odict_iterator", "itertools.zip_longest", "itertools.pairwise"].contains n && vs[0]? == some (rawInt _)) = true then _ else _) Q E s
           rw [if_neg (by intro h; rw [hn, Bool.false_and] at h; cases h)]
           exact wpAny_pure hQ))

/-- lo, lo + 1, .. (n of them) -/
def Itr (lo : Int) (n : Nat) : It := ⟨fun i _ => i < n, fun i H x H' => H' = H ∧ x = .int (lo + i), fun i _ => n ≤ i⟩
theorem turn_range {P : Program} {w : World} {K : PySem.W.Frag} {tg : Expr} (it : Addr) (lo : Int) (n : Nat) : Turn P w K tg (Itr lo n) [it] it (fun i h => IsRangeIter h it (lo + (i : Nat) * 1) ((n : Int) - (i : Nat)) 1) where
  mem := by simp
  obj := fun i h st b hb => by
    have e : b = it := by simpa using hb
    subst e
    exact ⟨_, st, fun v z => by
      have z' : Data.fields _ = Data.cell v := z
      cases z'⟩
  keep := fun i h h' st k => k it (by simp) _ st
  item := by
    intro X hP hw hK hc i pins s σ H E I hf st hg
    subst hP hw hK
    obtain ⟨f0, f1, f2, f3, f4, f5⟩ := hf it (by simp)
    have W := Walks.range (prog := X.prog) (w := X.w) (I.ok.hd hc) it lo 1 n
    refine W.item i s _ _ hg st fun v h' tk hv st' kk => ?_
    obtain ⟨t, rfl⟩ := hv
    have I1 : Inv X pins σ H { s with heap := h', toks := tk } := I.turned (fun b o hb e => kk b o (by simpa using hb) e) f0 f1 f3 f4 f5
    refine ⟨_, rfl, go_of (s := { s with heap := h', toks := tk }) (n := "range_iterator") st' rfl rfl (by decide) ⟨.int (lo + i), H, I1, ⟨t, ?_⟩, ⟨rfl, rfl⟩, st', fun b hb => (hf b hb).1⟩⟩
    rw [Int.mul_one]
  done := by
    intro X hP hw hK hc i pins s σ H E I hf st hg
    subst hP hw hK
    obtain ⟨f0, f1, f2, f3, f4, f5⟩ := hf it (by simp)
    exact wpAny_pyNext_range_end (I.ok.hd hc) st (by have : n ≤ i := hg; omega) fun h' eb => ⟨rfl, I.turned (t' := s.toks) (fun b o hb e => eb b o hb e) f0 f1 f3 f4 f5⟩
  self := fun _ _ _ _ _ st h => wpAny_pyIter_rangeiter st h
end L2

namespace L2
open PySem PySem.Spec PyProof.Rows
section
variable {X : Cx} {tg : Expr}
/-- a range object just made, walked -/
theorem range_it {pins : List (Addr × Obj)} {σ : St} {H : Hp} {s : Shared} {R : It → Hp → Prop} {E : Value → Shared → Prop} {lo hi : Int} {t u v : Tok} {tk : Nat} (I : Inv X pins σ H s) (h1 : -(2 ^ 62) ≤ lo) (h2 : lo < 2 ^ 62) (h3 : -(2 ^ 62) ≤ hi) (h4 : hi < 2 ^ 62)
    (q : R (Itr lo (hi - lo).toNat) H) : wpAny (model X.prog X.w) X.A (pyIter (.ref s.heap.objs.size)) (PIE X pins σ tg R) E { s with heap := s.heap.push { cls := .type "range", data := .fields #[.int lo t, .int hi u, .int 1 v] }, toks := tk } := by
  refine wpAny_pyIter_range (IsRange.new ..) (small_one h1 h2 h3 h4) ?_
  have I1 : Inv X pins σ H { s with heap := s.heap.push { cls := .type "range", data := .fields #[.int lo t, .int hi u, .int 1 v] }, toks := tk } := I.kept fun b o e => Heap.get?_push_of_some _ e
  refine ⟨(s.heap.push { cls := .type "range", data := .fields #[.int lo t, .int hi u, .int 1 v] }).objs.size, [(s.heap.push { cls := .type "range", data := .fields #[.int lo t, .int hi u, .int 1 v] }).objs.size], _, _, H, rfl,
    I1.kept (t' := tk) fun b o e => Heap.get?_push_of_some _ e, turn_range _ lo (hi - lo).toNat, ?_, fun b hb => ?_, q⟩
  · have e1 : lo + ((0 : Nat) : Int) * 1 = lo := by simp
    have e2 : (((hi - lo).toNat : Nat) : Int) - ((0 : Nat) : Int) = Builtin.Range.rangeSize lo hi 1 := by rw [rangeSize_one]; split <;> omega
    show IsRangeIter _ _ (lo + ((0 : Nat) : Int) * 1) ((((hi - lo).toNat : Nat) : Int) - ((0 : Nat) : Int)) 1
    rw [e1, e2]
    exact Heap.get?_push_size _ rfl
  · have e : b = (s.heap.push { cls := .type "range", data := .fields #[.int lo t, .int hi u, .int 1 v] }).objs.size := by simpa using hb
    subst e
    exact I1.fpOk (Nat.le_refl _) (I1.hok.fresh (Nat.le_refl _))
def iRng1 (ta : TA) : TI := fun σ H R => ta σ H fun vs H1 => ∃ j : Int, vs = [.int j] ∧ -(2 ^ 62) ≤ j ∧ j < 2 ^ 62 ∧ R (Itr 0 j.toNat) H1
theorem pi_range1 {a : Expr} {ta : TA} {p pos : Pos} (hg : Gl X "range") (hm : X.mg "range" = none) (ha : PA X [a] ta) (hs : starEach [a] X.env = [(false, eval a X.env)] := by rfl) : PI X tg (.Call (.Name "range" p) [a] [] pos) (iRng1 ta) := by
  intro pins s σ H R I h
  refine Call_ (ld_blt I hg hm boot_range (PyProof.Rows.callWith_type1 (thn (ha pos pins s σ H _ I h) fun us s1 ⟨vs, H1, I1, r1, q1⟩ => ?_) hs rfl))
  obtain ⟨j, e, q1, q2, q⟩ := q1
  subst e
  cases r1 with
  | cons r rr =>
    cases rr
    obtain ⟨t, rfl⟩ := r
    exact call_range_1 (range_it I1 (by omega) (by omega) q1 q2 (by simpa using q))
/-! ### for -/
/-- W: the invariant by the turn and a measure; N: what the body is to reach -/
def tFor (wi : TI) (g : TG) (tb : TS) : TS := fun D σ H => wi σ H fun J H1 => ∃ W : Nat → Nat → St → Hp → Prop, (∃ m, W 0 m σ H1) ∧ ∀ i m σ H, W i m σ H →
  (J.stop i H ∧ D.nx σ H) ∨ (J.go i H ∧ ∃ N : St → Hp → Prop, (∀ σ' H', N σ' H' → ∃ m', m' < m ∧ W (i + 1) m' σ' H') ∧ ∀ x H', J.yld i H x H' → g x σ H' fun σ2 H2 => tb { D with nx := N, ct := N, bk := D.nx } σ2 H2)
/-- the records at fp as they stand -/
def pinsAt (fp : List Addr) (h : Heap) : List (Addr × Obj) := fp.filterMap fun b => (h.get? b).map fun o => (b, o)
theorem mem_pinsAt {fp : List Addr} {h : Heap} {b : Addr} {o : Obj} (hb : b ∈ fp) (e : h.get? b = some o) : (b, o) ∈ pinsAt fp h := List.mem_filterMap.mpr ⟨b, hb, by rw [e]; rfl⟩
theorem of_pinsAt {fp : List Addr} {h : Heap} {p : Addr × Obj} (hp : p ∈ pinsAt fp h) : p.1 ∈ fp ∧ h.get? p.1 = some p.2 := by
  obtain ⟨b, hb, e⟩ := List.mem_filterMap.mp hp
  cases q : h.get? b with
  | none => rw [q] at e; cases e
  | some o =>
    rw [q] at e
    have e' : (b, o) = p := Option.some.inj e
    subst e'
    exact ⟨hb, q⟩
theorem Inv.pinned {pins : List (Addr × Obj)} {σ : St} {H : Hp} {s : Shared} {fp : List Addr} (I : Inv X pins σ H s) (hf : ∀ b ∈ fp, FpOk X pins H b) (ho : ∀ b ∈ fp, ∃ o, s.heap.get? b = some o ∧ ∀ v, o.data ≠ .cell v) : Inv X (pins ++ pinsAt fp s.heap) σ H s :=
  I.pins_of fun p hp => (List.mem_append.mp hp).elim (fun z => I.pin p (List.mem_append_right _ z)) fun z => by
    obtain ⟨hb, e⟩ := of_pinsAt z
    obtain ⟨f0, f1, f2, _⟩ := hf p.1 hb
    obtain ⟨o, e', d⟩ := ho p.1 hb
    rw [e] at e'; cases e'
    exact ⟨e, f0, f1, f2, d⟩
theorem Inv.unpinned {pins pl : List (Addr × Obj)} {σ : St} {H : Hp} {s : Shared} (I : Inv X (pins ++ pl) σ H s) : Inv X pins σ H s := I.pins_of fun p hp => I.pin p (List.mem_append_right _ (List.mem_append_left _ hp))
theorem ps_for {iter : Expr} {body : List Stmt} {wi : TI} {g : TG} {tb : TS} {pos : Pos} (hp : PassesOwn (model X.prog X.w) X.A X.env X.xe) (hc : X.calm = true) (hi : PI X tg iter wi) (hg : PG X tg g) (hb : PSs X body tb)
    (hs : ∀ x, foldedSetIterable iter X.env x = pure x := by intro _; rfl) : PS X (.For tg iter body [] pos) (tFor wi g tb) := by
  intro pins s σ H D I h
  refine wpAny_For (thn (hi pins s σ H _ I h) fun v s1 h1 => thn h1 fun itv s2 h2 => ?_) hs
  obtain ⟨it, fp, tn, J, H2, e, I2, T, st2, f2, W, ⟨m0, w0⟩, turn⟩ := h2
  subst e
  -- what stays true of the iterator's objects through the loop
  have stat : ∀ {H' : Hp}, (∀ b ∈ fp, H' b = none) → ∀ b ∈ fp, FpOk X pins H' b := fun hn b hb => ⟨hn b hb, (f2 b hb).2⟩
  refine codeAny_forLoop_any (fun n s' => ∃ i σ' H', Inv X pins σ' H' s' ∧ tn i s'.heap ∧ (∀ b ∈ fp, H' b = none) ∧ W i n σ' H') ?_ m0 ⟨0, σ, H2, I2, st2, fun b hb => (f2 b hb).1, w0⟩
  rintro n s3 ⟨i, σ3, H3, I3, st3, fr3, w3⟩
  rcases turn i n σ3 H3 w3 with ⟨stop, qn⟩ | ⟨go, N, hN, step⟩
  · refine wpAny_passesOwn hp (thn (T.done X rfl rfl rfl hc i pins s3 σ3 H3 X.xe I3 (stat fr3) st3 stop) fun r s4 ⟨hr, I4⟩ => ?_)
    subst hr
    exact wpAny_execs_nil ⟨σ3, H3, I4, qn⟩
  · refine wpAny_passesOwn hp (thn (T.item X rfl rfl rfl hc i pins s3 σ3 H3 X.xe I3 (stat fr3) st3 go) fun r s4 ⟨u, hr, h4⟩ => ?_)
    subst hr
    refine wpAny_passesOwn hp (thn h4 fun _ s5 ⟨x, H5, I5, r5, y5, st5, fr5⟩ => ?_)
    have I5' := I5.pinned (stat fr5) (T.obj _ _ st5)
    refine wpAny_passesOwn hp (thn (hg _ s5 σ3 H5 x u _ I5' r5 (step x H5 y5)) fun _ s6 ⟨σ6, H6, I6, q6⟩ => ?_)
    refine wpAny_passesOwn hp (thn (hb _ s6 σ6 H6 _ I6 q6) fun f s7 q7 => ?_)
    have again : ∀ {σ7 : St} {H7 : Hp}, Inv X (pins ++ pinsAt fp s5.heap) σ7 H7 s7 → N σ7 H7 → ∃ m, m < n ∧ ∃ i σ' H', Inv X pins σ' H' s7 ∧ tn i s7.heap ∧ (∀ b ∈ fp, H' b = none) ∧ W i m σ' H' := fun {σ7 H7} I7 n7 => by
      obtain ⟨m', hm, w7⟩ := hN σ7 H7 n7
      refine ⟨m', hm, i + 1, σ7, H7, I7.unpinned, T.keep _ _ _ st5 fun b hb o e => (I7.pin (b, o) (List.mem_append_right _ (List.mem_append_right _ (mem_pinsAt hb e)))).1, fun b hb => ?_, w7⟩
      obtain ⟨o, e, d⟩ := T.obj _ _ st5 b hb
      exact (I7.pin (b, o) (List.mem_append_right _ (List.mem_append_right _ (mem_pinsAt hb e)))).2.1
    cases f with
    | next => obtain ⟨σ7, H7, I7, n7⟩ := q7; exact again I7 n7
    | cont => obtain ⟨σ7, H7, I7, n7⟩ := q7; exact again I7 n7
    | brk => obtain ⟨σ7, H7, I7, q7⟩ := q7; exact ⟨σ7, H7, I7.unpinned, q7⟩
    | ret v => obtain ⟨x7, σ7, H7, I7, r7, q7⟩ := q7; exact ⟨x7, σ7, H7, I7.unpinned, r7, q7⟩
end

theorem for_range {lo : Int} {n : Nat} {g : TG} {tb : TS} {D : Ends} {σ : St} {H : Hp} (Pv : Nat → St → Hp → Prop) (h0 : Pv 0 σ H)
    (hs : ∀ i σ H, i < n → Pv i σ H → g (.int (lo + i)) σ H fun σ2 H2 => tb { D with nx := Pv (i + 1), ct := Pv (i + 1), bk := D.nx } σ2 H2) (hd : ∀ σ H, Pv n σ H → D.nx σ H) :
    ∃ W : Nat → Nat → St → Hp → Prop, (∃ m, W 0 m σ H) ∧ ∀ i m σ H, W i m σ H →
      ((Itr lo n).stop i H ∧ D.nx σ H) ∨ ((Itr lo n).go i H ∧ ∃ N : St → Hp → Prop, (∀ σ' H', N σ' H' → ∃ m', m' < m ∧ W (i + 1) m' σ' H') ∧ ∀ x H', (Itr lo n).yld i H x H' → g x σ H' fun σ2 H2 => tb { D with nx := N, ct := N, bk := D.nx } σ2 H2) := by
  refine ⟨fun i m σ H => m = n - i ∧ i ≤ n ∧ Pv i σ H, ⟨n, by simp, Nat.zero_le _, h0⟩, ?_⟩
  rintro i m σ H ⟨rfl, hi, p⟩
  by_cases hlt : i < n
  · refine .inr ⟨hlt, Pv (i + 1), fun σ' H' p' => ⟨n - (i + 1), by omega, rfl, hlt, p'⟩, fun x H' y => ?_⟩
    obtain ⟨e, y⟩ := y
    subst e y
    exact hs i σ _ hlt p
  · have e : i = n := by omega
    subst e
    exact .inl ⟨Nat.le_refl _, hd σ H p⟩
end L2

namespace L2
open PySem PySem.Spec PyProof.Rows

abbrev R2 := V → V → Hp → VK → Prop
/-- a two-place operation on values: f is binaryOp op, inplaceOp op or compareOp op -/
def OpR (X : Cx) (f : Value → Value → Sem Value) (r : R2) : Prop :=
  ∀ (pins : List (Addr × Obj)) (s : Shared) (σ : St) (H : Hp) (x y : V) (v u : Value) (Q : VK), Inv X pins σ H s → RelV x v → RelV y u → r x y H Q →
    wpAny (model X.prog X.w) X.A (f v u) (EP X pins σ Q) X.xe s
/-- a one-place operation -/
def UnR (X : Cx) (f : Value → Sem Value) (r : V → Hp → VK → Prop) : Prop :=
  ∀ (pins : List (Addr × Obj)) (s : Shared) (σ : St) (H : Hp) (x : V) (v : Value) (Q : VK), Inv X pins σ H s → RelV x v → r x H Q →
    wpAny (model X.prog X.w) X.A (f v) (EP X pins σ Q) X.xe s
/-- a call of a value that is known (a builtin, a type) with values -/
def CallR (X : Cx) (f : Value) (r : List V → Hp → VK → Prop) : Prop :=
  ∀ (pins : List (Addr × Obj)) (s : Shared) (σ : St) (H : Hp) (xs : List V) (us : List Value) (Q : VK), Inv X pins σ H s → Vals xs us → r xs H Q →
    wpAny (model X.prog X.w) X.A (call f us) (EP X pins σ Q) X.xe s
/-- a value's truth -/
def TruR (X : Cx) (r : V → Hp → (Bool → Hp → Prop) → Prop) : Prop :=
  ∀ (pins : List (Addr × Obj)) (s : Shared) (σ : St) (H : Hp) (x : V) (v : Value) (Q : Bool → Hp → Prop), Inv X pins σ H s → RelV x v → r x H Q →
    wpAny (model X.prog X.w) X.A (truthy v) (TP X pins σ Q) X.xe s

def tOp (r : R2) (ta tb : TE) : TE := fun σ H Q => ta σ H fun x H1 => tb σ H1 fun y H2 => r x y H2 Q
def tUn (r : V → Hp → VK → Prop) (ta : TE) : TE := fun σ H Q => ta σ H fun x H1 => r x H1 Q
/-- ints in, under C, and a value out -/
def rI (C : Int → Int → Prop) (g : Int → Int → V) : R2 := fun x y H Q => ∃ i j, x = .int i ∧ y = .int j ∧ C i j ∧ Q (g i j) H
def rI0 (g : Int → Int → V) : R2 := fun x y H Q => ∃ i j, x = .int i ∧ y = .int j ∧ Q (g i j) H
def rU (g : Int → V) : V → Hp → VK → Prop := fun x H Q => ∃ i, x = .int i ∧ Q (g i) H

section
variable {X : Cx} {a b c : Expr} {ta tb tc : TE} {pos : Pos}

theorem binT (ha : PE X a ta) (hb : PE X b tb) {pins : List (Addr × Obj)} {s : Shared} {σ : St} {H : Hp} {R : V → V → Hp → Prop} (I : Inv X pins σ H s)
    (h : ta σ H fun x H1 => tb σ H1 fun y H2 => R x y H2) {Q : Value → Shared → Prop} {f : Value → Value → Sem Value}
    (hf : ∀ v u s2 x y H2, Inv X pins σ H2 s2 → RelV x v → RelV y u → R x y H2 → wpAny (model X.prog X.w) X.A (f v u) Q X.xe s2) :
    wpAny (model X.prog X.w) X.A (eval a X.env) (fun v s₁ => wpAny (model X.prog X.w) X.A (eval b X.env) (fun u s₂ => wpAny (model X.prog X.w) X.A (f v u) Q X.xe s₂) X.xe s₁) X.xe s := by
  refine thn (ha pins s σ H _ I h) fun v s1 ⟨x, H1, I1, r1, q1⟩ => ?_
  refine thn (hb pins s1 σ H1 _ I1 q1) fun u s2 ⟨y, H2, I2, r2, q2⟩ => ?_
  exact hf v u s2 x y H2 I2 r1 r2 q2

theorem pe_op {op : Operator} {r : R2} (ho : OpR X (binaryOp op) r) (ha : PE X a ta) (hb : PE X b tb) : PE X (.BinOp a op b pos) (tOp r ta tb) := by
  intro pins s σ H Q I h
  exact wpAny_BinOp (binT ha hb I h fun v u s2 x y H2 I2 rx ry q => ho pins s2 σ H2 x y v u Q I2 rx ry q)
theorem pe_un {op : UnaryOp} {r : V → Hp → VK → Prop} (ho : UnR X (unaryOp op) r) (ha : PE X a ta) : PE X (.UnaryOp op a pos) (tUn r ta) := by
  intro pins s σ H Q I h
  exact UnaryOp_ (thn (ha pins s σ H _ I h) fun v s1 ⟨x, H1, I1, r1, q1⟩ => ho pins s1 σ H1 x v Q I1 r1 q1)
/-! ### ints -/
theorem opI {f : Value → Value → Sem Value} {C : Int → Int → Prop} {g : Int → Int → Int}
    (rule : ∀ (i j : Int) (t u : Tok) (s : Shared) (Q : Value → Shared → Prop) (E : Value → Shared → Prop), C i j → Q (.int (g i j) s.toks) { s with toks := s.toks + 1 } → wpAny (model X.prog X.w) X.A (f (.int i t) (.int j u)) Q E s) :
    OpR X f (rI C fun i j => .int (g i j)) := by
  intro pins s σ H x y v u Q I rx ry h
  obtain ⟨i, j, rfl, rfl, hc, q⟩ := h
  obtain ⟨t, rfl⟩ := rx
  obtain ⟨t', rfl⟩ := ry
  exact rule i j t t' s _ _ hc ⟨.int (g i j), H, I.tok _, ⟨_, rfl⟩, q⟩
theorem opI0 {f : Value → Value → Sem Value} {g : Int → Int → Int}
    (rule : ∀ (i j : Int) (t u : Tok) (s : Shared) (Q : Value → Shared → Prop) (E : Value → Shared → Prop), Q (.int (g i j) s.toks) { s with toks := s.toks + 1 } → wpAny (model X.prog X.w) X.A (f (.int i t) (.int j u)) Q E s) :
    OpR X f (rI0 fun i j => .int (g i j)) := by
  intro pins s σ H x y v u Q I rx ry h
  obtain ⟨i, j, rfl, rfl, q⟩ := h
  obtain ⟨t, rfl⟩ := rx
  obtain ⟨t', rfl⟩ := ry
  exact rule i j t t' s _ _ ⟨.int (g i j), H, I.tok _, ⟨_, rfl⟩, q⟩
theorem opB0 {f : Value → Value → Sem Value} {g : Int → Int → Bool}
    (rule : ∀ (i j : Int) (t u : Tok) (s : Shared) (Q : Value → Shared → Prop) (E : Value → Shared → Prop), Q (.bool (g i j)) s → wpAny (model X.prog X.w) X.A (f (.int i t) (.int j u)) Q E s) :
    OpR X f (rI0 fun i j => .bl (g i j)) := by
  intro pins s σ H x y v u Q I rx ry h
  obtain ⟨i, j, rfl, rfl, q⟩ := h
  obtain ⟨t, rfl⟩ := rx
  obtain ⟨t', rfl⟩ := ry
  exact rule i j t t' s _ _ ⟨.bl (g i j), H, I, rfl, q⟩

def CDiv (i j : Int) : Prop := 0 < j ∧ j < 1073741824
def CPow (i j : Int) : Prop := 0 ≤ j ∧ j ≤ 1000000 ∧ i.natAbs < 2 ^ 64
def CMul (i j : Int) : Prop := (-(2 ^ 64) < i ∧ i < 2 ^ 64) ∨ (-(2 ^ 64) < j ∧ j < 2 ^ 64)
theorem CMul.ok {i j : Int} (h : CMul i j) : IntMulOk i j := by
  rcases h with ⟨h1, h2⟩ | ⟨h1, h2⟩
  · exact .of_left (intBits_le_64 h1 h2)
  · exact .of_right (intBits_le_64 h1 h2)
theorem op_add : OpR X (binaryOp .Add) (rI0 fun i j => .int (i + j)) := opI0 fun _ _ _ _ _ _ _ q => add_int q
theorem op_sub : OpR X (binaryOp .Sub) (rI0 fun i j => .int (i - j)) := opI0 fun _ _ _ _ _ _ _ q => sub_int q
theorem op_mul : OpR X (binaryOp .Mult) (rI CMul fun i j => .int (i * j)) := opI fun _ _ _ _ _ _ _ hc q => mul_int q hc.ok
/-- // by a positive divisor -/
theorem op_fdiv : OpR X (binaryOp .FloorDiv) (rI CDiv fun i j => .int (i / j)) := opI fun i j _ _ _ _ _ hc q => by
  have h1 : (0 : Int) < j := hc.1
  have h2 : j < 1073741824 := hc.2
  exact floordiv_int (by omega) (by rw [Int.fdiv_eq_ediv_of_nonneg i (by omega)]; exact q) (.inl (PyProof.noPylong_small (by omega)))
/-- % by a positive divisor of any size -/
theorem op_mod : OpR X (binaryOp .Mod) (rI (fun _ j => 0 < j) fun i j => .int (i % j)) := opI fun i j _ _ _ _ _ hc q => by
  have h1 : (0 : Int) < j := hc
  exact mod_int' (by omega) (by rw [Int.fmod_eq_emod_of_nonneg i (by omega)]; exact q)
theorem op_pow : OpR X (binaryOp .Pow) (rI CPow fun i j => .int (i ^ j.toNat)) := opI fun _ _ _ _ _ _ _ hc q => pow_int_small hc.1 hc.2.1 hc.2.2 q
theorem unI {f : Value → Sem Value} {g : Int → Int}
    (rule : ∀ (i : Int) (t : Tok) (s : Shared) (Q : Value → Shared → Prop) (E : Value → Shared → Prop), Q (.int (g i) s.toks) { s with toks := s.toks + 1 } → wpAny (model X.prog X.w) X.A (f (.int i t)) Q E s) :
    UnR X f (rU fun i => .int (g i)) := by
  intro pins s σ H x v Q I rx h
  obtain ⟨i, rfl, q⟩ := h
  obtain ⟨t, rfl⟩ := rx
  exact rule i t s _ _ ⟨.int (g i), H, I.tok _, ⟨_, rfl⟩, q⟩
theorem un_neg : UnR X (unaryOp .USub) (rU fun i => .int (-i)) := unI fun _ _ _ _ _ q => neg_int q
end

/-! ### comparisons -/
/-- the scalars that == tells apart as data does -/
def scal : V → V → Bool
  | .non, .non => true | .non, .int _ => true | .int _, .non => true | .non, .bl _ => true | .bl _, .non => true | .non, .str _ => true | .str _, .non => true
  | .int _, .int _ => true | .bl _, .bl _ => true | .str _, .str _ => true | .byt _, .byt _ => true
  | .int _, .str _ => true | .str _, .int _ => true | .bl _, .str _ => true | .str _, .bl _ => true
  | _, _ => false
def rEq : R2 := fun x y H Q => scal x y = true ∧ Q (.bl (decide (x = y))) H
def rNe : R2 := fun x y H Q => scal x y = true ∧ Q (.bl (!decide (x = y))) H

theorem dec_int {i j : Int} : decide (V.int i = V.int j) = (i == j) := by
  rw [Bool.eq_iff_iff]
  simp
theorem dec_bl {i j : Bool} : decide (V.bl i = V.bl j) = (i == j) := by
  rw [Bool.eq_iff_iff]
  simp
theorem dec_str {i j : Str} : decide (V.str i = V.str j) = (i == j) := by
  rw [Bool.eq_iff_iff]
  simp
theorem dec_byt {i j : Array UInt8} : decide (V.byt i = V.byt j) = (i.toList == j.toList) := by
  rw [Bool.eq_iff_iff]
  cases i
  cases j
  simp

section
variable {X : Cx} {a b c : Expr} {ta tb tc : TE} {pos : Pos}
theorem fin_bl {pins : List (Addr × Obj)} {σ : St} {H : Hp} {s : Shared} {Q : VK} {k k' : Bool} (I : Inv X pins σ H s) (q : Q (.bl k) H) (e : k = k') : EP X pins σ Q (.bool k') s := by
  subst e
  exact ⟨.bl k, H, I, rfl, q⟩
theorem op_eq : OpR X (compareOp .Eq) rEq := by
  intro pins s σ H x y v u Q I rx ry h
  obtain ⟨hs, q⟩ := h
  cases x with
  | non =>
    cases rx
    cases y with
    | non => cases ry; exact PySem.EqNone.eq_none_none (fin_bl I q (by simp))
    | bl j => cases ry; exact PySem.EqNone.eq_none_bool (fin_bl I q (by simp))
    | int j => obtain ⟨t', rfl⟩ := ry; exact PySem.EqNone.eq_none_int (fin_bl I q (by simp))
    | str j => obtain ⟨t', rfl⟩ := ry; exact PySem.EqNone.eq_none_str (fin_bl I q (by simp))
    | _ => exact absurd (show false = true from hs) Bool.false_ne_true
  | bl i =>
    cases rx
    cases y with
    | non => cases ry; exact PySem.EqNone.eq_bool_none (fin_bl I q (by simp))
    | bl j => cases ry; exact eq_bool (fin_bl I q dec_bl)
    | str j => obtain ⟨t', rfl⟩ := ry; exact PySem.EqMixed.eq_bool_str (fin_bl I q (by simp))
    | _ => exact absurd (show false = true from hs) Bool.false_ne_true
  | int i =>
    obtain ⟨t, rfl⟩ := rx
    cases y with
    | non => cases ry; exact PySem.EqNone.eq_int_none (fin_bl I q (by simp))
    | int j => obtain ⟨t', rfl⟩ := ry; exact eq_int (fin_bl I q dec_int)
    | str j => obtain ⟨t', rfl⟩ := ry; exact PySem.EqMixed.eq_int_str (fin_bl I q (by simp))
    | _ => exact absurd (show false = true from hs) Bool.false_ne_true
  | str i =>
    obtain ⟨t, rfl⟩ := rx
    cases y with
    | non => cases ry; exact PySem.EqNone.eq_str_none (fin_bl I q (by simp))
    | bl j => cases ry; exact PySem.EqMixed.eq_str_bool (fin_bl I q (by simp))
    | int j => obtain ⟨t', rfl⟩ := ry; exact PySem.EqMixed.eq_str_int (fin_bl I q (by simp))
    | str j => obtain ⟨t', rfl⟩ := ry; exact eq_str (fin_bl I q dec_str)
    | _ => exact absurd (show false = true from hs) Bool.false_ne_true
  | byt i =>
    obtain ⟨t, rfl⟩ := rx
    cases y with
    | byt j => obtain ⟨t', rfl⟩ := ry; exact PySem.W.eq_bytes (fin_bl I q dec_byt)
    | _ => exact absurd (show false = true from hs) Bool.false_ne_true
  | _ => cases y <;> exact absurd (show false = true from hs) Bool.false_ne_true
theorem op_ne : OpR X (compareOp .NotEq) rNe := by
  intro pins s σ H x y v u Q I rx ry h
  obtain ⟨hs, q⟩ := h
  cases x with
  | non =>
    cases rx
    cases y with
    | non => cases ry; exact PySem.EqNone.ne_none_none (fin_bl I q (by simp))
    | bl j => cases ry; exact PySem.EqNone.ne_none_bool (fin_bl I q (by simp))
    | int j => obtain ⟨t', rfl⟩ := ry; exact PySem.EqNone.ne_none_int (fin_bl I q (by simp))
    | str j => obtain ⟨t', rfl⟩ := ry; exact PySem.EqNone.ne_none_str (fin_bl I q (by simp))
    | _ => exact absurd (show false = true from hs) Bool.false_ne_true
  | bl i =>
    cases rx
    cases y with
    | non => cases ry; exact PySem.EqNone.ne_bool_none (fin_bl I q (by simp))
    | bl j => cases ry; exact ne_bool (fin_bl I q (congrArg not dec_bl))
    | str j => obtain ⟨t', rfl⟩ := ry; exact PySem.EqMixed.ne_bool_str (fin_bl I q (by simp))
    | _ => exact absurd (show false = true from hs) Bool.false_ne_true
  | int i =>
    obtain ⟨t, rfl⟩ := rx
    cases y with
    | non => cases ry; exact PySem.EqNone.ne_int_none (fin_bl I q (by simp))
    | int j => obtain ⟨t', rfl⟩ := ry; exact ne_int (fin_bl I q (congrArg not dec_int))
    | str j => obtain ⟨t', rfl⟩ := ry; exact PySem.EqMixed.ne_int_str (fin_bl I q (by simp))
    | _ => exact absurd (show false = true from hs) Bool.false_ne_true
  | str i =>
    obtain ⟨t, rfl⟩ := rx
    cases y with
    | non => cases ry; exact PySem.EqNone.ne_str_none (fin_bl I q (by simp))
    | bl j => cases ry; exact PySem.EqMixed.ne_str_bool (fin_bl I q (by simp))
    | int j => obtain ⟨t', rfl⟩ := ry; exact PySem.EqMixed.ne_str_int (fin_bl I q (by simp))
    | str j => obtain ⟨t', rfl⟩ := ry; exact ne_str (fin_bl I q (congrArg not dec_str))
    | _ => exact absurd (show false = true from hs) Bool.false_ne_true
  | byt i =>
    obtain ⟨t, rfl⟩ := rx
    cases y with
    | byt j => obtain ⟨t', rfl⟩ := ry; exact PySem.W.ne_bytes (fin_bl I q (congrArg not dec_byt))
    | _ => exact absurd (show false = true from hs) Bool.false_ne_true
  | _ => cases y <;> exact absurd (show false = true from hs) Bool.false_ne_true

theorem op_lt : OpR X (compareOp .Lt) (rI0 fun i j => .bl (decide (i < j))) := opB0 fun _ _ _ _ _ _ _ q => lt_int q
theorem op_gt : OpR X (compareOp .Gt) (rI0 fun i j => .bl (decide (j < i))) := opB0 fun _ _ _ _ _ _ _ q => gt_int q
theorem op_ge : OpR X (compareOp .GtE) (rI0 fun i j => .bl (decide (j ≤ i))) := opB0 fun _ _ _ _ _ _ _ q => ge_int q
/-- two rules for one operation: by cases -/
theorem OpR.or {f : Value → Value → Sem Value} {r r' : R2} (h : OpR X f r) (h' : OpR X f r') : OpR X f (fun x y H Q => r x y H Q ∨ r' x y H Q) := by
  intro pins s σ H x y v u Q I rx ry q
  rcases q with q | q
  · exact h pins s σ H x y v u Q I rx ry q
  · exact h' pins s σ H x y v u Q I rx ry q

theorem nomark (b : Expr) {op : CmpOp} (h : op ≠ .In := by decide) (h2 : op ≠ .NotIn := by decide) : behindInMarks op b = false := by
  have e1 : (op == CmpOp.In) = false := by cases op <;> first | rfl | exact absurd rfl h
  have e2 : (op == CmpOp.NotIn) = false := by cases op <;> first | rfl | exact absurd rfl h2
  cases b <;> simp [behindInMarks, e1, e2]
/-- a comparison as a value; hm: nomark b, or (for in, not in) by with_unfolding_all rfl -/
theorem pe_cmpR {op : CmpOp} {r : R2} (ho : OpR X (compareOp op) r) (ha : PE X a ta) (hb : PE X b tb) (hm : behindInMarks op b = false) : PE X (.Compare a [op] [b] pos) (tOp r ta tb) := by
  intro pins s σ H Q I h
  exact wpAny_Compare1 (binT ha hb I h fun v u s2 x y H2 I2 rx ry q => ho pins s2 σ H2 x y v u Q I2 rx ry q) hm
/-- a reading of a value as a test -/
def tTest (t : TE) : TT := fun σ H Q => t σ H fun x H' => ∃ k, x = .bl k ∧ Q k H'
theorem pt_cmpR {op : CmpOp} {r : R2} (ho : OpR X (compareOp op) r) (ha : PE X a ta) (hb : PE X b tb) (hm : behindInMarks op b = false) : PT X (.Compare a [op] [b] pos) (tTest (tOp r ta tb)) := by
  intro pins s σ H Q I h
  refine wpAny_isTrue_Compare1 (thn (ha pins s σ H _ I h) fun v s1 ⟨x, H1, I1, r1, q1⟩ => thn (hb pins s1 σ H1 _ I1 q1) fun u s2 ⟨y, H2, I2, r2, q2⟩ =>
    thn (ho pins s2 σ H2 x y v u _ I2 r1 r2 q2) fun c s3 ⟨z, H3, I3, r3, k, e, q3⟩ => ?_) hm
  subst e
  cases r3
  exact wpAny_truthy_bool ⟨H3, I3, q3⟩
/-! ### truth -/
/-- a value's truth by the abstract heap -/
def TruV (K : PySem.W.Frag) (x : V) (H : Hp) (k : Bool) : Prop :=
  match x with
  | .non => k = false
  | .bl b => k = b
  | .int i => k = (i != 0)
  | .str y => y.length ≤ sizeLine ∧ k = ((y.length : Int) != 0)
  | .byt y => y.size ≤ sizeLine ∧ k = ((y.size : Int) != 0)
  | .ref p => (∃ xs, SqL K H p xs ∧ k = !xs.isEmpty) ∨ (∃ xs, SqT K H p xs ∧ k = !xs.isEmpty) ∨ ∃ kvs, H p = some (.dK kvs) ∧ k = !kvs.isEmpty
  | _ => False
theorem isEmpty_kv {κ : Type} {kvs : List (κ × V)} {vs : List (κ × Value)} (r : KV kvs vs) : (!vs.isEmpty) = !kvs.isEmpty := by
  cases r <;> rfl
theorem isEmpty_of {xs : List V} {its : List Value} (r : Vals xs its) : (!its.toArray.isEmpty) = !xs.isEmpty := by
  cases r <;> simp
theorem line63 : (sizeLine : Nat) < 2 ^ 63 := by rw [sizeLine_eq]; decide
theorem tru_ok : TruR X (fun x H Q => ∃ k, TruV X.K x H k ∧ Q k H) := by
  intro pins s σ H x v Q I rx h
  obtain ⟨k, e, q⟩ := h
  have hl := line63
  have hs : sizeLine = 16777216 := sizeLine_eq
  cases x with
  | non =>
    cases rx
    have e' : k = false := e
    subst e'
    exact truthy_none ⟨H, I, q⟩
  | bl b =>
    cases rx
    have e' : k = b := e
    subst e'
    exact wpAny_truthy_bool ⟨H, I, q⟩
  | int i =>
    obtain ⟨t, rfl⟩ := rx
    have e' : k = (i != 0) := e
    subst e'
    exact PySem.P.truthy_int ⟨H, I, q⟩
  | str y =>
    obtain ⟨t, rfl⟩ := rx
    obtain ⟨hy, e'⟩ : y.length ≤ sizeLine ∧ k = ((y.length : Int) != 0) := e
    subst e'
    exact PySem.P.truthy_str (by omega) ⟨H, I.tok _, q⟩
  | byt y =>
    obtain ⟨t, rfl⟩ := rx
    obtain ⟨hy, e'⟩ : y.size ≤ sizeLine ∧ k = ((y.size : Int) != 0) := e
    subst e'
    exact PySem.W.truthy_bytes (by omega) ⟨H, I.tok _, q⟩
  | ref p =>
    cases rx
    have e' : (∃ xs, SqL X.K H p xs ∧ k = !xs.isEmpty) ∨ (∃ xs, SqT X.K H p xs ∧ k = !xs.isEmpty) ∨ ∃ kvs, H p = some (.dK kvs) ∧ k = !kvs.isEmpty := e
    rcases e' with ⟨xs, hx, e'⟩ | ⟨xs, hx, e'⟩ | ⟨kvs, hx, e'⟩
    · subst e'
      obtain ⟨its, r, pl, hz⟩ := I.list hx
      have hlen := r.length
      exact wpAny_truthy_list pl.isList (by simp only [List.size_toArray]; omega) ⟨H, I.tok _, by rw [isEmpty_of r]; exact q⟩
    · subst e'
      obtain ⟨its, r, pl, hz⟩ := I.tuple hx
      have hlen := r.length
      exact truthy_tuple pl (by simp only [List.size_toArray]; omega) ⟨H, I.tok _, by rw [isEmpty_of r]; exact q⟩
    · subst e'
      obtain ⟨hz, hS, vs, r, m⟩ : kvs.length ≤ sizeLine ∧ (p == sysModules) = false ∧ ∃ vs, KV kvs vs ∧ s.heap.DictOf (mixKind X.prog X.w) p vs := I.hok p _ hx
      have hlen : kvs.length = vs.length := Paired.length r
      exact wpAny_truthy_dict hS m (by omega) ⟨H, I.tok _, by rw [isEmpty_kv r]; exact q⟩
  | _ => exact (show False from e).elim
/-- any expression whose test is its value's truth (a name, a call, a subscript, a field ..: he by fun _ => rfl) -/
theorem pt_truth (ha : PE X a ta) (he : ∀ whole, isTrue a X.env whole = (do let v ← whole; standAt a.pos; holding [v] (truthy v))) :
    PT X a (fun σ H Q => ta σ H fun x H' => ∃ k, TruV X.K x H' k ∧ Q k H') := by
  intro pins s σ H Q I h
  exact isTrue_plain (thn (ha pins s σ H _ I h) fun v s1 ⟨x, H1, I1, r1, q1⟩ => tru_ok pins s1 σ H1 x v Q I1 r1 q1) (he _)

/-! ### scalar builtins, by CallR -/
theorem vals1 {x : V} {us : List Value} (r : Vals [x] us) : ∃ u, us = [u] ∧ RelV x u := by
  cases r with
  | cons r1 r2 => cases r2; exact ⟨_, rfl, r1⟩
theorem vals2 {x y : V} {us : List Value} (r : Vals [x, y] us) : ∃ u w', us = [u, w'] ∧ RelV x u ∧ RelV y w' := by
  cases r with
  | cons r1 r2 =>
    cases r2 with
    | cons r3 r4 => cases r4; exact ⟨_, _, rfl, r1, r3⟩
theorem call_abs : CallR X (.builtin "abs") (fun xs H Q => ∃ i, xs = [.int i] ∧ Q (.int (if i < 0 then -i else i)) H) := by
  intro pins s σ H xs us Q I r h
  obtain ⟨i, rfl, q⟩ := h
  obtain ⟨u, rfl, t, rfl⟩ := vals1 r
  exact call_abs_int fun u tk => ⟨.int (if i < 0 then -i else i), H, I.tok _, ⟨_, rfl⟩, q⟩
theorem call_int1 : CallR X (.type "int") (fun xs H Q => (∃ i, xs = [.int i] ∧ Q (.int i) H) ∨ ∃ k, xs = [.bl k] ∧ Q (.int (if k then 1 else 0)) H) := by
  intro pins s σ H xs us Q I r h
  rcases h with ⟨i, rfl, q⟩ | ⟨k, rfl, q⟩
  · obtain ⟨u, rfl, t, rfl⟩ := vals1 r
    exact call_int_int ⟨.int i, H, I, ⟨_, rfl⟩, q⟩
  · obtain ⟨u, rfl, r1⟩ := vals1 r
    cases r1
    exact call_int_bool ⟨.int (if k then 1 else 0), H, I.tok _, ⟨_, rfl⟩, q⟩
/-- len of a str, a bytes, a list, a tuple -/
def LenV (K : PySem.W.Frag) (x : V) (H : Hp) (n : Nat) : Prop :=
  match x with
  | .str y => y.length ≤ sizeLine ∧ n = y.length
  | .byt y => y.size ≤ sizeLine ∧ n = y.size
  | .ref p => (∃ xs, SqL K H p xs ∧ n = xs.length) ∨ ∃ xs, SqT K H p xs ∧ n = xs.length
  | _ => False
theorem call_len : CallR X (.builtin "len") (fun xs H Q => ∃ x n, xs = [x] ∧ LenV X.K x H n ∧ Q (.int n) H) := by
  intro pins s σ H xs us Q I r h
  obtain ⟨x, n, rfl, e, q⟩ := h
  obtain ⟨u, rfl, rx⟩ := vals1 r
  have hl := line63
  have hs : sizeLine = 16777216 := sizeLine_eq
  cases x with
  | str y =>
    obtain ⟨t, rfl⟩ := rx
    obtain ⟨hy, e'⟩ : y.length ≤ sizeLine ∧ n = y.length := e
    subst e'
    exact len_str (by omega) ⟨.int _, H, I.tok _, ⟨_, rfl⟩, q⟩
  | byt y =>
    obtain ⟨t, rfl⟩ := rx
    obtain ⟨hy, e'⟩ : y.size ≤ sizeLine ∧ n = y.size := e
    subst e'
    exact PySem.W.len_bytes (by omega) ⟨.int _, H, I.tok _, ⟨_, rfl⟩, q⟩
  | ref p =>
    cases rx
    have e' : (∃ xs, SqL X.K H p xs ∧ n = xs.length) ∨ ∃ xs, SqT X.K H p xs ∧ n = xs.length := e
    rcases e' with ⟨xs, hx, e'⟩ | ⟨xs, hx, e'⟩
    · subst e'
      obtain ⟨its, r', pl, hz⟩ := I.list hx
      have hlen := r'.length
      exact Calls.call_len_list pl.isList (by simp only [List.size_toArray]; omega) ⟨.int xs.length, H, I.tok _, ⟨_, by simp only [List.size_toArray]; rw [hlen]⟩, q⟩
    · subst e'
      obtain ⟨its, r', pl, hz⟩ := I.tuple hx
      have hlen := r'.length
      exact len_tuple pl (by simp only [List.size_toArray]; omega) ⟨.int xs.length, H, I.tok _, ⟨_, by simp only [List.size_toArray]; rw [hlen]⟩, q⟩
  | _ => exact (show False from e).elim
end
end L2

namespace L2
open PySem PySem.Spec PyProof.Rows

/-! ### an instance, its attributes a map -/
structure ObjM (h : Heap) (x dx C : Addr) (mA : Str → Option Value) : Prop where
  obj : h.get? x = some (PySem.W.instObj C dx)
  ns : h.Ns1 dx mA
  ne : dx ≠ x

theorem lookIn_ns {h : Heap} {dx : Addr} {mA : Str → Option Value} (n : h.Ns1 dx mA) : ∃ od, h.get? dx = some od ∧ ∀ name, PySem.W.lookIn name od = some (mA name) := by
  obtain ⟨o, es, ep, ho, hd, hk, _, hm⟩ := n
  refine ⟨o, ho, fun name => ?_⟩
  have e := hm name
  unfold nsFind findBy at e
  rw [← Array.find?_toList] at e
  unfold PySem.W.lookIn
  rw [hd]
  dsimp only
  split
  · rename_i y q
    rw [q] at e
    exact congrArg some e
  · rename_i q
    rw [q] at e
    have a : es.toList.any (·.refKey) = false := by
      rw [List.any_eq_false]
      intro y hy
      obtain ⟨z, t, hkey⟩ := hk y (Array.mem_toList_iff.mp hy)
      simp [DictEntry.refKey, hkey]
    have a' : ¬ es.toList.any (·.refKey) = true := by rw [a]; exact Bool.false_ne_true
    rw [if_neg a']
    exact congrArg some e

theorem ObjM.look {h : Heap} {x dx C : Addr} {mA : Str → Option Value} (I : ObjM h x dx C mA) : ∃ od, PySem.W.InstAt h x (PySem.W.instObj C dx) C (some od) ∧ ∀ name, PySem.W.lookIn name od = some (mA name) :=
  let ⟨od, ho, hl⟩ := lookIn_ns I.ns
  ⟨od, ⟨I.obj, rfl, rfl, ho⟩, hl⟩

section
variable {prog : Program} {w : World} {A : Around} {E : Value → Shared → Prop} {s : Shared} {K : PySem.W.Frag} {x dx C f : Addr} {mA : Str → Option Value} {name : Str} {v : Value}

theorem get_map {expr : Bool} {Q : Value → Shared → Prop} (X : K.In s.heap) (I : ObjM s.heap x dx C mA) (hg : PySem.W.plainGet K C name = true) (hh : PySem.W.hasDictIn K C = true)
    (ha : PySem.W.findIn K (.ref C) name = some none) (hv : mA name = some v) (hv' : PySem.W.handedIn v = true) (h : Q v { s with toks := s.toks + 1 }) :
    wpAny (model prog w) A (getAttr (.ref x) name expr) Q E s := by
  obtain ⟨od, J, hl⟩ := I.look
  exact PySem.W.get_value X J (PySem.W.plainGet_of hg).1 (PySem.W.findObj_own hh ha rfl (by rw [hl, hv])) hv' h

theorem get_meth {pl : Sem Bool} {Q : Value × List Value → Shared → Prop} (X : K.In s.heap) (I : ObjM s.heap x dx C mA) (hg : PySem.W.plainGet K C name = true)
    (hf : PySem.W.findIn K (.ref C) name = some (some (.ref f))) (ht : PySem.W.isFn K (.ref f) = true) (hv : mA name = none) (h : Q (.ref f, [.ref x]) s) :
    wpAny (model prog w) A (getMethod (.ref x) name pl) Q E s := by
  obtain ⟨od, J, hl⟩ := I.look
  exact PySem.W.method_fn X J (PySem.W.plainGet_of hg).1 (PySem.W.plainGet_of hg).2 hf (beq_iff_eq.mp ht) (by show (PySem.W.lookIn name od).map (·.isSome) = some false; rw [hl, hv]; rfl) h

theorem set_map {ns : List Str} {Q : Unit → Shared → Prop} (X : K.In s.heap) (I : ObjM s.heap x dx C mA)
    (hs : PySem.W.findIn K (.ref C) "__setattr__" = some (some (.builtin "object.__setattr__"))) (hp : PySem.W.plainOver K C = true) (ht : PySem.W.takerIn K C name = some none) (hh : PySem.W.hasDictIn K C = true)
    (hw : PySem.Within mA ns) (hsz : ns.length ≤ sizeLine)
    (h : ∀ h', ObjM h' x dx C (fun y => if y = name then some v else mA y) → Heap.SameBut dx s.heap h' → Q () { s with heap := h', toks := s.toks + 2 }) :
    wpAny (model prog w) A (setAttr (.ref x) name v) Q E s := by
  obtain ⟨od, J, hl⟩ := I.look
  refine PySem.W.set_plain X J hs (PySem.W.osa_open (s := { s with toks := s.toks + 1 }) (r := none) X J hp ht fun b => ?_)
  obtain ⟨cd, hc, hd'⟩ := PySem.W.any_some hh
  have hx : s.heap.get? x = some ⟨.ref C, some dx, .plain, #[]⟩ := I.obj
  refine wpAny_bind (wpAny_pure (wpAny_bind (wpAny_bind (wpAny_loadPart hx (wpAny_bind (PySem.W.Looks.here (s := { s with toks := s.toks + 1 }) (PySem.W.looks_clsIn X hc) ?_))))))
  rw [hd']
  refine wpAny_pure (a := some dx) (wpAny_bind (wpAny_pure (wpAny_bind ?_)))
  refine wpAny_nsSet1 (s := { s with toks := s.toks + 1 }) I.ns fun h' hn2 hs2 => ?_
  obtain ⟨oD, esD, epD, hoD, hdD, hcD⟩ := hn2.count (PySem.Within.cons name v hw)
  refine wpAny_bind (wpAny_lookBehind hoD (by rw [hdD]; exact pastItsLine_dict (Nat.le_trans hcD (by rw [List.length_cons]; omega))) ?_)
  exact wpAny_pure (h _ ⟨(hs2.2 _ (Ne.symm I.ne)).trans I.obj, hn2, I.ne⟩ hs2)

/-- C(..): the dict at the heap's end, the instance behind it; then its __init__ -/
theorem make_map {R : Result → Shared → Prop} {vs : List Value} {kw : List (Str × Value)} (X : K.In s.heap) (hm : PySem.W.makesIn K C = true)
    (hi : PySem.W.findIn K (.ref C) "__init__" = some (some (.ref f))) (hf : PySem.W.typeIn K (.ref f) = some (.type "function"))
    (h : codeAny (model prog w) (A.under (.builtin "type.__call__" ⟨.ref C :: vs, kw⟩)) (.call (.ref f) ⟨.ref (s.heap.objs.size + 1) :: vs, kw⟩) (PySem.W.InitBack (s.heap.objs.size + 1) R)
      { s with heap := (s.heap.push PySem.W.emptyDict).push (PySem.W.instObj C s.heap.objs.size) }) :
    codeAny (model prog w) A (.call (.ref C) ⟨vs, kw⟩) R s := by
  obtain ⟨hh, g, d, t, os⟩ := s
  exact PySem.W.make_core (PySem.W.makes_of X hm) (PySem.W.looks_findIn X hi) (fun self => PySem.W.bind_fn X self hf) (.inl rfl) h
end

/-! ### the attributes as a list of pairs -/
def putF (f : Str) (v : V) : List (Str × V) → List (Str × V)
  | [] => [(f, v)]
  | (g, x) :: r => if g = f then (g, v) :: r else (g, x) :: putF f v r
theorem lookup_putF (f g : Str) (v : V) : ∀ fs : List (Str × V), (putF f v fs).lookup g = if g = f then some v else fs.lookup g
  | [] => by
    show List.lookup g [(f, v)] = _
    by_cases h : g = f
    · have hb : (g == f) = true := beq_iff_eq.mpr h
      simp only [List.lookup, hb, if_pos h]
    · have hb : (g == f) = false := beq_eq_false_iff_ne.mpr h
      simp only [List.lookup, hb, if_neg h]
  | (k, x) :: r => by
    have ih := lookup_putF f g v r
    rw [show putF f v ((k, x) :: r) = (if k = f then (k, v) :: r else (k, x) :: putF f v r) from rfl]
    by_cases hk : k = f
    · rw [if_pos hk]
      by_cases h : g = k
      · have hb : (g == k) = true := beq_iff_eq.mpr h
        simp only [List.lookup, hb, if_pos (h.trans hk)]
      · have hb : (g == k) = false := beq_eq_false_iff_ne.mpr h
        simp only [List.lookup, hb, if_neg (fun e : g = f => h (e.trans hk.symm))]
    · rw [if_neg hk]
      by_cases h : g = k
      · have hb : (g == k) = true := beq_iff_eq.mpr h
        simp only [List.lookup, hb, if_neg (fun e : g = f => hk (h.symm.trans e))]
      · have hb : (g == k) = false := beq_eq_false_iff_ne.mpr h
        simp only [List.lookup, hb]
        exact ih
theorem keys_putF (f : Str) (v : V) : ∀ fs : List (Str × V), f ∈ (putF f v fs).map (·.1) ∧ ∀ g, g ∈ fs.map (·.1) → g ∈ (putF f v fs).map (·.1)
  | [] => ⟨by simp [putF], fun g h => by simp at h⟩
  | (k, x) :: r => by
    obtain ⟨i1, i2⟩ := keys_putF f v r
    rw [show putF f v ((k, x) :: r) = (if k = f then (k, v) :: r else (k, x) :: putF f v r) from rfl]
    by_cases hk : k = f
    · rw [if_pos hk]
      subst hk
      exact ⟨by simp, fun g h => by simpa using h⟩
    · rw [if_neg hk]
      refine ⟨?_, fun g h => ?_⟩
      · rw [List.map_cons]
        exact List.mem_cons_of_mem _ i1
      · rw [List.map_cons] at h ⊢
        rcases List.mem_cons.mp h with e | e
        · exact List.mem_cons.mpr (.inl e)
        · exact List.mem_cons_of_mem _ (i2 g e)
theorem length_putF (f : Str) (v : V) : ∀ fs : List (Str × V), (putF f v fs).length ≤ fs.length + 1
  | [] => by simp [putF]
  | (k, x) :: r => by
    have ih := length_putF f v r
    rw [show putF f v ((k, x) :: r) = (if k = f then (k, v) :: r else (k, x) :: putF f v r) from rfl]
    by_cases hk : k = f
    · rw [if_pos hk, List.length_cons, List.length_cons]; omega
    · rw [if_neg hk, List.length_cons, List.length_cons]; omega

theorem RelO.some_of {v : V} {o : Option Value} (r : RelO (some v) o) : ∃ u, o = some u ∧ RelV v u := by
  cases o with
  | none => exact (show False from r).elim
  | some u => exact ⟨u, rfl, r⟩
theorem RelO.none_of {o : Option Value} (r : RelO none o) : o = none := by
  cases o with
  | none => rfl
  | some u => exact (show False from r).elim
theorem handed_of {v : V} {u : Value} (r : RelV v u) : PySem.W.handedIn u = true := by
  cases v with
  | non => cases (show u = Value.none from r); rfl
  | bl b => cases (show u = Value.bool b from r); rfl
  | int i => obtain ⟨t, e⟩ := (show ∃ t, u = Value.int i t from r); cases e; rfl
  | str x => obtain ⟨t, e⟩ := (show ∃ t, u = Value.str x t from r); cases e; rfl
  | byt b => obtain ⟨t, e⟩ := (show ∃ t, u = Value.bytes b t from r); cases e; rfl
  | flt b => obtain ⟨t, e⟩ := (show ∃ t, u = Value.float b t from r); cases e; rfl
  | ref a => cases (show u = Value.ref a from r); rfl
  | ty n => cases (show u = Value.type n from r); rfl

section
variable {P : Program} {w : World} {H H' : Hp} {h h' : Heap} {a C dx : Addr} {fs fs' : List (Str × V)}
theorem ins_get (hok : HOk P w H h) (e : H a = some (.ins C dx fs)) : ∃ mA, ObjM h a dx C mA ∧ (∀ f, RelO (fs.lookup f) (mA f)) ∧ PySem.Within mA (fs.map (·.1)) ∧ fs.length ≤ 1000 ∧ H dx = some (.own a) := by
  obtain ⟨d, z, ne, ob, mA, n, r, q⟩ := (show ObjOk P w H h a (.ins C dx fs) from hok a _ e)
  exact ⟨mA, ⟨ob, n, ne⟩, r, q, z, d⟩
end

/-! ### what of the text a class must have -/
structure Cls (K : PySem.W.Frag) (C : Addr) : Prop where
  pg : PySem.W.plainGet K C Str.empty = true
  hd : PySem.W.hasDictIn K C = true
  po : PySem.W.plainOver K C = true
  sa : PySem.W.findIn K (.ref C) "__setattr__" = some (some (.builtin "object.__setattr__"))
theorem Cls.get {K : PySem.W.Frag} {C : Addr} (c : Cls K C) (f : Str) : PySem.W.plainGet K C f = true := c.pg
/-- no class of it has the name -/
def NoAttr (K : PySem.W.Frag) (C : Addr) (f : Str) : Prop := PySem.W.findIn K (.ref C) f = some none
theorem NoAttr.taker {K : PySem.W.Frag} {C : Addr} {f : Str} (n : NoAttr K C f) : PySem.W.takerIn K C f = some none := by
  unfold PySem.W.takerIn
  rw [show PySem.W.findIn K (.ref C) f = some none from n]
  rfl
/-- a constant of the class -/
structure Con (K : PySem.W.Frag) (C : Addr) (f : Str) (v : V) (u : Value) : Prop where
  at_ : PySem.W.findIn K (.ref C) f = some (some u)
  rel : RelV v u
  get : PySem.W.specialIn K u "__get__" = some none
  cp : PySem.W.copiedNames.contains f = false
/-- a method: a plain def of the class or of one above it -/
structure Meth (K : PySem.W.Frag) (C : Addr) (m : Str) (f : Addr) : Prop where
  at_ : PySem.W.findIn K (.ref C) m = some (some (.ref f))
  fn : PySem.W.isFn K (.ref f) = true
  kp : PySem.W.keepIn K (.ref f) = true

section
variable {X : Cx} {pins : List (Addr × Obj)} {σ : St} {H : Hp} {s : Shared} {a C dx : Addr} {fs : List (Str × V)} {f : Str} {v : V} {A : Around} {E : Value → Shared → Prop}

theorem getattr_ok {b : Bool} {Q : Value → Shared → Prop} (I : Inv X pins σ H s) (e : H a = some (.ins C dx fs)) (c : Cls X.K C) (n : NoAttr X.K C f) (l : fs.lookup f = some v)
    (h : ∀ u s', Inv X pins σ H s' → RelV v u → Q u s') : wpAny (model X.prog X.w) A (getAttr (.ref a) f b) Q E s := by
  obtain ⟨mA, O, r, _, _, _⟩ := ins_get I.hok e
  obtain ⟨u, hu, ru⟩ := RelO.some_of (v := v) (o := mA f) (by rw [← l]; exact r f)
  exact get_map I.kIn O (c.get f) c.hd n hu (handed_of ru) (h u _ (I.tok _) ru)

theorem getmeth_ok {m : Str} {g : Addr} {pl : Sem Bool} {Q : Value × List Value → Shared → Prop} (I : Inv X pins σ H s) (e : H a = some (.ins C dx fs)) (c : Cls X.K C) (k : Meth X.K C m g) (l : fs.lookup m = none)
    (h : Q (.ref g, [.ref a]) s) : wpAny (model X.prog X.w) A (getMethod (.ref a) m pl) Q E s := by
  obtain ⟨mA, O, r, _, _, _⟩ := ins_get I.hok e
  have hn : mA m = none := RelO.none_of (by rw [← l]; exact r m)
  exact get_meth I.kIn O (c.get m) k.at_ k.fn hn h

theorem setattr_ok {y : V} {u : Value} {Q : Unit → Shared → Prop} (I : Inv X pins σ H s) (e : H a = some (.ins C dx fs)) (c : Cls X.K C) (n : NoAttr X.K C f) (hl : fs.length < 1000) (ry : RelV y u)
    (h : ∀ s', Inv X pins σ (upd H a (.ins C dx (putF f y fs))) s' → Q () s') : wpAny (model X.prog X.w) A (setAttr (.ref a) f u) Q E s := by
  obtain ⟨mA, O, r, wi, _, ho⟩ := ins_get I.hok e
  have hz : (fs.map (·.1)).length ≤ sizeLine := by rw [List.length_map, sizeLine_eq]; omega
  refine set_map I.kIn O c.sa c.po n.taker c.hd wi hz fun h' O' sb => h _ ?_
  have hd : ∃ o, h'.get? dx = some o := let ⟨o, _, _, e', _⟩ := O'.ns; ⟨o, e'⟩
  refine I.write (x := a) (e := dx) (by rw [e]; exact True.intro) (.inr ho) (fun b q hb z => (sb.2 b hb).trans z) hd ?_
  refine ⟨by rw [upd_ne O.ne]; exact ho, ?_, O.ne, O'.obj, _, O'.ns, fun g => ?_, fun g hg => ?_⟩
  · have := length_putF f y fs; omega
  · show RelO ((putF f y fs).lookup g) (if g = f then some u else mA g)
    rw [lookup_putF]
    by_cases q : g = f
    · rw [if_pos q, if_pos q]; exact ry
    · rw [if_neg q, if_neg q]; exact r g
  · by_cases q : g = f
    · rw [q]; exact (keys_putF f y fs).1
    · refine (keys_putF f y fs).2 g (wi g fun z => hg ?_)
      show (if g = f then some u else mA g) = none
      rw [if_neg q]; exact z

/-- a new instance, tracked, without attributes -/
theorem Inv.made (I : Inv X pins σ H s) : Inv X pins σ (upd (upd H s.heap.objs.size (.own (s.heap.objs.size + 1))) (s.heap.objs.size + 1) (.ins C s.heap.objs.size []))
    { s with heap := (s.heap.push PySem.W.emptyDict).push (PySem.W.instObj C s.heap.objs.size) } := by
  have e1 : (s.heap.push PySem.W.emptyDict).get? s.heap.objs.size = some PySem.W.emptyDict := Heap.get?_push_size s.heap rfl
  have e2 : ((s.heap.push PySem.W.emptyDict).push (PySem.W.instObj C s.heap.objs.size)).get? (s.heap.objs.size + 1) = some (PySem.W.instObj C s.heap.objs.size) := by
    have := Heap.get?_push_size (s.heap.push PySem.W.emptyDict) (o := PySem.W.instObj C s.heap.objs.size) rfl
    rwa [Heap.size_push] at this
  have e3 : (s.heap.push PySem.W.emptyDict).Ns s.heap.objs.size (fun _ => none) := ⟨PySem.W.emptyDict, #[], _, e1, rfl, (fun e he => absurd he (by simp)), fun _ => rfl⟩
  have I1 := I.laid (a := s.heap.objs.size) (o := .own (s.heap.objs.size + 1)) (h' := s.heap.push PySem.W.emptyDict) (t' := s.toks) (fun b u q => Heap.get?_push_of_some _ q) (Nat.le_refl _) ⟨_, e1⟩
  refine I1.laid (a := s.heap.objs.size + 1) (o := .ins C s.heap.objs.size []) (t' := s.toks) (fun b u q => Heap.get?_push_of_some _ q) (Nat.le_of_eq (Heap.size_push _ _)) ?_
  have ne : s.heap.objs.size ≠ s.heap.objs.size + 1 := Nat.ne_of_lt (Nat.lt_succ_self _)
  refine ⟨by rw [upd_ne ne, upd_same], Nat.zero_le _, ne, e2, fun _ => none, (Heap.Ns1.of_empty e3).at fun o q => Heap.get?_push_of_some _ q, fun _ => True.intro, fun y hy => absurd rfl hy⟩

/-- e.f where nothing but the object is asked: through attributeBase (super) and the last hold -/
theorem attr_of {prog : Program} {w : World} {env : Env} {e : Expr} {f : Str} {pos : Pos} {s : Shared} {Q : Value → Shared → Prop} (hb : attributeBase e f env (eval e env) = eval e env)
    (h : wpAny (model prog w) A (eval e env) (fun o s₁ => wpAny (model prog w) A (getAttr o f true) Q E s₁) E s) : wpAny (model prog w) A (eval (.Attribute e f pos) env) Q E s :=
  Attribute_any_ h (by rw [arm_eval_Attribute, hb])
end

/-! ### readings and rules -/
/-- e.f, an attribute of the instance -/
def tFld (K : PySem.W.Frag) (ta : TE) (f : Str) : TE := fun σ H Q => ta σ H fun x H1 => ∃ a C dx fs v, x = .ref a ∧ H1 a = some (.ins C dx fs) ∧ Cls K C ∧ NoAttr K C f ∧ fs.lookup f = some v ∧ Q v H1
/-- e.f = value -/
def sFld (K : PySem.W.Frag) (ta tv : TE) (f : Str) : TS := fun D σ H => tv σ H fun y H1 => ta σ H1 fun x H2 => ∃ a C dx fs, x = .ref a ∧ H2 a = some (.ins C dx fs) ∧ Cls K C ∧ NoAttr K C f ∧ fs.length < 1000 ∧
  D.nx σ (upd H2 a (.ins C dx (putF f y fs)))
/-- an augmented operator on two values -/
def InOp (X : Cx) (op : Operator) (rd : V → V → Hp → VK → Prop) : Prop :=
  ∀ (pins : List (Addr × Obj)) (s : Shared) (σ : St) (H : Hp) (x y : V) (u v : Value) (Q : VK), Inv X pins σ H s → RelV x u → RelV y v → rd x y H Q → wpAny (model X.prog X.w) X.A (inplaceOp op u v) (EP X pins σ Q) X.xe s
/-- e.f op= value -/
def sFldAug (K : PySem.W.Frag) (ta tv : TE) (rd : V → V → Hp → VK → Prop) (f : Str) : TS := fun D σ H => ta σ H fun x H1 => ∃ a C dx fs v, x = .ref a ∧ H1 a = some (.ins C dx fs) ∧ Cls K C ∧ NoAttr K C f ∧ fs.lookup f = some v ∧
  tv σ H1 fun y H2 => rd v y H2 fun z H3 => ∃ dx' fs', H3 a = some (.ins C dx' fs') ∧ fs'.length < 1000 ∧ D.nx σ (upd H3 a (.ins C dx' (putF f z fs')))

section
variable {X : Cx} {o e value : Expr} {f : Str} {pos pos' tpos : Pos} {ta tv : TE}
theorem pe_fld (he : PE X e ta) (hb : attributeBase e f X.env (eval e X.env) = eval e X.env) : PE X (.Attribute e f pos) (tFld X.K ta f) := by
  intro pins s σ H Q I h
  refine attr_of hb (thn (he pins s σ H _ I h) fun u s1 ⟨x, H1, I1, rx, a, C, dx, fs, v, ex, ea, c, n, l, q⟩ => ?_)
  subst ex
  obtain rfl : u = Value.ref a := rx
  exact getattr_ok I1 ea c n l fun u' s2 I2 ru => ⟨v, H1, I2, ru, q⟩
theorem ps_fld (ha : PE X o ta) (hv : PE X value tv) (hs : swapsWith value (some (.Attribute o f pos')) pos.line X.env = pure false) : PS X (.Assign [.Attribute o f pos'] value pos) (sFld X.K ta tv f) := by
  intro pins s σ H D I h
  refine plainObj_wpAny_Assign_Attribute (thn (hv pins s σ H _ I h) fun u s1 ⟨y, H1, I1, ry, q⟩ => thn (ha pins s1 σ H1 _ I1 q) fun ov s2 ⟨x, H2, I2, rx, a, C, dx, fs, ex, ea, c, n, l, q2⟩ => ?_) hs
  subst ex
  obtain rfl : ov = Value.ref a := rx
  exact setattr_ok I2 ea c n l ry fun s3 I3 => ⟨σ, _, I3, q2⟩
theorem ps_fldaug {op : Operator} {rd : V → V → Hp → VK → Prop} (ha : PE X o ta) (hv : PE X value tv) (hop : InOp X op rd) : PS X (.AugAssign (.Attribute o f tpos) op value pos) (sFldAug X.K ta tv rd f) := by
  intro pins s σ H D I h
  refine wpAny_AugAssign_AttributeAny (thn (ha pins s σ H _ I h) fun ov s1 ⟨x, H1, I1, rx, a, C, dx, fs, v, ex, ea, c, n, l, q⟩ => ?_)
  subst ex
  obtain rfl : ov = Value.ref a := rx
  refine getattr_ok I1 ea c n l fun u s2 I2 ru => thn (hv pins s2 σ H1 _ I2 q) fun w3 s3 ⟨y, H2, I3, ry, q3⟩ => thn (hop pins s3 σ H2 v y u w3 _ I3 ru ry q3) fun w4 s4 ⟨z, H3, I4, rz, dx', fs', ea', l', q4⟩ => ?_
  exact setattr_ok I4 ea' c n l' rz fun s5 I5 => ⟨σ, _, I5, q4⟩
def rAdd : V → V → Hp → VK → Prop := fun x y H Q => ∃ i j, x = .int i ∧ y = .int j ∧ Q (.int (i + j)) H
theorem in_add : InOp X .Add rAdd := by
  rintro pins s σ H x y u v Q I rx ry ⟨i, j, rfl, rfl, q⟩
  obtain ⟨t, rfl⟩ := (show ∃ t, u = Value.int i t from rx)
  obtain ⟨t', rfl⟩ := (show ∃ t', v = Value.int j t' from ry)
  exact PyProof.Rows.iadd_int ⟨.int (i + j), H, I.tok _, ⟨_, rfl⟩, q⟩
end

/-! ### isinstance -/
section
variable {X : Cx} {pins : List (Addr × Obj)} {σ : St} {H : Hp} {s : Shared} {A : Around} {E : Value → Shared → Prop} {Q : Value → Shared → Prop} {c : Value} {b : Bool}
/-- the type of a value, as the fragment's deciders take it; for an instance its class -/
inductive TyOf (K : PySem.W.Frag) (H : Hp) : V → Value → Prop where
  | non : TyOf K H .non (.type "NoneType")
  | bl (x : Bool) : TyOf K H (.bl x) (.type "bool")
  | int (i : Int) : TyOf K H (.int i) (.type "int")
  | str (x : Str) : TyOf K H (.str x) (.type "str")
  | flt (x : UInt64) : TyOf K H (.flt x) (.type "float")
  | lst {a : Addr} {xs : List V} (e : H a = some (.lst xs)) : TyOf K H (.ref a) (.type "list")
  | frz {a : Addr} {o : Obj} {xs : List V} (e : H a = some (.frz o (.lst xs))) : TyOf K H (.ref a) (.type "list")
  | tup {a : Addr} {xs : List V} (e : H a = some (.tup xs)) : TyOf K H (.ref a) (.type "tuple")
  | dK {a : Addr} {kvs : List (Key × V)} (e : H a = some (.dK kvs)) : TyOf K H (.ref a) (.type "dict")
  | dT {a : Addr} {kvs : List (List Key × V)} (e : H a = some (.dT kvs)) : TyOf K H (.ref a) (.type "dict")
  | ins {a C dx : Addr} {fs : List (Str × V)} (e : H a = some (.ins C dx fs)) (cl : Cls K C) (ha : PySem.W.findIn K (.ref C) "__class__" = some (some (.builtin "object.__class__")))
      (hn : PySem.W.specialIn K (.builtin "object.__class__") "__get__" = some (some (.builtin "getset_descriptor.__get__"))) (htk : PySem.W.takesIn K (.builtin "object.__class__") = some true)
      (hm : PySem.W.mroIn K C (.type "object") = some true) : TyOf K H (.ref a) (.ref C)
end
end L2

namespace L2
open PySem PySem.Spec PyProof.Rows

/-! ### room -/
structure Room (k : Nat) (A : Around) : Prop where
  hd : A.handled = none
  dp : A.depth + 3 * k + 5 < recursionLimit
  un : A.units + 16 * k + 200 < cLine
  gd : A.guards = some []
theorem Room.mono {j k : Nat} {A : Around} (r : Room k A) (h : j ≤ k) : Room j A := ⟨r.hd, by have := r.dp; omega, by have := r.un; omega, r.gd⟩
theorem Room.deeper {k : Nat} {A : Around} (r : Room (k + 1) A) (env : Env) : Room k (A.deeper env) :=
  ⟨r.hd, by have := r.dp; show A.depth + 1 + 3 * k + 5 < _; omega, by have := r.un; show A.units + 3 + 16 * k + 200 < _; omega, r.gd⟩
theorem Room.in1 {k : Nat} {A : Around} (r : Room (k + 1) A) : Room k A.in1 :=
  ⟨r.hd, by have := r.dp; show A.depth + 3 * k + 5 < _; omega, by have := r.un; show A.units + 1 + 16 * k + 200 < _; omega, r.gd⟩
theorem make_depth {A : Around} {C : Addr} {us : List Value} {kw : List (Str × Value)} : (A.under (.builtin "type.__call__" ⟨.ref C :: us, kw⟩)).depth = A.depth + 1 := by
  first | rfl | simp [Around.under, Code.weight, Code.isCreation, Code.isGuard, Code.isCaller, Code.frames, Code.isFrame, guardIds]
theorem make_units {A : Around} {C : Addr} {us : List Value} {kw : List (Str × Value)} : (A.under (.builtin "type.__call__" ⟨.ref C :: us, kw⟩)).units = A.units + 1 := by
  first | rfl | simp [Around.under, Code.cUnits, Code.frames, Code.isFrame]
theorem Room.make {k : Nat} {A : Around} (r : Room (k + 1) A) (C : Addr) (us : List Value) (kw : List (Str × Value)) : Room k (A.under (.builtin "type.__call__" ⟨.ref C :: us, kw⟩)) :=
  ⟨r.hd, by have := r.dp; rw [make_depth]; omega, by have := r.un; rw [make_units]; omega, by have := r.gd; first | exact this | (simpa [Around.under, Code.guards, Code.isGuard, guardIds, pushGuards] using this)⟩
theorem Room.depth {k : Nat} {A : Around} (r : Room k A) : A.depth < recursionLimit := by have := r.dp; omega
theorem Room.units {k : Nat} {A : Around} (r : Room k A) : A.units + 64 < cLine := by have := r.un; omega
/-! ### argument lists and displays -/
def tNil : TA := fun _ H Q => Q [] H
def tCons (ta : TE) (tr : TA) : TA := fun σ H Q => ta σ H fun x H1 => tr σ H1 fun xs H2 => Q (x :: xs) H2
section
variable {X : Cx} {e : Expr} {es : List Expr} {te : TE} {t : TA} {pos : Pos}
theorem pa_nil : PA X [] tNil := fun _ _ _ _ H Q I h => Calls.spliced_nil ⟨[], H, I, .nil, h⟩
theorem pa_cons (ha : PE X e te) (hr : PA X es t) (hs : starEach (e :: es) X.env = (false, eval e X.env) :: starEach es X.env := by rfl) : PA X (e :: es) (tCons te t) := by
  intro pos pins s σ H Q I h
  rw [hs]
  show wpAny _ _ (spliced ((false, eval e X.env) :: backTo pos (starEach es X.env))) _ _ s
  refine Calls.spliced_cons (thn (ha pins s σ H _ I h) fun u s1 ⟨x, H1, I1, r1, q1⟩ => ?_)
  exact thn (hr pos pins s1 σ H1 _ I1 q1) fun us s2 ⟨xs, H2, I2, r2, q2⟩ => ⟨x :: xs, H2, I2, .cons r1 r2, q2⟩

/-- a tuple, a list of written items -/
def tTup (t : TA) : TE := fun σ H Q => t σ H fun xs H1 => xs.length ≤ sizeLine ∧ ∀ p, H1 p = none → Q (.ref p) (upd H1 p (.tup xs))
theorem pe_tup {x1} (h : PA X es t) : PE X (.Tuple es x1 pos) (tTup t) := by
  intro pins s σ H Q I hq
  refine wpAny_Tuple_spliced (thn (h pos pins s σ H _ I hq) fun us s1 ⟨xs, H1, I1, r, z, q⟩ => ⟨by rw [← r.length]; exact z, ?_⟩)
  have hf : H1 s1.heap.objs.size = none := I1.hok.fresh (Nat.le_refl _)
  refine ⟨.ref s1.heap.objs.size, upd H1 s1.heap.objs.size (.tup xs), I1.laid (t' := s1.toks) (fun b u e => Heap.get?_push_of_some _ e) (Nat.le_refl _) ?_, rfl, q _ hf⟩
  exact ⟨z, us, r, ⟨_, Heap.get?_push_size _ rfl, rfl, rfl, _, rfl⟩⟩
end

/-! ### what a def promises -/
/-- a def's promise: the bound arguments in the parameters' order, the heap, the wanted end, the wanted exception -/
abbrev Sp := List V → Hp → VK → XK → Prop
/-- how an exception lies behind a call (file 08 gives it): the callers' frames, abstract heap and state ahead of the call, the wish, the exception, the state -/
abbrev CXT := List Env → Hp → Shared → XK → Value → Shared → Prop

/-- the state at a call -/
structure Env0 (P : Program) (w : World) (K : PySem.W.Frag) (mg : Str → Option Value) (base : Heap) (A : Around) (outer : List Env) (s : Shared) (H : Hp) : Prop where
  frames : A.frames = some outer
  mod : Mod K mg base
  bs : ∀ b o, base.get? b = some o → s.heap.get? b = some o ∧ H b = none
  bsz : base.objs.size ≤ s.heap.objs.size
  funs : s.heap.FunFrames base outer
  frf : ∀ b ∈ frs outer, H b = none
  hok : HOk P w H s.heap
  bare : AllBare s.gens
/-- a call's end -/
def CE (outer : List Env) (P : Program) (w : World) (H : Hp) (s : Shared) (Q : VK) (u : Value) (s' : Shared) : Prop :=
  ∃ v H', s'.os = s.os ∧ AllBare s'.gens ∧ Un (frs outer) [] H H' s.heap s'.heap ∧ HOk P w H' s'.heap ∧ RelV v u ∧ Q v H'
def CR (CX : CXT) (outer : List Env) (P : Program) (w : World) (H : Hp) (s : Shared) (Q : VK) (E : XK) (r : Result) (s' : Shared) : Prop :=
  match r with
  | .ok (.ret u) => CE outer P w H s Q u s'
  | .ok _ => False
  | .error e => CX outer H s E e s'
structure FnOk (P : Program) (w : World) (K : PySem.W.Frag) (mg : Str → Option Value) (base : Heap) (CX : CXT) (k : Nat) (f : Addr) (fd : FuncData) (ps : List Str) (sp : Sp) : Prop where
  len : ∀ vs H Q E, sp vs H Q E → vs.length = ps.length
  run : ∀ (A : Around) (outer : List Env) (s : Shared) (H : Hp) (args : Args) (us : List Value) (vs : List V) (Q : VK) (E : XK), Room k A → Env0 P w K mg base A outer s H → BindsTo s fd args (ps.zip us) → Vals vs us → sp vs H Q E →
    codeAny (model P w) A (.call (.ref f) args) (CR CX outer P w H s Q E) s
theorem FnOk.mono {P : Program} {w : World} {K : PySem.W.Frag} {mg : Str → Option Value} {base : Heap} {CX : CXT} {j k : Nat} {f : Addr} {fd : FuncData} {ps : List Str} {sp : Sp} (F : FnOk P w K mg base CX j f fd ps sp) (h : j ≤ k) :
    FnOk P w K mg base CX k f fd ps sp := ⟨F.len, fun A outer s H args us vs Q E hr => F.run A outer s H args us vs Q E (hr.mono h)⟩
theorem Env0.make {P : Program} {w : World} {K : PySem.W.Frag} {mg : Str → Option Value} {base : Heap} {A : Around} {outer : List Env} {s : Shared} {H : Hp} (e : Env0 P w K mg base A outer s H) (C : Addr) (us : List Value) (kw : List (Str × Value)) :
    Env0 P w K mg base (A.under (.builtin "type.__call__" ⟨.ref C :: us, kw⟩)) outer s H := ⟨by first | exact e.frames | (simpa [Around.under, Code.envs, Code.isFrame, pushEnvs] using e.frames), e.mod, e.bs, e.bsz, e.funs, e.frf, e.hok, e.bare⟩
theorem Env0.in1 {P : Program} {w : World} {K : PySem.W.Frag} {mg : Str → Option Value} {base : Heap} {A : Around} {outer : List Env} {s : Shared} {H : Hp} (e : Env0 P w K mg base A outer s H) :
    Env0 P w K mg base A.in1 outer s H := ⟨e.frames, e.mod, e.bs, e.bsz, e.funs, e.frf, e.hok, e.bare⟩

section
variable {X : Cx} {pins : List (Addr × Obj)} {σ : St} {H : Hp} {s s' : Shared}
/-- from a body: what a callee wants -/
theorem Inv.env0 (I : Inv X pins σ H s) : Env0 X.prog X.w X.K X.mg X.base X.A X.stack s H :=
  ⟨I.ok.frames, I.ok.mod, I.bs, Nat.le_trans I.ok.bsz I.sz, I.stack, I.stkFree, I.hok, I.bare⟩
/-- behind a call -/
theorem Inv.after {Q : VK} {u : Value} (I : Inv X pins σ H s) (h : CE X.stack X.prog X.w H s Q u s') : EP X pins σ Q u s' := by
  obtain ⟨v, H', os, bare, un, hok, r, q⟩ := h
  obtain ⟨hh, g, d, t, os'⟩ := s'
  obtain rfl : os' = s.os := os
  exact ⟨v, H', I.call (h' := hh) (g' := g) (d' := d) (t' := t) (ch := []) un hok bare (fun b z => absurd z (by simp)), r, q⟩
end

/-! ### calls -/
/-- f(..): the written arguments, then the defaults dvs; E: what is wanted of an exception -/
def tCall (sp : Sp) (dvs : List V) (E : XK) (t : TA) : TE := fun σ H Q => t σ H fun vs H1 => sp (vs ++ dvs) H1 Q E
/-- o.m(..) of an instance of the class at C -/
def tMeth (C : Addr) (m : Str) (sp : Sp) (dvs : List V) (E : XK) (ta : TE) (t : TA) : TE := fun σ H Q => ta σ H fun x H1 => ∃ a dx fs, x = .ref a ∧ H1 a = some (.ins C dx fs) ∧ fs.lookup m = none ∧
  t σ H1 fun vs H2 => sp (x :: (vs ++ dvs)) H2 Q E
/-- how the parameters are bound: us the positional arguments, kw the keywords' values by name, ds the defaults that fill up -/
def Binds (K : PySem.W.Frag) (fd : FuncData) (ps : List Str) (ds : List Value) : Prop :=
  ∀ (s : Shared) (us : List Value), K.In s.heap → (us ++ ds).length = ps.length → BindsTo s fd ⟨us, []⟩ (ps.zip (us ++ ds))
/-- every parameter is given -/
theorem Binds.all {K : PySem.W.Frag} {fd : FuncData} {ps : List Str} (h : ∀ us : List Value, us.length = ps.length → bindArgs fd ⟨us, []⟩ = pure (ps.zip us)) : Binds K fd ps [] := fun s us _ hl => by
  rw [List.append_nil] at hl ⊢
  exact .of_eq (h us hl)

/-- an exception of a callee reaches what this body wants of exceptions -/
def Passes (CX : CXT) (X : Cx) (E : XK) : Prop := ∀ (pins : List (Addr × Obj)) (σ : St) (H : Hp) (s : Shared) (e : Value) (s' : Shared), Inv X pins σ H s → CX X.stack H s E e s' → X.xe e s'

section
variable {X : Cx} {CX : CXT} {k : Nat} {f C : Addr} {fd : FuncData} {ps : List Str} {sp : Sp} {dvs : List V} {ds : List Value} {E : XK} {x m : Str} {p pos apos : Pos} {e o : Expr} {es : List Expr} {ta : TE} {t : TA}

/-- the callee runs -/
theorem run_fn {pins : List (Addr × Obj)} {σ : St} {H : Hp} {s : Shared} {Q : VK} {us : List Value} {vs : List V} (F : FnOk X.prog X.w X.K X.mg X.base CX k f fd ps sp) (hr : Room k X.A) (hb : Binds X.K fd ps ds) (hd : Vals dvs ds) (hx : Passes CX X E)
    (I : Inv X pins σ H s) (r : Vals vs us) (h : sp (vs ++ dvs) H Q E) : wpAny (model X.prog X.w) X.A (call (.ref f) us) (EP X pins σ Q) X.xe s := by
  have r2 : Vals (vs ++ dvs) (us ++ ds) := r.append hd
  have hl : (us ++ ds).length = ps.length := by rw [← r2.length]; exact F.len _ _ _ _ h
  refine wpAny_call (codeAny_mono (F.run X.A X.stack s H ⟨us, []⟩ (us ++ ds) (vs ++ dvs) Q E hr I.env0 (hb s us I.kIn hl) r2 h) fun r s' hq => ?_)
  cases r with
  | error e => exact hx pins σ H s e s' I hq
  | ok fl =>
    cases fl with
    | ret u => exact I.after hq
    | next => exact False.elim hq
    | brk => exact False.elim hq
    | cont => exact False.elim hq

theorem pe_call (F : FnOk X.prog X.w X.K X.mg X.base CX k f fd ps sp) (hr : Room k X.A) (hg : Gl X x) (hm : X.mg x = some (.ref f)) (hk : PySem.W.keepIn X.K (.ref f) = true) (hb : Binds X.K fd ps ds) (hd : Vals dvs ds) (hx : Passes CX X E)
    (ha : PA X (e :: es) t) (hdb : (x == ("__debug__" : Str)) = false := by decide) (he : starEach (e :: es) X.env = (false, eval e X.env) :: starEach es X.env := by rfl) (hpl : (backTo pos (starEach es X.env)).any (·.1) = false := by rfl) :
    PE X (.Call (.Name x p) (e :: es) [] pos) (tCall sp dvs E t) := by
  intro pins s σ H Q I h
  refine wpAny_Call_Name_kw (ld_glob I hg hm ?_ hdb)
  refine PySem.W.callWith_K (h₀ := X.base) I.ok.mod.kin hk (thn (ha pos pins s σ H _ I h) fun us s1 ⟨vs, H1, I1, r, q⟩ => ⟨I1.kIn, ?_⟩) he hpl
  exact run_fn F hr hb hd hx I1 r q
/-- o.m() -/
theorem pe_meth0 {pl : Sem Bool} (he : PE X o ta) (c : Cls X.K C) (hm : Meth X.K C m f) (F : FnOk X.prog X.w X.K X.mg X.base CX k f fd ps sp) (hr : Room k X.A) (hb : Binds X.K fd ps ds) (hd : Vals dvs ds) (hx : Passes CX X E)
    (ht : eval (.Call (.Attribute o m apos) [] [] pos) X.env = (do
      let ov ← eval o X.env
      standAt apos.atName
      let (f, first) ← holding [ov] (getMethod ov m pl)
      callWith pos f first (backTo pos (starEach [] X.env)) (backToKw pos (keywordEach [] X.env))) := by rfl) :
    PE X (.Call (.Attribute o m apos) [] [] pos) (tMeth C m sp dvs E ta tNil) := by
  intro pins s σ H Q I h
  refine PySem.W.methodCall_KW (pl := pl) (thn (he pins s σ H _ I h) fun u s1 ⟨x, H1, I1, rx, a, dx, fs, ex, ea, l, q⟩ => ?_) ht
  subst ex
  obtain rfl : u = Value.ref a := rx
  refine getmeth_ok I1 ea c hm l ?_
  exact PySem.W.callWith_K0 (first := [.ref a]) I1.kIn hm.kp (run_fn (us := [.ref a]) (vs := [.ref a]) F hr hb hd hx I1 (.cons rfl .nil) q)

/-- what a class must have to be made -/
structure Mk (K : PySem.W.Frag) (C f : Addr) : Prop where
  makes : PySem.W.makesIn K C = true
  init : PySem.W.findIn K (.ref C) "__init__" = some (some (.ref f))
  fn : PySem.W.isFn K (.ref f) = true
  kp : PySem.W.keepIn K (.ref C) = true

end

/-! ### keywords -/
/-- the values of the keywords, from the left -/
def PK (X : Cx) (kws : List Keyword) (t : TA) : Prop :=
  ∀ (pos : Pos) (pins : List (Addr × Obj)) (s : Shared) (σ : St) (H : Hp) (Q : List V → Hp → Prop), Inv X pins σ H s → t σ H Q → wpAny (model X.prog X.w) X.A (evalAll ((backToKw pos (keywordEach kws X.env)).map (·.2))) (AP X pins σ Q) X.xe s
section
variable {X : Cx} {CX : CXT} {k : Nat} {f C : Addr} {fd : FuncData} {ps ks : List Str} {sp : Sp} {E : XK} {x m : Str} {p pos apos kpos : Pos} {e o : Expr} {es : List Expr} {kws : List Keyword} {te ta : TE} {t tk : TA} {nm : Option Str}
theorem pk_nil : PK X [] tNil := fun _ _ _ _ H Q I h => wpAny_evalAll_nil ⟨[], H, I, .nil, h⟩
theorem pk_cons (ha : PE X e te) (hr : PK X kws t) : PK X (⟨nm, e, kpos⟩ :: kws) (tCons te t) := by
  intro pos pins s σ H Q I h
  show wpAny _ _ (evalAll ((do let v ← eval e X.env; standAt pos; pure v) :: (backToKw pos (keywordEach kws X.env)).map (·.2))) _ _ s
  refine wpAny_evalAll_cons (wpAny_bind (thn (ha pins s σ H _ I h) fun u s1 ⟨x, H1, I1, r1, q1⟩ => wpAny_bind (wpAny_standAt (wpAny_pure ?_))))
  exact thn (hr pos pins s1 σ H1 _ I1 q1) fun us s2 ⟨xs, H2, I2, r2, q2⟩ => ⟨x :: xs, H2, I2, .cons r1 r2, q2⟩

/-- how a call with keywords binds: g puts the positional values us and the keywords' values ws (names ks) in the parameters' order, defaults among them -/
structure KBinds (K : PySem.W.Frag) (fd : FuncData) (ps ks : List Str) (g : List Value → List Value → List Value) (gV : List V → List V → List V) : Prop where
  to : ∀ (s : Shared) (us ws : List Value), K.In s.heap → (g us ws).length = ps.length → BindsTo s fd ⟨us, ks.zip ws⟩ (ps.zip (g us ws))
  rel : ∀ {vs : List V} {us : List Value} {zs : List V} {ws : List Value}, Vals vs us → Vals zs ws → Vals (gV vs zs) (g us ws)
variable {g : List Value → List Value → List Value} {gV : List V → List V → List V}
end

/-! ### a def's body keeps its promise -/
/-- names: the parameters first -/
structure FnScope (N P : List Str) (sc : Scope) : Prop where
  kind : sc.kind = .function
  co : sc.isCoroutine = false
  gen : sc.isGenerator = false
  nd : N.Nodup
  pre : N.take P.length = P
  par : ∀ x ∈ P, sc.names.lookup x = some .local ∨ sc.names.lookup x = some .cell
  nofree : ∀ y ∈ sc.names, y.2 ≠ .free

theorem bindL_out {kindOf : Str → Option NameKind} {x : Str} : ∀ {binds : List (Str × Value)} {m : Str → Option Value}, (∀ v, (x, v) ∉ binds) → bindL kindOf binds m x = m x
  | [], _, _ => rfl
  | (n, v) :: r, m, h => by
    unfold bindL
    rw [bindL_out fun w hw => h w (List.mem_cons_of_mem _ hw)]
    split
    · have : x ≠ n := by rintro rfl; exact h v List.mem_cons_self
      simp [this]
    · rfl
theorem bindC_out {kindOf : Str → Option NameKind} {x : Str} : ∀ {binds : List (Str × Value)} {m : Str → Option Value}, (∀ v, (x, v) ∉ binds) → bindC kindOf binds m x = m x
  | [], _, _ => rfl
  | (n, v) :: r, m, h => by
    unfold bindC
    rw [bindC_out fun w hw => h w (List.mem_cons_of_mem _ hw)]
    split
    · rfl
    · have : x ≠ n := by rintro rfl; exact h v List.mem_cons_self
      simp [this]
theorem bindL_get {kindOf : Str → Option NameKind} {x : Str} {v : Value} : ∀ {P : List Str} {vs : List Value} {i : Nat} {m : Str → Option Value}, P.Nodup → P[i]? = some x → vs[i]? = some v → kindOf x = some .local →
    bindL kindOf (P.zip vs) m x = some v
  | [], _, _, _, _, h, _, _ => by simp at h
  | _ :: _, [], _, _, _, _, h, _ => by simp at h
  | p :: P, w :: vs, 0, m, nd, h1, h2, hk => by
    simp at h1 h2; subst h1; subst h2
    show bindL kindOf ((p, w) :: P.zip vs) m p = _
    unfold bindL
    rw [bindL_out fun v hv => (List.nodup_cons.mp nd).1 (List.of_mem_zip hv).1, if_pos hk]
    simp
  | p :: P, w :: vs, i + 1, m, nd, h1, h2, hk => by
    show bindL kindOf ((p, w) :: P.zip vs) m x = _
    unfold bindL
    exact bindL_get (i := i) (List.nodup_cons.mp nd).2 (by simpa using h1) (by simpa using h2) hk
theorem bindC_get {kindOf : Str → Option NameKind} {x : Str} {v : Value} : ∀ {P : List Str} {vs : List Value} {i : Nat} {m : Str → Option Value}, P.Nodup → P[i]? = some x → vs[i]? = some v → kindOf x ≠ some .local →
    bindC kindOf (P.zip vs) m x = some v
  | [], _, _, _, _, h, _, _ => by simp at h
  | _ :: _, [], _, _, _, _, h, _ => by simp at h
  | p :: P, w :: vs, 0, m, nd, h1, h2, hk => by
    simp at h1 h2; subst h1; subst h2
    show bindC kindOf ((p, w) :: P.zip vs) m p = _
    unfold bindC
    rw [bindC_out fun v hv => (List.nodup_cons.mp nd).1 (List.of_mem_zip hv).1, if_neg hk]
    simp
  | p :: P, w :: vs, i + 1, m, nd, h1, h2, hk => by
    show bindC kindOf ((p, w) :: P.zip vs) m x = _
    unfold bindC
    exact bindC_get (i := i) (List.nodup_cons.mp nd).2 (by simpa using h1) (by simpa using h2) hk

/-- the names' values at the entry -/
def start (N : List Str) (vs : List V) : St := vs.map some ++ List.replicate (N.length - vs.length) none

/-- the context of a def's body, at its entry; an exception leaves the frame, then lies as CX says -/
def cxOf (CX : CXT) (P : Program) (w : World) (K : PySem.W.Frag) (mg : Str → Option Value) (base : Heap) (N : List Str) (qual : Str) (scope : Scope) (f : Addr) (cd : Value) (A : Around) (outer : List Env) (s : Shared) (H : Hp) (E : XK) : Cx where
  prog := P
  w := w
  K := K
  mg := mg
  base := base
  A := A.deeper (envOfC qual scope s.heap.objs.size f cd)
  N := N
  s_0 := s
  H_0 := H
  env := envOfC qual scope s.heap.objs.size f cd
  outer := outer
  stack := envOfC qual scope s.heap.objs.size f cd :: outer
  ex := []
  calm := true
  fn := fun _ => true
  pn := []
  xe := fun e s' => wpAny (model P w) (A.deeper (envOfC qual scope s.heap.objs.size f cd)) (leaving (envOfC qual scope s.heap.objs.size f cd) e) (fun _ s'' => CX outer H s E e s'') (fun e' s'' => CX outer H s E e' s'') s'

theorem cell_has {sc : Scope} {n : Nat} {x : Str} (h : sc.names.lookup x = some .cell) : ∃ c, (cellsFrom n sc.names []).lookup x = some c := by
  have q := PySem.W.cellsFrom_some sc.names n [] (.inl h)
  exact Option.isSome_iff_exists.mp q

theorem inv_start {CX : CXT} {P : Program} {w : World} {K : PySem.W.Frag} {mg : Str → Option Value} {base : Heap} {N ps : List Str} {qual : Str} {scope : Scope} {f : Addr} {cd : Value} {A : Around} {outer : List Env} {s s1 : Shared} {H : Hp} {E : XK} {us : List Value} {vs : List V}
    (S : FnScope N ps scope) (hd : A.handled = none) (e0 : Env0 P w K mg base A outer s H) (hl : vs.length = ps.length) (r : Vals vs us)
    (x : InCallC s s.heap.objs.size (bindL (envOfC qual scope s.heap.objs.size f cd).kindOf (ps.zip us) fun _ => none) (cellsFrom (s.heap.objs.size + 1) scope.names []) (bindC (envOfC qual scope s.heap.objs.size f cd).kindOf (ps.zip us) fun _ => none) s1) :
    Inv (cxOf CX P w K mg base N qual scope f cd A outer s H E) [] (start N vs) H s1 := by
  have hpl : ps.length ≤ N.length := by have := congrArg List.length S.pre; rw [List.length_take] at this; omega
  obtain ⟨h1, tk, rfl, hk⟩ := x.done
  have noA : ∀ b : Addr, b ∉ (cxOf CX P w K mg base N qual scope f cd A outer s H E).ex := fun b z => absurd (show b ∈ ([] : List Addr) from z) (by simp)
  refine ⟨⟨e0.mod, S.kind, rfl, rfl, Nat.le_refl _, fun y z c h1 h2 => ?_, fun y hy => ?_, fun y c _ h => ?_, fun _ => hd, Around.frames_deeper e0.frames, .inr ⟨rfl, rfl⟩, fun b z => absurd z (noA b), e0.bs, e0.bsz, fun b _ _ => noA b, fun b z => absurd z (noA b), e0.funs, e0.frf⟩,
    rfl, e0.bare, Un.kept hk, ⟨_, x.toInCall.ns, fun i y v h1 h2 h3 => ?_⟩, fun y c h => ⟨_, x.cell y c h⟩, e0.hok.fresh (Nat.le_refl _), fun y c h => ?_, fun p hp => absurd (show p ∈ ([] : List (Addr × Obj)) from hp) (by simp), e0.hok.kept hk, ?_⟩
  · exact name_of_addr x.apart (PySem.mem_of_lookup h1) (PySem.mem_of_lookup h2)
  · have hy : scope.names.lookup y = some .cell ∨ scope.names.lookup y = some .free := hy
    rcases hy with hy | hy
    · exact cell_has hy
    · exact absurd rfl (S.nofree _ (PySem.mem_of_lookup hy))
  · exact Nat.le_of_lt (x.above y c (PySem.mem_of_lookup h))
  · have hi : i < vs.length := by
      unfold start at h2
      by_cases hi : i < vs.length
      · exact hi
      · rw [List.getElem?_append_right (by simpa using hi)] at h2
        rw [List.getElem?_replicate] at h2
        split at h2 <;> cases h2
    have ha : vs[i]? = some v := by
      unfold start at h2
      rw [List.getElem?_append_left (by simpa using hi), List.getElem?_map] at h2
      cases e : vs[i]? with
      | none => rw [e] at h2; cases h2
      | some a => rw [e] at h2; cases h2; rfl
    obtain ⟨u, hu, rv⟩ := r.get ha
    have hp : ps[i]? = some y := by
      rw [← S.pre, List.getElem?_take_of_lt (by omega)]; exact h1
    have ndP : ps.Nodup := by rw [← S.pre]; exact S.nd.sublist (List.take_sublist _ _)
    refine ⟨u, rv, ?_⟩
    rcases S.par y (List.mem_of_getElem? hp) with k | k
    · exact .inl ⟨k, bindL_get ndP hp hu k⟩
    · obtain ⟨c, e⟩ := cell_has (n := s.heap.objs.size + 1) k
      refine .inr ⟨.inl k, c, e, ?_⟩
      have q := x.cell y c e
      rw [bindC_get ndP hp hu (by show scope.names.lookup y ≠ _; rw [k]; decide)] at q
      exact q
  · exact e0.hok.fresh (Nat.le_of_lt (x.above y c (PySem.mem_of_lookup h)))
  · unfold start
    show _ = N.length
    rw [List.length_append, List.length_map, List.length_replicate]
    omega

/-- THE RULE: a def (or a method) of the text, by its body. The body's reading t is chosen for each entry; it is run at the parameters' values -/
theorem fn_of {CX : CXT} {P : Program} {w : World} {K : PySem.W.Frag} {mg : Str → Option Value} {base : Heap} {k : Nat} {f : Addr} {name qual : Str} {params : Arguments} {body : List Stmt} {scope : Scope} {dV kV doc pm cdv ct oc : Value} {an od : Option Addr}
    {osl : Array (Option Value)} {N ps : List Str} {sp : Sp} (lk : K.lookup f = some ⟨oc, od, .func (PySem.W.fnOf name qual params body scope dV kV doc pm an cdv ct), osl⟩) (hcd : PySem.W.codeIn K cdv qual = true) (S : FnScope N ps scope)
    (len : ∀ vs H Q E, sp vs H Q E → vs.length = ps.length)
    (hbody : ∀ (A : Around) (outer : List Env) (s : Shared) (H : Hp) (vs : List V) (Q : VK) (E : XK), Room k (A.deeper (envOfC qual scope s.heap.objs.size f cdv)) → sp vs H Q E →
      ∃ t, PSs (cxOf CX P w K mg base N qual scope f cdv A outer s H E) body t ∧ t { nx := fun _ H' => Q .non H', rt := Q } (start N vs) H) :
    FnOk P w K mg base CX (k + 1) f (PySem.W.fnOf name qual params body scope dV kV doc pm an cdv ct) ps sp := by
  refine ⟨len, fun A outer s H args us vs Q E hr e0 hb r hsp => ?_⟩
  have hl := len _ _ _ _ hsp
  have KX : K.In s.heap := e0.mod.kin.keeps fun b o e => (e0.bs b o e).1
  have lim : s.heap.NoLimit := e0.mod.nolimit.keeps fun b o e => (e0.bs b o e).1
  have hkind : ∀ y ∈ ps.zip us, scope.names.lookup y.1 = some .local ∨ (scope.names.lookup y.1 = some .cell ∧ ((cellsFrom (s.heap.objs.size + 1) scope.names []).lookup y.1).isSome = true) := fun ⟨n, v⟩ hy => by
    rcases S.par n (List.of_mem_zip hy).1 with q | q
    · exact .inl q
    · exact .inr ⟨q, PySem.W.cellsFrom_some _ _ _ (.inl q)⟩
  refine codeAny_call_function hr.depth (KX _ _ lk) rfl S.co S.gen rfl (PySem.W.codeRec_of KX hcd) (hb _ _ _ _ ?_)
  refine wpAny_newFunctionEnv_cells S.kind hkind fun env he s1 x => ?_
  subst he
  refine ⟨lim.keeps x.toInCall.keep, codeAny_func ?_⟩
  obtain ⟨t, ht, hq⟩ := hbody A outer s H vs Q E (hr.deeper _) hsp
  have I : Inv (cxOf CX P w K mg base N qual scope f cdv A outer s H E) [] (start N vs) H s1 := inv_start S hr.hd e0 hl r x
  refine wpAny_mono (ht [] s1 (start N vs) H _ I hq) (fun fl s' hs => ?_) fun e s' hs => hs
  have fin : ∀ {σ' : St} {H' : Hp} {v : V} {u : Value}, Inv (cxOf CX P w K mg base N qual scope f cdv A outer s H E) [] σ' H' s' → RelV v u → Q v H' → CE outer P w H s Q u s' :=
    fun {σ' H' v u} J rv q => ⟨v, H', J.os, J.bare, J.base, J.hok, rv, q⟩
  cases fl with
  | ret u =>
    obtain ⟨v, σ', H', J, rv, q⟩ := hs
    exact fin J rv q
  | next =>
    obtain ⟨σ', H', J, q⟩ := hs
    exact fin (v := V.non) (u := Value.none) J rfl q
  | brk =>
    obtain ⟨_, _, _, q⟩ := hs
    exact False.elim q
  | cont =>
    obtain ⟨_, _, _, q⟩ := hs
    exact False.elim q
end L2

namespace L2
open PySem PySem.Spec PyProof.Rows
section
variable {X : Cx} {x : Str} {p pos : Pos} {e : Expr} {es : List Expr} {t : TA} {id T : String} {r : List V → Hp → VK → Prop}

def tCB (r : List V → Hp → VK → Prop) (t : TA) : TE := fun σ H Q => t σ H fun vs H1 => r vs H1 Q
/-- f(e, ..), f a built-in function -/
theorem pe_callB (hc : CallR X (.builtin id) r) (hg : Gl X x) (hm : X.mg x = none) (hv : bootBuiltins x = some (.builtin id)) (ha : PA X (e :: es) t) (hn : x ≠ "__name__" := by decide) (hdb : (x == ("__debug__" : Str)) = false := by decide)
    (he : starEach (e :: es) X.env = (false, eval e X.env) :: starEach es X.env := by rfl) (hpl : (backTo pos (starEach es X.env)).any (·.1) = false := by rfl) : PE X (.Call (.Name x p) (e :: es) [] pos) (tCB r t) := by
  intro pins s σ H Q I h
  refine wpAny_Call_Name_kw (ld_blt I hg hm hv ?_ hn hdb)
  exact PyProof.Rows.callWith_builtin1 (thn (ha pos pins s σ H _ I h) fun us s1 ⟨vs, H1, I1, r1, q1⟩ => hc pins s1 σ H1 vs us Q I1 r1 q1) he hpl
/-- T(e, ..), T a built-in type -/
theorem pe_callTy (hc : CallR X (.type T) r) (hg : Gl X x) (hm : X.mg x = none) (hv : bootBuiltins x = some (.type T)) (ha : PA X (e :: es) t) (hn : x ≠ "__name__" := by decide) (hdb : (x == ("__debug__" : Str)) = false := by decide)
    (he : starEach (e :: es) X.env = (false, eval e X.env) :: starEach es X.env := by rfl) (hpl : (backTo pos (starEach es X.env)).any (·.1) = false := by rfl) : PE X (.Call (.Name x p) (e :: es) [] pos) (tCB r t) := by
  intro pins s σ H Q I h
  refine wpAny_Call_Name_kw (ld_blt I hg hm hv ?_ hn hdb)
  exact PyProof.Rows.callWith_type1 (thn (ha pos pins s σ H _ I h) fun us s1 ⟨vs, H1, I1, r1, q1⟩ => hc pins s1 σ H1 vs us Q I1 r1 q1) he hpl
end
end L2

namespace HT
open PySem PyProof.Rows

section
open PySem.SeqAt
open PySem.AutoSeq1 (wpAny_loadPart')
open PySem.MeetsSeq PySem.MeetsSeq2 PySem.MeetsSeq3

end

section
variable {prog : Program} {w : World} {A : Around} {E : Value → Shared → Prop} {s : Shared}

/-! ### t[a:b], not the whole -/
/-- a slice's bound as a place among n (d where it is left out) -/
def sIx (n d : Nat) : Option Int → Nat
  | none => d
  | some v => if v < 0 then (v + (n : Int)).toNat else min v.toNat n
end
end HT

namespace L2
open PySem PySem.Spec PyProof.Rows

/-! ### the parts of a slice -/
abbrev TO := St → Hp → (Option Int → Hp → Prop) → Prop
/-- a slice's part (left out, or an int) -/
def PO (X : Cx) (e : Option Expr) (t : TO) : Prop :=
  ∀ (pins : List (Addr × Obj)) (s : Shared) (σ : St) (H : Hp) (Q : Option Int → Hp → Prop), Inv X pins σ H s → t σ H Q →
    wpAny (model X.prog X.w) X.A (evalPart e X.env) (fun u s' => ∃ o H', Inv X pins σ H' s' ∧ IsPart u o ∧ Q o H') X.xe s
def tNoPart : TO := fun _ H Q => Q none H
def tPart (t : TE) : TO := fun σ H Q => t σ H fun x H1 => ∃ i, x = .int i ∧ Q (some i) H1

section
variable {X : Cx} {e : Expr} {te : TE} {lo hi : Option Expr} {tl th : TO} {pos p2 : Pos}

theorem po_none : PO X none tNoPart := by
  intro pins s σ H Q I h
  rw [evalPart_none]
  exact wpAny_pure ⟨none, H, I, .none, h⟩
theorem po_some (h : PE X e te) : PO X (some e) (tPart te) := by
  intro pins s σ H Q I hw
  rw [evalPart_some]
  refine thn (h pins s σ H _ I hw) fun u s1 ⟨x, H1, I1, r1, q1⟩ => ?_
  obtain ⟨i, rfl, q⟩ := q1
  obtain ⟨t, rfl⟩ := r1
  exact ⟨some i, H1, I1, .int i t, q⟩

/-- what a slice of a value is, by values: the slice object stands at sl -/
def SlR (X : Cx) (r : V → Option Int → Option Int → Hp → VK → Prop) : Prop :=
  ∀ (pins : List (Addr × Obj)) (s : Shared) (σ : St) (H : Hp) (x : V) (v vl vu : Value) (lo hi : Option Int) (sl : Addr) (Q : VK), Inv X pins σ H s → RelV x v → s.heap.IsSliceOf sl vl vu .none → IsPart vl lo → IsPart vu hi → r x lo hi H Q →
    ∃ T id, typeLookup (.type T) "__getitem__" = pure (some (.builtin id)) ∧ s.TypeIs v T ∧ wpAny (model X.prog X.w) X.A (getItem v (.ref sl)) (EP X pins σ Q) X.xe s
theorem SlR.or {r r' : V → Option Int → Option Int → Hp → VK → Prop} (h : SlR X r) (h' : SlR X r') : SlR X (fun x lo hi H Q => r x lo hi H Q ∨ r' x lo hi H Q) := by
  intro pins s σ H x v vl vu lo hi sl Q I rx hs pl pu q
  rcases q with q | q
  · exact h pins s σ H x v vl vu lo hi sl Q I rx hs pl pu q
  · exact h' pins s σ H x v vl vu lo hi sl Q I rx hs pl pu q
def tSl (r : V → Option Int → Option Int → Hp → VK → Prop) (te : TE) (tl th : TO) : TE := fun σ H Q => te σ H fun x H1 => tl σ H1 fun l H2 => th σ H2 fun u H3 => r x l u H3 Q
/-- a[lo:hi], any a -/
theorem pe_slice {r : V → Option Int → Option Int → Hp → VK → Prop} (hr : SlR X r) (he : PE X e te) (hl : PO X lo tl) (hu : PO X hi th) : PE X (.Subscript e (.Slice lo hi none p2) pos) (tSl r te tl th) := by
  intro pins s σ H Q I h
  refine Subscript_ (thn (he pins s σ H _ I h) fun v s1 ⟨x, H1, I1, r1, q1⟩ => ?_)
  refine wpAny_Slice (thn (hl pins s1 σ H1 _ I1 q1) fun vl s2 ⟨l, H2, I2, pl, q2⟩ => thn (hu pins s2 σ H2 _ I2 q2) fun vu s3 ⟨u, H3, I3, pu, q3⟩ => ?_)
  rw [evalPart_none]
  refine wpAny_pure ?_
  have I4 : Inv X pins σ H3 { s3 with heap := s3.heap.push { cls := .type "slice", data := .fields #[vl, vu, .none] } } := I3.kept (t' := s3.toks) fun b ob q => Heap.get?_push_of_some _ q
  obtain ⟨T, id, hT, ht, hg⟩ := hr pins { s3 with heap := s3.heap.push { cls := .type "slice", data := .fields #[vl, vu, .none] } } σ H3 x v vl vu l u s3.heap.objs.size Q I4 r1 (Heap.IsSliceOf.new ..) pl pu q3
  show wpAny (model X.prog X.w) X.A (subscriptTail e (.Slice lo hi none p2) v (.ref s3.heap.objs.size)) (EP X pins σ Q) X.xe { s3 with heap := s3.heap.push { cls := .type "slice", data := .fields #[vl, vu, .none] } }
  exact tail_any (ops := [.ref s3.heap.objs.size, v]) ht hT hg (by with_unfolding_all rfl)

/-- the items of xs[lo:hi] -/
def cutV (xs : List V) (lo hi : Option Int) : List V := (xs.drop (HT.sIx xs.length 0 lo)).take (HT.sIx xs.length xs.length hi - HT.sIx xs.length 0 lo)
theorem cutV_length (xs : List V) (lo hi : Option Int) : (cutV xs lo hi).length ≤ xs.length := by
  unfold cutV
  rw [List.length_take, List.length_drop]
  omega
end
end L2

namespace L2
open PySem PySem.Spec PyProof.Rows

/-! ### places -/
/-- the place that an index of any sign means -/
def ixN (n : Nat) (i : Int) : Option Nat := if 0 ≤ i then (if i < n then some i.toNat else none) else if -(n : Int) ≤ i then some (i + n).toNat else none
def atI {α : Type} (xs : List α) (i : Int) : Option α := (ixN xs.length i).bind fun j => xs[j]?
theorem ixN_seq {n : Nat} {i : Int} {j : Nat} (h : ixN n i = some j) : seqIndex? i n = some j ∧ j < n ∧ -(n : Int) ≤ i ∧ i < n := by
  unfold ixN at h
  by_cases h0 : 0 ≤ i
  · rw [if_pos h0] at h
    by_cases h1 : i < n
    · rw [if_pos h1] at h
      have e : i.toNat = j := Option.some.inj h
      exact ⟨by rw [seqIndex_of h0 h1, e], by omega, by omega, h1⟩
    · rw [if_neg h1] at h; cases h
  · rw [if_neg h0] at h
    by_cases h1 : -(n : Int) ≤ i
    · rw [if_pos h1] at h
      have e : (i + n).toNat = j := Option.some.inj h
      exact ⟨by rw [seqIndex_neg (by omega) h1, e], by omega, h1, by omega⟩
    · rw [if_neg h1] at h; cases h
theorem atI_get {α : Type} {xs : List α} {i : Int} {v : α} (h : atI xs i = some v) : ∃ j, seqIndex? i xs.length = some j ∧ xs[j]? = some v ∧ j < xs.length ∧ -(xs.length : Int) ≤ i ∧ i < xs.length := by
  unfold atI at h
  cases e : ixN xs.length i with
  | none => rw [e] at h; cases h
  | some j =>
    rw [e] at h
    obtain ⟨h1, h2, h3, h4⟩ := ixN_seq e
    exact ⟨j, h1, h, h2, h3, h4⟩
theorem atI_nat {α : Type} {xs : List α} {j : Nat} {v : α} (h : xs[j]? = some v) : atI xs (j : Int) = some v := by
  have hj : j < xs.length := (List.getElem?_eq_some_iff.mp h).1
  have e : ixN xs.length (j : Int) = some j := by
    unfold ixN
    rw [if_pos (by omega), if_pos (by omega)]; simp
  unfold atI; rw [e]; exact h
/-! ### what may be subscripted -/
/-- what stands as an index of a plain subscript -/
def PlainIx (b : Expr) : Prop := ∀ o i, subscripted b false o i = operate [o, i] (getItem o i)
/-- a subscript by values -/
def IxR (X : Cx) (r : R2) : Prop :=
  ∀ (value slice : Expr) (pins : List (Addr × Obj)) (s : Shared) (σ : St) (H : Hp) (x y : V) (v u : Value) (Q : VK), Inv X pins σ H s → RelV x v → RelV y u → r x y H Q →
    subscripted slice false v u = operate [v, u] (getItem v u) → wpAny (model X.prog X.w) X.A (subscriptTail value slice v u) (EP X pins σ Q) X.xe s
/-- a call of a builtin's method by values: the receiver, the arguments -/
def MtR (X : Cx) (id : String) (r : V → List V → Hp → VK → Prop) : Prop :=
  ∀ (pins : List (Addr × Obj)) (s : Shared) (σ : St) (H : Hp) (x : V) (xs : List V) (v : Value) (us : List Value) (Q : VK), Inv X pins σ H s → RelV x v → Vals xs us → r x xs H Q →
    wpAny (model X.prog X.w) X.A (call (.builtin id) (v :: us)) (EP X pins σ Q) X.xe s
section
variable {X : Cx} {a b : Expr} {ta tb : TE} {pos : Pos}
theorem IxR.or {r r' : R2} (h : IxR X r) (h' : IxR X r') : IxR X (fun x y H Q => r x y H Q ∨ r' x y H Q) := by
  intro value slice pins s σ H x y v u Q I rx ry q hs
  rcases q with q | q
  · exact h value slice pins s σ H x y v u Q I rx ry q hs
  · exact h' value slice pins s σ H x y v u Q I rx ry q hs
theorem MtR.or {id : String} {r r' : V → List V → Hp → VK → Prop} (h : MtR X id r) (h' : MtR X id r') : MtR X id (fun x xs H Q => r x xs H Q ∨ r' x xs H Q) := by
  intro pins s σ H x xs v us Q I rx rs q
  rcases q with q | q
  · exact h pins s σ H x xs v us Q I rx rs q
  · exact h' pins s σ H x xs v us Q I rx rs q
/-- a[b] -/
theorem pe_ix {r : R2} (hr : IxR X r) (ha : PE X a ta) (hb : PE X b tb) (hs : PlainIx b) : PE X (.Subscript a b pos) (tOp r ta tb) := by
  intro pins s σ H Q I h
  exact Subscript_ (binT ha hb I h fun v u s2 x y H2 I2 rx ry q => hr a b pins s2 σ H2 x y v u Q I2 rx ry q (hs _ _))

def rIxL (K : PySem.W.Frag) : R2 := fun x y H Q => ∃ p xs i v, x = .ref p ∧ y = .int i ∧ SqL K H p xs ∧ atI xs i = some v ∧ Q v H
theorem ix_list : IxR X (rIxL X.K) := by
  intro value slice pins s σ H x y v u Q I rx ry h hs
  obtain ⟨p, xs, i, z, rfl, rfl, hq, he, q⟩ := h
  cases rx
  obtain ⟨t, rfl⟩ := ry
  obtain ⟨its, r, pl, hz⟩ := I.list hq
  obtain ⟨j, h1, h2, h3, h4, h5⟩ := atI_get he
  obtain ⟨w, ew, rw'⟩ := r.get h2
  have hl := r.length
  have hn := line63
  have fin : EP X pins σ Q w s := ⟨z, H, I, rw', q⟩
  by_cases h0 : 0 ≤ i
  · have hj : i.toNat = j := by
      rw [seqIndex_of h0 h5] at h1
      exact Option.some.inj h1
    exact item_listR pl.isList h0 (by omega) (by rw [hj]; simpa using ew) fin hs
  · have hj : (i + (its.toArray.size : Int)).toNat = j := by
      rw [seqIndex_neg (by omega) h4] at h1
      rw [List.size_toArray, ← hl]
      exact Option.some.inj h1
    exact subscriptTail_builtinR (x := w) pl.isList.typeIs slot_list_getitem.lookup
      (wpAny_getItem_list_neg (Q := fun r s' => r = w ∧ EP X pins σ Q r s') pl.isList (by omega) (by rw [List.size_toArray] <;> omega) (by omega) (by rw [hj]; simpa using ew) ⟨rfl, fin⟩) hs
theorem Inv.lst {pins : List (Addr × Obj)} {σ : St} {H : Hp} {s : Shared} {p : Addr} {xs : List V} (I : Inv X pins σ H s) (h : H p = some (.lst xs)) :
    ∃ (its : List Value) (n : Nat), Vals xs its ∧ s.heap.get? p = some { cls := .type "list", data := .seq its.toArray n } ∧ xs.length ≤ sizeLine := by
  obtain ⟨z, its, n, r, e⟩ := I.hok p _ h
  exact ⟨its, n, r, e, z⟩
/-! ### slices -/
theorem slice_bounds (lo hi : Option Int) (n : Nat) : (sliceBounds lo hi none n).1 = ((HT.sIx n 0 lo : Nat) : Int) ∧ (sliceBounds lo hi none n).2.1 = ((HT.sIx n n hi : Nat) : Int) ∧ (sliceBounds lo hi none n).2.2 = 1 := by
  refine ⟨?_, ?_, rfl⟩
  · cases lo with
    | none => simp [sliceBounds, HT.sIx]
    | some i =>
      simp only [sliceBounds, HT.sIx, Option.getD_none, show (1 : Int) > 0 by decide, if_true]
      by_cases h : i < 0
      · simp only [h, if_true] <;> omega
      · simp only [h, if_false] <;> omega
  · cases hi with
    | none => simp [sliceBounds, HT.sIx]
    | some i =>
      simp only [sliceBounds, HT.sIx, Option.getD_none, show (1 : Int) > 0 by decide, if_true]
      by_cases h : i < 0
      · simp only [h, if_true] <;> omega
      · simp only [h, if_false] <;> omega
theorem slicePick_cut (its : List Value) (lo hi : Option Int) : slicePick its.toArray lo hi none = ((its.drop (HT.sIx its.length 0 lo)).take (HT.sIx its.length its.length hi - HT.sIx its.length 0 lo)).toArray := by
  obtain ⟨h1, h2, h3⟩ := slice_bounds lo hi its.toArray.size
  unfold slicePick
  rw [h1, h2, h3]
  simp only [sliceRange_one, pick_run, List.size_toArray] <;> rfl
/-- xs[lo:hi] of a list: a new list -/
def rSlL (K : PySem.W.Frag) : V → Option Int → Option Int → Hp → VK → Prop := fun x lo hi H Q => ∃ a xs, x = .ref a ∧ SqL K H a xs ∧ ∀ p, H p = none → Q (.ref p) (upd H p (.lst (cutV xs lo hi)))
theorem sl_list : SlR X (rSlL X.K) := by
  intro pins s σ H x v vl vu lo hi sl Q I rx hs pl pu h
  obtain ⟨a, xs, rfl, hx, q⟩ := h
  cases rx
  obtain ⟨its, r, ht, hz⟩ := I.list hx
  have hlen := r.length
  refine ⟨"list", _, slot_list_getitem.lookup, ht.isList.typeIs, ?_⟩
  refine wpAny_getItem_list_slice ht.isList hs pl pu .none (by simp) ?_ (by rw [List.size_toArray] <;> omega)
  rw [slicePick_cut, ← hlen]
  refine ⟨.ref s.heap.objs.size, _, I.laid (t' := s.toks) (o := .lst (cutV xs lo hi)) (fun b ob q => Heap.get?_push_of_some _ q) (Nat.le_refl _) ?_, rfl, q _ (I.hok.fresh (Nat.le_refl _))⟩
  exact ⟨Nat.le_trans (cutV_length xs lo hi) hz, _, 0, (r.drop (HT.sIx xs.length 0 lo)).take (HT.sIx xs.length xs.length hi - HT.sIx xs.length 0 lo), Heap.get?_push_size _ rfl⟩

/-! ### in, not in: flat items -/
def flatV : V → Bool
  | .non => true
  | .bl _ => true
  | .int _ => true
  | .str _ => true
  | _ => false
/-- == of flat values -/
def eqV : V → V → Bool
  | .non, .non => true
  | .bl a, .bl b => a == b
  | .bl a, .int b => (if a then 1 else 0) == b
  | .int a, .bl b => a == (if b then 1 else 0)
  | .int a, .int b => a == b
  | .str a, .str b => a == b
  | _, _ => false
theorem eqAt_V {A : Around} {s : Shared} {y x : V} {u v : Value} (ry : RelV y u) (rx : RelV x v) (fy : flatV y = true) (fx : flatV x = true) : SeqAt.EqAt A s u v (eqV y x) := by
  cases y with
  | non =>
    cases ry
    cases x with
    | non => cases rx; exact SeqAt.EqAt.same _
    | bl b => cases rx; exact SeqAt.EqAt.none_bool b
    | int b => obtain ⟨t, rfl⟩ := rx; exact SeqAt.EqAt.none_int b t
    | str b => obtain ⟨t, rfl⟩ := rx; exact SeqAt.EqAt.none_str b t
    | _ => exact absurd (show false = true from fx) Bool.false_ne_true
  | bl a =>
    cases ry
    cases x with
    | non => cases rx; exact SeqAt.EqAt.bool_none a
    | bl b => cases rx; exact SeqAt.EqAt.bool_bool a b
    | int b => obtain ⟨t, rfl⟩ := rx; exact SeqAt.EqAt.bool_int a b t
    | str b => obtain ⟨t, rfl⟩ := rx; exact SeqAt.EqAt.bool_str a b t
    | _ => exact absurd (show false = true from fx) Bool.false_ne_true
  | int a =>
    obtain ⟨t', rfl⟩ := ry
    cases x with
    | non => cases rx; exact SeqAt.EqAt.int_none a t'
    | bl b => cases rx; exact SeqAt.EqAt.int_bool a t' b
    | int b => obtain ⟨t, rfl⟩ := rx; exact SeqAt.EqAt.int_int a t' b t
    | str b => obtain ⟨t, rfl⟩ := rx; exact SeqAt.EqAt.int_str a t' b t
    | _ => exact absurd (show false = true from fx) Bool.false_ne_true
  | str a =>
    obtain ⟨t', rfl⟩ := ry
    cases x with
    | non => cases rx; exact SeqAt.EqAt.str_none a t'
    | bl b => cases rx; exact SeqAt.EqAt.str_bool a t' b
    | int b => obtain ⟨t, rfl⟩ := rx; exact SeqAt.EqAt.str_int a t' b t
    | str b => obtain ⟨t, rfl⟩ := rx; exact SeqAt.EqAt.str_str a t' b t
    | _ => exact absurd (show false = true from fx) Bool.false_ne_true
  | _ => exact absurd (show false = true from fy) Bool.false_ne_true
theorem CallR.or {f : Value} {r r' : List V → Hp → VK → Prop} (h : CallR X f r) (h' : CallR X f r') : CallR X f (fun xs H Q => r xs H Q ∨ r' xs H Q) := by
  intro pins s σ H xs us Q I rs q
  rcases q with q | q
  · exact h pins s σ H xs us Q I rs q
  · exact h' pins s σ H xs us Q I rs q
theorem call_list_of : CallR X (.type "list") (fun xs H Q => ∃ p ys, xs = [.ref p] ∧ (SqL X.K H p ys ∨ SqT X.K H p ys) ∧ ∀ l, H l = none → Q (.ref l) (upd H l (.lst ys))) := by
  intro pins s σ H xs us Q I r h
  obtain ⟨p, ys, rfl, hq, q⟩ := h
  obtain ⟨u, rfl, rx⟩ := vals1 r
  cases rx
  have fin : ∀ (its : List Value), Vals ys its → ys.length ≤ sizeLine → ∀ (h' : Heap) (c' : Nat), (∀ b o', s.heap.get? b = some o' → h'.get? b = some o') →
      h'.get? s.heap.objs.size = some { cls := .type "list", dict := none, data := .seq its.toArray c', slots := #[] } → EP X pins σ Q (.ref s.heap.objs.size) { s with heap := h' } := fun its r' hz h' c' kp e =>
    ⟨.ref s.heap.objs.size, _, I.laid (t' := s.toks) kp (Nat.le_refl _) (show ObjOk X.prog X.w _ h' _ (.lst ys) from ⟨hz, its, c', r', e⟩), rfl, q _ (I.hok.fresh (Nat.le_refl _))⟩
  rcases hq with hq | hq
  · obtain ⟨its, r', pl, hz⟩ := I.list hq
    have hlen := r'.length
    obtain ⟨o, ho, hc, n, hd⟩ := pl.isList
    exact call_list_seq p (.inl rfl) ho hc hd (fun h' c' kp e => fin its r' hz h' c' kp e) (by simp only [List.size_toArray] <;> omega)
  · obtain ⟨its, r', pl, hz⟩ := I.tuple hq
    have hlen := r'.length
    obtain ⟨o, ho, hc, n, hd⟩ := pl
    exact call_list_seq p (.inr rfl) ho hc hd (fun h' c' kp e => fin its r' hz h' c' kp e) (by simp only [List.size_toArray] <;> omega)
theorem call_tuple_of : CallR X (.type "tuple") (fun xs H Q => ∃ p ys, xs = [.ref p] ∧ ((SqL X.K H p ys ∧ ∀ l, H l = none → Q (.ref l) (upd H l (.tup ys))) ∨ (SqT X.K H p ys ∧ Q (.ref p) H))) := by
  intro pins s σ H xs us Q I r h
  obtain ⟨p, ys, rfl, h⟩ := h
  obtain ⟨u, rfl, rx⟩ := vals1 r
  cases rx
  rcases h with ⟨hq, q⟩ | ⟨hq, q⟩
  · obtain ⟨its, r', pl, hz⟩ := I.list hq
    have hlen := r'.length
    refine call_tuple_list pl.isList (fun h' kp => ?_) (by simp only [List.size_toArray] <;> omega)
    have I1 : Inv X pins σ H { s with heap := h' } := I.kept (t' := s.toks) kp
    have I2 : Inv X pins σ (upd H h'.objs.size (.tup ys)) { s with heap := h'.push { cls := .type "tuple", data := .seq its.toArray } } :=
      I1.laid (t' := s.toks) (fun b o e => Heap.get?_push_of_some _ e) (Nat.le_refl _) (show ObjOk X.prog X.w _ _ _ (.tup ys) from ⟨hz, its, r', TupB.new _ _⟩)
    exact ⟨.ref h'.objs.size, _, I2, rfl, q _ (I1.hok.fresh (Nat.le_refl _))⟩
  · obtain ⟨its, r', pl, hz⟩ := I.tuple hq
    exact call_tuple_same pl ⟨.ref p, H, I, rfl, q⟩

/-! ### the call of a builtin's method: o.m(..) -/
/-- the value is of that builtin type -/
def tyV (K : PySem.W.Frag) (T : String) (x : V) (H : Hp) : Prop := match x with
  | .str _ => T = "str"
  | .int _ => T = "int"
  | .ref p => (T = "list" ∧ ∃ xs, SqL K H p xs) ∨ (T = "tuple" ∧ ∃ o, K.lookup p = some o ∧ o.cls = .type "tuple" ∧ o.dict = none) ∨
      (T = "dict" ∧ ((∃ kvs, H p = some (.dK kvs)) ∨ ∃ kvs, H p = some (.dT kvs))) ∨ (T = "set" ∧ ∃ S n, H p = some (.set S n))
  | _ => False
theorem tyV_is {pins : List (Addr × Obj)} {σ : St} {H : Hp} {s : Shared} {T : String} {x : V} {v : Value} (I : Inv X pins σ H s) (r : RelV x v) (ty : tyV X.K T x H) :
    s.TypeIs v T ∧ ∀ a, v = .ref a → ∃ ob, s.heap.get? a = some ob ∧ ob.dict = none := by
  cases x with
  | str z =>
    obtain ⟨t, rfl⟩ := r
    cases (show T = "str" from ty)
    exact ⟨typeIs_str s z t, fun _ e => nomatch e⟩
  | int i =>
    obtain ⟨t, rfl⟩ := r
    cases (show T = "int" from ty)
    exact ⟨typeIs_int s i t, fun _ e => nomatch e⟩
  | ref p =>
    cases r
    rcases ty with ⟨rfl, xs, hq⟩ | ⟨rfl, o, hk, hc, hd⟩ | ⟨rfl, hk⟩ | ⟨rfl, S, n, hk⟩
    · obtain ⟨its, _, pl, _⟩ := I.list hq
      refine ⟨pl.isList.typeIs, fun a e => ?_⟩
      cases e
      obtain ⟨o, n, e, c, hd, _⟩ := pl
      exact ⟨o, e, hd⟩
    · refine ⟨⟨o, I.kIn p o hk, hc⟩, fun a e => ?_⟩
      cases e
      exact ⟨o, I.kIn _ o hk, hd⟩
    · have z : ∃ o, s.heap.get? p = some o ∧ o.ExactDict := by
        rcases hk with ⟨kvs, hk⟩ | ⟨kvs, hk⟩
        · obtain ⟨_, _, _, _, o, _, _, e, ex, _⟩ := I.hok p _ hk
          exact ⟨o, e, ex⟩
        · obtain ⟨_, _, _, _, o, _, _, e, ex, _⟩ := I.hok p _ hk
          exact ⟨o, e, ex⟩
      obtain ⟨o, e, ex⟩ := z
      refine ⟨⟨o, e, ex.1⟩, fun a e2 => ?_⟩
      cases e2
      exact ⟨o, e, ex.2.1⟩
    · obtain ⟨o, _, _, _, e, ex, _⟩ := I.hok p _ hk
      refine ⟨⟨o, e, ex.1⟩, fun a e2 => ?_⟩
      cases e2
      exact ⟨o, e, ex.2.1⟩
  | _ => exact False.elim ty
def tBM0 (K : PySem.W.Frag) (T : String) (r : V → List V → Hp → VK → Prop) (to : TE) : TE := fun σ H Q => to σ H fun x H1 => tyV K T x H1 ∧ r x [] H1 Q
def tBM (K : PySem.W.Frag) (T : String) (r : V → List V → Hp → VK → Prop) (to : TE) (t : TA) : TE := fun σ H Q => to σ H fun x H1 => tyV K T x H1 ∧ t σ H1 fun xs H2 => r x xs H2 Q
variable {o e : Expr} {es : List Expr} {to : TE} {t : TA} {name : Str} {apos cpos : Pos} {T id : String} {r : V → List V → Hp → VK → Prop}
theorem pe_bm0 (pa : PlainAttrs T) (slot : Slot T name id) (hty : typeOf (.builtin id) = pure (.type "method_descriptor")) (hm : MtR X id r) (ho : PE X o to)
    (hbase : attributeBase o name X.env (eval o X.env) = eval o X.env := by rfl) (hline : (apos.endLine == cpos.line) = true := by rfl) : PE X (.Call (.Attribute o name apos) [] [] cpos) (tBM0 X.K T r to) := by
  intro pins s σ H Q I h
  refine wpAny_Call_method0_late hbase hline (thn (ho pins s σ H _ I h) fun v s1 ⟨x, H1, I1, r1, ty, q1⟩ => ?_)
  obtain ⟨h1, h2⟩ := tyV_is I1 r1 ty
  exact ⟨T, id, pa, slot, hty, h1, h2, Calls.callWith_builtin rfl (PySem.evalArgs_none (hm pins s1 σ H1 x [] v [] Q I1 r1 .nil q1))⟩
theorem pe_bm (pa : PlainAttrs T) (slot : Slot T name id) (hty : typeOf (.builtin id) = pure (.type "method_descriptor")) (hm : MtR X id r) (ho : PE X o to) (ha : PA X (e :: es) t)
    (hbase : attributeBase o name X.env (eval o X.env) = eval o X.env := by rfl)
    (hfew : ((backTo cpos (starEach (e :: es) X.env)).all (fun x => !x.1) && (backToKw cpos (keywordEach [] X.env)).all (fun x => x.1.isSome)
      && decide ((e :: es).length + ([] : List Keyword).length + (if ([] : List Keyword).isEmpty then 0 else 1) < 30)) = true := by rfl)
    (hline : (apos.endLine == cpos.line) = true := by rfl) (hs : starEach (e :: es) X.env = (false, eval e X.env) :: starEach es X.env := by rfl) (hplain : (backTo cpos (starEach es X.env)).any (·.1) = false := by rfl) :
    PE X (.Call (.Attribute o name apos) (e :: es) [] cpos) (tBM X.K T r to t) := by
  intro pins s σ H Q I h
  refine wpAny_Call_method_late hbase hfew hline rfl (thn (ho pins s σ H _ I h) fun v s1 ⟨x, H1, I1, r1, ty, q1⟩ => ?_)
  obtain ⟨h1, h2⟩ := tyV_is I1 r1 ty
  refine ⟨T, id, pa, slot, hty, h1, h2, ?_⟩
  have hA := ha cpos pins s1 σ H1 _ I1 q1
  rw [hs] at hA ⊢
  refine Calls.callWith_builtin (by show (false || (backTo cpos (starEach es X.env)).any (·.1)) = false; rw [hplain] <;> rfl) (Calls.evalArgs_plain ?_)
  exact thn hA fun us s2 ⟨vs, H2, I2, r2, q2⟩ => hm pins s2 σ H2 x vs v us Q I2 r1 r2 q2
/- xs.append(e), list.index on a module's tuple .. are MtR facts of 06m -/
end
end L2

namespace L2
open PySem PySem.Spec PyProof.Rows

def MtM (X : Cx) (id : String) (r : V → List V → Hp → VK → Prop) : Prop :=
  ∀ (pins : List (Addr × Obj)) (s : Shared) (σ : St) (H : Hp) (x : V) (xs : List V) (v : Value) (us : List Value) (Q : VK), Inv X pins σ H s → RelV x v → Vals xs us → r x xs H Q →
    wpAny (model X.prog X.w) X.A (call (.builtin id) (v :: us)) (EP X pins σ Q) X.xe s

/-! ### lists of values -/
theorem Vals.one : ∀ {x : V} {us : List Value}, Vals [x] us → ∃ u, us = [u] ∧ RelV x u
  | _, _, .cons r .nil => ⟨_, rfl, r⟩
theorem Vals.two : ∀ {x y : V} {us : List Value}, Vals [x, y] us → ∃ u v, us = [u, v] ∧ RelV x u ∧ RelV y v
  | _, _, _, .cons r (.cons q .nil) => ⟨_, _, rfl, r, q⟩
theorem Vals.zero : ∀ {us : List Value}, Vals [] us → us = []
  | _, .nil => rfl
theorem Vals.dropLast {xs : List V} {us : List Value} (h : Vals xs us) : Vals xs.dropLast us.dropLast := by
  induction h with
  | nil => exact .nil
  | cons r t ih =>
    cases t with
    | nil => exact .nil
    | cons q t' => exact .cons r ih
theorem Vals.reverse {xs : List V} {us : List Value} (h : Vals xs us) : Vals xs.reverse us.reverse := by
  induction h with
  | nil => exact .nil
  | cons r t ih => rw [List.reverse_cons, List.reverse_cons]; exact Vals.append ih (.cons r .nil)
section
variable {X : Cx} {pins : List (Addr × Obj)} {σ : St} {H : Hp} {s : Shared} {l b : Addr} {xs ys zs : List V}

/-! ### the two steps: a tracked list is rewritten, a new list is laid -/
theorem Inv.lset {its its' : List Value} {n : Nat} {f : Array Value → Array Value} {t' : Nat} (I : Inv X pins σ H s) (hH : H l = some (.lst xs))
    (e : s.heap.get? l = some { cls := .type "list", data := .seq its.toArray n }) (hf : f its.toArray = its'.toArray) (hv : Vals ys its') (hz : ys.length ≤ sizeLine) :
    Inv X pins σ (upd H l (.lst ys)) { s with heap := s.heap.update l (Obj.mapSeq f), toks := t' } := by
  have q := PySem.IsL.update e f
  rw [hf] at q
  refine I.write (x := l) (e := l) (by rw [hH]; exact trivial) (.inl rfl) (fun b' u hb hu => (Heap.get?_update_other s.heap (Obj.mapSeq f) (Ne.symm hb)).trans hu) ⟨_, q⟩ ?_
  exact ⟨hz, its', _, hv, q⟩
theorem Inv.lnew {its : List Value} {t' : Nat} (I : Inv X pins σ H s) (hv : Vals ys its) (hz : ys.length ≤ sizeLine) :
    Inv X pins σ (upd H s.heap.objs.size (.lst ys)) { s with heap := s.heap.push { cls := .type "list", data := .seq its.toArray }, toks := t' } :=
  I.laid (fun _ _ q => Heap.get?_push_of_some _ q) (Nat.le_refl _) ⟨hz, its, 0, hv, Heap.get?_push_size _ rfl⟩
theorem Inv.fresh (I : Inv X pins σ H s) : H s.heap.objs.size = none := I.hok.fresh (Nat.le_refl _)
theorem Inv.lstM (I : Inv X pins σ H s) (hH : H l = some (.lst xs)) : xs.length ≤ sizeLine ∧ ∃ (its : List Value) (n : Nat), Vals xs its ∧ xs.length = its.length ∧ s.heap.get? l = some { cls := .type "list", data := .seq its.toArray n } := by
  obtain ⟨z, its, n, r, e⟩ := I.hok l _ hH
  exact ⟨z, its, n, r, r.length, e⟩

end

section
variable {X : Cx}

/-! ### methods -/
def rAppend : V → List V → Hp → VK → Prop := fun x vs H Q => ∃ l xs y, x = .ref l ∧ vs = [y] ∧ H l = some (.lst xs) ∧ xs.length < sizeLine ∧ Q .non (upd H l (.lst (xs ++ [y])))
theorem mt_append : MtM X "list.append" rAppend := by
  intro pins s σ H x vs v us Q I rx rv h
  obtain ⟨l, xs, y, rfl, rfl, hH, hz, q⟩ := h
  cases rx
  obtain ⟨u, rfl, ru⟩ := rv.one
  obtain ⟨z, its, n, r, hl, e⟩ := I.lstM hH
  refine call_meets F.slot_list_append ⟨_, e, rfl⟩ F.entry_list_append (F.args_list_append_2 _ _) (PySem.list_append l its.toArray n u (by rw [List.size_toArray]; omega)) ⟨e, ?_⟩
  refine ⟨.non, _, I.lset (its' := its ++ [u]) hH e (by simp) (r.append (.cons ru .nil)) ?_, rfl, q⟩
  rw [List.length_append, List.length_singleton]
  omega

/-! ### list + list, list += list, list * int -/
def rCat : R2 := fun x y H Q => ∃ l b xs zs, x = .ref l ∧ y = .ref b ∧ H l = some (.lst xs) ∧ H b = some (.lst zs) ∧ xs.length + zs.length ≤ sizeLine ∧ ∀ p, H p = none → Q (.ref p) (upd H p (.lst (xs ++ zs)))
theorem op_cat : OpR X (binaryOp .Add) rCat := by
  intro pins s σ H x y v u Q I rx ry h
  obtain ⟨l, b, xs, zs, rfl, rfl, hH, hB, hz, q⟩ := h
  cases rx
  cases ry
  obtain ⟨z, its, n, r, hl, e⟩ := I.lstM hH
  obtain ⟨z2, its2, n2, r2, hl2, e2⟩ := I.lstM hB
  refine PySem.P.add_list e e2 ?_ (by rw [List.size_toArray, List.size_toArray]; omega)
  have ea : its.toArray ++ its2.toArray = (its ++ its2).toArray := by simp
  rw [ea]
  exact ⟨.ref _, _, I.lnew (t' := s.toks) (r.append r2) (by rw [List.length_append]; omega), rfl, q _ I.fresh⟩
end

/-! ### xs[a:b] = ys -/
section
variable {prog : Program} {w : World} {A : Around} {E : Value → Shared → Prop} {s : Shared}
end

section
variable {X : Cx}
end
end L2

namespace L2
open PySem PySem.Spec PyProof.Rows

theorem Vals.ints : ∀ {ns : List Int} {us : List Value}, Vals (ns.map V.int) us → IntsAre us ns
  | [], us, h => by
    rw [List.map_nil] at h
    cases h
    exact IntsAre.nil
  | n :: ns, us, h => by
    rw [List.map_cons] at h
    cases h with
    | cons r t =>
      obtain ⟨k, rfl⟩ := r
      exact IntsAre.cons n k (Vals.ints t)
theorem Vals.strs : ∀ {xs : List Str} {us : List Value}, Vals (xs.map V.str) us → StrsAre us xs
  | [], us, h => by
    rw [List.map_nil] at h
    cases h
    exact StrsAre.nil
  | x :: xs, us, h => by
    rw [List.map_cons] at h
    cases h with
    | cons r t =>
      obtain ⟨k, rfl⟩ := r
      exact StrsAre.cons x k (Vals.strs t)
theorem Vals.ref1 {a : Addr} {us : List Value} (r : Vals [V.ref a] us) : us = [Value.ref a] := by
  cases r with
  | cons r t =>
    cases t
    cases r
    rfl
/-! ### the library's walks over a list of ints, kept objects alone -/
section
variable {prog : Program} {w : World} {A : Around} {E : Value → Shared → Prop} {s : Shared} {l : Addr} {its : List Value} {ns : List Int} {Q : Value → Shared → Prop}
end

/-! ### the calls, by values (CallR of 03t; MtR of 06l) -/
section
variable {X : Cx}
theorem small64 {n : Nat} (h : n < 64) : n ≤ sizeLine := by rw [sizeLine_eq]; omega
end

/-! ### list.index, flat items -/
section
variable {X : Cx}
end

/-! ### type(x) of an own instance; is, is not of a module's class -/
section
variable {X : Cx}
end

section
variable {X : Cx}
end

/-! ### == and != of data at any depth: none, bools, ints, texts, lists, tuples -/
mutual
inductive Dp (K : PySem.W.Frag) (H : Hp) : V → PyData → Prop
  | non : Dp K H .non .none
  | bl (b : Bool) : Dp K H (.bl b) (.bool b)
  | int (i : Int) : Dp K H (.int i) (.int i)
  | str (x : Str) : Dp K H (.str x) (.str x)
  | lst {a : Addr} {xs : List V} {ds : List PyData} : SqL K H a xs → DpAll K H xs ds → Dp K H (.ref a) (.list ds)
  | tup {a : Addr} {xs : List V} {ds : List PyData} : SqT K H a xs → DpAll K H xs ds → Dp K H (.ref a) (.tuple ds)
inductive DpAll (K : PySem.W.Frag) (H : Hp) : List V → List PyData → Prop
  | nil : DpAll K H [] []
  | cons {v : V} {vs : List V} {d : PyData} {ds : List PyData} : Dp K H v d → DpAll K H vs ds → DpAll K H (v :: vs) (d :: ds)
end
section
variable {X : Cx} {pins : List (Addr × Obj)} {σ : St} {H : Hp} {s : Shared}
mutual
theorem Dp.reads (I : Inv X pins σ H s) : ∀ (d : PyData) (v : V) (u : Value), Dp X.K H v d → RelV v u → ∃ as, Reads s.heap u d as
  | .none, _, _, h, r => by
    cases h
    cases r
    exact ⟨_, Reads.none⟩
  | .bool b, _, _, h, r => by
    cases h
    cases r
    exact ⟨_, Reads.bool b⟩
  | .int i, _, _, h, r => by
    cases h
    obtain ⟨t, rfl⟩ := r
    exact ⟨_, Reads.int i t⟩
  | .str x, _, _, h, r => by
    cases h
    obtain ⟨t, rfl⟩ := r
    exact ⟨_, Reads.str x t⟩
  | .list ds, _, _, h, r => by
    cases h with
    | lst hs ha =>
      cases r
      obtain ⟨its, rv, ⟨o, n, ho, hc, _, hd⟩, _⟩ := I.list hs
      obtain ⟨as, hr⟩ := Dp.readsAll I ds _ its ha rv
      exact ⟨_, Reads.list ho hc hd hr⟩
  | .tuple ds, _, _, h, r => by
    cases h with
    | tup hs ha =>
      cases r
      obtain ⟨its, rv, ⟨o, ho, hc, n, hd⟩, _⟩ := I.tuple hs
      obtain ⟨as, hr⟩ := Dp.readsAll I ds _ its ha rv
      exact ⟨_, Reads.tuple ho hc hd hr⟩
  | .dict _, _, _, h, _ => by cases h
theorem Dp.readsAll (I : Inv X pins σ H s) : ∀ (ds : List PyData) (vs : List V) (us : List Value), DpAll X.K H vs ds → Vals vs us → ∃ as, ReadsAll s.heap us ds as
  | [], _, _, h, r => by
    cases h
    cases r
    exact ⟨_, ReadsAll.nil⟩
  | d :: ds, _, _, h, r => by
    cases h with
    | cons h1 h2 =>
      cases r with
      | cons r1 r2 =>
        obtain ⟨as, q1⟩ := Dp.reads I d _ _ h1 r1
        obtain ⟨bs, q2⟩ := Dp.readsAll I ds _ _ h2 r2
        exact ⟨_, ReadsAll.cons q1 q2⟩
end
end
section
variable {X : Cx}
def rNeD (K : PySem.W.Frag) : R2 := fun x y H Q => ∃ d e, Dp K H x d ∧ Dp K H y e ∧ SeqAt.shaped d = true ∧ SeqAt.shaped e = true ∧ Q (.bl (!PyData.eqv d e)) H
theorem op_neD (hu : X.A.units + 64 < cLine) : OpR X (compareOp .NotEq) (rNeD X.K) := by
  intro pins s σ H x y v u Q I rx ry h
  obtain ⟨d, e, hd, he, sd, se, q⟩ := h
  obtain ⟨as, r1⟩ := Dp.reads I d x v hd rx
  obtain ⟨bs, r2⟩ := Dp.reads I e y u he ry
  exact SeqAt.compareNe_shaped r1 r2 sd se hu ⟨.bl _, H, I, rfl, q⟩
end
end L2

namespace L2
open PySem PySem.Spec PyProof.Rows
abbrev CellAt (h : Heap) (c : Addr) (v : Option Value) : Prop := h.IsCell c v
def relS (scope sc : Scope) : Scope :=
  { scope with names := scope.names.map fun (n, k) => if (k == .free && sc.kind == .function && sc.names.lookup n == some .cell) then (n, .cell) else (n, k) }

def cloFrom (cells : List (Str × Addr)) : List (Str × NameKind) → List (Str × Addr) → List (Str × Addr)
  | [], acc => acc
  | (n, k) :: r, acc => if k == .free then cloFrom cells r ((n, (cells.lookup n).getD 0) :: acc) else cloFrom cells r acc

theorem closure_loop (env : Env) (f : Str × NameKind → List (Str × Addr) → Sem (ForInStep (List (Str × Addr))))
    (hf : ∀ n k c, f (n, k) c = if k == .free then (do let a ← cellOf env n; pure (.yield ((n, a) :: c))) else pure (.yield c)) :
    ∀ (names : List (Str × NameKind)) (acc : List (Str × Addr)), (∀ y ∈ names, y.2 = .free → ∃ c, env.cells.lookup y.1 = some c) → forIn names acc f = pure (cloFrom env.cells names acc)
  | [], acc, _ => by rw [List.forIn_nil]; rfl
  | (n, k) :: r, acc, h => by
    rw [List.forIn_cons, hf]
    have ih := fun acc => closure_loop env f hf r acc fun y hy => h y (List.mem_cons_of_mem _ hy)
    unfold cloFrom
    by_cases hk : (k == NameKind.free) = true
    · rw [if_pos hk, if_pos hk]
      obtain ⟨c, hc⟩ := h (n, k) List.mem_cons_self (by simpa using hk)
      have e : cellOf env n = pure c := by unfold cellOf; rw [hc]
      rw [e]
      have e2 : (env.cells.lookup n).getD 0 = c := by rw [hc]; rfl
      rw [e2]
      exact ih _
    · rw [if_neg hk, if_neg hk]
      exact ih _
theorem closure_ok {scope : Scope} {env : Env} (h : ∀ y ∈ scope.names, y.2 = .free → ∃ c, env.cells.lookup y.1 = some c) : closureFor scope env = pure (cloFrom env.cells scope.names []) := by
  simp only [closureFor]
  rw [closure_loop env _ (fun n k c => rfl) scope.names [] h]
  rfl

theorem mem_lookup {α : Type} : ∀ {l : List (Str × α)} {n : Str} {c : α}, (n, c) ∈ l → ∃ c', l.lookup n = some c'
  | (k, v) :: r, n, c, h => by
    rw [List.lookup_cons]
    cases hb : n == k with
    | true => exact ⟨_, rfl⟩
    | false =>
      rcases List.mem_cons.mp h with e | h
      · cases e; simp at hb
      · exact mem_lookup h

theorem cloFrom_mem {cells : List (Str × Addr)} : ∀ {names : List (Str × NameKind)} {acc : List (Str × Addr)} {n : Str} {c : Addr}, (n, c) ∈ cloFrom cells names acc → (n, c) ∈ acc ∨ ((n, .free) ∈ names ∧ c = (cells.lookup n).getD 0)
  | [], _, _, _, h => .inl h
  | (m, k) :: r, acc, n, c, h => by
    unfold cloFrom at h
    split at h
    · rename_i hk
      have hk : k = .free := by simpa using hk
      rcases cloFrom_mem h with h | ⟨h1, h2⟩
      · rcases List.mem_cons.mp h with e | h
        · cases e; exact .inr ⟨hk ▸ List.mem_cons_self, rfl⟩
        · exact .inl h
      · exact .inr ⟨List.mem_cons_of_mem _ h1, h2⟩
    · rcases cloFrom_mem h with h | ⟨h1, h2⟩
      · exact .inl h
      · exact .inr ⟨List.mem_cons_of_mem _ h1, h2⟩
theorem cloFrom_acc {cells : List (Str × Addr)} : ∀ {names : List (Str × NameKind)} {acc : List (Str × Addr)} {p : Str × Addr}, p ∈ acc → p ∈ cloFrom cells names acc
  | [], _, _, h => h
  | (m, k) :: r, acc, p, h => by
    unfold cloFrom
    split
    · exact cloFrom_acc (List.mem_cons_of_mem _ h)
    · exact cloFrom_acc h
theorem cloFrom_has {cells : List (Str × Addr)} : ∀ {names : List (Str × NameKind)} {acc : List (Str × Addr)} {n : Str}, (n, .free) ∈ names → (n, (cells.lookup n).getD 0) ∈ cloFrom cells names acc
  | (m, k) :: r, acc, n, h => by
    unfold cloFrom
    rcases List.mem_cons.mp h with e | h
    · cases e
      exact cloFrom_acc List.mem_cons_self
    · split
      · exact cloFrom_has h
      · exact cloFrom_has h

theorem cells_mem : ∀ {names : List (Str × NameKind)} {h : Heap} {acc : List (Str × Addr)} {x : Str} {c : Addr}, (x, c) ∈ cellsFrom h.objs.size names acc →
    (x, c) ∈ acc ∨ ((x, .cell) ∈ names ∧ h.objs.size ≤ c ∧ CellAt (pushCells h names) c none)
  | [], _, _, _, _, h => .inl h
  | (n, k) :: r, h, acc, x, c, hm => by
    unfold cellsFrom at hm
    unfold pushCells
    split at hm
    · rename_i hk
      rw [if_pos hk]
      have hk : k = .cell := by simpa using hk
      rw [← Heap.size_push h { cls := .type "cell", data := .cell none }] at hm
      rcases cells_mem hm with hm | ⟨h1, h2, h3⟩
      · rcases List.mem_cons.mp hm with e | hm
        · cases e
          exact .inr ⟨hk ▸ List.mem_cons_self, Nat.le_refl _, _, pushCells_keeps r _ _ _ (Heap.get?_push_size _ rfl), rfl⟩
        · exact .inl hm
      · rw [Heap.size_push] at h2
        exact .inr ⟨List.mem_cons_of_mem _ h1, Nat.le_of_succ_le h2, h3⟩
    · rename_i hk
      rw [if_neg hk]
      rcases cells_mem hm with hm | ⟨h1, h2, h3⟩
      · exact .inl hm
      · exact .inr ⟨List.mem_cons_of_mem _ h1, h2, h3⟩
theorem cells_acc : ∀ {names : List (Str × NameKind)} {n : Nat} {acc : List (Str × Addr)} {p : Str × Addr}, p ∈ acc → p ∈ cellsFrom n names acc
  | [], _, _, _, h => h
  | (m, k) :: r, n, acc, p, h => by
    unfold cellsFrom
    split
    · exact cells_acc (List.mem_cons_of_mem _ h)
    · exact cells_acc h
theorem cells_has : ∀ {names : List (Str × NameKind)} {n : Nat} {acc : List (Str × Addr)} {x : Str}, (x, .cell) ∈ names → ∃ c, (x, c) ∈ cellsFrom n names acc
  | (m, k) :: r, n, acc, x, h => by
    unfold cellsFrom
    rcases List.mem_cons.mp h with e | h
    · cases e
      exact ⟨n, cells_acc List.mem_cons_self⟩
    · split
      · exact cells_has h
      · exact cells_has h
theorem cells_inj : ∀ {names : List (Str × NameKind)} {h : Heap} {acc : List (Str × Addr)} {x y : Str} {c : Addr}, (∀ p ∈ acc, p.2 < h.objs.size) → (∀ x y c, (x, c) ∈ acc → (y, c) ∈ acc → x = y) →
    (x, c) ∈ cellsFrom h.objs.size names acc → (y, c) ∈ cellsFrom h.objs.size names acc → x = y
  | [], _, _, _, _, _, _, hi, h1, h2 => hi _ _ _ h1 h2
  | (n, k) :: r, h, acc, x, y, c, hl, hi, h1, h2 => by
    unfold cellsFrom at h1 h2
    split at h1
    · rename_i hk
      rw [if_pos hk] at h2
      rw [← Heap.size_push h { cls := .type "cell", data := .cell none }] at h1 h2
      refine cells_inj (h := h.push _) (fun p hp => ?_) (fun x y c a b => ?_) h1 h2
      · rw [Heap.size_push]
        rcases List.mem_cons.mp hp with rfl | hp
        · exact Nat.lt_succ_self _
        · exact Nat.lt_succ_of_lt (hl p hp)
      · rcases List.mem_cons.mp a with e | a <;> rcases List.mem_cons.mp b with e' | b
        · cases e; cases e'; rfl
        · cases e; exact absurd (hl _ b) (Nat.lt_irrefl _)
        · cases e'; exact absurd (hl _ a) (Nat.lt_irrefl _)
        · exact hi _ _ _ a b
    · rename_i hk
      rw [if_neg hk] at h2
      exact cells_inj hl hi h1 h2

theorem newEnv_comp {M : Model} {A : Around} {E : Value → Shared → Prop} {s : Shared} {scope : Scope} {globals : Addr} {closure : List (Str × Addr)} {qual : Str} {func : Option Addr} {code : Value} {around : Env} {builtins : Addr} {Q : Env → Shared → Prop}
    (h : Q (newEnv scope s.heap.objs.size globals (cellsFrom (s.heap.objs.size + 1) scope.names closure) qual func code (some around) builtins)
      { s with heap := pushCells (s.heap.push { cls := .type "dict", data := .dict #[] }) scope.names }) :
    wpAny M A (newFunctionEnv scope globals closure [] qual func code (some around) builtins) Q E s := by
  simp only [newFunctionEnv, Option.isSome_some, if_true]
  refine wpAny_bind (wpAny_alloc ?_)
  refine wpAny_bind (wpAny_layCells _ (fun n k c => rfl) scope.names closure _ _ ?_)
  rw [show ({ s with heap := s.heap.push { cls := .type "dict", data := .dict #[] } } : Shared).heap.objs.size = s.heap.objs.size + 1 from Heap.size_push ..]
  rw [List.forIn_nil]
  exact wpAny_bind (wpAny_pure (wpAny_pure h))

/-- every name of the written scope, in the scope that runs -/
theorem lookup_relS {sc : Scope} : ∀ {names : List (Str × NameKind)} {x : Str} {k : NameKind},
    (names.map fun (n, k) => if (k == NameKind.free && sc.kind == .function && sc.names.lookup n == some .cell) then (n, NameKind.cell) else (n, k)).lookup x = some k →
    ∃ k', names.lookup x = some k' ∧ (k = k' ∨ (k' = .free ∧ k = .cell))
  | [], _, _, h => by simp at h
  | (n, k₀) :: r, x, k, h => by
    have ih := @lookup_relS sc r x k
    have h' : List.lookup x ((if (k₀ == NameKind.free && sc.kind == .function && sc.names.lookup n == some .cell) = true then (n, NameKind.cell) else (n, k₀)) :: (r.map _)) = some k := h
    cases hx : x == n with
    | true =>
      simp only [List.lookup_cons, hx]
      by_cases hc : (k₀ == NameKind.free && sc.kind == .function && sc.names.lookup n == some .cell) = true
      · rw [if_pos hc] at h'
        simp only [List.lookup_cons, hx] at h'
        cases h'
        simp only [Bool.and_eq_true, beq_iff_eq] at hc
        exact ⟨k₀, rfl, .inr ⟨hc.1.1, rfl⟩⟩
      · rw [if_neg hc] at h'
        simp only [List.lookup_cons, hx] at h'
        cases h'
        exact ⟨_, rfl, .inl rfl⟩
    | false =>
      simp only [List.lookup_cons, hx]
      by_cases hc : (k₀ == NameKind.free && sc.kind == .function && sc.names.lookup n == some .cell) = true
      · rw [if_pos hc] at h'
        simp only [List.lookup_cons, hx] at h'
        exact ih h'
      · rw [if_neg hc] at h'
        simp only [List.lookup_cons, hx] at h'
        exact ih h'
/-- the names of a comprehension's block: its own (with their places in N), or captured -/
structure BlkOk (N : List Str) (sc scope : Scope) (own : List (Str × Nat)) : Prop where
  kind : scope.kind = .function
  uniq : ∀ y ∈ scope.names, scope.names.lookup y.1 = some y.2
  ix : ∀ p ∈ own, N[p.2]? = some p.1
  free : ∀ y ∈ scope.names, y.2 = .free → sc.names.lookup y.1 = some .cell ∨ sc.names.lookup y.1 = some .free
  own : ∀ y ∈ scope.names, y.2 = .local ∨ y.2 = .cell → y.1 ∈ own.map (·.1) ∨ y.1 ∉ N
/-- the slots of the block's own names forgotten -/
def wipe (σ : St) : List Nat → St
  | [] => σ
  | v :: vs => (wipe σ vs).set v none
theorem wipe_length (σ : St) : ∀ vs : List Nat, (wipe σ vs).length = σ.length
  | [] => rfl
  | v :: vs => by unfold wipe; rw [List.length_set, wipe_length σ vs]
theorem wipe_some {σ : St} {i : Nat} {x : V} : ∀ {vs : List Nat}, (wipe σ vs)[i]? = some (some x) → σ[i]? = some (some x) ∧ i ∉ vs
  | [], h => ⟨h, by simp⟩
  | v :: vs, h => by
    unfold wipe at h
    by_cases hi : v = i
    · subst hi
      by_cases hv : v < (wipe σ vs).length
      · rw [List.getElem?_set_self hv] at h; cases h
      · rw [List.getElem?_eq_none (by simpa using hv)] at h; cases h
    · rw [List.getElem?_set_ne hi] at h
      obtain ⟨h1, h2⟩ := wipe_some h
      exact ⟨h1, by simp only [List.mem_cons, not_or]; exact ⟨fun e => hi e.symm, h2⟩⟩

/-- the context of a block that starts at s, its iterator's objects at fp -/
abbrev Cx.blk (X : Cx) (s : Shared) (H : Hp) (scope : Scope) (cenv : Env) (fp : List Addr) : Cx := { X with s_0 := s, H_0 := H, env := cenv, outer := X.stack, ex := fp, fn := fun x => scope.names.lookup x == some .cell, pn := [], xe := fun _ _ => False }
section
variable {X : Cx} {pins : List (Addr × Obj)} {σ : St} {H : Hp} {s : Shared}
theorem block_start {scope : Scope} {own : List (Str × Nat)} {fp : List Addr} (I : Inv X pins σ H s) (ok : BlkOk X.N X.env.scope scope own) (hN : X.N.Nodup) (hfp : ∀ b ∈ fp, FpOk X pins H b ∧ b < s.heap.objs.size) :
    Inv (X.blk s H scope (compEnvC scope (cellsFrom (s.heap.objs.size + 1) scope.names (cloFrom X.env.cells scope.names [])) s.heap.objs.size X.env) fp) [] (wipe σ (own.map (·.2))) H { s with heap := pushCells (s.heap.push { cls := .type "dict", data := .dict #[] }) scope.names } := by
  have hfree : ∀ y ∈ scope.names, y.2 = .free → ∃ c, X.env.cells.lookup y.1 = some c := fun y hy e => by
    rcases ok.free y hy e with k | k
    · exact I.ok.has _ (.inl k)
    · exact I.ok.has _ (.inr k)
  generalize hcenv : compEnvC scope (cellsFrom (s.heap.objs.size + 1) scope.names (cloFrom X.env.cells scope.names [])) s.heap.objs.size X.env = cenv
  have kp : ∀ b o, s.heap.get? b = some o → (pushCells (s.heap.push { cls := .type "dict", data := .dict #[] }) scope.names).get? b = some o := fun b o e => pushCells_keeps _ _ _ _ (Heap.get?_push_of_some _ e)
  have hL : cenv.locals = s.heap.objs.size := by rw [← hcenv]; rfl
  have hcl : cenv.cells = cellsFrom (s.heap.objs.size + 1) scope.names (cloFrom X.env.cells scope.names []) := by rw [← hcenv]; rfl
  have hsc : cenv.scope = relS scope X.env.scope := by rw [← hcenv]; rfl
  rw [← Heap.size_push s.heap { cls := .type "dict", data := .dict #[] }] at hcl
  have cm : ∀ {y c}, (y, c) ∈ cloFrom X.env.cells scope.names [] → X.env.cells.lookup y = some c ∧ c < s.heap.objs.size := fun {y c} hm => by
    rcases cloFrom_mem hm with hm | ⟨h1, rfl⟩
    · cases hm
    · obtain ⟨c, hc⟩ := hfree _ h1 rfl
      rw [hc]
      obtain ⟨w, z⟩ := I.cell _ _ hc
      exact ⟨rfl, z.lt⟩
  have mem : ∀ {y c}, cenv.cells.lookup y = some c → (X.env.cells.lookup y = some c ∧ c < s.heap.objs.size) ∨ (s.heap.objs.size + 1 ≤ c ∧ CellAt (pushCells (s.heap.push { cls := .type "dict", data := .dict #[] }) scope.names) c none) := fun {y c} e => by
    rw [hcl] at e
    rcases cells_mem (PySem.mem_of_lookup e) with hm | ⟨_, h2, h3⟩
    · exact .inl (cm hm)
    · rw [Heap.size_push] at h2; exact .inr ⟨h2, h3⟩
  have look : ∀ {y}, scope.names.lookup y = some .free → ∃ c, cenv.cells.lookup y = some c ∧ X.env.cells.lookup y = some c := fun {y} hl => by
    have hy : (y, NameKind.free) ∈ scope.names := PySem.mem_of_lookup hl
    obtain ⟨c', e'⟩ := mem_lookup (cells_acc (names := scope.names) (n := (s.heap.push { cls := .type "dict", data := .dict #[] }).objs.size) (cloFrom_has (cells := X.env.cells) (acc := []) hy))
    rw [← hcl] at e'
    refine ⟨c', e', ?_⟩
    rw [hcl] at e'
    rcases cells_mem (PySem.mem_of_lookup e') with hm | ⟨h1, _, _⟩
    · exact (cm hm).1
    · have := ok.uniq _ h1
      rw [hl] at this; cases this
  have okB : (X.blk s H scope cenv fp).Ok := by
    refine ⟨I.ok.mod, by show cenv.scope.kind = _; rw [hsc]; exact ok.kind, by show cenv.globals = _; rw [← hcenv]; exact I.ok.glob, by show cenv.builtins = _; rw [← hcenv]; exact I.ok.blt, by show s.heap.objs.size ≤ cenv.locals; rw [hL]; exact Nat.le_refl _,
      fun y z c e1 e2 => ?_, fun y hy => ?_, fun y c z e => ?_, I.ok.hd, I.ok.frames, .inl rfl, fun b hb => ⟨?_, fun y c e z => ?_⟩, I.bs, Nat.le_trans I.ok.bsz I.sz, fun b o e hb => ?_, fun b hb z => ?_, I.stack, I.stkFree⟩
    · have e1 : cenv.cells.lookup y = some c := e1
      have e2 : cenv.cells.lookup z = some c := e2
      rw [hcl] at e1 e2
      refine cells_inj (fun p hp => ?_) (fun y z c a b => I.ok.inj y z c (cm a).1 (cm b).1) (PySem.mem_of_lookup e1) (PySem.mem_of_lookup e2)
      rw [Heap.size_push]
      exact Nat.lt_succ_of_lt (cm (y := p.1) (c := p.2) hp).2
    · show ∃ c, cenv.cells.lookup y = some c
      have key : ∀ k, cenv.kindOf y = some k → (k = .cell ∨ k = .free) → ∃ c, cenv.cells.lookup y = some c := fun k hk hk' => by
        unfold Env.kindOf at hk
        rw [hsc] at hk
        obtain ⟨k', e, r⟩ := lookup_relS hk
        have : k' = .cell ∨ k' = .free := by
          rcases r with rfl | ⟨rfl, _⟩
          · exact hk'
          · exact .inr rfl
        rcases this with rfl | rfl
        · obtain ⟨c, hm⟩ := cells_has (n := (s.heap.push { cls := .type "dict", data := .dict #[] }).objs.size) (acc := cloFrom X.env.cells scope.names []) (PySem.mem_of_lookup e)
          obtain ⟨c', e'⟩ := mem_lookup hm
          exact ⟨c', by rw [hcl]; exact e'⟩
        · obtain ⟨c, h1, _⟩ := look e
          exact ⟨c, h1⟩
      rcases hy with hy | hy
      · exact key _ hy (.inl rfl)
      · exact key _ hy (.inr rfl)
    · have z : (scope.names.lookup y == some NameKind.cell) = true := z
      have z : scope.names.lookup y = some .cell := by simpa using z
      have e : cenv.cells.lookup y = some c := e
      rw [hcl] at e
      rcases cells_mem (PySem.mem_of_lookup e) with hm | ⟨_, h2, _⟩
      · rcases cloFrom_mem hm with hm | ⟨h1, _⟩
        · cases hm
        · have q := ok.uniq _ h1
          rw [z] at q; cases q
      · rw [Heap.size_push] at h2
        exact Nat.le_of_succ_le h2
    · show b ≠ cenv.locals
      rw [hL]; exact Nat.ne_of_lt (hfp b hb).2
    · have e : cenv.cells.lookup y = some c := e
      rcases mem e with ⟨h1, _⟩ | ⟨h1, _⟩
      · exact (hfp b hb).1.2.2.2.2.1 y c h1 z
      · have h2 : s.heap.objs.size + 1 ≤ b := by rw [← z]; exact h1
        exact absurd (Nat.lt_of_lt_of_le (hfp b hb).2 (Nat.le_of_succ_le h2)) (Nat.lt_irrefl _)
    · rcases (hfp b hb).1.2.2.2.1 with z | z
      · exact I.ok.noex b o e z
      · exact absurd (Nat.lt_of_lt_of_le (Heap.lt_size e) (Nat.le_trans I.ok.bsz z)) (Nat.lt_irrefl _)
    · rcases List.mem_cons.mp (I.stkSub b z) with z | z
      · exact (hfp b hb).1.2.1 z
      · exact (hfp b hb).1.2.2.1 z
  refine ⟨okB, rfl, I.bare, Un.kept kp, ⟨fun _ => none, ?_, fun i y av e1 e2 e3 => ?_⟩, fun y c e => ?_, ?_, fun y c e => ?_, fun p hp => ?_, I.hok.kept kp, by rw [wipe_length]; exact I.len⟩
  · show Heap.Ns _ cenv.locals _
    rw [hL]
    exact Heap.Ns.keeps (Heap.Ns.new ..) fun b o e => pushCells_keeps _ _ _ _ e
  · obtain ⟨e2, hne⟩ := wipe_some e2
    have hfr : scope.names.lookup y = some .free ∧ (cenv.kindOf y = some .cell ∨ cenv.kindOf y = some .free) := by
      have key : ∀ k, cenv.scope.names.lookup y = some k → k = .local ∨ k = .cell ∨ k = .free → scope.names.lookup y = some .free ∧ (cenv.kindOf y = some .cell ∨ cenv.kindOf y = some .free) := fun k hk hk' => by
        have hk0 := hk
        rw [hsc] at hk
        obtain ⟨k', e, r⟩ := lookup_relS hk
        have no : ¬ (k' = .local ∨ k' = .cell) := fun hh => by
          rcases ok.own _ (PySem.mem_of_lookup e) hh with e' | e'
          · obtain ⟨p, hp, hpy⟩ := List.mem_map.mp e'
            have e3 := ok.ix p hp
            have : p.1 = y := hpy
            rw [this] at e3
            exact hne (List.mem_map.mpr ⟨p, hp, nodup_ix hN e3 e1⟩)
          · exact e' (List.mem_of_getElem? e1)
        rcases r with rfl | ⟨rfl, rfl⟩
        · rcases hk' with rfl | rfl | rfl
          · exact absurd (.inl rfl) no
          · exact absurd (.inr rfl) no
          · exact ⟨e, .inr hk0⟩
        · exact ⟨e, .inl hk0⟩
      have e3 : Vis cenv.scope y := e3
      rcases e3 with e3 | e3 | e3
      · exact key _ e3 (.inl rfl)
      · exact key _ e3 (.inr (.inl rfl))
      · exact key _ e3 (.inr (.inr rfl))
    obtain ⟨m, hn, hl⟩ := I.loc
    have hvis : Vis X.env.scope y := (ok.free _ (PySem.mem_of_lookup hfr.1) rfl).elim (fun k => .inr (.inl k)) (fun k => .inr (.inr k))
    obtain ⟨w, r, q⟩ := hl i y av e1 e2 hvis
    refine ⟨w, r, .inr ⟨hfr.2, ?_⟩⟩
    obtain ⟨c, h1, h2⟩ := look hfr.1
    rcases q with ⟨k, _⟩ | ⟨_, c', e', z⟩
    · have k : X.env.scope.names.lookup y = some .local := k
      rcases ok.free _ (PySem.mem_of_lookup hfr.1) rfl with k' | k' <;> rw [show X.env.scope.names.lookup y = _ from k'] at k <;> cases k
    · rw [h2] at e'; cases e'
      exact ⟨c, h1, z.keeps kp⟩
  · have e : cenv.cells.lookup y = some c := e
    rcases mem e with ⟨h1, _⟩ | ⟨_, z⟩
    · obtain ⟨w, z⟩ := I.cell y c h1
      exact ⟨w, z.keeps kp⟩
    · exact ⟨_, z⟩
  · show H cenv.locals = none
    rw [hL]; exact I.hok.fresh (Nat.le_refl _)
  · have e : cenv.cells.lookup y = some c := e
    rcases mem e with ⟨h1, _⟩ | ⟨h1, _⟩
    · exact I.freeC y c h1
    · exact I.hok.fresh (Nat.le_of_succ_le h1)
  · exact absurd (show p ∈ ([] : List (Addr × Obj)) ++ [] from hp) (by simp)

/-- an item appended to a tracked list -/
theorem app_ok {E : Value → Shared → Prop} {D : Addr} {xs : List V} {y : V} {v : Value} {Q : Value → Shared → Prop} (I : Inv X pins σ H s) (hD : H D = some (.lst xs)) (hz : xs.length < sizeLine) (r : RelV y v)
    (h : ∀ s', Inv X pins σ (upd H D (.lst (xs ++ [y]))) s' → Q .none s') : wpAny (model X.prog X.w) X.A (call (.builtin "list.append") [.ref D, v]) Q E s := by
  obtain ⟨hz', its, n, ri, e⟩ := I.hok D _ hD
  have hl := ri.length
  refine append_at (hsz := by rw [List.size_toArray]; omega) e fun h' sb ho' => ?_
  refine h { s with heap := h' } (I.write (t' := s.toks) (by rw [hD]; trivial) (.inl rfl) (fun b u hb q => (sb.2 b hb).trans q) ⟨_, ho'⟩ ⟨by rw [List.length_append]; exact hz, its ++ [v], n + 1, ri.append (.cons r .nil), ?_⟩)
  rw [ho']
  simp

/-- a clause's tests -/
def PTs (X : Cx) (ifs : List Expr) (t : TT) : Prop :=
  ∀ (pins : List (Addr × Obj)) (s : Shared) (σ : St) (H : Hp) (Q : Bool → Hp → Prop), Inv X pins σ H s → t σ H Q →
    wpAny (model X.prog X.w) X.A (forIn ifs true fun c r => if r = true then do let ok ← isTrue c X.env (eval c X.env); pure (ForInStep.yield ok) else pure (ForInStep.yield r)) (TP X pins σ Q) X.xe s
def tYes : TT := fun _ H Q => Q true H
theorem pts_nil : PTs X [] tYes := fun _ _ _ H _ I h => wpAny_tests_nil ⟨H, I, h⟩
theorem pts_one {c : Expr} {t : TT} (h : PT X c t) : PTs X [c] t := fun pins s σ H Q I hw => wpAny_tests_one (h pins s σ H Q I hw)
end

theorem thnF {α : Type} {t : Sem α} {Q Q' : α → Shared → Prop} {M : Model} {A : Around} {E : Value → Shared → Prop} {s : Shared} (h : wpAny M A t Q (fun _ _ => False) s) (hQ : ∀ a s, Q a s → Q' a s) : wpAny M A t Q' E s := wpAny_mono h hQ fun _ _ z => False.elim z

/-- the loop of a list comprehension's block, the target of any form (codeAny_compLoop_tests asks a target that no tuple goes to; statement and proof follow it, PyProof/CompMap.lean:41-61, with the step letOwnedTupleGo kept) -/
theorem compLoop_any {prog : Program} {w : World} {A : Around} {R : Result → Shared → Prop} {s : Shared} {elt target iter : Expr} {ifs : List Expr} {scope : Scope} {pos : Pos} {it acc : Value} {env : Env} (I : Nat → Shared → Prop)
    (turn : ∀ n s, I n s → wpAny (model prog w) A (pyNext it) (fun r s₁ => match r with
      | none => R (.ok .next) s₁
      | some v => wpAny (model prog w) A (letOwnedTupleGo target it v) (fun _ s₁' => wpAny (model prog w) A (assign target env v) (fun _ s₂ =>
          wpAny (model prog w) A (forIn ifs true fun c r => if r = true then do let ok ← isTrue c env (eval c env); pure (ForInStep.yield ok) else pure (ForInStep.yield r)) (fun ok s₃ =>
            if ok = true then wpAny (model prog w) A (eval elt env) (fun x s₄ =>
              wpAny (model prog w) A (call (.builtin "list.append") [acc, x]) (fun _ s₅ => ∃ m, m < n ∧ I m s₅) (notedBy (model prog w) A env fun e s' => R (.error e) s') s₄) (notedBy (model prog w) A env fun e s' => R (.error e) s') s₃
            else ∃ m, m < n ∧ I m s₃) (notedBy (model prog w) A env fun e s' => R (.error e) s') s₂) (notedBy (model prog w) A env fun e s' => R (.error e) s') s₁') (notedBy (model prog w) A env fun e s' => R (.error e) s') s₁) (notedBy (model prog w) A env fun e s' => R (.error e) s') s)
    (n : Nat) (h : I n s) :
    codeAny (model prog w) A (.compLoop (.ListComp elt [⟨target, iter, ifs, 0⟩] scope pos) 0 it acc env) R s := by
  refine codeAny_loop rfl I (fun n s hI => ?_) n h
  show wpAny _ A ((compTurn (.ListComp elt [⟨target, iter, ifs, 0⟩] scope pos) 0 it acc env).onRaise (fun x => do noteFrame x env; theTreesLotGoes x)) _ _ s
  refine wpAny_noted ?_
  rw [compTurn_list]
  refine wpAny_bind (wpAny_standAt (wpAny_bind (wpAny_mono (turn n s hI) (fun r s₁ h₁ => ?_) fun _ _ h' => h')))
  cases r with
  | none => exact wpAny_pure h₁
  | some v =>
    refine wpAny_bind (wpAny_mono h₁ (fun _ s₁' h₁' => ?_) fun _ _ h' => h')
    refine wpAny_bind (wpAny_mono h₁' (fun _ s₂ h₂ => wpAny_bind (wpAny_mono h₂ (fun ok s₃ h₃ => ?_) fun _ _ h' => h')) fun _ _ h' => h')
    cases ok with
    | false => exact wpAny_pure ⟨rfl, h₃⟩
    | true =>
      exact wpAny_bind (wpAny_bind (wpAny_mono h₃ (fun x s₄ h₄ => wpAny_bind (wpAny_mono h₄ (fun _ s₅ h₅ => wpAny_pure (wpAny_pure ⟨rfl, h₅⟩)) fun _ _ h' => h')) fun _ _ h' => h'))

section
variable {X : Cx}
/-- [elt for target in iter if ..]: D the new list; W by the turn and a measure, Nx what a turn is to reach -/
def tLc (wi : TI) (g : TG) (tt : TT) (te : TE) (vs : List Nat) : TE := fun σ H Q => wi σ H fun J H1 => ∀ D, H1 D = none → ∃ W : Nat → Nat → Hp → Prop, (∃ m, W 0 m (upd H1 D (.lst []))) ∧ ∀ i m H, W i m H →
  (J.stop i H ∧ Q (.ref D) H) ∨ (J.go i H ∧ ∃ Nx : Hp → Prop, (∀ H', Nx H' → ∃ m', m' < m ∧ W (i + 1) m' H') ∧ ∀ x H', J.yld i H x H' → g x (wipe σ vs) H' fun σ2 H2 => wipe σ2 vs = wipe σ vs ∧ tt σ2 H2 fun b H3 =>
    if b = true then te σ2 H3 fun y H4 => ∃ acc, H4 D = some (.lst acc) ∧ acc.length < sizeLine ∧ Nx (upd H4 D (.lst (acc ++ [y]))) else Nx H3)
theorem lc_core {pins : List (Addr × Obj)} {s : Shared} {σ : St} {H : Hp} {Q : VK} {elt tg iter : Expr} {ifs : List Expr} {scope : Scope} {own : List (Str × Nat)} {pos pos' : Pos} {wi : TI} {g : TG} {tt : TT} {te : TE} {use : Option (Value → Sem Unit)} {Qf : Value → Shared → Prop}
    (hc : X.calm = true) (hN : X.N.Nodup) (I : Inv X pins σ H s) (hi : PI X tg iter wi) (ok : BlkOk X.N X.env.scope scope own)
    (hg : ∀ (s : Shared) (H : Hp) (C : Addr) (cl : List (Str × Addr)) (fp : List Addr), PG (X.blk s H scope (compEnvC scope cl C X.env) fp) tg g) (ht : ∀ (s : Shared) (H : Hp) (C : Addr) (cl : List (Str × Addr)) (fp : List Addr), PTs (X.blk s H scope (compEnvC scope cl C X.env) fp) ifs tt)
    (he : ∀ (s : Shared) (H : Hp) (C : Addr) (cl : List (Str × Addr)) (fp : List Addr), PE (X.blk s H scope (compEnvC scope cl C X.env) fp) elt te) (hs : ∀ x, foldedSetIterable iter X.env x = pure x)
    (h : tLc wi g tt te (own.map (·.2)) σ H Q)
    (hRR : ∀ D C s' m H', Inv X pins σ H' s' → Q (.ref D) H' → s'.heap.Ns C m → FpOk X pins H' C → compPost (model X.prog X.w) X.A X.xe use Qf (.ref D) C (.ok .next) s') :
    wpAny (model X.prog X.w) X.A (comprehension (.ListComp elt [⟨tg, iter, ifs, 0⟩] scope pos) scope X.env pos' (newList []) false (eval iter X.env) use) Qf X.xe s := by
  have hfree : ∀ y ∈ scope.names, y.2 = .free → ∃ c, X.env.cells.lookup y.1 = some c := fun y hy e => by
    rcases ok.free y hy e with k | k
    · exact I.ok.has _ (.inl k)
    · exact I.ok.has _ (.inr k)
  refine wpAny_comprehension_free (use := use) rfl hs (closure_ok hfree) ok.kind (fun y hy e => by rw [ok.uniq y hy, e])
    (thn (hi pins s σ H _ I h) fun xv s1 hx => thn hx fun itv s2 h2 => ?_)
  obtain ⟨it, fp, tn, J, H2, e, I2, T, st2, f2, q⟩ := h2
  subst e
  refine wpAny_newObj_type (newEnv_comp ?_) (by show 0 ≤ sizeLine; decide)
  generalize hD : s2.heap.objs.size = D
  have hDn : H2 D = none := I2.hok.fresh (Nat.le_of_eq hD)
  obtain ⟨W, ⟨m0, w0⟩, turn⟩ := q D hDn
  -- the new list
  generalize hs3 : ({ s2 with heap := s2.heap.push { cls := .type "list", data := .seq ([] : List Value).toArray } } : Shared) = s3
  have I3 : Inv X pins σ (upd H2 D (.lst [])) s3 := by
    rw [← hs3]
    refine I2.laid (t' := s2.toks) (fun b o e => Heap.get?_push_of_some _ e) (Nat.le_of_eq hD) ⟨Nat.zero_le _, [], 0, .nil, ?_⟩
    rw [← hD]
    exact Heap.get?_push_size _ rfl
  have h3 : s3.heap = s2.heap.push { cls := .type "list", data := .seq ([] : List Value).toArray } := by rw [← hs3]
  have sz : ∀ b ∈ fp, b < s2.heap.objs.size := fun b hb => by
    obtain ⟨o, e, _⟩ := T.obj _ _ st2 b hb
    exact Heap.lt_size e
  have f3 : ∀ b ∈ fp, FpOk X pins (upd H2 D (.lst [])) b ∧ b < s3.heap.objs.size := fun b hb => by
    have hlt := sz b hb
    refine ⟨⟨?_, (f2 b hb).2⟩, by rw [h3, Heap.size_push]; exact Nat.lt_succ_of_lt hlt⟩
    rw [upd_ne (by rw [← hD]; exact Nat.ne_of_lt hlt)]
    exact (f2 b hb).1
  have st3 : tn 0 s3.heap := T.keep _ _ _ st2 fun b _ o e => by rw [h3]; exact Heap.get?_push_of_some _ e
  have I4 := block_start I3 ok hN f3
  have pg := hg s3 (upd H2 D (.lst [])) s3.heap.objs.size (cellsFrom (s3.heap.objs.size + 1) scope.names (cloFrom X.env.cells scope.names [])) fp
  have pt := ht s3 (upd H2 D (.lst [])) s3.heap.objs.size (cellsFrom (s3.heap.objs.size + 1) scope.names (cloFrom X.env.cells scope.names [])) fp
  have pe := he s3 (upd H2 D (.lst [])) s3.heap.objs.size (cellsFrom (s3.heap.objs.size + 1) scope.names (cloFrom X.env.cells scope.names [])) fp
  show codeAny _ _ (.compStart (.ListComp elt [⟨tg, iter, ifs, 0⟩] scope pos) 0 (.ref it) (.ref D) (compEnvC scope (cellsFrom (s3.heap.objs.size + 1) scope.names (cloFrom X.env.cells scope.names [])) s3.heap.objs.size X.env)) (compPost (model X.prog X.w) X.A X.xe use Qf (.ref D) s3.heap.objs.size) { s3 with heap := pushCells (s3.heap.push { cls := .type "dict", data := .dict #[] }) scope.names }
  have nfp : ∀ b ∈ fp, (upd H2 D (.lst [])) b = none := fun b hb => (f3 b hb).1.1
  generalize hce : compEnvC scope (cellsFrom (s3.heap.objs.size + 1) scope.names (cloFrom X.env.cells scope.names [])) s3.heap.objs.size X.env = ce at I4 pg pt pe ⊢
  have cL : ce.locals = s3.heap.objs.size := by subst hce; rfl
  generalize hH3 : upd H2 D (.lst []) = H3 at I3 I4 pg pt pe w0 nfp f3
  generalize hs4 : ({ s3 with heap := pushCells (s3.heap.push { cls := .type "dict", data := .dict #[] }) scope.names } : Shared) = s4 at I4 ⊢
  have st4 : tn 0 s4.heap := T.keep _ _ _ st3 fun b _ o e => by rw [← hs4]; exact pushCells_keeps _ _ _ _ (Heap.get?_push_of_some _ e)
  have stat : ∀ {σ' : St} {H' : Hp} {s' : Shared}, Inv (X.blk s3 H3 scope ce fp) [] σ' H' s' → (∀ b ∈ fp, H' b = none) → ∀ b ∈ fp, FpOk (X.blk s3 H3 scope ce fp) [] H' b := fun {σ' H' s'} I' hn b hb =>
    ⟨hn b hb, (I'.ok.exf b hb).1, I'.ok.exfs b hb, .inl hb, fun x c e => (I'.ok.exf b hb).2 x c e, fun p hp => absurd (show p ∈ ([] : List (Addr × Obj)) ++ [] from hp) (by simp)⟩
  have loop : codeAny (model X.prog X.w) X.A (.compLoop (.ListComp elt [⟨tg, iter, ifs, 0⟩] scope pos) 0 (.ref it) (.ref D) ce) (compPost (model X.prog X.w) X.A X.xe use Qf (.ref D) s3.heap.objs.size) s4 := by
    refine compLoop_any (fun n s' => ∃ i H', Inv (X.blk s3 H3 scope ce fp) [] (wipe σ (own.map (·.2))) H' s' ∧ tn i s'.heap ∧ (∀ b ∈ fp, H' b = none) ∧ W i n H') ?_ m0 ⟨0, H3, I4, st4, nfp, w0⟩
    rintro n s5 ⟨i, H5, I5, st5, n5, w5⟩
    rcases turn i n H5 w5 with ⟨stop, qq⟩ | ⟨go, Nx, hNx, step⟩
    · have td := T.done (X.blk s3 H3 scope ce fp) rfl rfl rfl hc i [] s5 _ H5 (fun _ _ => False) I5 (stat I5 n5) st5 stop
      refine thnF td fun r s6 ⟨hr, I6⟩ => ?_
      subst hr
      -- back in the def's context
      have I7 : Inv X pins σ H5 s6 := I3.call' (ch := fp) I6.os I6.base I6.hok I6.bare fun b hb => ⟨(f3 b hb).1.2.2.2.1, (f3 b hb).1.2.1, (f3 b hb).1.2.2.2.2.1, (f3 b hb).1.2.2.2.2.2⟩
      have nC : H5 s3.heap.objs.size = none := by
        have z : H5 ce.locals = none := I6.free
        rw [cL] at z
        exact z
      obtain ⟨m, hn, _⟩ := I6.loc
      have hn : s6.heap.Ns ce.locals m := hn
      rw [cL] at hn
      exact hRR D s3.heap.objs.size s6 m H5 I7 qq hn (I3.fpOk (Nat.le_refl _) nC)
    · have ti := T.item (X.blk s3 H3 scope ce fp) rfl rfl rfl hc i [] s5 _ H5 (fun _ _ => False) I5 (stat I5 n5) st5 go
      refine thnF ti fun r s6 ⟨u, hr, h6⟩ => ?_
      subst hr
      refine thnF h6 fun _ s7 ⟨x, H7, I7, r7, y7, st7, n7⟩ => ?_
      have I7' := I7.pinned (stat I7 n7) (T.obj _ _ st7)
      refine thnF (pg _ s7 _ H7 x u _ I7' r7 (step x H7 y7)) fun _ s8 ⟨σ8, H8, I8, hw8, q8⟩ => ?_
      refine thnF (pt _ s8 σ8 H8 _ I8 q8) fun b s9 ⟨H9, I9, q9⟩ => ?_
      -- the turn's end
      have fin : ∀ {s' : Shared} {H' : Hp}, Inv (X.blk s3 H3 scope ce fp) ([] ++ pinsAt fp s7.heap) σ8 H' s' → Nx H' → ∃ m, m < n ∧ ∃ i H', Inv (X.blk s3 H3 scope ce fp) [] (wipe σ (own.map (·.2))) H' s' ∧ tn i s'.heap ∧ (∀ b ∈ fp, H' b = none) ∧ W i m H' := fun {s' H'} I' nx => by
        obtain ⟨m', hm, w'⟩ := hNx H' nx
        have pin' : ∀ b ∈ fp, ∀ o, s7.heap.get? b = some o → s'.heap.get? b = some o ∧ H' b = none := fun b hb o e =>
          let z := I'.pin (b, o) (List.mem_append_right _ (List.mem_append_right _ (mem_pinsAt hb e)))
          ⟨z.1, z.2.1⟩
        have hl : (wipe σ (own.map (·.2))).length = σ8.length := by rw [← hw8, wipe_length]
        refine ⟨m', hm, i + 1, H', (I'.unpinned (pins := [])).weak hl (fun j v e => ?_), T.keep _ _ _ st7 fun b hb o e => (pin' b hb o e).1, fun b hb => ?_, w'⟩
        · rw [← hw8] at e
          exact (wipe_some e).1
        · obtain ⟨o, e, _⟩ := T.obj _ _ st7 b hb
          exact (pin' b hb o e).2
      cases b with
      | false =>
        simp only [Bool.false_eq_true, if_false] at q9 ⊢
        exact fin I9 q9
      | true =>
        simp only [if_true] at q9 ⊢
        refine thnF (pe _ s9 σ8 H9 _ I9 q9) fun z s10 ⟨yv, H10, I10, r10, acc, hD10, hz10, nx⟩ => ?_
        exact app_ok (X := X.blk s3 H3 scope ce fp) I10 hD10 hz10 r10 fun s11 I11 => fin I11 nx
  exact codeAny_compStart_list loop (T.self X.A 0 _ _ _ st4 loop)
/-- as a value -/
theorem pe_lc {elt tg iter : Expr} {ifs : List Expr} {scope : Scope} {own : List (Str × Nat)} {pos : Pos} {wi : TI} {g : TG} {tt : TT} {te : TE} (hc : X.calm = true) (hN : X.N.Nodup) (hi : PI X tg iter wi) (ok : BlkOk X.N X.env.scope scope own)
    (hg : ∀ (s : Shared) (H : Hp) (C : Addr) (cl : List (Str × Addr)) (fp : List Addr), PG (X.blk s H scope (compEnvC scope cl C X.env) fp) tg g) (ht : ∀ (s : Shared) (H : Hp) (C : Addr) (cl : List (Str × Addr)) (fp : List Addr), PTs (X.blk s H scope (compEnvC scope cl C X.env) fp) ifs tt)
    (he : ∀ (s : Shared) (H : Hp) (C : Addr) (cl : List (Str × Addr)) (fp : List Addr), PE (X.blk s H scope (compEnvC scope cl C X.env) fp) elt te) (hs : ∀ x, foldedSetIterable iter X.env x = pure x := by intro _; rfl) :
    PE X (.ListComp elt [⟨tg, iter, ifs, 0⟩] scope pos) (tLc wi g tt te (own.map (·.2))) := by
  intro pins s σ H Q I h
  rw [eval_ListComp]
  refine lc_core hc hN I hi ok hg ht he hs h fun D C s' m H' I' q hn f => ⟨m, hn, fun h'' sb => ?_⟩
  obtain ⟨f0, f1, f2, f3, f4, f5⟩ := f
  exact ⟨.ref D, H', I'.turned (t' := s'.toks) (fun b o hb e => (sb.2 b hb).trans e) f0 f1 f3 f4 f5, rfl, q⟩
end

/-! ### the forms one uses -/
/-- over a range: Pv by the turn and the heap (the new list at D within) -/
theorem lc_range {lo : Int} {n : Nat} {g : TG} {tt : TT} {te : TE} {vs : List Nat} {σ : St} {H1 : Hp} {D : Addr} {Qd : Hp → Prop} (Pv : Nat → Hp → Prop) (h0 : Pv 0 (upd H1 D (.lst [])))
    (hs : ∀ i H, i < n → Pv i H → g (.int (lo + i)) (wipe σ vs) H fun σ2 H2 => wipe σ2 vs = wipe σ vs ∧ tt σ2 H2 fun b H3 =>
      if b = true then te σ2 H3 fun y H4 => ∃ acc, H4 D = some (.lst acc) ∧ acc.length < sizeLine ∧ Pv (i + 1) (upd H4 D (.lst (acc ++ [y]))) else Pv (i + 1) H3) (hd : ∀ H, Pv n H → Qd H) :
    ∃ W : Nat → Nat → Hp → Prop, (∃ m, W 0 m (upd H1 D (.lst []))) ∧ ∀ i m H, W i m H →
      ((Itr lo n).stop i H ∧ Qd H) ∨ ((Itr lo n).go i H ∧ ∃ Nx : Hp → Prop, (∀ H', Nx H' → ∃ m', m' < m ∧ W (i + 1) m' H') ∧ ∀ x H', (Itr lo n).yld i H x H' → g x (wipe σ vs) H' fun σ2 H2 => wipe σ2 vs = wipe σ vs ∧ tt σ2 H2 fun b H3 =>
        if b = true then te σ2 H3 fun y H4 => ∃ acc, H4 D = some (.lst acc) ∧ acc.length < sizeLine ∧ Nx (upd H4 D (.lst (acc ++ [y]))) else Nx H3) := by
  refine ⟨fun i m H => m = n - i ∧ i ≤ n ∧ Pv i H, ⟨n, by simp, Nat.zero_le _, h0⟩, ?_⟩
  rintro i m H ⟨rfl, hi, p⟩
  by_cases hlt : i < n
  · refine .inr ⟨hlt, Pv (i + 1), fun H' p' => ⟨n - (i + 1), by omega, rfl, hlt, p'⟩, fun x H' y => ?_⟩
    obtain ⟨e, y⟩ := y
    subst e y
    exact hs i _ hlt p
  · have e : i = n := by omega
    subst e
    exact .inl ⟨Nat.le_refl _, hd H p⟩
def blkC (N : List Str) (sc scope : Scope) (own : List (Str × Nat)) : Bool :=
  (match scope.kind with | .function => true | _ => false) && (scope.names.all fun y => decide (scope.names.lookup y.1 = some y.2)) && (own.all fun p => decide (N[p.2]? = some p.1)) &&
    (scope.names.all fun y => match y.2 with
      | .free => (match sc.names.lookup y.1 with | some .cell => true | some .free => true | _ => false)
      | .local => decide (y.1 ∈ own.map (·.1)) || decide (y.1 ∉ N)
      | .cell => decide (y.1 ∈ own.map (·.1)) || decide (y.1 ∉ N)
      | _ => true)
theorem blkOk_by {N : List Str} {sc scope : Scope} {own : List (Str × Nat)} (h : blkC N sc scope own = true) : BlkOk N sc scope own := by
  unfold blkC at h
  simp only [Bool.and_eq_true, List.all_eq_true, decide_eq_true_eq] at h
  obtain ⟨⟨⟨h1, h2⟩, h3⟩, h4⟩ := h
  refine ⟨?_, h2, h3, fun y hy e => ?_, fun y hy e => ?_⟩
  · split at h1
    · assumption
    · cases h1
  · have q := h4 y hy
    simp only [e] at q
    split at q <;> first | exact .inl (by assumption) | exact .inr (by assumption) | cases q
  · have q := h4 y hy
    rcases e with e | e <;> (simp only [e, Bool.or_eq_true, decide_eq_true_eq] at q; exact q)
end L2

namespace L2
open PySem PySem.Spec PyProof.Rows

section
variable {prog : Program} {w : World} {A : Around} {R : Result → Shared → Prop} {s : Shared} {elt t0 i0 t1 i1 : Expr} {ifs0 ifs1 : List Expr} {scope : Scope} {pos : Pos} {it acc : Value} {env : Env}
end

section
variable {X : Cx}
end
end L2

namespace L2
open PySem PySem.Spec PyProof.Rows

/-! ### lists of pairs as tables -/
section
variable {κ : Type} [DecidableEq κ]
def valV (kvs : List (κ × V)) (k : κ) : Option V := (kvs.find? fun kv => decide (kv.1 = k)).map (·.2)
/-- in its place, or at the end -/
def putK (kvs : List (κ × V)) (k : κ) (v : V) : List (κ × V) :=
  if (kvs.any fun kv => decide (kv.1 = k)) = true then kvs.map (fun kv => if kv.1 = k then (kv.1, v) else kv) else kvs ++ [(k, v)]
def dropK (kvs : List (κ × V)) (k : κ) : List (κ × V) := kvs.filter fun kv => decide (kv.1 ≠ k)

theorem valV_pos {p : κ × V} {r : List (κ × V)} {k : κ} (e : p.1 = k) : valV (p :: r) k = some p.2 := by simp [valV, List.find?_cons, e]
theorem valV_neg {p : κ × V} {r : List (κ × V)} {k : κ} (e : ¬ p.1 = k) : valV (p :: r) k = valV r k := by simp [valV, List.find?_cons, e]
theorem valV_any (k : κ) : ∀ kvs : List (κ × V), (kvs.any fun kv => decide (kv.1 = k)) = (valV kvs k).isSome
  | [] => rfl
  | p :: r => by
    rw [List.any_cons]
    by_cases e : p.1 = k
    · simp only [valV_pos e, decide_eq_true e, Bool.true_or, Option.isSome_some]
    · rw [valV_neg e, decide_eq_false e, Bool.false_or]; exact valV_any k r
theorem length_putK (kvs : List (κ × V)) (k : κ) (v : V) : (putK kvs k v).length ≤ kvs.length + 1 := by
  unfold putK
  split
  · rw [List.length_map]; omega
  · rw [List.length_append, List.length_cons, List.length_nil]; omega
theorem RelO.isSome_eq {o : Option V} {u : Option Value} (r : RelO o u) : o.isSome = u.isSome := by
  cases o with
  | none => cases u with
    | none => rfl
    | some _ => exact (show False from r).elim
  | some _ => cases u with
    | none => exact (show False from r).elim
    | some _ => rfl
theorem RelO.getD {o : Option V} {u : Option Value} {d : V} {d' : Value} (r : RelO o u) (rd : RelV d d') : RelV (o.getD d) (u.getD d') := by
  cases o with
  | none => cases u with
    | none => exact rd
    | some _ => exact (show False from r).elim
  | some _ => cases u with
    | none => exact (show False from r).elim
    | some _ => exact r

/-- raw tables of the same keys -/
theorem KV.val {kvs : List (κ × V)} {vs : List (κ × Value)} (r : KV kvs vs) (k : κ) : RelO (valV kvs k) (valueAt vs k) := by
  unfold KV at r
  induction r with
  | nil => exact True.intro
  | @cons p q ps qs h t ih =>
    obtain ⟨h1, h2⟩ := h
    by_cases e : p.1 = k
    · have e' : q.1 = k := h1.symm.trans e
      have b : valueAt (q :: qs) k = some q.2 := by simp [valueAt, List.find?_cons, e']
      rw [valV_pos e, b]; exact h2
    · have e' : ¬ q.1 = k := fun z => e (h1.trans z)
      have b : valueAt (q :: qs) k = valueAt qs k := by simp [valueAt, List.find?_cons, e']
      rw [valV_neg e, b]; exact ih
theorem KV.any {kvs : List (κ × V)} {vs : List (κ × Value)} (r : KV kvs vs) (k : κ) : (kvs.any fun kv => decide (kv.1 = k)) = vs.any fun kv => decide (kv.1 = k) := by
  unfold KV at r
  induction r with
  | nil => rfl
  | cons h t ih => rw [List.any_cons, List.any_cons, ih, h.1]
theorem KV.repl {kvs : List (κ × V)} {vs : List (κ × Value)} (r : KV kvs vs) (k : κ) {y : V} {u : Value} (ry : RelV y u) :
    KV (kvs.map fun kv => if kv.1 = k then (kv.1, y) else kv) (vs.map fun kv => if kv.1 = k then (kv.1, u) else kv) := by
  unfold KV at r ⊢
  induction r with
  | nil => exact .nil
  | @cons p q ps qs h t ih =>
    rw [List.map_cons, List.map_cons]
    refine .cons ?_ ih
    obtain ⟨h1, h2⟩ := h
    by_cases e : p.1 = k
    · rw [if_pos e, if_pos (h1.symm.trans e)]; exact ⟨h1, ry⟩
    · rw [if_neg e, if_neg (fun z => e (h1.trans z))]; exact ⟨h1, h2⟩
theorem KV.put {kvs : List (κ × V)} {vs : List (κ × Value)} (r : KV kvs vs) (k : κ) {y : V} {u : Value} (ry : RelV y u) : KV (putK kvs k y) (stored vs k u) := by
  unfold putK stored
  rw [r.any k]
  by_cases e : (vs.any fun kv => decide (kv.1 = k)) = true
  · rw [if_pos e, if_pos e]; exact r.repl k ry
  · rw [if_neg e, if_neg e]; exact Paired.snoc r ⟨rfl, ry⟩
theorem KV.drop {kvs : List (κ × V)} {vs : List (κ × Value)} (r : KV kvs vs) (k : κ) : KV (dropK kvs k) (without vs k) := by
  unfold KV at r ⊢
  unfold dropK without
  induction r with
  | nil => exact .nil
  | @cons p q ps qs h t ih =>
    obtain ⟨h1, h2⟩ := h
    rw [List.filter_cons, List.filter_cons]
    by_cases e : p.1 = k
    · have a : ¬ decide (p.1 ≠ k) = true := by simp [e]
      have b : ¬ decide (q.1 ≠ k) = true := by simp [h1.symm.trans e]
      rw [if_neg a, if_neg b]; exact ih
    · have e' : ¬ q.1 = k := fun z => e (h1.trans z)
      have a : decide (p.1 ≠ k) = true := by simp [e]
      have b : decide (q.1 ≠ k) = true := by simp [e']
      rw [if_pos a, if_pos b]; exact .cons ⟨h1, h2⟩ ih
theorem KV.keys {kvs : List (κ × V)} {vs : List (κ × Value)} (r : KV kvs vs) : kvs.map (·.1) = vs.map (·.1) := by
  unfold KV at r
  induction r with
  | nil => rfl
  | cons h t ih => rw [List.map_cons, List.map_cons, ih, h.1]
theorem KV.length {kvs : List (κ × V)} {vs : List (κ × Value)} (r : KV kvs vs) : kvs.length = vs.length := Paired.length r
end


/-! ### a tracked dict, its keys ints and texts or tuples of these -/
theorem kV_is {P : Program} {w : World} {k : Key} {u : Value} (r : RelV (kV k) u) : (mixKind P w).is k u = true := by
  cases k with
  | inl i => obtain ⟨t, e⟩ := (show ∃ t, u = Value.int i t from r); subst e; exact mixKind_int P w i t
  | inr x => obtain ⟨t, e⟩ := (show ∃ t, u = Value.str x t from r); subst e; exact mixKind_str P w x t
theorem items_are {P : Program} {w : World} : ∀ {ks : List Key} {us : List Value}, Vals (ks.map kV) us → ItemsAre (mixKind P w) ks us
  | [], _, r => by rw [List.map_nil] at r; cases r; exact .nil
  | k :: ks, _, r => by
    rw [List.map_cons] at r
    cases r with
    | cons h t => exact .cons (kV_is h) (items_are t)

/-- raw entries of a dict with tuple keys -/
abbrev KT (H : Hp) : List (List Key × V) → List (List Key × Addr × Value) → Prop := Paired fun p q => p.1 = q.1 ∧ H q.2.1 = some (.tup (p.1.map kV)) ∧ RelV p.2 q.2.2
theorem KT.val {H : Hp} {kvs : List (List Key × V)} {xs : List (List Key × Addr × Value)} (r : KT H kvs xs) (k : List Key) : RelO (valV kvs k) ((atKey xs k).map (·.2)) := by
  induction r with
  | nil => exact True.intro
  | @cons p q ps qs h t ih =>
    obtain ⟨h1, _, h2⟩ := h
    by_cases e : p.1 = k
    · have e' : q.1 = k := h1.symm.trans e
      have b : atKey (q :: qs) k = some q.2 := by simp [atKey, List.find?_cons, e']
      rw [valV_pos e, b]; exact h2
    · have e' : ¬ q.1 = k := fun z => e (h1.trans z)
      have b : atKey (q :: qs) k = atKey qs k := by simp [atKey, List.find?_cons, e']
      rw [valV_neg e, b]; exact ih
theorem KT.repl {H : Hp} {kvs : List (List Key × V)} {xs : List (List Key × Addr × Value)} (r : KT H kvs xs) (k : List Key) {y : V} {u : Value} (ry : RelV y u) :
    KT H (kvs.map fun kv => if kv.1 = k then (kv.1, y) else kv) (xs.map (putAt k u)) := by
  induction r with
  | nil => exact .nil
  | @cons p q ps qs h t ih =>
    rw [List.map_cons, List.map_cons]
    refine .cons ?_ ih
    obtain ⟨h1, h2, h3⟩ := h
    unfold putAt
    by_cases e : p.1 = k
    · rw [if_pos e, if_pos (h1.symm.trans e)]; exact ⟨h1, h2, ry⟩
    · rw [if_neg e, if_neg (fun z => e (h1.trans z))]; exact ⟨h1, h2, h3⟩
theorem KT.put {H : Hp} {kvs : List (List Key × V)} {xs : List (List Key × Addr × Value)} (r : KT H kvs xs) (k : List Key) {b : Addr} {y : V} {u : Value} (hb : H b = some (.tup (k.map kV))) (ry : RelV y u) :
    KT H (putK kvs k y) (storedH xs k b u) := by
  have e : (kvs.any fun kv => decide (kv.1 = k)) = (atKey xs k).isSome := by
    rw [valV_any, (r.val k).isSome_eq, Option.isSome_map]
  unfold putK storedH
  rw [e]
  by_cases q : (atKey xs k).isSome = true
  · rw [if_pos q, if_pos q]; exact r.repl k ry
  · rw [if_neg q, if_neg q]; exact Paired.snoc r ⟨rfl, hb, ry⟩
theorem KT.keeps {H H' : Hp} {kvs : List (List Key × V)} {xs : List (List Key × Addr × Value)} (r : KT H kvs xs) (ht : ∀ b ys, H b = some (.tup ys) → H' b = some (.tup ys)) : KT H' kvs xs :=
  Paired.mapP r fun _ _ z => ⟨z.1, ht _ _ z.2.1, z.2.2⟩

section
variable {P : Program} {w : World} {H : Hp} {h : Heap} {a : Addr}
theorem rd_of {u : HO} (ok : HOk P w H h) (e : Rd H a u) : ObjOk P w H h a u := e.ok ok
theorem dk_rd {kvs : List (Key × V)} (ok : HOk P w H h) (e : Rd H a (.dK kvs)) : kvs.length ≤ sizeLine ∧ (a == sysModules) = false ∧ ∃ vs, KV kvs vs ∧ h.DictOf (mixKind P w) a vs :=
  show ObjOk P w H h a (.dK kvs) from rd_of ok e
theorem dk_of {kvs : List (Key × V)} (ok : HOk P w H h) (e : H a = some (.dK kvs)) : kvs.length ≤ sizeLine ∧ (a == sysModules) = false ∧ ∃ vs, KV kvs vs ∧ h.DictOf (mixKind P w) a vs := dk_rd ok (.inl e)
/-- a tracked tuple of ints and texts is a key -/
theorem key_of {ks : List Key} (ok : HOk P w H h) (e : H a = some (.tup (ks.map kV))) : (tupleKind (mixKind P w)).is h ks a := by
  obtain ⟨_, its, r, o, h1, h2, _, n, h3⟩ := (show ObjOk P w H h a (.tup (ks.map kV)) from ok a _ e)
  exact ⟨o, its.toArray, n, h1, h2, h3, by simpa using items_are r⟩
theorem dt_rd {kvs : List (List Key × V)} (ok : HOk P w H h) (e : Rd H a (.dT kvs)) : kvs.length ≤ sizeLine ∧ (a == sysModules) = false ∧
    ∃ xs, KT H kvs xs ∧ h.DictOfH (tupleKind (mixKind P w)) a xs := by
  obtain ⟨z, y, xs, r, o, es, ep, h1, h2, h3, h4, h5⟩ := (show ObjOk P w H h a (.dT kvs) from rd_of ok e)
  refine ⟨z, y, xs, r, o, es, ep, h1, h2, h3, h4, fun x hx => ?_, h5⟩
  have all : ∀ {l : List (List Key × V)} {m : List (List Key × Addr × Value)}, KT H l m → ∀ x ∈ m, (tupleKind (mixKind P w)).is h x.1 x.2.1 := by
    intro l m q
    induction q with
    | nil => intro x hx; exact nomatch hx
    | @cons p q ps qs hq t ih =>
      intro x hx
      rcases List.mem_cons.mp hx with e | hx
      · subst e
        exact key_of ok (by rw [← hq.1]; exact hq.2.1)
      · exact ih x hx
  exact all r x hx
theorem dt_of {kvs : List (List Key × V)} (ok : HOk P w H h) (e : H a = some (.dT kvs)) : kvs.length ≤ sizeLine ∧ (a == sysModules) = false ∧
    ∃ xs, KT H kvs xs ∧ h.DictOfH (tupleKind (mixKind P w)) a xs := dt_rd ok (.inl e)
end

/-- what the dict at a holds at the key y -/
def DGet (H : Hp) (a : Addr) (y : V) (r : Option V) : Prop :=
  (∃ kvs k, Rd H a (.dK kvs) ∧ y = kV k ∧ r = valV kvs k) ∨ ∃ kvs k b, Rd H a (.dT kvs) ∧ y = .ref b ∧ H b = some (.tup (k.map kV)) ∧ r = valV kvs k
/-- the heap behind a[y] = v -/
def DPut (H : Hp) (a : Addr) (y v : V) (H' : Hp) : Prop :=
  (∃ kvs k, H a = some (.dK kvs) ∧ y = kV k ∧ kvs.length < sizeLine ∧ H' = upd H a (.dK (putK kvs k v))) ∨
  ∃ kvs k b, H a = some (.dT kvs) ∧ y = .ref b ∧ H b = some (.tup (k.map kV)) ∧ kvs.length < sizeLine ∧ H' = upd H a (.dT (putK kvs k v))
theorem DGet.k {H : Hp} {a : Addr} {kvs : List (Key × V)} {k : Key} (e : H a = some (.dK kvs)) : DGet H a (kV k) (valV kvs k) := .inl ⟨kvs, k, .inl e, rfl, rfl⟩
theorem DGet.t {H : Hp} {a b : Addr} {kvs : List (List Key × V)} {k : List Key} (e : H a = some (.dT kvs)) (eb : H b = some (.tup (k.map kV))) : DGet H a (.ref b) (valV kvs k) := .inr ⟨kvs, k, b, .inl e, rfl, eb, rfl⟩
theorem DPut.k {H : Hp} {a : Addr} {kvs : List (Key × V)} {k : Key} {v : V} (e : H a = some (.dK kvs)) (hl : kvs.length < sizeLine) : DPut H a (kV k) v (upd H a (.dK (putK kvs k v))) := .inl ⟨kvs, k, e, rfl, hl, rfl⟩
theorem DPut.t {H : Hp} {a b : Addr} {kvs : List (List Key × V)} {k : List Key} {v : V} (e : H a = some (.dT kvs)) (eb : H b = some (.tup (k.map kV))) (hl : kvs.length < sizeLine) :
    DPut H a (.ref b) v (upd H a (.dT (putK kvs k v))) := .inr ⟨kvs, k, b, e, rfl, eb, hl, rfl⟩


section
variable {X : Cx} {pins : List (Addr × Obj)} {σ : St} {H : Hp} {s : Shared} {a : Addr} {y v : V} {u r : Value} {o : Option V} {A : Around} {E : Value → Shared → Prop}

theorem Inv.big (I : Inv X pins σ H s) : sysModules < s.heap.objs.size := by
  have h : mainGlobals < s.heap.objs.size := (I.mod.glob.keeps I.bk).lt
  exact Nat.lt_trans (by decide) h

/-- d[y], there -/
theorem d_getItem {Q : Value → Shared → Prop} (hu : A.units + 1 < cLine) (I : Inv X pins σ H s) (g : DGet H a y (some v)) (ry : RelV y u) (h : ∀ w' s', Inv X pins σ H s' → RelV v w' → Q w' s') :
    wpAny (model X.prog X.w) A (getItem (.ref a) u) Q E s := by
  rcases g with ⟨kvs, k, e, ey, l⟩ | ⟨kvs, k, b, e, ey, eb, l⟩
  · subst ey
    obtain ⟨z, hd, vs, rel, dd⟩ := dk_rd I.hok e
    obtain ⟨w', hw, rw'⟩ := RelO.some_of (v := v) (o := valueAt vs k) (by rw [l]; exact rel.val k)
    exact wpAny_getItem_of (kV_is ry) dd.mapOf hw (h w' _ (I.tok _) rw')
  · subst ey
    cases (show u = Value.ref b from ry)
    obtain ⟨z, hd, xs, rel, dd⟩ := dt_rd I.hok e
    obtain ⟨w', hw, rw'⟩ := RelO.some_of (v := v) (o := (atKey xs k).map (·.2)) (by rw [l]; exact rel.val k)
    obtain ⟨p, hp, hp2⟩ := Option.map_eq_some_iff.mp hw
    refine wpAny_getItem_heap (tupleKind_room_in1 hu) (key_of I.hok eb) dd hp ?_
    rw [hp2]
    exact h w' _ (I.tok _) rw'
/-- a dict's object is replaced -/
theorem d_write {h' : Heap} {t' : Nat} {ob : HO} (I : Inv X pins σ H s) (mu : Mut (H a)) (hs : Heap.SameBut a s.heap h') (he : ∃ q, h'.get? a = some q) (new : ObjOk X.prog X.w (upd H a ob) h' a ob) :
    Inv X pins σ (upd H a ob) { s with heap := h', toks := t' } :=
  I.write (x := a) (e := a) mu (.inl rfl) (fun b q hb z => (hs.2 b hb).trans z) he new
theorem dk_new {P : Program} {w : World} {H' : Hp} {h' : Heap} {kvs : List (Key × V)} {vs : List (Key × Value)} (z : kvs.length ≤ sizeLine) (hd : (a == sysModules) = false) (rel : KV kvs vs) (dd : h'.DictOf (mixKind P w) a vs) :
    ObjOk P w H' h' a (.dK kvs) := ⟨z, hd, vs, rel, dd⟩
/-- d[y] = v -/
theorem d_setItem {H' : Hp} {Q : Unit → Shared → Prop} (hu : A.units + 1 < cLine) (I : Inv X pins σ H s) (g : DPut H a y v H') (ry : RelV y u) (rv : RelV v r) (h : ∀ s', Inv X pins σ H' s' → Q () s') :
    wpAny (model X.prog X.w) A (setItem (.ref a) u r) Q E s := by
  rcases g with ⟨kvs, k, e, ey, l, eH⟩ | ⟨kvs, k, b, e, ey, eb, l, eH⟩
  · subst ey eH
    obtain ⟨z, hd, vs, rel, dd⟩ := dk_of I.hok e
    have hz : vs.length ≤ sizeLine := by rw [← rel.length]; exact z
    have hl : (putK kvs k v).length ≤ sizeLine := by have := length_putK kvs k v; omega
    refine wpAny_setItem_pairs (hsz := hz) (kV_is ry) dd fun h' dd' hs => h _ ?_
    have he : ∃ q, h'.get? a = some q := let ⟨q, _, _, hq, _⟩ := dd'; ⟨q, hq⟩
    exact d_write I (by rw [e]; exact True.intro) hs he (dk_new hl hd (rel.put k rv) dd')
  · subst ey eH
    cases (show u = Value.ref b from ry)
    obtain ⟨z, hd, xs, rel, dd⟩ := dt_of I.hok e
    have hz : xs.length ≤ sizeLine := by rw [← Paired.length rel]; exact z
    have hl : (putK kvs k v).length ≤ sizeLine := by have := length_putK kvs k v; omega
    refine wpAny_setItem_heap (hsz := hz) (tupleKind_room_in1 hu) (key_of I.hok eb) dd fun h' dd' hs => h _ ?_
    obtain ⟨q, es, ep, hq, h2, h3, h4, _, h5⟩ := dd'
    refine d_write I (by rw [e]; exact True.intro) hs ⟨q, hq⟩ ⟨hl, hd, _, (rel.put k eb rv).keeps fun c ys ec => ?_, q, es, ep, hq, h2, h3, h4, h5⟩
    rw [upd_ne (ne_of ec e (fun z => nomatch z))]
    exact ec
end

section
variable {X : Cx} {pins : List (Addr × Obj)} {σ : St} {H : Hp} {s : Shared} {a : Addr} {kvs : List (Key × V)} {k : Key} {u : Value} {A : Around} {E : Value → Shared → Prop}
end


/-! ### readings and rules -/
/-- the element of a subscription, not a slice -/
def NoSl (i : Expr) : Prop := ∀ ov iv, subscripted i false ov iv = operate [ov, iv] (getItem ov iv)
theorem subD_of {prog : Program} {w : World} {A : Around} {E : Value → Shared → Prop} {s : Shared} {env : Env} {value slice : Expr} {pos : Pos} {T id : String} {Q : Value → Shared → Prop}
    (hl : typeLookup (.type T) "__getitem__" = pure (some (.builtin id))) (hs : NoSl slice)
    (h : wpAny (model prog w) A (eval value env) (fun o s₁ => wpAny (model prog w) A (eval slice env) (fun i s₂ => s₂.TypeIs o T ∧ wpAny (model prog w) A (getItem o i) Q E s₂) E s₁) E s) :
    wpAny (model prog w) A (eval (.Subscript value slice pos) env) Q E s := by
  refine Subscript_ (wpAny_mono h (fun o s₁ h₁ => wpAny_mono h₁ (fun i s₂ h₂ => ?_) fun _ _ x => x) fun _ _ x => x)
  obtain ⟨hT, h₂⟩ := h₂
  unfold subscriptTail
  refine wpAny_bind ?_
  rw [getitemInPython_of_ne hT.not_modules]
  refine wpAny_bind (wpAny_specialOf hT hl ?_)
  have fin : wpAny (model prog w) A (subscripted slice false o i) (fun r s₃ => wpAny (model prog w) A (letTemporaryGo value o r >>= fun _ => pure r) Q E s₃) E s₂ := by
    rw [hs o i]
    exact wpAny_operating (wpAny_mono h₂ (fun r s₃ h₃ => wpAny_bind (wpAny_letTemporaryGo (wpAny_pure h₃))) fun _ _ x => x)
  first
    | exact wpAny_pure (wpAny_bind fin)
    | exact wpAny_bind (wpAny_pure (wpAny_bind fin))
    | exact wpAny_bind fin

theorem dict_typeIs {X : Cx} {pins : List (Addr × Obj)} {σ : St} {H : Hp} {s : Shared} {a : Addr} {y : V} {o : Option V} (I : Inv X pins σ H s) (g : DGet H a y o) : s.TypeIs (.ref a) "dict" := by
  rcases g with ⟨kvs, k, e, _, _⟩ | ⟨kvs, k, b, e, _, _, _⟩
  · obtain ⟨_, _, vs, _, dd⟩ := dk_rd I.hok e
    exact dd.typeIs
  · obtain ⟨_, _, xs, _, dd⟩ := dt_rd I.hok e
    exact dd.typeIs
/-- d[y] -/
def tDGet (td ty : TE) : TE := fun σ H Q => td σ H fun x H1 => ty σ H1 fun y H2 => ∃ a v, x = .ref a ∧ DGet H2 a y (some v) ∧ Q v H2
/-- d[y] = v -/
def sDPut (td ty tv : TE) : TS := fun D σ H => tv σ H fun v H1 => td σ H1 fun x H2 => ty σ H2 fun y H3 => ∃ a H4, x = .ref a ∧ DPut H3 a y v H4 ∧ D.nx σ H4
section
variable {X : Cx} {o i e value : Expr} {pos pos' tpos : Pos} {td ty tv : TE}
theorem pe_dget (hu : X.A.units + 1 < cLine) (ho : PE X o td) (hi : PE X i ty) (hs : NoSl i) : PE X (.Subscript o i pos) (tDGet td ty) := by
  intro pins s σ H Q I h
  refine subD_of PySem.F.slot_dict_getitem.lookup hs (thn (ho pins s σ H _ I h) fun u s1 ⟨x, H1, I1, rx, q1⟩ => thn (hi pins s1 σ H1 _ I1 q1) fun iv s2 ⟨y, H2, I2, ry, a, v, ex, g, q2⟩ => ?_)
  subst ex
  obtain rfl : u = Value.ref a := rx
  exact ⟨dict_typeIs I2 g, d_getItem hu I2 g ry fun w' s3 I3 rw' => ⟨v, H2, I3, rw', q2⟩⟩
theorem ps_dput (hu : X.A.units + 1 < cLine) (ho : PE X o td) (hi : PE X i ty) (hv : PE X value tv) (hs : swapsWith value (some (.Subscript o i pos')) pos.line X.env = pure false) :
    PS X (.Assign [.Subscript o i pos'] value pos) (sDPut td ty tv) := by
  intro pins s σ H D I h
  refine wpAny_Assign_Subscript (thn (hv pins s σ H _ I h) fun r s1 ⟨v, H1, I1, rv, q1⟩ => thn (ho pins s1 σ H1 _ I1 q1) fun u s2 ⟨x, H2, I2, rx, q2⟩ => thn (hi pins s2 σ H2 _ I2 q2) fun iv s3 ⟨y, H3, I3, ry, a, H4, ex, g, q3⟩ => ?_) hs
  subst ex
  obtain rfl : u = Value.ref a := rx
  exact d_setItem hu I3 g ry rv fun s4 I4 => ⟨σ, H4, I4, q3⟩
end


/-! ### displays -/
theorem dk_empty {P : Program} {w : World} {H : Hp} (h : Heap) (hb : sysModules < h.objs.size) : ObjOk P w H (h.push { cls := .type "dict", data := .dict #[] }) h.objs.size (.dK []) :=
  ⟨Nat.zero_le _, beq_eq_false_iff_ne.mpr (Ne.symm (Nat.ne_of_lt hb)), [], .nil, Heap.DictOf.new h⟩
/-- {}, to be a dict of the kind that is wanted -/
def tDNewK : TE := fun _ H Q => ∀ p, H p = none → Q (.ref p) (upd H p (.dK []))
section
variable {X : Cx} {pos : Pos}
theorem pe_dnewK : PE X (.Dict [] [] pos) tDNewK := fun pins s σ H Q I h =>
  wpAny_Dict_empty ⟨.ref s.heap.objs.size, _, I.laid (a := s.heap.objs.size) (o := .dK []) (t' := s.toks) (fun _ _ q => Heap.get?_push_of_some _ q) (Nat.le_refl _) (dk_empty s.heap I.big), rfl, h _ (I.hok.fresh (Nat.le_refl _))⟩
end

/-- the pairs of a display, from the left -/
def tPairs : List (TE × TE) → St → Hp → (List (V × V) → Hp → Prop) → Prop
  | [], _, H, Q => Q [] H
  | (tk, tv) :: r, σ, H, Q => tk σ H fun x H1 => tv σ H1 fun y H2 => tPairs r σ H2 fun ps H3 => Q ((x, y) :: ps) H3
abbrev VV : List (V × V) → List (Value × Value) → Prop := Paired fun p q => RelV p.1 q.1 ∧ RelV p.2 q.2
def PPs (X : Cx) (pos : Pos) (keys : List (Option Expr)) (values : List Expr) (trs : List (TE × TE)) : Prop :=
  ∀ (pins : List (Addr × Obj)) (s : Shared) (σ : St) (H : Hp) (Q : List (V × V) → Hp → Prop), Inv X pins σ H s → tPairs trs σ H Q →
    wpAny (model X.prog X.w) X.A (evalPairs (pairTrees keys values X.env pos)) (fun vs s' => ∃ ps H', Inv X pins σ H' s' ∧ VV ps vs ∧ Q ps H') X.xe s
theorem pps_nil {X : Cx} {pos : Pos} : PPs X pos [] [] [] := fun pins s σ H Q I h => pairTrees_nil_walk ⟨[], H, I, .nil, h⟩
theorem pps_cons {X : Cx} {pos : Pos} {k v : Expr} {ks : List (Option Expr)} {vs : List Expr} {tk tv : TE} {trs : List (TE × TE)} (hk : PE X k tk) (hv : PE X v tv) (hr : PPs X pos ks vs trs) :
    PPs X pos (some k :: ks) (v :: vs) ((tk, tv) :: trs) := fun pins s σ H Q I h =>
  pairTrees_cons_walk (thn (hk pins s σ H _ I h) fun u s1 ⟨x, H1, I1, rx, q1⟩ => thn (hv pins s1 σ H1 _ I1 q1) fun w2 s2 ⟨y, H2, I2, ry, q2⟩ =>
    thn (hr pins s2 σ H2 _ I2 q2) fun ws s3 ⟨ps, H3, I3, rel, q3⟩ => ⟨(x, y) :: ps, H3, I3, .cons ⟨rx, ry⟩ rel, q3⟩)

def mergeK (kvs more : List (Key × V)) : List (Key × V) := more.foldl (fun acc kv => putK acc kv.1 kv.2) kvs
theorem KV.merge : ∀ {more : List (Key × V)} {rs : List (Key × Value)} {kvs : List (Key × V)} {vs : List (Key × Value)}, KV more rs → KV kvs vs → KV (mergeK kvs more) (merged vs rs) := by
  intro more rs kvs vs r
  unfold KV at r
  induction r generalizing kvs vs with
  | nil => intro q; exact q
  | @cons p q ps qs h t ih =>
    intro r0
    have e : KV (putK kvs p.1 p.2) (stored vs q.1 q.2) := by
      have := r0.put p.1 h.2
      rw [← h.1]; exact this
    exact ih e
theorem length_mergeK : ∀ (more kvs : List (Key × V)), (mergeK kvs more).length ≤ kvs.length + more.length
  | [], kvs => by show kvs.length ≤ kvs.length + 0; omega
  | p :: r, kvs => by
    have h1 := length_mergeK r (putK kvs p.1 p.2)
    have h2 := length_putK kvs p.1 p.2
    show (mergeK (putK kvs p.1 p.2) r).length ≤ _
    rw [List.length_cons]; omega
theorem carries_of {P : Program} {w : World} : ∀ {kvs : List (Key × V)} {ws : List (Value × Value)}, VV (kvs.map fun kv => (kV kv.1, kv.2)) ws → ∃ rs, Carries (mixKind P w) ws rs ∧ KV kvs rs
  | [], _, r => by rw [List.map_nil] at r; cases r; exact ⟨[], True.intro, .nil⟩
  | p :: kvs, _, r => by
    rw [List.map_cons] at r
    cases r with
    | @cons a b as bs h t =>
      obtain ⟨rs, c, q⟩ := carries_of (P := P) (w := w) t
      obtain ⟨b1, b2⟩ := b
      exact ⟨(p.1, b2) :: rs, ⟨kV_is h.1, rfl, c⟩, .cons ⟨rfl, h.2⟩ q⟩
/-- {k: v, ..} with keys ints and texts; the new dict stands empty while the pairs are made -/
def tDisp (trs : List (TE × TE)) : TE := fun σ H Q => ∀ p, H p = none → tPairs trs σ (upd H p (.dK [])) fun ps H2 => H2 p = some (.dK []) ∧ ∃ kvs : List (Key × V), ps = kvs.map (fun kv => (kV kv.1, kv.2)) ∧ kvs.length ≤ 15 ∧ Q (.ref p) (upd H2 p (.dK (mergeK [] kvs)))
theorem pe_disp {X : Cx} {pos : Pos} {keys : List (Option Expr)} {values : List Expr} {trs : List (TE × TE)} (h : PPs X pos keys values trs) (hall : keys.all (·.isSome) = true) (hl : keys.length = values.length) (h0 : keys ≠ [])
    (h15 : keys.length ≤ 15) : PE X (.Dict keys values pos) (tDisp trs) := by
  intro pins s σ H Q I q
  have hn := I.hok.fresh (Nat.le_refl s.heap.objs.size)
  have I1 := I.laid (a := s.heap.objs.size) (o := .dK []) (h' := s.heap.push { cls := .type "dict", data := .dict #[] }) (t' := s.toks) (fun _ _ q => Heap.get?_push_of_some _ q) (Nat.le_refl _) (dk_empty s.heap I.big)
  refine wpAny_Dict_walk (knd := mixKind X.prog X.w) hall hl h0 h15 (thn (h pins _ σ _ _ I1 (q _ hn)) fun ws s2 ⟨ps, H2, I2, rel, e, kvs, ep, lk, q2⟩ => ?_)
  subst ep
  obtain ⟨rs, c, rk⟩ := carries_of (P := X.prog) (w := X.w) rel
  obtain ⟨z, hd, vs0, r0, dd⟩ := dk_of I2.hok e
  cases r0
  refine ⟨rs, c, dd, fun h' dd' hs => ⟨.ref s.heap.objs.size, _, ?_, rfl, q2⟩⟩
  have hz : (mergeK [] kvs).length ≤ sizeLine := by
    have h1 := length_mergeK kvs []
    rw [List.length_nil] at h1
    rw [sizeLine_eq]; omega
  have he : ∃ q, h'.get? s.heap.objs.size = some q := let ⟨q, _, _, hq, _⟩ := dd'; ⟨q, hq⟩
  exact d_write I2 (by rw [e]; exact True.intro) hs he (dk_new hz hd (rk.merge .nil) dd')


/-! ### methods -/
/-- a method call o.m(e) of a built-in, with one argument: what must be seen of the text -/
structure M1 (X : Cx) (o : Expr) (m : Str) (apos : Pos) (e : Expr) (cpos : Pos) : Prop where
  base : attributeBase o m X.env (eval o X.env) = eval o X.env
  few : ((backTo cpos (starEach [e] X.env)).all (fun x => !x.1) && (backToKw cpos (keywordEach [] X.env)).all (fun x => x.1.isSome)
    && decide (([e] : List Expr).length + ([] : List Keyword).length + (if ([] : List Keyword).isEmpty then 0 else 1) < 30)) = true
  line : (apos.endLine == cpos.line) = true
  trees : backTo cpos (starEach [e] X.env) = [(false, eval e X.env)]
structure M2 (X : Cx) (o : Expr) (m : Str) (apos : Pos) (e f : Expr) (cpos : Pos) : Prop where
  base : attributeBase o m X.env (eval o X.env) = eval o X.env
  few : ((backTo cpos (starEach [e, f] X.env)).all (fun x => !x.1) && (backToKw cpos (keywordEach [] X.env)).all (fun x => x.1.isSome)
    && decide (([e, f] : List Expr).length + ([] : List Keyword).length + (if ([] : List Keyword).isEmpty then 0 else 1) < 30)) = true
  line : (apos.endLine == cpos.line) = true
  trees : backTo cpos (starEach [e, f] X.env) = [(false, eval e X.env), (false, eval f X.env)]

/-- a is a dict, whatever its keys -/
def IsD (H : Hp) (a : Addr) : Prop := (∃ kvs, Rd H a (.dK kvs)) ∨ ∃ kvs, Rd H a (.dT kvs)
theorem isD_at {X : Cx} {pins : List (Addr × Obj)} {σ : St} {H : Hp} {s : Shared} {a : Addr} (I : Inv X pins σ H s) (d : IsD H a) :
    s.TypeIs (.ref a) "dict" ∧ (∀ b, Value.ref a = .ref b → ∃ ob, s.heap.get? b = some ob ∧ ob.dict = none) ∧ (a == sysModules) = false := by
  rcases d with ⟨kvs, e⟩ | ⟨kvs, e⟩
  · obtain ⟨_, hd, vs, _, dd⟩ := dk_rd I.hok e
    refine ⟨dd.typeIs, fun b q => ?_, hd⟩
    cases q
    obtain ⟨ob, _, _, h1, h2, _⟩ := dd
    exact ⟨ob, h1, h2.2.1⟩
  · obtain ⟨_, hd, xs, _, dd⟩ := dt_rd I.hok e
    refine ⟨dd.typeIs, fun b q => ?_, hd⟩
    cases q
    obtain ⟨ob, _, _, h1, h2, _⟩ := dd
    exact ⟨ob, h1, h2.2.1⟩

section
variable {X : Cx} {pins : List (Addr × Obj)} {σ : St} {H : Hp} {s : Shared} {a : Addr} {y d : V} {u r : Value} {o : Option V} {A : Around} {E : Value → Shared → Prop}
/-- d.get(y, x) -/
theorem d_get2 {Q : Value → Shared → Prop} (hu : A.units + 1 < cLine) (I : Inv X pins σ H s) (g : DGet H a y o) (ry : RelV y u) (rd : RelV d r) (h : ∀ w' s', Inv X pins σ H s' → RelV (o.getD d) w' → Q w' s') :
    wpAny (model X.prog X.w) A (call (.builtin "dict.get") [.ref a, u, r]) Q E s := by
  rcases g with ⟨kvs, k, e, ey, l⟩ | ⟨kvs, k, b, e, ey, eb, l⟩
  · subst ey
    obtain ⟨z, hd, vs, rel, dd⟩ := dk_rd I.hok e
    refine call_meetsIn PySem.F.slot_dict_get dd.typeIs PySem.F.entry_dict_get (PySem.F.args_dict_get_3 _ _ _) (meets_dict_get_default (mixKind X.prog X.w) a (kV_is ry) hd r) ⟨_, dd.mapOf, h _ _ (I.tok _) ?_⟩
    rw [l]
    exact (rel.val k).getD rd
  · subst ey
    cases (show u = Value.ref b from ry)
    obtain ⟨z, hd, xs, rel, dd⟩ := dt_rd I.hok e
    refine call_meetsIn PySem.F.slot_dict_get dd.typeIs PySem.F.entry_dict_get (PySem.F.args_dict_get_3 _ _ _) (meetsH_dict_get_default (tupleKind (mixKind X.prog X.w)) a b hd r) ⟨tupleKind_room_in1 hu, k, xs, key_of I.hok eb, dd, h _ _ (I.tok _) ?_⟩
    rw [l]
    exact (rel.val k).getD rd
end

def tDGet2 (td ty tx : TE) : TE := fun σ H Q => td σ H fun x H1 => ∃ a, x = .ref a ∧ IsD H1 a ∧ ty σ H1 fun y H2 => tx σ H2 fun z H3 => ∃ o, DGet H3 a y o ∧ Q (o.getD z) H3
section
variable {X : Cx} {o e f : Expr} {apos cpos : Pos} {td ty tx : TE}
theorem pe_dget2 (hu : X.A.units + 1 < cLine) (ho : PE X o td) (he : PE X e ty) (hf : PE X f tx) (m : M2 X o "get" apos e f cpos) : PE X (.Call (.Attribute o "get" apos) [e, f] [] cpos) (tDGet2 td ty tx) := by
  intro pins s σ H Q I h
  refine wpAny_Call_method m.base m.few m.line PySem.F.plainAttrs_dict PySem.F.slot_dict_get PySem.F.type_dict_get (thn (ho pins s σ H _ I h) fun u s1 ⟨x, H1, I1, rx, a, ex, d, q1⟩ => ?_)
  subst ex
  obtain rfl : u = Value.ref a := rx
  obtain ⟨t1, t2, _⟩ := isD_at I1 d
  refine ⟨t1, t2, ?_⟩
  rw [m.trees]
  refine Calls.callWith_builtin rfl (Calls.evalArgs_plain (Calls.spliced_cons (thn (he pins s1 σ H1 _ I1 q1) fun iv s2 ⟨y, H2, I2, ry, q2⟩ =>
    Calls.spliced_cons (thn (hf pins s2 σ H2 _ I2 q2) fun fv s3 ⟨z, H3, I3, rz, ov, g, q3⟩ => Calls.spliced_nil ?_))))
  exact d_get2 hu I3 g ry rz fun w' s4 I4 rw' => ⟨_, H3, I4, rw', q3⟩
end

/-! ### dict(d): a copy -/
section
variable {X : Cx} {pins : List (Addr × Obj)} {σ : St} {H : Hp} {s : Shared} {a : Addr} {kvs : List (Key × V)} {A : Around} {E : Value → Shared → Prop}
end


section
variable {X : Cx} {pins : List (Addr × Obj)} {σ : St} {H : Hp} {s : Shared} {a : Addr} {y : V} {u : Value} {A : Around} {E : Value → Shared → Prop}
end
end L2

namespace L2
open PySem PySem.Spec PyProof.Rows

theorem list_keys_none : typeLookup (.type "list") "keys" = pure none := am_miss_of_fast (by first | decide +kernel | rfl)
theorem ud_entry : entryFor table "dict.update.loop" = some Builtin.«dict.update.loop» := entryFor_of_tree (by kernel_rfl)
theorem ud_plain : plainId "dict.update.loop" = true := by decide +kernel

section
variable {prog : Program} {w : World} {A : Around} {E : Value → Shared → Prop}
/-- a list has no attribute 'keys': an AttributeError is made, and forgotten -/
theorem miss_list {s : Shared} {a : Addr} {o : Obj} {xs : Array Value} {k : Nat} {Q : Option Value → Shared → Prop} (hx : s.heap.get? a = some o) (hc : o.cls = .type "list") (hdat : o.data = .seq xs k) (hd : o.dict = none) (hA : A.handled = none)
    (h : ∀ h' tk, (∀ b ob, s.heap.get? b = some ob → h'.get? b = some ob) → Q none { s with heap := h', toks := tk }) : wpAny (model prog w) A (getAttr? (.ref a) "keys") Q E s := by
  obtain ⟨c, dct, dat, sl⟩ := o
  simp only at hc hdat hd
  subst hc hdat hd
  obtain ⟨hp, g, d, tk, os⟩ := s
  have hT : ∀ tk', (⟨hp, g, d, tk', os⟩ : Shared).TypeIs (.ref a) "list" := fun _ => ⟨_, hx, rfl⟩
  have hmiss := list_keys_none
  have hname : (["__module__", "__name__", "__qualname__", "__doc__", "__annotations__"] : List Str).contains "keys" = false := by decide +kernel
  have hsz : ("keys" : Str).length + 100 ≤ sizeLine := by first | size_fits | decide +kernel
  have f1 := sub_AttributeError
  have f3 := PySem.F.slot_list_getattribute.lookup
  have f4 := PySem.F.slot_list_getattribute.bind (.ref a)
  have f5 := am_list_getattr_none
  unfold getAttr? getAttrBy? getAttrBy
  repeat (any_goals (first | assumption | exact hT _ | ((with_reducible show wpAny _ _ (call (Value.builtin "list.__getattribute__") _ _) _ _ _); refine call_meets PySem.F.slot_list_getattribute (hT _) am_entry_list_getattribute (PySem.F.args_list_getattribute_2 _ _) (meets_getattribute_miss_list a xs k sl "keys" _ hmiss hname hsz) ⟨hx, hA, fun h' tk' e hx' => ?_⟩) | wp_step))
  obtain ⟨t', u', he⟩ := hx'.there
  show wpAny _ _ (getattributeRaised _ _ _ _ _ _ _) _ _ _
  unfold getattributeRaised
  repeat (any_goals (first | assumption | wp_step))
  all_goals first | exact h _ _ hx'.keeps | (dsimp only; repeat (any_goals (first | assumption | exact h _ _ hx'.keeps | wp_step)))

/-- the walk over the pairs -/
theorem upd_loop {R : Result → Shared → Prop} {S I l : Addr} {items : Array Value} {res : Value} (hh : A.handled = none) (hlI : l ≠ I) (hSI : S ≠ I) (hSl : S ≠ l) :
    ∀ (rest : List (Key × Value)) (i : Nat) (acc : List (Key × Value)) (ix : Int) (t : Tok) (s : Shared), items.size = i + rest.length → acc.length + rest.length ≤ sizeLine →
      (∀ (j : Nat) (q : Key × Value), rest[j]? = some q → ∃ (b : Addr) (u : Value), items[i + j]? = some (.ref b) ∧ b ≠ S ∧ b ≠ I ∧ IsTup s.heap b #[u, q.2] ∧ keyIs q.1 u = true) →
      s.heap.IsListIter I l i → s.heap.IsList l items → s.heap.DictOf (mixKind prog w) S acc →
      (∀ h' tk, h'.DictOf (mixKind prog w) S (merged acc rest) → (∀ b o, b ≠ S → b ≠ I → s.heap.get? b = some o → h'.get? b = some o) → R (.ok (.ret res)) { s with heap := h', toks := tk }) →
      codeAny (model prog w) A (.builtin "dict.update.loop" ⟨[.ref S, .ref I, .int ix t, res], []⟩) R s
  | [], i, acc, ix, t, s, hsz, hln, ht, hit, hl, hm, hR => by
    refine codeAny_builtin ud_entry ?_
    rw [Around.under_plainId ud_plain _]
    show wpAny _ A.in1 (pyNext (.ref I) >>= _) _ _ s
    refine wpAny_bind (wpAny_pyNext_list_end (A := A.in1) hh hit hl (by first | exact Array.getElem?_eq_none (Nat.le_of_eq hsz) | (simp at hsz; simp; omega)) fun h' he => ?_)
    show wpAny _ A.in1 (Builtin.Dict.addKeywords S [] >>= _) _ _ _
    refine wpAny_bind (wpAny_pure (wpAny_pure ?_))
    exact hR h' s.toks (hm.extBut he hSI) fun b o _ hb e => he b o hb e
  | q :: rest, i, acc, ix, t, s, hsz, hln, ht, hit, hl, hm, hR => by
    obtain ⟨b, u, hb, hbS, hbI, htup, hk⟩ := ht 0 q rfl
    rw [List.length_cons] at hsz hln
    refine codeAny_builtin ud_entry ?_
    rw [Around.under_plainId ud_plain _]
    show wpAny _ A.in1 (pyNext (.ref I) >>= _) _ _ s
    refine wpAny_bind (wpAny_pyNext_list_item (x := .ref b) hit hl (by simpa using hb) fun h1 hit1 hs1 => ?_)
    have ht1 : IsTup h1 b #[u, q.2] := htup.extBut hs1.extBut hbI
    have hl1 : h1.IsList l items := hl.extBut hs1.extBut hlI
    have hm1 : h1.DictOf (mixKind prog w) S acc := hm.extBut hs1.extBut hSI
    obtain ⟨o, ho, hc, n, hd⟩ := id ht1
    show wpAny _ A.in1 (holding [Value.ref b] _ >>= _) _ _ _
    refine wpAny_bind (wpAny_holding ?_)
    refine wpAny_bind (wpAny_tryCatch ?_)
    unfold Builtin.Dict.pairItems
    refine wpAny_bind (wpAny_typeOf (T := "tuple") ⟨o, ho, hc⟩ ?_)
    rw [if_pos (by first | decide | rfl | simp)]
    refine wpAny_bind (wpAny_seqItems ho hd (wpAny_pure ?_))
    show wpAny _ A.in1 (holding [u, q.2] (dictSet S u q.2)) _ _ _
    refine wpAny_holding (wpAny_dictSet_pairs (knd := mixKind prog w) (k := q.1) hk hm1 (fun h2 hm2 hs2 => ?_) (by omega))
    refine wpAny_pure ⟨plainId_quiet ud_plain _, upd_loop (items := items) hh hlI hSI hSl rest (i + 1) (stored acc q.1 q.2) (ix + 1) 0 _ (show items.size = i + 1 + rest.length by omega) ?_ (fun j q' e => ?_) ?_ ?_ hm2 fun h' tk hd' k => ?_⟩
    · have z := stored_length_le acc q.1 q.2
      omega
    · obtain ⟨b', u', hb', hbS', hbI', htup', hk'⟩ := ht (j + 1) q' (by simpa using e)
      refine ⟨b', u', ?_, hbS', hbI', (htup'.extBut hs1.extBut hbI').extBut hs2.extBut hbS', hk'⟩
      rw [show i + 1 + j = i + (j + 1) by omega]
      exact hb'
    · exact hit1.at fun o' e => hs2.extBut I o' (Ne.symm hSI) e
    · exact hl1.extBut hs2.extBut (Ne.symm hSl)
    · exact hR h' tk hd' fun c oc h3 h4 e => k c oc h3 h4 (hs2.extBut c oc h3 (hs1.extBut c oc h4 e))

/-- dict(l) of a list of pairs -/
theorem call_dict_pairs {s : Shared} {l : Addr} {ol : Obj} {items : Array Value} {n : Nat} {prs : List (Key × Value)} {Q : Value → Shared → Prop} (hh : A.handled = none) (hl : s.heap.get? l = some ol) (hc : ol.cls = .type "list") (hd : ol.dict = none)
    (hdat : ol.data = .seq items n) (hsz : items.size = prs.length) (hln : prs.length ≤ sizeLine)
    (ht : ∀ (j : Nat) (q : Key × Value), prs[j]? = some q → ∃ (b : Addr) (u : Value), items[j]? = some (.ref b) ∧ IsTup s.heap b #[u, q.2] ∧ keyIs q.1 u = true)
    (h : ∀ h' tk, h'.DictOf (mixKind prog w) s.heap.objs.size (merged [] prs) → (∀ b o, s.heap.get? b = some o → h'.get? b = some o) → Q (.ref s.heap.objs.size) { s with heap := h', toks := tk }) :
    wpAny (model prog w) A (call (.type "dict") [.ref l]) Q E s := by
  refine callType_codes (Q₁ := fun obj s₁ => obj = .ref s.heap.objs.size ∧ s₁ = { s with heap := s.heap.push { cls := .type "dict", data := .dict #[] } }) PySem.F.kt_called_dict (PySem.F.kt_typeCall_dict_1 _) PySem.F.entry_dict_init (kt_code_dict_new _ ⟨rfl, rfl⟩) ?_
  rintro obj s₁ ⟨rfl, rfl⟩
  have hnew : (s.heap.push { cls := .type "dict", data := .dict #[] }).DictOf (mixKind prog w) s.heap.objs.size [] := Heap.DictOf.new s.heap
  have k0 : ∀ b o, s.heap.get? b = some o → (s.heap.push { cls := .type "dict", data := .dict #[] }).get? b = some o := fun b o e => Heap.get?_push_of_some _ e
  refine ⟨hnew.typeIs, PySem.F.args_dict_init_2 _ _, ?_⟩
  unfold Builtin.«dict.__init__»
  refine wpAny_bind ?_
  unfold Builtin.Dict.selfAndRest
  refine wpAny_bind (wpAny_notOrdered_dict hnew.typeIs ?_)
  show wpAny _ _ (pure (s.heap.objs.size, [Value.ref l])) _ _ _
  refine wpAny_pure ?_
  show wpAny _ _ (Builtin.Dict.updateFrom "dict.__init__" s.heap.objs.size (.ref l) [] .none) _ _ _
  unfold Builtin.Dict.updateFrom
  refine wpAny_bind (wpAny_typeOf (T := "list") ⟨ol, k0 _ _ hl, hc⟩ ?_)
  rw [if_pos (by first | decide | rfl | simp)]
  refine wpAny_bind (miss_list (k0 _ _ hl) hc hdat hd hh fun h1 tk1 hk1 => ?_)
  rw [if_pos (show (none : Option Value).isNone = true from rfl)]
  refine wpAny_bind (wpAny_rule ?_)
  have hl1 : h1.IsList l items := ⟨ol, hk1 _ _ (k0 _ _ hl), hc, n, hdat⟩
  have hS1 : s.heap.objs.size < h1.objs.size := by
    have e : (s.heap.push { cls := .type "dict", data := .dict #[] }).get? s.heap.objs.size = some { cls := .type "dict", data := .dict #[] } := Heap.get?_push_size _ rfl
    exact Heap.lt_size (hk1 _ _ e)
  refine wpAny_bind (wpAny_pyIter_list hl1 ?_)
  have k2 : ∀ b o, h1.get? b = some o → (h1.push { cls := .type "list_iterator", data := .fields #[.ref l, .int 0 0] }).get? b = some o := fun b o e => Heap.get?_push_of_some _ e
  have hlt : l < s.heap.objs.size := Heap.lt_size hl
  have key := upd_loop (prog := prog) (w := w) (A := A.in1) (R := wants (fun r s₂ => r = .none ∧ Q (.ref s.heap.objs.size) s₂) E) (S := s.heap.objs.size) (I := h1.objs.size) (l := l) (items := items) (res := Value.none) hh
    (Nat.ne_of_lt (Nat.lt_trans hlt hS1)) (Nat.ne_of_lt hS1) (Nat.ne_of_gt hlt) prs 0 [] 0 0
    { s with heap := h1.push { cls := .type "list_iterator", data := .fields #[.ref l, .int 0 0] }, toks := tk1 } (by rw [hsz, Nat.zero_add]) (by rw [List.length_nil, Nat.zero_add]; exact hln)
    (fun j q e => by
      obtain ⟨b, u, e1, e2, e3⟩ := ht j q e
      have hb : b < s.heap.objs.size := e2.lt
      exact ⟨b, u, by rw [Nat.zero_add]; exact e1, Nat.ne_of_lt hb, Nat.ne_of_lt (Nat.lt_trans hb hS1), e2.keeps fun c o z => k2 _ _ (hk1 _ _ (k0 _ _ z)), e3⟩)
    ⟨_, Heap.get?_push_size _ rfl, rfl, rfl⟩ (hl1.at fun o e => k2 _ _ e) ((hnew.at fun o e => hk1 _ _ e).at fun o e => k2 _ _ e)
    (fun h' tk hd' k => ⟨rfl, h h' tk hd' fun b o e => k b o (Nat.ne_of_lt (Heap.lt_size e)) (Nat.ne_of_lt (Nat.lt_trans (Heap.lt_size e) hS1)) (k2 _ _ (hk1 _ _ (k0 _ _ e)))⟩)
  first
    | exact wpAny_pure ⟨plainId_quiet ud_plain _, key⟩
    | exact wpAny_bind (wpAny_pure (wpAny_pure ⟨plainId_quiet ud_plain _, key⟩))
end

section
variable {X : Cx}
theorem pairs_of {pins : List (Addr × Obj)} {σ : St} {H : Hp} {s : Shared} (I : Inv X pins σ H s) : ∀ {ps : List Addr} {kvs : List (Key × V)}, Paired (fun p kv => SqT X.K H p [kV kv.1, kv.2]) ps kvs →
    ∃ prs : List (Key × Value), KV kvs prs ∧ prs.length = ps.length ∧ ∀ (j : Nat) (q : Key × Value), prs[j]? = some q → ∃ (b : Addr) (u : Value), ps[j]? = some b ∧ IsTup s.heap b #[u, q.2] ∧ keyIs q.1 u = true
  | _, _, .nil => ⟨[], .nil, rfl, fun j q e => by simp at e⟩
  | _, _, .cons (a := p) (b := kv) h t => by
    obtain ⟨prs, r, hl, hp⟩ := pairs_of I t
    obtain ⟨its, rv, ht, _⟩ := I.tuple h
    obtain ⟨u, y, ei, ru, ry⟩ := vals2 rv
    subst ei
    refine ⟨(kv.1, y) :: prs, .cons ⟨rfl, ry⟩ r, by rw [List.length_cons, List.length_cons, hl], fun j q e => ?_⟩
    cases j with
    | zero =>
      have e' : (kv.1, y) = q := Option.some.inj e
      subst e'
      exact ⟨p, u, rfl, ht, kV_is (P := X.prog) (w := X.w) ru⟩
    | succ j =>
      obtain ⟨b, u', e1, e2, e3⟩ := hp j q (by simpa using e)
      exact ⟨b, u', by simpa using e1, e2, e3⟩
theorem refs_at : ∀ {ps : List Addr} {us : List Value}, Vals (ps.map V.ref) us → us = ps.map Value.ref
  | [], us, r => by
    rw [List.map_nil] at r
    cases r
    rfl
  | p :: ps, us, r => by
    rw [List.map_cons] at r
    cases r with
    | cons h t =>
      cases h
      rw [List.map_cons, ← refs_at t]
/-- dict(xs) of a list of pairs (key, value): later pairs win, the place is the first one's -/
theorem call_dictP (hcalm : X.calm = true) : CallR X (.type "dict") (fun xs H Q => ∃ (a : Addr) (ps : List Addr) (kvs : List (Key × V)), xs = [.ref a] ∧ SqL X.K H a (ps.map V.ref) ∧ Paired (fun p kv => SqT X.K H p [kV kv.1, kv.2]) ps kvs ∧
    ∀ p, H p = none → Q (.ref p) (upd H p (.dK (mergeK [] kvs)))) := by
  intro pins s σ H xs us Q I r q
  obtain ⟨a, ps, kvs, ex, hq, hp, q⟩ := q
  subst ex
  obtain ⟨u, eu, rx⟩ := vals1 r
  subst eu
  cases rx
  obtain ⟨its, rv, pl, hz⟩ := I.list hq
  have ei := refs_at rv
  subst ei
  rw [List.length_map] at hz
  obtain ⟨prs, rel, hl, hpr⟩ := pairs_of I hp
  obtain ⟨o, n, ho, hc, hd, hdat⟩ := pl
  refine call_dict_pairs (prs := prs) (I.ok.hd hcalm) ho hc hd hdat (by simp [hl]) (by rw [hl]; exact hz) (fun j q' e => ?_) fun h' tk hd' k => ?_
  · obtain ⟨b, u, e1, e2, e3⟩ := hpr j q' e
    exact ⟨b, u, by simp [e1], e2, e3⟩
  · have hm : (s.heap.objs.size == sysModules) = false := beq_eq_false_iff_ne.mpr (Nat.ne_of_gt I.big)
    have hlen : (mergeK [] kvs).length ≤ sizeLine := by
      refine Nat.le_trans (length_mergeK kvs []) ?_
      rw [List.length_nil, Nat.zero_add, rel.length, hl]
      exact hz
    exact ⟨.ref s.heap.objs.size, upd H s.heap.objs.size (.dK (mergeK [] kvs)), I.laid (t' := tk) k (Nat.le_refl _) (show ObjOk X.prog X.w _ _ _ (.dK (mergeK [] kvs)) from ⟨hlen, hm, merged [] prs, KV.merge rel .nil, hd'⟩), rfl, q _ (I.hok.fresh (Nat.le_refl _))⟩
end
end L2

namespace L2
open PySem PySem.Spec PyProof.Rows

section
variable {X : Cx} {pins : List (Addr × Obj)} {σ : St} {H : Hp} {s : Shared} {h' : Heap}
/-! ### locking a thing while a statement runs -/
theorem Inv.lock {d : Addr} {u : HO} (I : Inv X pins σ H s) (h : H d = some u) (mu : Mut (some u)) : ∃ od, Inv X pins σ (upd H d (.frz od u)) s := by
  have x := I.hok d u h
  have ex : ∃ od, s.heap.get? d = some od := by
    cases u with
    | lst xs => obtain ⟨_, _, _, _, e⟩ := x; exact ⟨_, e⟩
    | dK kvs => obtain ⟨_, _, _, _, o, _, _, e, _⟩ := x; exact ⟨o, e⟩
    | dT kvs => obtain ⟨_, _, _, _, o, _, _, e, _⟩ := x; exact ⟨o, e⟩
    | set S n => obtain ⟨o, _, _, _, e, _⟩ := x; exact ⟨o, e⟩
    | ins C dx fs => obtain ⟨_, _, _, e, _⟩ := x; exact ⟨_, e⟩
    | ext φ => obtain ⟨_, ⟨_, e⟩, _⟩ := x; exact ⟨_, e⟩
    | _ => exact False.elim mu
  obtain ⟨od, e⟩ := ex
  have new : ObjOk X.prog X.w (upd H d (.frz od u)) s.heap d (.frz od u) := by
    refine ⟨e, x.stay (fun b v _ q => q) (fun b q => ?_) fun b xs q => ?_⟩
    · rw [upd_ne (fun z => by rw [z, h] at q; cases q; exact mu)]; exact q
    · rw [upd_ne (fun z => by rw [z, h] at q; cases q; exact mu)]; exact q
  exact ⟨od, I.write (x := d) (e := d) (t' := s.toks) (h' := s.heap) (by rw [h]; exact mu) (.inl rfl) (fun b v _ q => q) ⟨od, e⟩ new⟩
theorem Inv.nofrz {d : Addr} {u : HO} (I : Inv X pins σ H s) (h : H d = some u) (mu : Mut (some u)) : ∀ o' u', X.H_0 d ≠ some (.frz o' u') := fun o' u' e => by
  have q := I.base.frzs d o' u' e
  rw [h] at q
  cases q
  exact mu
theorem Inv.unlock {d : Addr} {od : Obj} {u : HO} (I : Inv X pins σ H s) (h : H d = some (.frz od u)) (hn : ∀ o' u', X.H_0 d ≠ some (.frz o' u')) : Inv X pins σ (upd H d u) s := by
  have neH : ∀ b o, H b = some o → (∀ o' u', o ≠ .frz o' u') → b ≠ d := fun b o e hne z => by
    rw [z, h] at e
    cases e
    exact hne _ _ rfl
  have neN : ∀ b, H b = none → b ≠ d := fun b e z => by rw [z, h] at e; cases e
  refine ⟨I.ok, I.os, I.bare, ⟨I.base.keep, I.base.slot, fun b o e n hx => ?_, I.base.there, fun b xs e => ?_, fun b o x e => ?_, fun b ps e => ?_⟩, I.loc, I.cell, ?_, fun x c e => ?_, fun p hp => ?_, fun b o e => ?_, I.len⟩
  · rw [upd_ne (neN b (I.base.free b o e n hx))]; exact I.base.free b o e n hx
  · have q := I.base.tups b xs e
    rw [upd_ne (neH b _ q (fun _ _ z => nomatch z))]; exact q
  · have q := I.base.frzs b o x e
    rw [upd_ne (fun z => by rw [z] at e; exact hn _ _ e)]; exact q
  · obtain ⟨m, q⟩ := I.base.tbls b ps e
    exact ⟨m, by rw [upd_ne (neH b _ q (fun _ _ z => nomatch z))]; exact q⟩
  · rw [upd_ne (neN _ I.free)]; exact I.free
  · rw [upd_ne (neN c (I.freeC x c e))]; exact I.freeC x c e
  · obtain ⟨e, n, r⟩ := I.pin p hp
    exact ⟨e, by rw [upd_ne (neN _ n)]; exact n, r⟩
  · by_cases hb : b = d
    · rw [hb, upd_same] at e
      cases e
      rw [hb]
      obtain ⟨_, x⟩ := I.hok d _ h
      exact x.stay (fun c v _ q => q) (fun c q => by rw [upd_ne (neH c _ q (fun _ _ z => nomatch z))]; exact q) fun c xs q => by rw [upd_ne (neH c _ q (fun _ _ z => nomatch z))]; exact q
    · rw [upd_ne hb] at e
      exact (I.hok b o e).stay (fun c v _ q => q) (fun c q => by rw [upd_ne (neH c _ q (fun _ _ z => nomatch z))]; exact q) fun c xs q => by rw [upd_ne (neH c _ q (fun _ _ z => nomatch z))]; exact q
end
/-- the statement runs while the thing at d is locked (read, not written); d and what stands there are the reading's choice -/
def tLock (t : TS) : TS := fun D σ H => ∃ d u, H d = some u ∧ Mut (some u) ∧ ∀ od, t ⟨fun σ' H' => H' d = some (.frz od u) ∧ D.nx σ' (upd H' d u), fun v H' => H' d = some (.frz od u) ∧ D.rt v (upd H' d u), fun σ' H' => H' d = some (.frz od u) ∧ D.bk σ' (upd H' d u), fun σ' H' => H' d = some (.frz od u) ∧ D.ct σ' (upd H' d u)⟩ σ (upd H d (.frz od u))
def tLockE (t : TE) : TE := fun σ H Q => ∃ d u, H d = some u ∧ Mut (some u) ∧ ∀ od, t σ (upd H d (.frz od u)) fun v H' => H' d = some (.frz od u) ∧ Q v (upd H' d u)
section
variable {X : Cx}
theorem ps_lock {st : Stmt} {t : TS} (h : PS X st t) : PS X st (tLock t) := by
  intro pins s σ H D I hw
  obtain ⟨d, u, hd, mu, hw⟩ := hw
  obtain ⟨od, I1⟩ := I.lock hd mu
  refine thn (h pins s σ _ _ I1 (hw od)) fun f s1 q => ?_
  cases f with
  | next => obtain ⟨σ', H', I2, e, q⟩ := q; exact ⟨σ', _, I2.unlock e (I.nofrz hd mu), q⟩
  | brk => obtain ⟨σ', H', I2, e, q⟩ := q; exact ⟨σ', _, I2.unlock e (I.nofrz hd mu), q⟩
  | cont => obtain ⟨σ', H', I2, e, q⟩ := q; exact ⟨σ', _, I2.unlock e (I.nofrz hd mu), q⟩
  | ret v => obtain ⟨x, σ', H', I2, r, e, q⟩ := q; exact ⟨x, σ', _, I2.unlock e (I.nofrz hd mu), r, q⟩
theorem pe_lock {e : Expr} {t : TE} (h : PE X e t) : PE X e (tLockE t) := by
  intro pins s σ H Q I hw
  obtain ⟨d, u, hd, mu, hw⟩ := hw
  obtain ⟨od, I1⟩ := I.lock hd mu
  refine thn (h pins s σ _ _ I1 (hw od)) fun v s1 ⟨x, H1, I2, r, e2, q⟩ => ?_
  exact ⟨x, _, I2.unlock e2 (I.nofrz hd mu), r, q⟩

/-! ### one iterator just laid -/
theorem pi_one {tg : Expr} {pins : List (Addr × Obj)} {σ : St} {H : Hp} {s : Shared} {R : It → Hp → Prop} {J : It} {tn : Nat → Heap → Prop} {tk : Nat} (I : Inv X pins σ H s) (o : Obj)
    (T : Turn X.prog X.w X.K tg J [s.heap.objs.size] s.heap.objs.size tn) (st : tn 0 (s.heap.push o)) (q : R J H) : PIE X pins σ tg R (.ref s.heap.objs.size) { s with heap := s.heap.push o, toks := tk } := by
  refine ⟨s.heap.objs.size, [s.heap.objs.size], tn, J, H, rfl, I.kept fun b ob e => Heap.get?_push_of_some _ e, T, st, fun b hb => ?_, q⟩
  have e : b = s.heap.objs.size := by simpa using hb
  subst e
  exact I.fpOk (Nat.le_refl _) (I.hok.fresh (Nat.le_refl _))
end

section
variable {X : Cx} {tg : Expr}
end
section
variable {X : Cx} {tg : Expr}
end

/-! ### a dict's keys: any dict's entries -/
section
variable {prog : Program} {w : World} {A : Around} {E : Value → Shared → Prop} {s : Shared}
theorem iter_keys {d : Addr} {o : Obj} {es : Array DictEntry} {ep : Nat} {Q : Value → Shared → Prop} (hd : (d == sysModules) = false) (ho : s.heap.get? d = some o) (hc : o.ExactDict) (hdat : o.data = .dict es ep)
    (hQ : Q (.ref s.heap.objs.size) { s with heap := s.heap.push { cls := .type "dict_keyiterator", data := .fields #[.ref d, .int 0 0, .int es.size 0, .int ep 0] } }) :
    wpAny (model prog w) A (pyIter (.ref d)) Q E s := by
  have hT : s.TypeIs (.ref d) "dict" := ⟨o, ho, hc.1⟩
  refine wpAny_pyIter_slot hT F.slot_dict_iter (wpAny_call_entry F.slot_dict_iter hT F.entry_dict_iter ?_ (F.args_dict_iter_1 _))
  unfold Builtin.«dict.__iter__»
  refine wpAny_bind ?_
  unfold Builtin.Dict.dictSlotNone
  refine wpAny_bind (wpAny_notOrdered_dict hT ?_)
  show wpAny _ _ (pure (Value.ref d)) _ _ s
  refine wpAny_pure ?_
  show wpAny _ _ (Builtin.Dict.showsAll d >>= _) _ _ s
  unfold Builtin.Dict.showsAll
  rw [if_neg (by rw [hd]; exact Bool.false_ne_true)]
  refine wpAny_bind (wpAny_pure ?_)
  refine wpAny_bind (wpAny_dictEntries ho hdat ?_)
  refine wpAny_bind (wpAny_dictEpoch ho hdat ?_)
  refine wpAny_bind (wpAny_newObj_type (wpAny_pure ⟨_, rfl, "dict_keyiterator", _, ⟨_, Heap.get?_push_size _ rfl, rfl⟩, F.slot_dict_keyiterator_next.lookup, ?_⟩))
  simpa [rawInt] using hQ
theorem next_key_item {it d : Addr} {i n ep : Nat} {od : Obj} {es : Array DictEntry} {en : DictEntry} {Q : Option Value → Shared → Prop} (hit : s.heap.IsKeyIter it d i n ep) (hod : s.heap.get? d = some od) (hdd : od.data = .dict es ep)
    (hsz : es.size = n) (hx : es[i]? = some en) (hQ : ∀ h', h'.IsKeyIter it d (i + 1) n ep → Heap.SameBut it s.heap h' → Q (some en.key) { s with heap := h' }) : wpAny (model prog w) A (pyNext (.ref it)) Q E s := by
  obtain ⟨o, ho, hc, hd⟩ := id hit
  unfold pyNext
  refine wpAny_bind (wpAny_attempt (wpAny_callSpecial?_slot (name := Str.ofString "__next__") hit.typeIs F.slot_dict_keyiterator_next
    (wpAny_call_entry F.slot_dict_keyiterator_next hit.typeIs F.entry_dict_keyiterator_next ?_ (F.args_dict_keyiterator_next_1 _))))
  refine wpAny_bind (wpAny_pure ?_)
  refine wpAny_bind ?_
  refine wpAny_bind ?_
  first | refine wpAny_bind (wpAny_typeNameOfWhole_keyiter hit.typeIs (wpAny_pure ?_)) | refine wpAny_bind (wpAny_typeNameOf_keyiter hit.typeIs (wpAny_pure ?_))
  refine wpAny_bind (wpAny_fieldsOf ho hd ?_)
  have hown : Builtin.Dict_items.ownsTuple "dict_keyiterator" = false := by decide
  simp only [hown, Bool.false_eq_true, if_false]
  show wpAny _ _ (if (Value.ref d == Value.none) = true then _ else _) _ _ s
  rw [if_neg (show ¬ ((Value.ref d == Value.none) = true) from Bool.false_ne_true)]
  refine wpAny_bind (wpAny_pure ?_)
  refine wpAny_bind (wpAny_dictEntries hod hdd ?_)
  rw [if_neg (by rw [hsz]; simp)]
  refine wpAny_bind (wpAny_pure ?_)
  refine wpAny_bind (wpAny_dictEpoch hod hdd ?_)
  rw [if_neg (by simp)]
  refine wpAny_pure ?_
  obtain ⟨hlt', hen⟩ := Array.getElem?_eq_some_iff.mp hx
  simp only [show ¬ ((i : Int) < 0) from by omega, if_false, Int.toNat_natCast, Array.getElem?_eq_getElem hlt']
  refine wpAny_bind ?_
  first | refine wpAny_bind (wpAny_typeNameOfWhole_keyiter hit.typeIs (wpAny_pure ?_)) | refine wpAny_bind (wpAny_typeNameOf_keyiter hit.typeIs (wpAny_pure ?_))
  refine wpAny_bind (wpAny_isOneOf_keyiter hit.typeIs ?_)
  show wpAny _ _ (setField (.ref it) 1 (rawInt ((i : Int) + 1)) >>= _) _ _ s
  refine wpAny_bind (wpAny_setField ho hd (by simp) ?_)
  have hit' : (s.heap.update it (Obj.mapFields (·.setIfInBounds 1 (rawInt ((i : Int) + 1))))).IsKeyIter it d (i + 1) n ep :=
    ⟨_, Heap.get?_update_self _ ho (Obj.isFreed_of_fields (Obj.data_mapFields hd _)), (Obj.cls_mapFields ..).trans hc, by rw [Obj.data_mapFields hd]; simp [rawInt]⟩
  refine wpAny_bind (wpAny_holding ?_)
  refine wpAny_bind (wpAny_isOneOf_keyiter (s := { s with heap := s.heap.update it (Obj.mapFields (·.setIfInBounds 1 (rawInt ((i : Int) + 1)))) }) hit'.typeIs ?_)
  show wpAny _ _ (pure es[i].key) _ _ _
  rw [hen]
  exact wpAny_pure (wpAny_pure ⟨_, rfl, wpAny_pure (hQ _ hit' (Heap.SameBut.update ..))⟩)
theorem next_key_end {it d : Addr} {i n ep : Nat} {od : Obj} {es : Array DictEntry} {Q : Option Value → Shared → Prop} (hh : A.handled = none) (hit : s.heap.IsKeyIter it d i n ep) (hod : s.heap.get? d = some od) (hdd : od.data = .dict es ep)
    (hsz : es.size = n) (hge : n ≤ i) (hQ : ∀ h', Heap.ExtBut it s.heap h' → Q none { s with heap := h' }) : wpAny (model prog w) A (pyNext (.ref it)) Q E s := by
  obtain ⟨o, ho, hc, hd⟩ := id hit
  unfold pyNext
  refine wpAny_bind (wpAny_attempt (wpAny_callSpecial?_slot (name := Str.ofString "__next__") hit.typeIs F.slot_dict_keyiterator_next
    (wpAny_call_entry F.slot_dict_keyiterator_next hit.typeIs F.entry_dict_keyiterator_next ?_ (F.args_dict_keyiterator_next_1 _))))
  refine wpAny_bind (wpAny_pure ?_)
  refine wpAny_bind ?_
  refine wpAny_bind ?_
  first | refine wpAny_bind (wpAny_typeNameOfWhole_keyiter hit.typeIs (wpAny_pure ?_)) | refine wpAny_bind (wpAny_typeNameOf_keyiter hit.typeIs (wpAny_pure ?_))
  refine wpAny_bind (wpAny_fieldsOf ho hd ?_)
  have hown : Builtin.Dict_items.ownsTuple "dict_keyiterator" = false := by decide
  simp only [hown, Bool.false_eq_true, if_false]
  show wpAny _ _ (if (Value.ref d == Value.none) = true then _ else _) _ _ s
  rw [if_neg (show ¬ ((Value.ref d == Value.none) = true) from Bool.false_ne_true)]
  refine wpAny_bind (wpAny_pure ?_)
  refine wpAny_bind (wpAny_dictEntries hod hdd ?_)
  rw [if_neg (by rw [hsz]; simp)]
  refine wpAny_bind (wpAny_pure ?_)
  refine wpAny_bind (wpAny_dictEpoch hod hdd ?_)
  rw [if_neg (by simp)]
  refine wpAny_pure ?_
  have hge' : es.size ≤ i := by rw [hsz]; exact hge
  simp only [show ¬ ((i : Int) < 0) from by omega, if_false, Int.toNat_natCast, Array.getElem?_eq_none hge']
  refine wpAny_bind ?_
  first | refine wpAny_bind (wpAny_typeNameOfWhole_keyiter hit.typeIs (wpAny_pure ?_)) | refine wpAny_bind (wpAny_typeNameOf_keyiter hit.typeIs (wpAny_pure ?_))
  show wpAny _ _ (setField (.ref it) 0 .none >>= _) _ _ s
  refine wpAny_bind (wpAny_setField ho hd (by simp) ?_)
  show wpAny _ _ (newExc (.type "StopIteration") [] >>= _) _ _ _
  refine wpAny_bind ?_
  simp only [newExc, newTuple]
  refine wpAny_bind (wpAny_newObj_type ?_ (by size_fits))
  refine wpAny_bind (m := firstArgMember _ _) (wpAny_of_eq (a := Value.none) (by first | rfl | (simp only [firstArgMember]; rfl)) ?_)
  refine wpAny_newObj_type ?_ (by size_fits)
  simp only [raiseNew]
  refine wpAny_bind (wpAny_handled ?_)
  rw [show A.in1.handled = none from hh]
  refine wpAny_bind (wpAny_pure (wpAny_throw ?_))
  refine wpAny_bind (wpAny_isInstance (T := "StopIteration") (b := true) ⟨_, Heap.get?_push_size _ rfl, rfl⟩ isSubtype_stop ?_)
  exact wpAny_pure (hQ _ (((Heap.SameBut.update ..).extBut.push _).push _))
end

/-! ### a locked dict -/
theorem kv_get {κ : Type} {kvs : List (κ × V)} {vs : List (κ × Value)} (h : KV kvs vs) : ∀ {i : Nat} {k : κ} {v : V}, kvs[i]? = some (k, v) → ∃ u, vs[i]? = some (k, u) ∧ RelV v u := by
  unfold KV at h
  induction h with
  | nil => intro i k v e; simp at e
  | @cons a b l₁ l₂ r t ih =>
    intro i k v e
    cases i with
    | zero =>
      simp only [List.getElem?_cons_zero, Option.some.injEq] at e
      subst e
      refine ⟨b.2, ?_, r.2⟩
      simp only [List.getElem?_cons_zero]
      exact congrArg some (Prod.ext r.1.symm rfl)
    | succ j =>
      simp only [List.getElem?_cons_succ] at e ⊢
      exact ih e
theorem paired_get {α β : Type} {G : α → β → Prop} {l₁ : List α} {l₂ : List β} (h : Paired G l₁ l₂) : ∀ {i : Nat} {a : α}, l₁[i]? = some a → ∃ b, l₂[i]? = some b ∧ G a b := by
  induction h with
  | nil => intro i a e; simp at e
  | @cons a b l₁ l₂ r t ih =>
    intro i a' e
    cases i with
    | zero =>
      simp only [List.getElem?_cons_zero, Option.some.injEq] at e
      subst e
      exact ⟨b, rfl, r⟩
    | succ j =>
      simp only [List.getElem?_cons_succ] at e ⊢
      exact ih e
theorem relV_key {k : Key} {u : Value} (h : keyIs k u = true) : RelV (kV k) u := by
  rcases keyIs_shape h with ⟨i, t, rfl, rfl⟩ | ⟨x, t, rfl, rfl⟩
  · exact ⟨t, rfl⟩
  · exact ⟨t, rfl⟩
section
variable {X : Cx} {pins : List (Addr × Obj)} {σ : St} {H : Hp} {s : Shared} {d : Addr} {o : Obj}
theorem Inv.frzK {kvs : List (Key × V)} (I : Inv X pins σ H s) (h : H d = some (.frz o (.dK kvs))) :
    (d == sysModules) = false ∧ s.heap.get? d = some o ∧ o.ExactDict ∧ ∃ (es : Array DictEntry) (ep : Nat) (vs : List (Key × Value)), o.data = .dict es ep ∧ es.size = kvs.length ∧ KV kvs vs ∧ s.heap.DictAt (mixKind X.prog X.w) d vs ep := by
  obtain ⟨hd, z, hs, vs, kv, o', es, ep, ho, hx, hdt, r⟩ := I.hok d _ h
  rw [hd] at ho
  cases ho
  refine ⟨hs, hd, hx, es, ep, vs, hdt, ?_, kv, o, es, hd, hx, hdt, r⟩
  have l1 := r.2.1.length
  have l2 : kvs.length = vs.length := Paired.length kv
  rw [Array.length_toList] at l1
  omega
/-- the same for tuple keys -/
theorem Inv.frzT {kvs : List (List Key × V)} (I : Inv X pins σ H s) (h : H d = some (.frz o (.dT kvs))) :
    (d == sysModules) = false ∧ s.heap.get? d = some o ∧ o.ExactDict ∧ ∃ (es : Array DictEntry) (ep : Nat), o.data = .dict es ep ∧ es.size = kvs.length ∧
      ∀ (i : Nat) (k : List Key) (v : V), kvs[i]? = some (k, v) → ∃ (en : DictEntry) (q : Addr), es[i]? = some en ∧ en.key = .ref q ∧ H q = some (.tup (k.map kV)) := by
  obtain ⟨hd, z, hs, xs, pr, o', es, ep, ho, hx, hdt, he, _⟩ := I.hok d _ h
  rw [hd] at ho
  cases ho
  refine ⟨hs, hd, hx, es, ep, hdt, ?_, fun i k v e => ?_⟩
  · have l1 : es.size = xs.length := size_of_entries he
    have l2 : kvs.length = xs.length := Paired.length pr
    omega
  · obtain ⟨b, hb, e1, e2, _⟩ := paired_get pr e
    have q := entry_at he i
    rw [hb] at q
    exact ⟨_, b.2.1, q, rfl, e2⟩
end

/-- the keys of the locked dict at d, in their order -/
def Itk (d : Addr) (o : Obj) (kvs : List (Key × V)) : It :=
  ⟨fun i H => H d = some (.frz o (.dK kvs)) ∧ i < kvs.length, fun i H x H' => H' = H ∧ ∃ k v, kvs[i]? = some (k, v) ∧ x = kV k, fun i H => H d = some (.frz o (.dK kvs)) ∧ kvs.length ≤ i⟩
/-- .. of tuple keys: the key's own tuple -/
def Itkt (d : Addr) (o : Obj) (kvs : List (List Key × V)) : It :=
  ⟨fun i H => H d = some (.frz o (.dT kvs)) ∧ i < kvs.length, fun i H x H' => H' = H ∧ ∃ (k : List Key) (v : V) (q : Addr), kvs[i]? = some (k, v) ∧ x = .ref q ∧ H q = some (.tup (k.map kV)), fun i H => H d = some (.frz o (.dT kvs)) ∧ kvs.length ≤ i⟩
theorem dict_ep {o : Obj} {es es' : Array DictEntry} {ep ep' : Nat} (h : o.data = .dict es ep) (h' : o.data = .dict es' ep') : es' = es ∧ ep' = ep := by
  rw [h] at h'
  cases h'
  exact ⟨rfl, rfl⟩
section
variable {P : Program} {w : World} {K : PySem.W.Frag} {tg : Expr} {d : Addr} {o : Obj} {es : Array DictEntry} {ep : Nat}
theorem turn_keys {kvs : List (Key × V)} (it : Addr) (hod : o.data = .dict es ep) : Turn P w K tg (Itk d o kvs) [it] it (fun i h => h.IsKeyIter it d i kvs.length ep) where
  mem := by simp
  obj := fun i h st b hb => by
    have e : b = it := by simpa using hb
    subst e
    obtain ⟨oi, e, c, dd⟩ := st
    exact ⟨oi, e, fun v z => by rw [dd] at z; cases z⟩
  keep := fun i h h' st k => st.at fun oi e => k it (by simp) oi e
  item := by
    intro X hP hw hK hc i pins s σ H E I hf st hg
    subst hP hw hK
    obtain ⟨hd, hi⟩ := hg
    obtain ⟨f0, f1, f2, f3, f4, f5⟩ := hf it (by simp)
    obtain ⟨hs, hgd, hx, es', ep', vs, hdt, hsz, kv, hm⟩ := I.frzK hd
    obtain ⟨rfl, rfl⟩ := dict_ep hod hdt
    obtain ⟨⟨k, v⟩, hkv⟩ : ∃ p, kvs[i]? = some p := ⟨kvs[i], List.getElem?_eq_getElem hi⟩
    obtain ⟨u, hu, ru⟩ := kv_get kv hkv
    have hl : kvs.length = vs.length := Paired.length kv
    rw [hl] at st
    refine wpAny_pyNext_dict_item st hm hu fun key h' hkey st' sb => ?_
    have I1 : Inv X pins σ H { s with heap := h' } := I.turned (t' := s.toks) (fun b ob hb e => (sb.2 b hb).trans e) f0 f1 f3 f4 f5
    obtain ⟨oi, e, c, dd⟩ := id st'
    refine ⟨key, rfl, go_of (s := { s with heap := h' }) e c dd (by decide) ⟨kV k, H, I1, relV_key (show keyIs k key = true from hkey), ⟨rfl, k, v, hkv, rfl⟩, ?_, fun b hb => (hf b hb).1⟩⟩
    show h'.IsKeyIter it d (i + 1) kvs.length _
    rw [hl]
    exact st'
  done := by
    intro X hP hw hK hc i pins s σ H E I hf st hg
    subst hP hw hK
    obtain ⟨hd, hi⟩ := hg
    obtain ⟨f0, f1, f2, f3, f4, f5⟩ := hf it (by simp)
    obtain ⟨hs, hgd, hx, es', ep', vs, hdt, hsz, kv, hm⟩ := I.frzK hd
    obtain ⟨rfl, rfl⟩ := dict_ep hod hdt
    exact next_key_end (I.ok.hd hc) st hgd hdt hsz hi fun h' eb => ⟨rfl, I.turned (t' := s.toks) (fun b ob hb e => eb b ob hb e) f0 f1 f3 f4 f5⟩
  self := fun A i s Q E st h => wpAny_pyIter_keyiter st h
theorem turn_keysT {kvs : List (List Key × V)} (it : Addr) (hod : o.data = .dict es ep) : Turn P w K tg (Itkt d o kvs) [it] it (fun i h => h.IsKeyIter it d i kvs.length ep) where
  mem := by simp
  obj := fun i h st b hb => by
    have e : b = it := by simpa using hb
    subst e
    obtain ⟨oi, e, c, dd⟩ := st
    exact ⟨oi, e, fun v z => by rw [dd] at z; cases z⟩
  keep := fun i h h' st k => st.at fun oi e => k it (by simp) oi e
  item := by
    intro X hP hw hK hc i pins s σ H E I hf st hg
    subst hP hw hK
    obtain ⟨hd, hi⟩ := hg
    obtain ⟨f0, f1, f2, f3, f4, f5⟩ := hf it (by simp)
    obtain ⟨hs, hgd, hx, es', ep', hdt, hsz, ent⟩ := I.frzT hd
    obtain ⟨rfl, rfl⟩ := dict_ep hod hdt
    obtain ⟨⟨k, v⟩, hkv⟩ : ∃ p, kvs[i]? = some p := ⟨kvs[i], List.getElem?_eq_getElem hi⟩
    obtain ⟨en, q, hen, hkey, hq⟩ := ent i k v hkv
    refine next_key_item st hgd hdt hsz hen fun h' st' sb => ?_
    have I1 : Inv X pins σ H { s with heap := h' } := I.turned (t' := s.toks) (fun b ob hb e => (sb.2 b hb).trans e) f0 f1 f3 f4 f5
    obtain ⟨oi, e, c, dd⟩ := id st'
    exact ⟨en.key, rfl, go_of (s := { s with heap := h' }) e c dd (by decide) ⟨.ref q, H, I1, hkey, ⟨rfl, k, v, q, hkv, rfl, hq⟩, st', fun b hb => (hf b hb).1⟩⟩
  done := by
    intro X hP hw hK hc i pins s σ H E I hf st hg
    subst hP hw hK
    obtain ⟨hd, hi⟩ := hg
    obtain ⟨f0, f1, f2, f3, f4, f5⟩ := hf it (by simp)
    obtain ⟨hs, hgd, hx, es', ep', hdt, hsz, ent⟩ := I.frzT hd
    obtain ⟨rfl, rfl⟩ := dict_ep hod hdt
    exact next_key_end (I.ok.hd hc) st hgd hdt hsz hi fun h' eb => ⟨rfl, I.turned (t' := s.toks) (fun b ob hb e => eb b ob hb e) f0 f1 f3 f4 f5⟩
  self := fun A i s Q E st h => by
    refine wpAny_pyIter_slot st.typeIs F.slot_dict_keyiterator_iter (wpAny_call_entry F.slot_dict_keyiterator_iter st.typeIs F.entry_dict_keyiterator_iter ?_ (F.args_dict_keyiterator_iter_1 _))
    show wpAny _ _ (ret (.ref it)) _ _ s
    exact wpAny_pure ⟨_, rfl, "dict_keyiterator", _, st.typeIs, F.slot_dict_keyiterator_next.lookup, h⟩
end

/-! ### for k in d, d.keys(), d.values(), d.items() -/
/-- the dict is locked (tLock, or by the caller) -/
def iKeys (td : TE) : TI := fun σ H R => td σ H fun x H1 => ∃ d o, x = .ref d ∧ ((∃ kvs, H1 d = some (.frz o (.dK kvs)) ∧ R (Itk d o kvs) H1) ∨ ∃ kvs, H1 d = some (.frz o (.dT kvs)) ∧ R (Itkt d o kvs) H1)
section
variable {X : Cx} {tg e : Expr} {td : TE} {apos cpos : Pos}
theorem pi_keys (he : PE X e td) : PI X tg e (iKeys td) := by
  intro pins s σ H R I h
  refine thn (he pins s σ H _ I h) fun u s1 ⟨x, H1, I1, rx, d, o, ex, q⟩ => ?_
  subst ex
  obtain rfl : u = Value.ref d := rx
  rcases q with ⟨kvs, hd, q⟩ | ⟨kvs, hd, q⟩
  · obtain ⟨hs, hgd, hx, es, ep, vs, hdt, hsz, kv, hm⟩ := I1.frzK hd
    refine iter_keys hs hgd hx hdt (pi_one (tk := s1.toks) I1 _ (turn_keys _ hdt) ⟨_, Heap.get?_push_size _ rfl, rfl, ?_⟩ q)
    rw [hsz] <;> rfl
  · obtain ⟨hs, hgd, hx, es, ep, hdt, hsz, ent⟩ := I1.frzT hd
    refine iter_keys hs hgd hx hdt (pi_one (tk := s1.toks) I1 _ (turn_keysT _ hdt) ⟨_, Heap.get?_push_size _ rfl, rfl, ?_⟩ q)
    rw [hsz] <;> rfl
end

end L2

section 
namespace Bits
open PySem PyProof.Rows

end Bits
end 

section 
namespace TL
open PySem PySem.Builtin PySem.Builtin.Str PySem.StrLaws

abbrev tl (x : Str) : List Nat := x.cps.toList
/-! ### the list functions -/
/-- S stands at the head of l -/
def pre (S l : List Nat) : Bool := l.take S.length == S
/-- what stands before the first S, and behind it -/
def par (S : List Nat) : List Nat → List Nat → Option (List Nat × List Nat)
  | _, [] => none
  | acc, c :: r => if pre S (c :: r) = true then some (acc, (c :: r).drop S.length) else par S (acc ++ [c]) r

end TL
end 

namespace L2
open PySem PySem.Spec PyProof.Rows

section
variable {X : Cx} {pins : List (Addr × Obj)} {σ : St} {H : Hp} {s : Shared} {Q : VK}
end

section
variable {X : Cx}

end

section
variable {X : Cx} {o e : Expr} {to te : TE}
end
end L2

namespace L2
open PySem PySem.Spec PyProof.Rows

section
variable {X : Cx}
end

/-! ### slices of a text -/
theorem IsPart.raw {v : Value} {o : Option Int} (p : IsPart v o) : ∃ l : Option (Int × Tok), v = partValue l ∧ l.map (·.1) = o := by
  cases p with
  | none => exact ⟨none, rfl, rfl⟩
  | int i t => exact ⟨some (i, t), rfl, rfl⟩

end L2

namespace Att
open PySem PySem.W PySem.Calls PyProof.Rows

/-! ### the script -/
theorem ints_of_wellAll {P : Params} {h : Heap} : ∀ (ns : List Int) (vs : List Value), WellAll P h vs (ns.map WData.int) → IntsAre vs ns := by
  intro ns
  induction ns with
  | nil =>
    intro vs w
    rw [List.map_nil] at w
    cases w
    exact .nil
  | cons n ns ih =>
    intro vs w
    rw [List.map_cons] at w
    cases w with
    | cons a b =>
      cases a
      exact .cons _ _ (ih _ b)

theorem script_of {l : OpenLaw} {n : Nat} (hn : l.most = some n) {P : Params} {h : Heap} {args : List WData} {vals : List Value}
    (hpre : l.row.toRowW.claim.pre args = true) (hwl : WellAll P h vals args) :
    ∃ a vs ns, vals = [Value.ref a] ∧ args = [WData.list (ns.map WData.int)] ∧ h.get? a = some { cls := .type "list", data := .seq vs.toArray } ∧ IntsAre vs ns ∧ ns.length ≤ n := by
  have hsh : WShape.hasAll [] args [.list .int] = true := (pre_splitW hpre).1
  have hc : l.pre.holds [] { args := args } = true := (pre_splitW hpre).2
  obtain ⟨d, r, rfl, h1, h2⟩ := hasAllW_cons hsh
  obtain rfl := hasAllW_nil h2
  obtain ⟨xs, rfl, h3⟩ := hasW_list h1
  obtain ⟨ns, rfl⟩ := items_int h3
  have hlen : ns.length ≤ n := by
    unfold OpenLaw.pre at hc
    have h4 : (WTm.not (.lt (.lit (.int (n : Int))) (.len (.arg 0)))).holds [] { args := [.list (ns.map .int)] } = true := by
      have h4 := (holds_andW hc).1
      rw [hn] at h4
      exact h4
    have h5 := condW_of h4 (w_not (w_lt w_lit (w_len_list (w_arg rfl))))
    rw [List.length_map] at h5
    refine Nat.le_of_not_lt fun q => ?_
    have q' : (n : Int) < ((ns.length : Nat) : Int) := by omega
    first
      | (rw [decide_eq_true q'] at h5; exact absurd h5 (by decide))
      | (simp at h5; omega)
  cases hwl with
  | cons w1 w2 =>
    cases w2
    cases w1 with
    | list ho hall => exact ⟨_, _, ns, rfl, rfl, ho, ints_of_wellAll ns _ hall, hlen⟩

theorem post_true (l : OpenLaw) (args : List WData) : l.row.toRowW.claim.post args (.bool true) args = true :=
  postW_of (r := l.row.toRowW) (X := (true == true))
    (show WShape.has [] (.bool true) .bool = true by first | rfl | decide | simp [WShape.has, WShape.arms, WShape.armsAll])
    (show (WTm.eq .res (.lit (.bool true))).value [] { args := args, res := some (.bool true), after := args } = some (.bool (true == true)) from w_eq_bool (w_res rfl) w_lit) rfl

/-- the same from a codeAny of the CALL (for a layer whose function contracts speak of calls) -/
theorem attach_call {l : OpenLaw} {n : Nat} {q : Program} {loose : List Str} {XP : (Str → Option Value) → Heap → Prop} {YP : World → Heap → Prop} {d : DefRec}
    (hn : l.most = some n) (hdf : d.params.defaults = [])
    (call : ∀ (w : World) (s₀ s₁ : Shared) (mg mb : Str → Option Value) (fa : Addr) (o : Obj) (pm cd doc : Value) (a : Addr) (vs : List Value) (ns : List Int),
      Ground q loose [] XP w s₀ mg mb s₁.heap → YP w s₁.heap →
      s₁.heap.get? fa = some o → o.data = .func (docDef d.name d.params d.body d.scope pm cd doc) → s₁.heap.CodeRec cd d.name → mg d.name = some (.ref fa) →
      s₁.heap.get? a = some { cls := .type "list", data := .seq vs.toArray } → IntsAre vs ns → ns.length ≤ n → s₁.gens = #[] →
      codeAny (model l.prog w) callerA (.call (.ref fa) ⟨[.ref a], []⟩) (fun r s' => r = .ok (.ret (.bool true)) ∧ OldK s₁.heap s'.heap ∧ s'.os = s₁.os ∧ AllBare s'.gens) s₁) :
    WalkO q loose XP YP l.row.toRowW d [] (fun f vs => PySem.call f vs) := by
  intro w s₀ s₁ mg mb G Y fa o pm cd doc dV kV ho hd hcd hD hmg hg args vals as hpre hlay hrd hwl hlo
  obtain rfl : dV = .none := Dflts.none hD hdf
  obtain rfl : kV = .none := Dflts.noKw hD
  obtain ⟨a, vs, ns, rfl, rfl, hobj, hints, hlen⟩ := script_of hn hpre hwl
  refine enter_call (codeAny_mono (call w s₀ s₁ mg mb fa o pm cd doc a vs ns G Y ho (fd_plain hd) hcd hmg hobj hints hlen hg) fun r s' hq => ?_)
  obtain ⟨rfl, h2, h3, h4⟩ := hq
  exact ⟨.inl ⟨.bool true, .bool true, [], rfl, fun _ => rfl, .bool true, post_true l _, fun _ => ⟨List.Pairwise.nil, fun _ hm => (nomatch hm)⟩⟩, h2, h3, h4⟩

/-! ### rules over ANY heap (no ledger) from facts about the written part K: the library's own take a ledger (News) for what they write -/
section
variable {prog : Program} {w : World} {A : Around} {E : Value → Shared → Prop} {s : Shared} {K : Frag}

def ledger (h : Heap) (L d : Addr) : List (Addr × Obj) := (List.range h.objs.size).filterMap fun a => if a = L ∨ a = d then none else (h.get? a).map fun o => (a, o)
end
end Att

namespace L2
open PySem PySem.Spec PyProof.Rows

theorem vals_ints : ∀ {vs : List Value} {ns : List Int}, IntsAre vs ns → Vals (ns.map V.int) vs
  | _, _, .nil => .nil
  | _, _, .cons n t h => .cons ⟨t, rfl⟩ (vals_ints h)

/-- nothing is tracked but the script, known to the object (or it is an object of the module) -/
def Only (H : Hp) : Prop := ∀ b, H b = none ∨ ∃ o xs, H b = some (.frz o (.lst xs))

/-- THE HEAD: the law's promise, at the heap behind the top. F, the promise of the law's def, may use that base is part of the heap (so K.In base, base.Ns mainGlobals mg stand in Mod) -/
theorem law_call {P : Program} {w : World} {K : PySem.W.Frag} {mg mb : Str → Option Value} {CX : CXT} {k : Nat} {fa a : Addr} {fd : FuncData} {x : Str} {sp : Sp} {s₁ : Shared} {vs : List Value} {ns : List Int}
    (KX : K.In s₁.heap) (hns : s₁.heap.Ns mainGlobals mg) (hb : s₁.heap.Ns builtinsNs mb) (hbb : ∀ x : Str, x ≠ "__name__" → mb x = bootBuiltins x) (hlim : s₁.heap.NoLimit) (hg : s₁.gens = #[])
    (ha : s₁.heap.get? a = some { cls := .type "list", data := .seq vs.toArray }) (hi : IntsAre vs ns) (hl : ns.length ≤ sizeLine) (hr : Room k callerA)
    (F : ∀ base : Heap, K.In base → base.Ns mainGlobals mg → FnOk P w K mg base CX k fa fd [x] sp) (hbind : ∀ (s : Shared) (u : Value), BindsTo s fd ⟨[u], []⟩ [(x, u)])
    (hsp : ∀ H : Hp, Only H → SqL K H a (ns.map V.int) → sp [.ref a] H (fun v _ => v = .bl true) fun _ _ _ => False)
    (hCX : ∀ H e s', CX [] H s₁ (fun _ _ _ => False) e s' → False) :
    codeAny (model P w) callerA (.call (.ref fa) ⟨[.ref a], []⟩) (fun r s' => r = .ok (.ret (.bool true)) ∧ OldK s₁.heap s'.heap ∧ s'.os = s₁.os ∧ AllBare s'.gens) s₁ := by
  have rv := vals_ints hi
  have lenV := hi.length
  -- from an abstract heap in which nothing but the script may be tracked
  have core : ∀ H : Hp, Only H → SqL K H a (ns.map V.int) → HOk P w H s₁.heap → (∀ b, H b ≠ none → b = a) → (H a ≠ none → K.lookup a = none) →
      codeAny (model P w) callerA (.call (.ref fa) ⟨[.ref a], []⟩) (fun r s' => r = .ok (.ret (.bool true)) ∧ OldK s₁.heap s'.heap ∧ s'.os = s₁.os ∧ AllBare s'.gens) s₁ := by
    intro H hO hS hok hA hK
    have base_of : ∀ {b : Addr} {o : Obj}, s₁.heap.get? b = some o → H b = none → (hidT s₁.heap H).get? b = some o := fun e n => hidT_get e n
    have noA : ∀ {b : Addr} {o : Obj} {es : Array DictEntry} {ep : Nat}, s₁.heap.get? b = some o → o.data = .dict es ep → H b = none := fun {b o es ep} e d => by
      cases q : H b with
      | none => rfl
      | some u =>
        have e' : b = a := hA b (by rw [q]; simp)
        subst e'
        rw [ha] at e; cases e
        have d' : Data.seq vs.toArray _ = Data.dict es ep := d
        cases d'
    have nsK : ∀ {b : Addr} {m : Str → Option Value}, s₁.heap.Ns b m → (hidT s₁.heap H).Ns b m := fun {b m} ⟨o, es, ep, e, d, r⟩ => ⟨o, es, ep, base_of e (noA e d), d, r⟩
    have hKb : K.In (hidT s₁.heap H) := fun b o e => base_of (KX b o e) (by
      cases q : H b with
      | none => rfl
      | some u =>
        have e' : b = a := hA b (by rw [q]; simp)
        subst e'
        rw [hK (by rw [q]; simp)] at e; cases e)
    have hM : Mod K mg (hidT s₁.heap H) := ⟨hKb, nsK hns, ⟨mb, nsK hb, hbb⟩, let ⟨mc, h1, h2⟩ := hlim; ⟨mc, nsK h1, h2⟩⟩
    have e0 : Env0 P w K mg (hidT s₁.heap H) callerA [] s₁ H := ⟨rfl, hM, fun b o e => of_hidT e, Nat.le_of_eq (hidT_size _ _), trivial, fun b hb => absurd (show b ∈ ([] : List Addr) from hb) (by simp), hok, .of_eq hg⟩
    refine codeAny_mono ((F _ hKb (nsK hns)).run callerA [] s₁ H ⟨[.ref a], []⟩ [.ref a] [.ref a] _ _ hr e0 (hbind s₁ (.ref a)) (.cons rfl .nil) (hsp H hO hS)) fun r s' h => ?_
    cases r with
    | error e => exact (hCX H e s' h).elim
    | ok fl =>
      cases fl with
      | next => exact False.elim h
      | brk => exact False.elim h
      | cont => exact False.elim h
      | ret u =>
        obtain ⟨v, H', os, bare, un, hok', r', q⟩ := h
        have q' : v = .bl true := q
        subst q'
        obtain rfl : u = Value.bool true := r'
        refine ⟨rfl, OldK.of_keep fun b o e => ?_, os, bare⟩
        cases q : H b with
        | none => exact un.keep b o e q (by intro z; exact absurd (show b ∈ ([] : List Addr) from z) (by simp)) (by simp)
        | some u =>
          rcases hO b with z | ⟨ob, xs, z⟩
          · rw [q] at z; cases z
          · have z2 := un.frzs b ob _ z
            obtain ⟨e1, _⟩ := hok b _ z
            obtain ⟨e2, _⟩ := hok' b _ z2
            rw [e] at e1; cases e1
            exact e2
  cases hk : K.lookup a with
  | some o =>
    -- the script is one of the module's own objects
    have e := KX a o hk
    rw [ha] at e
    cases e
    refine core (fun _ => none) (fun _ => .inl rfl) (.inr ⟨_, vs.toArray, _, hk, rfl, rfl, rfl, by rw [List.size_toArray, lenV]; exact hl, by simpa using rv⟩) (fun b u z => by have z' : (none : Option HO) = some u := z; cases z') (fun b z => absurd rfl z) fun z => absurd rfl z
  | none =>
    refine core (fun b => if b = a then some (.frz { cls := .type "list", data := .seq vs.toArray } (.lst (ns.map V.int))) else none) (fun b => ?_) (.inl (.inr ⟨{ cls := .type "list", data := .seq vs.toArray }, if_pos rfl⟩)) (fun b u z => ?_) (fun b z => ?_) fun _ => hk
    · by_cases hb : b = a
      · exact .inr ⟨_, _, if_pos hb⟩
      · exact .inl (if_neg hb)
    · by_cases hb : b = a
      · have z' := (if_pos hb).symm.trans z
        cases z'
        subst hb
        exact ⟨ha, by rw [List.length_map]; exact hl, vs, _, rv, ha⟩
      · have z' := (if_neg hb).symm.trans z
        cases z'
    · by_cases hb : b = a
      · exact hb
      · exact absurd (if_neg hb) z
end L2

namespace L2
open PySem PySem.Spec PyProof.Rows

abbrev KOf {K : PySem.W.Frag} {h : Heap} (_ : K.In h) : PySem.W.Frag := K

/-- the goal that k_head leaves (case hc), from the law's promise. F gives the function object fd (K's own) once, then the promise over every base -/
theorem walk_of {l : PySem.W.OpenLaw} {n k : Nat} {q : Program} {loose : List Str} {XP : (Str → Option Value) → Heap → Prop} {YP : World → Heap → Prop} {d : DefRec} {K : Params → PySem.W.Frag} {CX : World → CXT} {sp : World → Sp} {x : Str}
    (hn : l.most = some n) (hn2 : n ≤ sizeLine) (hdf : d.params.defaults = []) (hr : Room k callerA)
    (hY : ∀ (w : World) (h : Heap), YP w h → (K w.params).In h)
    (F : ∀ (w : World) (mg : Str → Option Value) (fa : Addr) (h : Heap), (K w.params).In h → h.Ns mainGlobals mg → mg d.name = some (.ref fa) →
      ∃ fd : FuncData, (∀ (s : Shared) (u : Value), BindsTo s fd ⟨[u], []⟩ [(x, u)]) ∧
        ∀ base : Heap, (K w.params).In base → base.Ns mainGlobals mg → FnOk l.prog w (K w.params) mg base (CX w) k fa fd [x] (sp w))
    (hsp : ∀ (w : World) (H : Hp) (a : Addr) (ns : List Int), ns.length ≤ n → Only H → SqL (K w.params) H a (ns.map V.int) → sp w [.ref a] H (fun v _ => v = .bl true) fun _ _ _ => False)
    (hCX : ∀ (w : World) (H : Hp) (s : Shared) (e : Value) (s' : Shared), CX w [] H s (fun _ _ _ => False) e s' → False) :
    PySem.W.WalkO q loose XP YP l.row.toRowW d [] (fun f vs => PySem.call f vs) := by
  refine Att.attach_call hn hdf fun w s₀ s₁ mg mb fa o pm cd doc a vs ns G Y ho hd hcd hmg hobj hints hlen hg => ?_
  have KX := hY w _ Y
  obtain ⟨fd, hb, hF⟩ := F w mg fa _ KX G.T.g hmg
  exact law_call KX G.T.g G.T.b G.T.builtins G.T.nolimit hg hobj hints (Nat.le_trans hlen hn2) hr hF hb (fun H hO hS => hsp w H a ns hlen hO hS) fun H e s' => hCX w H s₁ e s'
end L2

/- THE LAST THEOREM (shape; LID, My.* are yours):
   My.Adr: a structure of the addresses that your layer names (classes, functions); My.Txt K t: a structure (Prop) of the equations over K;
   My.txt_mk : {K} {implicit addresses ..} (e1 : nsIn K mainGlobals "law" = some (some (.ref f))) (e2 : K.lookup f = some ⟨oc, od, .func (fnOf "law" "law" params body scope dV kV doc pm an cdv ct), sl⟩) (e3 : codeIn K cdv "law" = true) .. : ∃ t, My.Txt K t

set_option maxRecDepth 100000 in
set_option maxHeartbeats 0 in
theorem PySem.Challenge.cw_LID_holds : PySem.Challenge.rw_LID.Holds := by
  w_on; o_law; k_head; (case hw => w_witness2)
  k_fill
  refine L2.walk_of (l := PySem.Challenge.rw_LID) (n := 63) (k := 40) (x := "script") (CX := fun w => ..) (sp := fun _ => My.sp_law) rfl (by decide) rfl ⟨rfl, by decide, by decide⟩ (fun w h Y => PySem.W.kIn_of Y) ?F ?S ?C
  case F =>
    intro w mg fa h KX G hmg
    have T : ∃ t, My.Txt (L2.KOf KX) t := by
      dsimp only [L2.KOf]                          -- K must stand as «<heap const> w.params» for k_is
      refine' My.txt_mk ?e1 ?e2 ?e3 ..
      (case e1 => PySem.W.k_is)                    -- in the order: a name -> its address -> its object -> its parts
      (case e2 => PySem.W.k_is)
      ..
    obtain ⟨t, T⟩ := T
    have e0 := hmg.symm.trans (PySem.W.mg_of KX G T.law)
    cases e0                                       -- fa is the law's own address
    exact ⟨_, fun s u => .of_eq rfl, fun base kb nb => My.law_fn T kb nb⟩     -- if «.of_eq rfl» comes too early: refine' ⟨_, ?b, fun base kb nb => My.law_fn T kb nb⟩; exact fun s u => .of_eq rfl
  case S => exact fun w H a ns hl hO hS => ..
  case C => exact ..
(the tactic k_is has no namespace: write k_is) -/

/-! SHORT WORDS over the layer: a def of the text, its body, what a loop and a test want. -/
namespace L2
open PySem PySem.Spec PyProof.Rows

def defArgs (s : Stmt) : Arguments := match s with
  | .FunctionDef _ a _ _ _ _ _ _ _ _ => a
  | _ => { posonlyargs := [], args := [], vararg := none, kwonlyargs := [], kw_defaults := [], kwarg := none, defaults := [] }
def defBody (s : Stmt) : List Stmt := match s with
  | .FunctionDef _ _ b _ _ _ _ _ _ _ => b
  | _ => []
def defScope (s : Stmt) : Scope := match s with
  | .FunctionDef _ _ _ _ _ _ sc _ _ _ => sc
  | _ => { kind := .function, names := [], isGenerator := false, isCoroutine := false }

/-! ### no exception leaves a def -/
abbrev CX0 : CXT := fun _ _ _ _ _ _ => False
abbrev E0 : XK := fun _ _ _ => False
theorem pass0 {X : Cx} : Passes CX0 X E0 := fun _ _ _ _ _ _ _ h => h.elim

/-! ### a def (or method) of the text as it stands behind the top -/
structure Fun (K : PySem.W.Frag) (x qual : Str) (st : Stmt) (f : Addr) (fd : FuncData) : Prop where
  ex : ∃ (oc : Value) (od : Option Addr) (kV doc pm : Value) (an : Option Addr) (cdv ct : Value) (osl : Array (Option Value)),
    fd = PySem.W.fnOf x qual (defArgs st) (defBody st) (defScope st) .none kV doc pm an cdv ct ∧ K.lookup f = some ⟨oc, od, .func fd, osl⟩ ∧ PySem.W.codeIn K cdv qual = true
  kp : PySem.W.keepIn K (.ref f) = true
section
variable {P : Program} {w : World} {K : PySem.W.Frag} {mg : Str → Option Value} {base : Heap}
/-- THE RULE for a def: its body as a term of rules, and the reading of that term -/
theorem Fun.ok {x qual : Str} {st : Stmt} {f : Addr} {fd : FuncData} {N ps : List Str} {k : Nat} {sp : Sp} (F : Fun K x qual st f fd) (S : FnScope N ps (defScope st)) (len : ∀ vs H Q E, sp vs H Q E → vs.length = ps.length)
    (hbody : ∀ (cdv : Value) (A : Around) (outer : List Env) (s : Shared) (H : Hp) (vs : List V) (Q : VK) (E : XK), Room k (A.deeper (envOfC qual (defScope st) s.heap.objs.size f cdv)) → sp vs H Q E →
      ∃ t, PSs (cxOf CX0 P w K mg base N qual (defScope st) f cdv A outer s H E).nox (defBody st) t ∧ t { nx := fun _ H' => Q .non H', rt := Q } (start N vs) H) : FnOk P w K mg base CX0 (k + 1) f fd ps sp := by
  obtain ⟨oc, od, kV, doc, pm, an, cdv, ct, osl, rfl, lk, hcd⟩ := F.ex
  refine fn_of lk hcd S len fun A outer s H vs Q E hr hsp => ?_
  obtain ⟨t, h, q⟩ := hbody cdv A outer s H vs Q E hr hsp
  exact ⟨t, h.nox, q⟩
/-- how its arguments bind (no defaults): h is «fun _ _ _ _ _ _ us hl => match us, hl with | [_, _], _ => rfl», one _ a parameter -/
theorem Fun.binds {x qual : Str} {st : Stmt} {f : Addr} {fd : FuncData} {ps : List Str} (F : Fun K x qual st f fd)
    (h : ∀ (kV doc pm : Value) (an : Option Addr) (cdv ct : Value) (us : List Value), us.length = ps.length → bindArgs (PySem.W.fnOf x qual (defArgs st) (defBody st) (defScope st) .none kV doc pm an cdv ct) ⟨us, []⟩ = pure (ps.zip us)) : Binds K fd ps [] := by
  obtain ⟨oc, od, kV, doc, pm, an, cdv, ct, osl, rfl, lk, hcd⟩ := F.ex
  exact .all (h kV doc pm an cdv ct)
theorem fun_mk {x qual : Str} {st : Stmt} {f : Addr} {oc : Value} {od an : Option Addr} {osl : Array (Option Value)} {kV doc pm cdv ct : Value} (l : K.lookup f = some ⟨oc, od, .func (PySem.W.fnOf x qual (defArgs st) (defBody st) (defScope st) .none kV doc pm an cdv ct), osl⟩)
    (c : PySem.W.codeIn K cdv qual = true) (k : PySem.W.keepIn K (.ref f) = true) : Fun K x qual st f (PySem.W.fnOf x qual (defArgs st) (defBody st) (defScope st) .none kV doc pm an cdv ct) := ⟨⟨oc, od, kV, doc, pm, an, cdv, ct, osl, rfl, l, c⟩, k⟩
end
theorem hu_of {A : Around} {k : Nat} (hr : Room k A) : A.units + 1 < cLine := Nat.lt_of_le_of_lt (Nat.add_le_add_left (by decide : 1 ≤ 64) _) hr.units
theorem small1000 {n : Nat} (h : n ≤ 1000) : n < sizeLine := Nat.lt_of_le_of_lt h (by decide)

/-! ### expressions in short: the name that stands in the i-th slot -/
section
variable {X : Cx}
theorem pv (i : Nat) {x : Str} {pos : Pos} (hN : X.N[i]? = some x := by rfl) (hv : Vis X.env.scope x := by first | exact Or.inl rfl | exact Or.inr (Or.inl rfl) | exact Or.inr (Or.inr rfl)) (hd : (x == ("__debug__" : Str)) = false := by decide)
    (hcd : (x == ("__classdict__" : Str)) = false := by decide) : PE X (.Name x pos) (tVar i) := pe_var hN hv hd hcd
end

/-! ### tests -/
theorem iteF {A B : Prop} (h : B) : if false = true then A else B := by
  rw [if_neg Bool.false_ne_true]
  exact h
theorem iteT {A B : Prop} (h : A) : if true = true then A else B := by
  rw [if_pos rfl]
  exact h
theorem ite2 {c A B : Prop} [Decidable c] (h1 : c → A) (h2 : ¬ c → B) : if c then A else B := by
  by_cases h : c
  · rw [if_pos h]
    exact h1 h
  · rw [if_neg h]
    exact h2 h
/-! ### heaps -/
/-- all that was tracked is as it was -/
def Same (H H' : Hp) : Prop := ∀ b o, H b = some o → H' b = some o
theorem Same.refl (H : Hp) : Same H H := fun _ _ h => h
theorem Same.trans {H H1 H2 : Hp} (a : Same H H1) (b : Same H1 H2) : Same H H2 := fun c o h => b c o (a c o h)
theorem Same.free {H H' : Hp} (e : Same H H') {l : Addr} (h : H' l = Option.none) : H l = Option.none := by
  cases q : H l with
  | none => rfl
  | some o =>
    rw [e l o q] at h
    cases h
theorem Same.seq {K : PySem.W.Frag} {H H' : Hp} {a : Addr} {xs : List V} (e : Same H H') (h : SqL K H a xs) : SqL K H' a xs := by
  rcases h with (h | ⟨o, h⟩) | h
  · exact .inl (.inl (e _ _ h))
  · exact .inl (.inr ⟨o, e _ _ h⟩)
  · exact .inr h

/-! ### a dict's pairs: keys that differ -/
section
variable {κ : Type} [DecidableEq κ]
theorem valV_not {kvs : List (κ × V)} {k : κ} (h : valV kvs k = none) : ¬ k ∈ kvs.map (·.1) := by
  intro m
  obtain ⟨p, hp, e⟩ := List.mem_map.mp m
  have q : (kvs.any fun kv => decide (kv.1 = k)) = true := List.any_eq_true.mpr ⟨p, hp, decide_eq_true e⟩
  rw [valV_any, h] at q
  exact absurd q (by simp)
end
/-! ### lists -/
theorem at_of {xs : List V} {z : Int} {j : Nat} {v : V} (e : z = (j : Int)) (h : xs[j]? = some v) : atI xs z = some v := by
  rw [e]
  exact atI_nat h
theorem nd_ix {α : Type} {l : List α} (hN : l.Nodup) {i j : Nat} {x : α} (a : l[i]? = some x) (b : l[j]? = some x) : i = j := by
  obtain ⟨h1, e1⟩ := List.getElem?_eq_some_iff.mp a
  obtain ⟨h2, e2⟩ := List.getElem?_eq_some_iff.mp b
  exact (List.getElem_inj hN).mp (e1.trans e2.symm)
/-- a new instance and its __init__ leave all that was tracked as it was -/
theorem Same.made {H H1 : Hp} {x dx C : Addr} (nx : H x = Option.none) (nd : H dx = Option.none) (k : ∀ b o, (upd (upd H dx (.own x)) x (.ins C dx [])) b = some o → b ≠ x → H1 b = some o) : Same H H1 := fun b o e =>
  k b o (by rw [upd_ne (ne_of_none e nx), upd_ne (ne_of_none e nd)]; exact e) (ne_of_none e nx)
end L2

set_option Elab.async false
set_option linter.all false
set_option maxRecDepth 100000
namespace L2
open PySem PySem.Spec PyProof.Rows
section
variable {X : Cx}
end

/-! ### data: what a value is, however deep; all its parts lie where p says -/
def kD : Key → PyData
  | .inl i => .int i
  | .inr x => .str x
mutual
inductive Th (p : Addr → Prop) (H : Hp) : V → PyData → Prop
  | non : Th p H .non .none
  | bl (b : Bool) : Th p H (.bl b) (.bool b)
  | int (i : Int) : Th p H (.int i) (.int i)
  | str (x : Str) : Th p H (.str x) (.str x)
  | lst {a : Addr} {xs : List V} {ds : List PyData} : p a → a ≠ sysModules → H a = some (.lst xs) → ThAll p H xs ds → Th p H (.ref a) (.list ds)
  | tup {a : Addr} {xs : List V} {ds : List PyData} : p a → H a = some (.tup xs) → ThAll p H xs ds → Th p H (.ref a) (.tuple ds)
  | dct {a : Addr} {kvs : List (Key × V)} {es : List (PyData × PyData)} : p a → H a = some (.dK kvs) → kvs.map (fun e => kD e.1) = es.map (·.1) → ThAll p H (kvs.map (·.2)) (es.map (·.2)) → Th p H (.ref a) (.dict es)
inductive ThAll (p : Addr → Prop) (H : Hp) : List V → List PyData → Prop
  | nil : ThAll p H [] []
  | cons {v : V} {vs : List V} {d : PyData} {ds : List PyData} : Th p H v d → ThAll p H vs ds → ThAll p H (v :: vs) (d :: ds)
end
/-- all but what lies at p is as it was -/
def Ext (p : Addr) (H H' : Hp) : Prop := ∀ b o, b ≠ p → H b = some o → H' b = some o
theorem Ext.refl (p : Addr) (H : Hp) : Ext p H H := fun _ _ _ h => h
theorem Ext.trans {p : Addr} {H H1 H2 : Hp} (a : Ext p H H1) (b : Ext p H1 H2) : Ext p H H2 := fun c o n h => b c o n (a c o n h)
theorem Same.ext {p : Addr} {H H' : Hp} (s : Same H H') : Ext p H H' := fun b o _ h => s b o h
theorem same_new {H : Hp} {p : Addr} (h : H p = none) (o : HO) : Same H (upd H p o) := fun b u q => by rw [upd_ne (ne_of_none q h)]; exact q
mutual
theorem Th.ext {p : Addr → Prop} {H H' : Hp} (e : ∀ b o, p b → H b = some o → H' b = some o) : ∀ {v : V} {d : PyData}, Th p H v d → Th p H' v d
  | _, _, .non => .non
  | _, _, .bl b => .bl b
  | _, _, .int i => .int i
  | _, _, .str x => .str x
  | _, _, .lst n n2 h a => .lst n n2 (e _ _ n h) (ThAll.ext e a)
  | _, _, .tup n h a => .tup n (e _ _ n h) (ThAll.ext e a)
  | _, _, .dct n h k a => .dct n (e _ _ n h) k (ThAll.ext e a)
theorem ThAll.ext {p : Addr → Prop} {H H' : Hp} (e : ∀ b o, p b → H b = some o → H' b = some o) : ∀ {vs : List V} {ds : List PyData}, ThAll p H vs ds → ThAll p H' vs ds
  | _, _, .nil => .nil
  | _, _, .cons h a => .cons (Th.ext e h) (ThAll.ext e a)
end
theorem ThAll.length {p : Addr → Prop} {H : Hp} : ∀ {vs : List V} {ds : List PyData}, ThAll p H vs ds → vs.length = ds.length
  | _, _, .nil => rfl
  | _, _, .cons _ a => congrArg (· + 1) (ThAll.length a)
theorem ThAll.get {p : Addr → Prop} {H : Hp} : ∀ {vs : List V} {ds : List PyData} {i : Nat} {v : V}, ThAll p H vs ds → vs[i]? = some v → ∃ d, ds[i]? = some d ∧ Th p H v d
  | _, _, i, _, .nil, e => by simp at e
  | _, _, 0, _, .cons h _, e => by simp at e; subst e; exact ⟨_, rfl, h⟩
  | _, _, i + 1, v, .cons _ a, e => by
    obtain ⟨d, h1, h2⟩ := ThAll.get (i := i) (v := v) a (by simpa using e)
    exact ⟨d, by simpa using h1, h2⟩
theorem ThAll.snoc {p : Addr → Prop} {H : Hp} {v : V} {d : PyData} (h : Th p H v d) : ∀ {vs : List V} {ds : List PyData}, ThAll p H vs ds → ThAll p H (vs ++ [v]) (ds ++ [d])
  | _, _, .nil => .cons h .nil
  | _, _, .cons g a => .cons g (ThAll.snoc h a)
theorem ThAll.app {p : Addr → Prop} {H : Hp} {us : List V} {es : List PyData} (h : ThAll p H us es) : ∀ {vs : List V} {ds : List PyData}, ThAll p H vs ds → ThAll p H (vs ++ us) (ds ++ es)
  | _, _, .nil => h
  | _, _, .cons g a => .cons g (ThAll.app h a)
theorem Th.same {p : Addr → Prop} {H H' : Hp} {v : V} {d : PyData} (t : Th p H v d) (s : Same H H') : Th p H' v d := t.ext fun b o _ h => s b o h
theorem ThAll.same {p : Addr → Prop} {H H' : Hp} {v : List V} {d : List PyData} (t : ThAll p H v d) (s : Same H H') : ThAll p H' v d := t.ext fun b o _ h => s b o h
mutual
theorem Th.weak {p q : Addr → Prop} {H : Hp} (e : ∀ b o, H b = some o → p b → q b) : ∀ {v : V} {d : PyData}, Th p H v d → Th q H v d
  | _, _, .non => .non
  | _, _, .bl b => .bl b
  | _, _, .int i => .int i
  | _, _, .str x => .str x
  | _, _, .lst n n2 h a => .lst (e _ _ h n) n2 h (ThAll.weak e a)
  | _, _, .tup n h a => .tup (e _ _ h n) h (ThAll.weak e a)
  | _, _, .dct n h k a => .dct (e _ _ h n) h k (ThAll.weak e a)
theorem ThAll.weak {p q : Addr → Prop} {H : Hp} (e : ∀ b o, H b = some o → p b → q b) : ∀ {vs : List V} {ds : List PyData}, ThAll p H vs ds → ThAll q H vs ds
  | _, _, .nil => .nil
  | _, _, .cons h a => .cons (Th.weak e h) (ThAll.weak e a)
end
/-- its class -/
def tyD : PyData → String
  | .none => "NoneType"
  | .bool _ => "bool"
  | .int _ => "int"
  | .str _ => "str"
  | .list _ => "list"
  | .tuple _ => "tuple"
  | .dict _ => "dict"
theorem Th.ty {p : Addr → Prop} {K : PySem.W.Frag} {H : Hp} {v : V} {d : PyData} (h : Th p H v d) : TyOf K H v (.type (tyD d)) := by
  cases h with
  | non => exact .non
  | bl b => exact .bl b
  | int i => exact .int i
  | str x => exact .str x
  | lst _ _ h _ => exact .lst h
  | tup _ h _ => exact .tup h
  | dct _ h _ _ => exact .dK h
section
variable {X : Cx} {pins : List (Addr × Obj)} {σ : St} {H : Hp} {s : Shared}
def tLstN (t : TA) : TE := fun σ H Q => t σ H fun xs H1 => xs.length ≤ sizeLine ∧ ∀ p, H1 p = none → p ≠ sysModules → Q (.ref p) (upd H1 p (.lst xs))
theorem pe_lstN {es : List Expr} {t : TA} {pos : Pos} (h : PA X es t) : PE X (.List es pos) (tLstN t) := by
  intro pins s σ H Q I hq
  refine wpAny_List_spliced (thn (h pos pins s σ H _ I hq) fun us s1 ⟨xs, H1, I1, r, z, q⟩ => ⟨by rw [← r.length]; exact z, ?_⟩)
  have hf : H1 s1.heap.objs.size = none := I1.hok.fresh (Nat.le_refl _)
  refine ⟨.ref s1.heap.objs.size, upd H1 s1.heap.objs.size (.lst xs), I1.laid (t' := s1.toks) (fun b u e => Heap.get?_push_of_some _ e) (Nat.le_refl _) ?_, rfl, q _ hf (Nat.ne_of_gt I1.big)⟩
  exact ⟨z, us, 0, r, Heap.get?_push_size _ rfl⟩
theorem pairs_read {h : Heap} {P : Program} {w : World} : ∀ {es : List DictEntry} {vs : List (Key × Value)} {kvs : List (Key × V)}, Pairs (mixKind P w) es vs → KV kvs vs → ReadsAll h (es.map (·.key)) (kvs.map fun e => kD e.1) [] ∧ Vals (kvs.map (·.2)) (es.map (·.val))
  | _, _, _, .nil, .nil => ⟨.nil, .nil⟩
  | _, _, _, .cons (e := e) hk hv r, .cons (a := a) ⟨e1, rv⟩ t => by
    obtain ⟨h1, h2⟩ := pairs_read (h := h) r t
    refine ⟨?_, .cons (by show RelV a.2 e.val; rw [hv]; exact rv) h2⟩
    have q : Reads h e.key (kD a.1) [] := by
      rw [e1]
      rcases keyIs_shape hk with ⟨i, t, z1, z2⟩ | ⟨x, t, z1, z2⟩
      · rw [z1, z2]; exact .int i t
      · rw [z1, z2]; exact .str x t
    exact ReadsAll.cons (as := []) (bs := []) q h1
theorem sz_snd : ∀ es : List (PyData × PyData), sizeOf (es.map (·.2)) ≤ sizeOf es
  | [] => by simp
  | (a, b) :: r => by
    have q := sz_snd r
    simp only [List.map_cons, List.cons.sizeOf_spec, Prod.mk.sizeOf_spec]
    omega
mutual
theorem Th.reads {p : Addr → Prop} (I : Inv X pins σ H s) : ∀ (d : PyData) (v : V) (u : Value), Th p H v d → RelV v u → ∃ as, Reads s.heap u d as ∧ sysModules ∉ as
  | .none, _, _, h, r => by
    cases h
    cases r
    exact ⟨_, Reads.none, by simp⟩
  | .bool b, _, _, h, r => by
    cases h
    cases r
    exact ⟨_, Reads.bool b, by simp⟩
  | .int i, _, _, h, r => by
    cases h
    obtain ⟨t, rfl⟩ := r
    exact ⟨_, Reads.int i t, by simp⟩
  | .str x, _, _, h, r => by
    cases h
    obtain ⟨t, rfl⟩ := r
    exact ⟨_, Reads.str x t, by simp⟩
  | .list ds, _, _, h, r => by
    cases h with
    | lst n n2 hs ha =>
      cases r
      obtain ⟨its, rv, ⟨o, n, ho, hc, _, hd⟩, _⟩ := I.list (SqL.of hs)
      obtain ⟨as, hr, hn⟩ := Th.readsAll I ds _ its ha rv
      exact ⟨_, Reads.list ho hc hd hr, by
        intro hm
        rcases List.mem_cons.mp hm with e | e
        · exact n2 e.symm
        · exact hn e⟩
  | .tuple ds, _, _, h, r => by
    cases h with
    | tup n hs ha =>
      cases r
      obtain ⟨its, rv, ⟨o, ho, hc, n, hd⟩, _⟩ := I.tuple (SqT.of hs)
      obtain ⟨as, hr, hn⟩ := Th.readsAll I ds _ its ha rv
      exact ⟨_, Reads.tuple ho hc hd hr, hn⟩
  | .dict es, _, _, h, r => by
    cases h with
    | dct n hs hk ha =>
      cases r
      obtain ⟨_, hsy, vs, kv, o, en, ep, ho, hx, hd, _, pr, _⟩ := dk_of I.hok hs
      obtain ⟨h1, h2⟩ := pairs_read (h := s.heap) pr kv
      obtain ⟨as, hr, hn⟩ := Th.readsAll I (es.map (·.2)) _ _ ha h2
      refine ⟨_, Reads.dict ho hx.1 hd (by rw [← hk]; exact h1) hr, ?_⟩
      intro hm
      rcases List.mem_cons.mp hm with e | e
      · exact (beq_eq_false_iff_ne.mp hsy) e.symm
      · exact hn (by simpa using e)
  termination_by d => sizeOf d
  decreasing_by
    all_goals simp_wf
    all_goals (try have q := sz_snd es)
    all_goals omega
theorem Th.readsAll {p : Addr → Prop} (I : Inv X pins σ H s) : ∀ (ds : List PyData) (vs : List V) (us : List Value), ThAll p H vs ds → Vals vs us → ∃ as, ReadsAll s.heap us ds as ∧ sysModules ∉ as
  | [], _, _, h, r => by
    cases h
    cases r
    exact ⟨_, ReadsAll.nil, by simp⟩
  | d :: ds, _, _, h, r => by
    cases h with
    | cons h1 h2 =>
      cases r with
      | cons r1 r2 =>
        obtain ⟨as, q1, n1⟩ := Th.reads I d _ _ h1 r1
        obtain ⟨bs, q2, n2⟩ := Th.readsAll I ds _ _ h2 r2
        exact ⟨_, ReadsAll.cons q1 q2, by simp [n1, n2]⟩
  termination_by ds => sizeOf ds
  decreasing_by
    all_goals simp_wf
    all_goals omega
end
/-- repr(x) of data -/
def rRepr (p : Addr → Prop) : List V → Hp → VK → Prop := fun xs H Q => ∃ (v : V) (d : PyData), xs = [v] ∧ Th p H v d ∧ d.showable = true ∧ d.shown.length ≤ sizeLine ∧ d.depth ≤ 100 ∧ Q (.str d.shown) H
theorem cr_repr {k : Nat} (hr : Room k X.A) (p : Addr → Prop) : CallR X (.builtin "repr") (rRepr p) := by
  intro pins s σ H xs us Q I r h
  obtain ⟨v, d, rfl, th, hs, hz, hd, q⟩ := h
  obtain ⟨u, rfl, rx⟩ := vals1 r
  have hu := hr.un
  obtain ⟨as, rd, hn⟩ := Th.reads I d v u th rx
  have big : ∀ a, u = .ref a → wpAny (model X.prog X.w) X.A (call (.builtin "repr") [u]) (EP X pins σ Q) X.xe s := by
    rintro a rfl
    refine repr_of_reads' rd hs (fun _ => hn) hr.gd (by omega) (fun _ _ e => e) (fun h' u tk hk => ?_) hz
    exact ⟨.str _, H, I.kept hk, ⟨u, rfl⟩, q⟩
  cases th with
  | non => cases rx; exact PySem.P.repr_of_none ⟨.str _, H, I.tok _, ⟨_, rfl⟩, by simpa only [PyData.shown] using q⟩
  | bl b => cases rx; exact PySem.P.repr_of_bool ⟨.str _, H, I.tok _, ⟨_, rfl⟩, by simpa only [PyData.shown] using q⟩
  | int i =>
    obtain ⟨t, rfl⟩ := (show ∃ t, u = Value.int i t from rx)
    exact PySem.P.repr_of_int (by simpa [PyData.showable] using hs) ⟨.str _, H, I.tok _, ⟨_, rfl⟩, by simpa only [PyData.shown] using q⟩
  | str x =>
    obtain ⟨t, rfl⟩ := (show ∃ t, u = Value.str x t from rx)
    exact PySem.P.repr_of_str ⟨.str _, H, I.tok _, ⟨_, rfl⟩, by simpa only [PyData.shown] using q⟩ (by simpa only [PyData.shown] using hz)
  | lst _ _ _ _ => exact big _ rx
  | tup _ _ _ => exact big _ rx
  | dct _ _ _ _ => exact big _ rx
end
theorem ixp_call {f : Expr} {es : List Expr} {ks : List Keyword} {pos : Pos} : PlainIx (.Call f es ks pos) := fun _ _ => rfl
theorem ixp_bin {a b : Expr} {op : Operator} {pos : Pos} : PlainIx (.BinOp a op b pos) := fun _ _ => rfl
theorem ixp_int {i : Int} {j : Nat} {pos : Pos} : PlainIx (.Constant (.int i) j pos) := fun _ _ => rfl
theorem pe_gty {X : Cx} {x : Str} {T : String} {pos : Pos} (hg : Gl X x) (hm : X.mg x = none) (hv : bootBuiltins x = some (.type T)) (hn : x ≠ "__name__" := by decide) (hd : (x == ("__debug__" : Str)) = false := by decide) : PE X (.Name x pos) (tC (.ty T)) :=
  pe_bltn (v := .ty T) hg hm hv rfl hn hd
section
variable {X : Cx} {a b : Expr} {ta tb : TE} {pos : Pos}
end
/-! ### displays of constants: one rule for the whole list -/
def cV : Expr → Option V
  | .Constant (.int i) _ _ => some (.int i)
  | .Constant (.bool b) _ _ => some (.bl b)
  | .Constant .none _ _ => some .non
  | .Constant (.str x) _ _ => some (.str x)
  | .UnaryOp .USub a _ => match cV a with
    | some (.int i) => some (.int (-i))
    | _ => none
  | .BinOp a .Sub b _ => match cV a, cV b with
    | some (.int i), some (.int j) => some (.int (i - j))
    | _, _ => none
  | .BinOp a .Pow b _ => match cV a, cV b with
    | some (.int i), some (.int j) => if 0 ≤ j ∧ j ≤ 1000000 ∧ i.natAbs < 2 ^ 64 then some (.int (i ^ j.toNat)) else none
    | _, _ => none
  | _ => none
def cVs : List Expr → Option (List V)
  | [] => some []
  | e :: r => match cV e, cVs r with
    | some v, some vs => some (v :: vs)
    | _, _ => none
theorem pe_const {X : Cx} (e : Expr) (v : V) (h : cV e = some v) : PE X e (tC v) := by
  fun_induction cV e generalizing v with
  | case1 => cases h; exact pe_int
  | case2 => cases h; exact pe_bl
  | case3 => cases h; exact pe_non
  | case4 => cases h; exact pe_str
  | case5 a pos i e ih =>
    cases h
    exact fun pins s σ H Q I q => pe_un un_neg (ih _ e) pins s σ H Q I ⟨i, rfl, q⟩
  | case7 a b pos i j e2 e1 ih1 ih2 =>
    cases h
    exact fun pins s σ H Q I q => pe_op op_sub (ih1 _ e1) (ih2 _ e2) pins s σ H Q I ⟨i, j, rfl, rfl, q⟩
  | case9 a b pos i j e2 e1 c ih1 ih2 =>
    cases h
    exact fun pins s σ H Q I q => pe_op op_pow (ih1 _ e1) (ih2 _ e2) pins s σ H Q I ⟨i, j, rfl, rfl, c, q⟩
  | _ => cases h
theorem pa_consts {X : Cx} : ∀ {es : List Expr} {vs : List V}, cVs es = some vs → PA X es (fun _ H Q => Q vs H)
  | [], vs, h => by cases h; exact pa_nil
  | e :: r, vs, h => by
    unfold cVs at h
    split at h
    · rename_i v ws h1 h2
      cases h
      have hs : starEach (e :: r) X.env = (false, eval e X.env) :: starEach r X.env := by
        cases e <;> first | rfl | (simp [cV] at h1; done)
      exact pa_cons (pe_const e v h1) (pa_consts h2) hs
    · cases h
/-! ### a cut: what holds between two statements, behind an expression -/
def tCut (t u : TS) : TS := fun D σ H => ∃ Pv : St → Hp → Prop, t { D with nx := Pv } σ H ∧ ∀ σ' H', Pv σ' H' → u D σ' H'
theorem pss_cut {X : Cx} {st : Stmt} {rest : List Stmt} {t u : TS} (h1 : PS X st t) (h2 : PSs X rest u) : PSs X (st :: rest) (tCut t u) := by
  intro pins s σ H D I h
  obtain ⟨Pv, h, k⟩ := h
  refine wpAny_execs_cons (thn (h1 pins s σ H { D with nx := Pv } I h) fun f s1 q => ?_)
  cases f with
  | next =>
    obtain ⟨σ', H', I', q⟩ := q
    exact h2 pins s1 σ' H' D I' (k _ _ q)
  | ret v => exact q
  | brk => exact q
  | cont => exact q
/-! ### a def of the top and what it promises, by its name -/
structure Def (K : PySem.W.Frag) (mg : Str → Option Value) (x : Str) (st : Stmt) (ps : List Str) : Prop where
  ex : ∃ (f : Addr) (fd : FuncData), Fun K x x st f fd ∧ Binds K fd ps [] ∧ mg x = some (.ref f)
structure Cal (P : Program) (w : World) (K : PySem.W.Frag) (mg : Str → Option Value) (base : Heap) (x : Str) (ps : List Str) (k : Nat) (sp : Sp) : Prop where
  ex : ∃ (f : Addr) (fd : FuncData), FnOk P w K mg base CX0 k f fd ps sp ∧ Binds K fd ps [] ∧ mg x = some (.ref f) ∧ PySem.W.keepIn K (.ref f) = true
theorem Cal.mono {P : Program} {w : World} {K : PySem.W.Frag} {mg : Str → Option Value} {base : Heap} {x : Str} {ps : List Str} {j k : Nat} {sp : Sp} (c : Cal P w K mg base x ps j sp) (h : j ≤ k) : Cal P w K mg base x ps k sp :=
  let ⟨f, fd, F, r⟩ := c.ex; ⟨f, fd, F.mono h, r⟩
section
variable {X : Cx} {k : Nat} {sp : Sp} {x : Str} {ps : List Str} {p pos : Pos} {e : Expr} {es : List Expr} {t : TA}
theorem pe_cal (c : Cal X.prog X.w X.K X.mg X.base x ps k sp) (hr : Room k X.A) (hg : Gl X x) (ha : PA X (e :: es) t) (hdb : (x == ("__debug__" : Str)) = false := by decide)
    (he : starEach (e :: es) X.env = (false, eval e X.env) :: starEach es X.env := by rfl) (hpl : (backTo pos (starEach es X.env)).any (·.1) = false := by rfl) :
    PE X (.Call (.Name x p) (e :: es) [] pos) (tCall sp [] E0 t) := by
  obtain ⟨f, fd, F, b, m, kp⟩ := c.ex
  exact pe_call F hr hg m kp b .nil pass0 ha hdb he hpl
end
/-- a def's promise, from its body -/
theorem cal_of {P : Program} {w : World} {K : PySem.W.Frag} {mg : Str → Option Value} {base : Heap} {x : Str} {st : Stmt} {N ps : List Str} {k : Nat} {sp : Sp} (d : Def K mg x st ps) (S : FnScope N ps (defScope st))
    (len : ∀ vs H Q E, sp vs H Q E → vs.length = ps.length)
    (hbody : ∀ (f : Addr) (cdv : Value) (A : Around) (outer : List Env) (s : Shared) (H : Hp) (vs : List V) (Q : VK) (E : XK), Room k (A.deeper (envOfC x (defScope st) s.heap.objs.size f cdv)) → sp vs H Q E →
      ∃ t, PSs (cxOf CX0 P w K mg base N x (defScope st) f cdv A outer s H E).nox (defBody st) t ∧ t { nx := fun _ H' => Q .non H', rt := Q } (start N vs) H) : Cal P w K mg base x ps (k + 1) sp := by
  obtain ⟨f, fd, F, b, m⟩ := d.ex
  refine ⟨f, fd, F.ok S len (fun cdv A outer s H vs Q E hr h => ?_), b, m, F.kp⟩
  exact hbody f cdv A outer s H vs Q E hr h
end L2

set_option Elab.async false
set_option linter.all false
set_option maxRecDepth 100000
namespace L2
open PySem PySem.Spec PyProof.Rows
section
variable {X : Cx} {pins : List (Addr × Obj)} {σ : L2.St} {H : Hp} {s : Shared}
theorem ThAll.drop {N : Addr → Prop} : ∀ {vs : List V} {ds : List PyData} (n : Nat), ThAll N H vs ds → ThAll N H (vs.drop n) (ds.drop n)
  | _, _, 0, r => r
  | _, _, _ + 1, .nil => .nil
  | _, _, n + 1, .cons _ t => ThAll.drop n t
theorem ThAll.take {N : Addr → Prop} : ∀ {vs : List V} {ds : List PyData} (n : Nat), ThAll N H vs ds → ThAll N H (vs.take n) (ds.take n)
  | _, _, 0, _ => .nil
  | _, _, _ + 1, .nil => .nil
  | _, _, n + 1, .cons r t => .cons r (ThAll.take n t)
end
end L2

set_option Elab.async false
set_option linter.all false
set_option maxRecDepth 100000
namespace L2
open PySem PySem.Spec PyProof.Rows
section
variable {X : Cx}
end
end L2

set_option Elab.async false
set_option linter.all false
set_option maxRecDepth 100000
set_option maxHeartbeats 1000000
namespace L2
open PySem PySem.Spec PyProof.Rows
/-! ### sets of texts -/
def byTx (w : World) : Bool := w.params.followText "set-order"
def kOf (e : Int × Value) : Str := match e.2 with
  | .str x _ => x
  | _ => ""
def StrEl (w : World) (e : Int × Value) : Prop := ∃ x t, e.2 = .str x t ∧ e.1 = hashStr w x
def StrSet (w : World) (h : Heap) (a : Addr) (xs : List Str) : Prop :=
  ∃ o es ep t, h.get? a = some o ∧ o.ExactSet ∧ o.data = .set es ep t ∧ (∀ e ∈ es.toList, StrEl w e) ∧ xs = es.toList.map kOf ∧ xs.Nodup ∧ es.size < scanBound ∧ t.fits es.size = true ∧ t.led = (!byTx w) ∧ (t.plain = true → xs = [])
section
variable {P : Program} {w : World} {A : Around} {E : Value → Shared → Prop} {s : Shared} {a : Addr} {xs : List Str}
theorem StrSet.typeIs (h : StrSet w s.heap a xs) : s.TypeIs (.ref a) "set" := let ⟨o, _, _, _, ho, hc, _⟩ := h; ⟨o, ho, hc.1⟩
theorem StrSet.lt (h : StrSet w s.heap a xs) : a < s.heap.objs.size := let ⟨o, _, _, _, ho, _⟩ := h; Heap.lt_size ho
theorem StrSet.keep {h h' : Heap} (q : StrSet w h a xs) (k : ∀ o, h.get? a = some o → h'.get? a = some o) : StrSet w h' a xs :=
  let ⟨o, es, ep, t, ho, r⟩ := q; ⟨o, es, ep, t, k _ ho, r⟩
end
end L2

set_option Elab.async false
set_option linter.all false
set_option maxRecDepth 100000
set_option maxHeartbeats 1000000
namespace PySem.F
theorem owner_set_iterator : Manifest.owners.lookup (String.ofList ['r', 'o', 't', 'a', 'r', 'e', 't', 'i', '_', 't', 'e', 's'].reverse) = some Manifest.sig_set_iterator := by kernel_rfl
theorem slot_set_iterator_next : Slot "set_iterator" "__next__" "set_iterator.__next__" :=
  .of (owner := "set_iterator") (n := "__next__") (by rw [typeLookup_type, builtinLookup_eq_fast]; kernel_rfl) (by decide +kernel) (by decide +kernel) (by decide +kernel)
    (by first | exact .inl (by decide +kernel) | exact .inr (by decide +kernel)) (by rw [isSubtype_type]; kernel_rfl)
theorem slot_set_iterator_iter : Slot "set_iterator" "__iter__" "set_iterator.__iter__" :=
  .of (owner := "set_iterator") (n := "__iter__") (by rw [typeLookup_type, builtinLookup_eq_fast]; kernel_rfl) (by decide +kernel) (by decide +kernel) (by decide +kernel)
    (by first | exact .inl (by decide +kernel) | exact .inr (by decide +kernel)) (by rw [isSubtype_type]; kernel_rfl)
theorem entry_set_iterator_iter : entryFor table "set_iterator.__iter__" = some Builtin.«dict_keyiterator.__iter__» :=
  entryFor_alias (id' := "dict_keyiterator.__iter__") (by kernel_rfl) rfl (by decide +kernel) (by kernel_rfl)
theorem args_set_iterator_iter_1 (a : Value) : argsOk "set_iterator.__iter__" ⟨[a], []⟩ := by
  unfold argsOk; rw [signature?_of (id := "set_iterator.__iter__") (n := ['_', '_', 'r', 'e', 't', 'i', '_', '_']) (o := ['r', 'o', 't', 'a', 'r', 'e', 't', 'i', '_', 't', 'e', 's']) (by kernel_rfl) owner_set_iterator]; kernel_rfl
end PySem.F
namespace L2
open PySem PySem.Spec PyProof.Rows
section
variable {P : Program} {w : World} {A : Around} {E : Value → Shared → Prop} {s : Shared} {a : Addr} {xs : List Str}
end
end L2

set_option Elab.async false
set_option linter.all false
set_option maxRecDepth 100000
set_option maxHeartbeats 1000000
namespace L2
open PySem PySem.Spec PyProof.Rows
section
variable {P : Program} {w : World} {A : Around} {E : Value → Shared → Prop} {s : Shared} {a : Addr} {xs : List Str}
/-- an iterator of a set -/
def SetIt (h : Heap) (I a : Addr) (f : Value) (i n ep : Nat) : Prop := ∃ o, h.get? I = some o ∧ o.cls = .type "set_iterator" ∧ o.data = .fields #[f, rawInt i, .ref a, rawInt n, rawInt ep]
theorem SetIt.typeIs {I : Addr} {f : Value} {i n ep : Nat} (h : SetIt s.heap I a f i n ep) : s.TypeIs (.ref I) "set_iterator" := let ⟨o, ho, hc, _⟩ := h; ⟨o, ho, hc⟩
theorem SetIt.keep {h h' : Heap} {I : Addr} {f : Value} {i n ep : Nat} (q : SetIt h I a f i n ep) (k : ∀ o, h.get? I = some o → h'.get? I = some o) : SetIt h' I a f i n ep := let ⟨o, ho, r⟩ := q; ⟨o, k _ ho, r⟩
/-- the walk's items: the texts ys, each at its turn -/
def StrAt (ys : List Str) (i : Nat) (v : Value) : Prop := ∃ x t, ys[i]? = some x ∧ v = .str x t
theorem StrEl.at {es : List (Int × Value)} (h : ∀ e ∈ es, StrEl w e) {i : Nat} {e : Int × Value} (he : es[i]? = some e) : StrAt (es.map kOf) i e.2 := by
  obtain ⟨x, t, e1, e2⟩ := h e (List.mem_of_getElem? he)
  refine ⟨x, t, ?_, e1⟩
  rw [List.getElem?_map, he]
  simp [kOf, e1]
end
end L2

set_option Elab.async false
set_option linter.all false
set_option maxRecDepth 100000
set_option maxHeartbeats 1000000
namespace L2
open PySem PySem.Spec PyProof.Rows
section
variable {P : Program} {w : World} {A : Around} {E : Value → Shared → Prop} {s : Shared} {a : Addr} {xs : List Str}
theorem SetIt.self {I : Addr} {f : Value} {i n ep : Nat} {Q : Value → Shared → Prop} (hit : SetIt s.heap I a f i n ep) (h : Q (.ref I) s) : wpAny (model P w) A (pyIter (.ref I)) Q E s := by
  refine wpAny_pyIter_slot hit.typeIs F.slot_set_iterator_iter (wpAny_call_entry F.slot_set_iterator_iter hit.typeIs F.entry_set_iterator_iter ?_ (F.args_set_iterator_iter_1 _))
  show wpAny _ _ (ret (.ref I)) _ _ s
  exact wpAny_pure ⟨_, rfl, "set_iterator", _, hit.typeIs, F.slot_set_iterator_next.lookup, h⟩
section
variable {I tp : Addr} {ep : Nat} {od ot : Obj} {es : Array (Int × Value)} {t : SetTable}
end
end
end L2

set_option Elab.async false
set_option linter.all false
set_option maxRecDepth 100000
set_option maxHeartbeats 1000000
namespace L2
open PySem PySem.W PySem.Spec PySem.Calls PyProof.Rows PyProof.V
section
variable {P : Program} {w : World} {A : Around} {E : Value → Shared → Prop} {s : Shared} {a : Addr} {xs : List Str}
end
section
variable {X : Cx} {pins : List (Addr × Obj)} {σ : St} {H : Hp} {s : Shared}
end
end L2

set_option Elab.async false
set_option linter.all false
set_option maxRecDepth 100000
set_option maxHeartbeats 1000000
namespace L2
open PySem PySem.Spec PyProof.Rows
section
variable {X : Cx} {pins : List (Addr × Obj)} {σ : St} {H : Hp} {s : Shared}
end
end L2

set_option Elab.async false
set_option linter.all false
set_option maxRecDepth 100000
set_option maxHeartbeats 4000000
namespace L2
open PySem PySem.Spec PyProof.Rows
/-! ### set(a list of texts) -/
section
variable {P : Program} {w : World} {A : Around} {E : Value → Shared → Prop} {R : Result → Shared → Prop} {s : Shared} {I : Addr} {fp wr : List Addr} {St : Nat → Heap → Prop}
end
end L2

set_option Elab.async false
set_option linter.all false
set_option maxRecDepth 100000
set_option maxHeartbeats 4000000
namespace L2
open PySem PySem.Spec PyProof.Rows
section
variable {X : Cx}
/-- a def that may be called by its one parameter's name -/
structure Ck (P : Program) (w : World) (K : PySem.W.Frag) (mg : Str → Option Value) (base : Heap) (x y : Str) (k : Nat) (sp : Sp) : Prop where
  ex : ∃ (f : Addr) (fd : FuncData), FnOk P w K mg base CX0 k f fd [y] sp ∧ (∀ (s : Shared) (v : Value), BindsTo s fd ⟨[], [(y, v)]⟩ [(y, v)]) ∧ mg x = some (.ref f) ∧ PySem.W.keepIn K (.ref f) = true
end
end L2

set_option Elab.async false
set_option linter.all false
set_option maxRecDepth 100000
set_option maxHeartbeats 1000000
namespace L2
open PySem PySem.Spec PyProof.Rows
section
variable {prog : Program} {w : World} {A : Around} {R : Result → Shared → Prop} {s : Shared} {elt t0 i0 t1 i1 : Expr} {ifs0 ifs1 : List Expr} {scope : Scope} {pos : Pos} {it acc : Value} {env : Env}
end

section
variable {X : Cx}
end
end L2

set_option Elab.async false
set_option linter.all false
set_option maxRecDepth 100000
set_option maxHeartbeats 1000000
namespace L2
open PySem PySem.Spec PyProof.Rows
/-! ### range(n) as a value; list(range(n)) -/
section
variable {X : Cx}
end
end L2

set_option Elab.async false
set_option linter.all false
set_option maxRecDepth 100000
set_option maxHeartbeats 1000000
namespace L2
open PySem PySem.Spec PyProof.Rows
/-! ### min(xs) where the order hangs on what stands in the heap -/
section
variable {prog : Program} {w : World} {A : Around} {I : Addr} {fp wr : List Addr} {n : Nat} {P : Nat → Value → Prop} {St : Nat → Heap → Prop} {C : Heap → Prop} {bt : Nat → Nat → Bool}
/-- all but the walk's own and the scratch list is as it was -/
def KeptBut (wr : List Addr) (S : Addr) (h h' : Heap) : Prop := ∀ b o, b ∉ wr → b ≠ S → h.get? b = some o → h'.get? b = some o
theorem KeptBut.trans {S : Addr} {h h1 h2 : Heap} (a : KeptBut wr S h h1) (b : KeptBut wr S h1 h2) : KeptBut wr S h h2 := fun c o n1 n2 e => b c o n1 n2 (a c o n1 n2 e)
abbrev scratch (vs : Array Value) (c : Nat) : Obj := { cls := .type "list", dict := none, data := .seq vs c, slots := #[] }
end
section
variable {X : Cx}
end
end L2

set_option Elab.async false
set_option linter.all false
set_option maxRecDepth 100000
set_option maxHeartbeats 1000000
namespace L2
open PySem PySem.Spec PyProof.Rows
section
variable {P : Program} {w : World} {A : Around} {E : Value → Shared → Prop} {s : Shared} {a : Addr} {xs : List Str}
end
section
variable {X : Cx} {pins : List (Addr × Obj)} {σ : St} {H : Hp} {s : Shared}
end
section
variable {P : Program} {w : World} {K : PySem.W.Frag} {mg : Str → Option Value} {base : Heap}
end
end L2

set_option Elab.async false
set_option linter.all false
set_option maxRecDepth 100000
namespace L2
open PySem
open Sem (wp)
/-- what the built-in class B above an own class of errors has; Bn has its __new__ -/
structure XB (B Bn newId inN : String) (bm bmN : List Value) : Prop where
  Fn : ExcBaseFacts Bn newId inN bmN
  hasBn : bm.contains (.type Bn) = true
  noAttr : bm.contains (.type "AttributeError") = false
  noName : bm.contains (.type "NameError") = false
  hasBase : bm.contains (.type "BaseException") = true
  hasObj : bm.contains (.type "object") = true
  mro : mroOf (.type B) = pure bm
  init : ∃ y, typeLookup (.type B) "__init__" = pure y
  store : StoreFacts B bm "object.__setattr__" "object"
  ga : Slot B "__getattribute__" "BaseException.__getattribute__"
  noGetattr : typeLookup (.type B) "__getattr__" = pure none
  cls : typeLookup (.type B) "__class__" = pure (some (.builtin "object.__class__"))
/-- the class at C is an own one of errors: its names at N, above it bm, made by newId -/
def XAt (h : Heap) (C N : Addr) (bm : List Value) (newId : String) : Prop :=
  ∃ (nm q : Str) (bs : List Value) (sn : List Str) (sub : List Value) (ab : Bool) (col : Option Bool) (dd : Option Addr) (k0 k1 k2 k3 k5 : Option Value),
    h.get? C = some (excClassObj nm q C N bs bm true sn sub ab col dd k0 k1 k2 k3 k5 newId)
theorem up_yes {C : Addr} {bm : List Value} {v : Value} (h : bm.contains v = true) : (Value.ref C :: bm).contains v = true := by
  rw [List.contains_cons, h]; exact Bool.or_true _
theorem up_no {C : Addr} {bm : List Value} {T : String} (h : bm.contains (.type T) = false) : (Value.ref C :: bm).contains (.type T) = false := by
  rw [List.contains_cons, h]; rfl
/-- a tuple of the arguments at the heap's end, behind it the new error -/
abbrev exTup (us : List Value) : Obj := { cls := .type "tuple", data := .seq us.toArray }
abbrev exNew (C t0 : Addr) : Obj := { cls := .ref C, data := .fields #[.ref t0, .none, .none, .none, .bool false, .none] }
abbrev exHeap (h : Heap) (C : Addr) (us : List Value) : Heap := (h.push (exTup us)).push (exNew C h.objs.size)
theorem ex_kept {h : Heap} {C : Addr} {us : List Value} {b : Addr} {o : Obj} (e : h.get? b = some o) : (exHeap h C us).get? b = some o := Heap.get?_push_of_some _ (Heap.get?_push_of_some _ e)
theorem ex_at (h : Heap) (C : Addr) (us : List Value) : (exHeap h C us).get? (h.objs.size + 1) = some (exNew C h.objs.size) := by
  have q := Heap.get?_push_size (h.push (exTup us)) (o := exNew C h.objs.size) rfl
  rwa [Heap.size_push] at q
theorem ex_ns {h : Heap} {C N : Addr} {us : List Value} {m : Str → Option Value} (n : h.Ns N m) : (exHeap h C us).Ns N m :=
  match n with | ⟨o, es, ep, e, r⟩ => ⟨o, es, ep, ex_kept e, r⟩
section
variable {prog : Program} {w : World} {A : Around} {E : Value → Shared → Prop} {h : Heap} {g : Array GenState} {d : Drawn} {t : Nat} {os : OsState}
variable {C N : Addr} {bm bmN : List Value} {B Bn newId inN initId : String} {us : List Value} {kw : List (Str × Value)} {mN : Str → Option Value}

theorem xn_check {M : Model} (F : XB B Bn newId inN bm bmN) {Q : Unit → Shared → Prop} (c : XAt h C N bm newId) (k : Q () ⟨h, g, d, t, os⟩) :
    wpAny M A (checkBuiltinCall newId ⟨.ref C :: us, kw⟩) Q E ⟨h, g, d, t, os⟩ := by
  obtain ⟨_, _, _, _, _, _, _, _, _, _, _, _, _, hC⟩ := c
  have yes := up_yes (C := C) F.hasBn
  have star := F.Fn.noStar
  simp only [checkBuiltinCall, F.Fn.newRow, F.Fn.newSplit, F.Fn.newKind]
  repeat (first
    | refine wpAny_loadPart_at hC ?_
    | (refine wpAny_isSubtype_exc hC ?_; rw [yes])
    | refine wpAny_staticBase_exc hC ?_
    | refine wpAny_madeBy_exc hC ?_
    | simp only [if_false, Bool.false_eq_true, bne_self_eq_false]
    | wp_step)
  exact k

theorem xn_new (F : XB B Bn newId inN bm bmN) {R : Result → Shared → Prop} (c : XAt h C N bm newId) (hz : us.length ≤ sizeLine)
    (k : R (.ok (.ret (.ref (h.objs.size + 1)))) ⟨exHeap h C us, g, d, t, os⟩) : codeAny (model prog w) A (.builtin newId ⟨.ref C :: us, kw⟩) R ⟨h, g, d, t, os⟩ := by
  obtain ⟨_, _, _, _, _, _, _, _, _, _, _, _, _, hC⟩ := c
  have e1 := F.Fn.ends
  have y1 := up_yes (C := C) F.hasBn
  have n1 := up_no (C := C) F.noAttr
  have n2 := up_no (C := C) F.noName
  refine codeAny_builtinAt F.Fn.entry ?_
  unfold Builtin.«BaseException.__new__»
  refine wpAt_bind ?_
  show wpAt _ _ _ (stack >>= _) _ _ _
  refine wpAt_bind (wpAt_stack fun _ _ => wpAt_of_wpAny ?_)
  wp_walk
  refine wpAt_of_wpAny ?_
  rw [F.Fn.owner]
  repeat (first
    | with_reducible refine wpAny_madeHere_exc F.Fn.canon hC ?_
    | with_reducible refine wpAny_loadPart_at hC ?_
    | (with_reducible refine wpAny_isSubtype_exc hC ?_; first | rw [y1] | rw [n1] | rw [n2])
    | wp_step)
  show R _ _
  rw [Heap.size_push]
  exact k

theorem xn_call (F : XB B Bn newId inN bm bmN) {f : Addr} {o : Obj} {Q : Fin → Shared → Prop} (c : XAt h C N bm newId) (hn : h.Ns N mN) (hi : mN "__init__" = some (.ref f)) (hf : h.get? f = some o) (ho : o.cls = .type "function") (hz : us.length ≤ sizeLine)
    (k : wpAny (model prog w) A (call (.ref f) (.ref (h.objs.size + 1) :: us) kw) (fun r s' => r = .none ∧ Q (.done (.ret (.ref (h.objs.size + 1)))) s') E ⟨exHeap h C us, g, d, t, os⟩) :
    wpAny (model prog w) A (Builtin.«type.__call__» ⟨.ref C :: us, kw⟩) Q E ⟨h, g, d, t, os⟩ := by
  obtain ⟨y, hy⟩ := F.init
  have c0 := c
  obtain ⟨_, _, _, _, _, _, _, _, _, _, _, _, _, hC⟩ := c
  have hC2 := ex_kept (C := C) (us := us) hC
  have new := ex_at h C us
  have self : (Value.ref C :: bm).contains (.ref C) = true := by simp
  repeat (first
    | with_reducible refine wpAny_loadPart_at hC ?_
    | with_reducible refine wpAny_madeBy_exc hC ?_
    | wp_step)
  refine codeAny_call_builtin_code (Code.quiet_builtin _ F.Fn.quiet) (xn_check F c0 (xn_new F c0 hz ?_))
  show wpAny _ _ _ _ _ _
  unfold isInstance
  repeat (first
    | with_reducible refine wpAny_loadPart_at new ?_
    | (with_reducible refine wpAny_isSubtype_exc hC2 ?_; rw [self])
    | wp_step)
  show wpAny _ _ (typeLookup (.ref C) _) _ _ _
  refine wpAny_typeLookup_exc hC2 (ex_ns hn) F.mro hy ?_
  rw [hi]
  refine wpAny_holding (wpAny_bind ?_)
  unfold bindSpecial
  refine wpAny_bind (wpAny_typeOf (T := "function") ⟨o, ex_kept hf, ho⟩ ?_)
  rw [if_pos (by decide)]
  refine wpAny_pure (wpAny_bind (wpAny_mono k (fun r s' q => ?_) fun _ _ z => z))
  obtain ⟨rfl, q⟩ := q
  wp_walk
  exact q

theorem xn_tc {M : Model} {Q : Unit → Shared → Prop} (c : XAt h C N bm newId) (k : Q () ⟨h, g, d, t, os⟩) : wpAny M A (checkBuiltinCall "type.__call__" ⟨.ref C :: us, kw⟩) Q E ⟨h, g, d, t, os⟩ := by
  obtain ⟨_, _, _, _, _, _, _, _, _, _, _, _, _, hC⟩ := c
  have sb := tc_sub
  have ty : (⟨h, g, d, t, os⟩ : Shared).TypeIs (.ref C) "type" := ⟨_, hC, rfl⟩
  simp only [checkBuiltinCall, tc_split, tc_kind]
  repeat (any_goals (first
    | assumption
    | with_reducible refine wpAny_loadPart_at hC ?_
    | with_reducible refine wpAny_onRaise ?_
    | with_reducible refine wpAny_map ?_
    | wp_step))

/-- C(..), by place and by name, the class with an __init__ of its own -/
theorem xw_make (F : XB B Bn newId inN bm bmN) {f : Addr} {o : Obj} {Q : Value → Shared → Prop} (c : XAt h C N bm newId) (hn : h.Ns N mN) (hi : mN "__init__" = some (.ref f)) (hf : h.get? f = some o) (ho : o.cls = .type "function") (hz : us.length ≤ sizeLine)
    (k : wpAny (model prog w) (A.under (.builtin "type.__call__" ⟨.ref C :: us, kw⟩)) (call (.ref f) (.ref (h.objs.size + 1) :: us) kw) (fun r s' => r = .none ∧ Q (.ref (h.objs.size + 1)) s') E ⟨exHeap h C us, g, d, t, os⟩) :
    wpAny (model prog w) A (call (.ref C) us kw) Q E ⟨h, g, d, t, os⟩ := by
  have c0 := c
  obtain ⟨_, _, _, _, _, _, _, _, _, _, _, _, _, hC⟩ := c
  have lk := tc_lookup
  have bd := tc_bind (.ref C)
  have ty : (⟨h, g, d, t, os⟩ : Shared).TypeIs (.ref C) "type" := ⟨_, hC, rfl⟩
  refine wpAny_call (codeAny_of_tree ?_)
  show wpAny _ _ (callAny (.ref C) _) _ _ _
  repeat (any_goals (first
    | assumption
    | with_reducible refine wpAny_loadPart_at hC ?_
    | wp_step))
  exact ⟨rfl, codeAny_call_builtin_at (Code.quiet_builtin _ (by decide +kernel)) entry_typeCall (xn_tc c0 (xn_call F c0 hn hi hf ho hz k))⟩
end
end L2

set_option Elab.async false
set_option linter.all false
set_option maxRecDepth 100000
namespace L2
open PySem
open Sem (wp)
open Builtin Builtin.ObjectAttr
section
variable {prog : Program} {w : World} {A : Around} {E : Value → Shared → Prop} {h : Heap} {g : Array GenState} {d : Drawn} {t : Nat} {os : OsState} {C N x : Addr} {bm bmN : List Value} {B Bn newId inN : String} {mN mA : Str → Option Value} {f : Str} {v : Value} {o : Obj}
/-! ### what is asked of an error by getattr: through BaseException's own -/
theorem xg_check {M : Model} {nv : Value} {Q : Unit → Shared → Prop} (Z : XB B Bn newId inN bm bmN) (c : XAt h C N bm newId) (hx : h.get? x = some o) (hc : o.cls = .ref C) (k : Q () ⟨h, g, d, t, os⟩) :
    wpAny M A (checkBuiltinCall "BaseException.__getattribute__" ⟨[.ref x, nv], []⟩) Q E ⟨h, g, d, t, os⟩ := by
  obtain ⟨_, _, _, _, _, _, _, _, _, _, _, _, _, hC⟩ := c
  have kd : builtinKind "BaseException.__getattribute__" = some .slot := by decide +kernel
  have sp : splitId "BaseException.__getattribute__" = some ("BaseException", "__getattribute__") := by decide +kernel
  have yes := up_yes (C := C) Z.hasBase
  have args := F.args_bexc_ga (.ref x) nv
  simp only [checkBuiltinCall, sp, kd]
  refine wpAny_bind ?_
  unfold isInstance
  repeat (first
    | (with_reducible refine wpAny_loadPart_at hx ?_; rw [hc])
    | (with_reducible refine wpAny_isSubtype_exc hC ?_; rw [yes])
    | wp_step)
  exact k
/-- a field: it stands in the error's dict, in no class above -/
theorem xg_field {tk : Tok} {Q : Fin → Shared → Prop} (Z : XB B Bn newId inN bm bmN) (c : XAt h C N bm newId) (hn : h.Ns N mN) (hf : mN f = none) (hB : typeLookup (.type B) f = pure none) (I : h.Inst x C mA) (hv : mA f = some v)
    (k : Q (.done (.ret v)) ⟨h, g, d, t, os⟩) : wpAny (model prog w) A (Builtin.«object.__getattribute__» ⟨[.ref x, .str f tk], []⟩) Q E ⟨h, g, d, t, os⟩ := by
  obtain ⟨_, _, _, _, _, _, _, _, _, _, _, _, _, hC⟩ := c
  obtain ⟨o, hx, hc, hno, hd⟩ := I
  obtain ⟨dx, hdx, hne, hns⟩ : ∃ dx, o.dict = some dx ∧ dx ≠ x ∧ h.Ns1 dx mA := hd.resolve_left fun z => by rw [z.2 f] at hv; cases hv
  unfold Builtin.«object.__getattribute__»
  repeat (first
    | (with_reducible refine wpAny_loadPart_at hx ?_; rw [hc])
    | (with_reducible refine wpAny_typeLookup_exc hC hn Z.mro hB ?_; rw [hf])
    | wp_step)
  split
  · exact absurd (by assumption) (hno _)
  unfold instanceDict
  repeat (first
    | (with_reducible refine wpAny_loadPart_at hx ?_; rw [hc])
    | with_reducible refine wpAny_loadPart_at hC ?_
    | wp_step)
  rw [hdx]
  repeat (first
    | (with_reducible refine wpAny_nsGet hns.ns ?_; rw [hv])
    | wp_step)
  exact k
theorem ga_no : (Value.builtin "BaseException.__getattribute__" == Value.builtin "object.__getattribute__") = false := by decide +kernel
/-- error.f -/
theorem xw_load {ex : Bool} {Q : Value → Shared → Prop} (Z : XB B Bn newId inN bm bmN) (c : XAt h C N bm newId) (hn : h.Ns N mN) (h1 : mN "__getattribute__" = none) (h2 : mN "__getattr__" = none) (hf : mN f = none) (hB : typeLookup (.type B) f = pure none) (I : h.Inst x C mA) (hv : mA f = some v)
    (hh : handedOut v = pure v) (k : Q v ⟨h, g, d, t + 1, os⟩) : wpAny (model prog w) A (getAttr (.ref x) f ex) Q E ⟨h, g, d, t, os⟩ := by
  have c0 := c
  obtain ⟨_, _, _, _, _, _, _, _, _, _, _, _, _, hC⟩ := c
  obtain ⟨o, hx, hc, _⟩ := id I
  have bd := Z.ga.bind (.ref x)
  have e1 : (ex && onTheHeap (Value.builtin "BaseException.__getattribute__")) = false := by cases ex <;> rfl
  have e2 : (onTheHeap (Value.ref C) && Value.builtin "BaseException.__getattribute__" == Value.builtin "object.__getattribute__") = false := by rw [ga_no]; rfl
  unfold getAttr
  repeat (any_goals (first
    | assumption
    | (with_reducible refine wpAny_loadPart_at hx ?_; rw [hc])
    | (with_reducible refine wpAny_typeLookup_exc hC hn Z.mro Z.ga.lookup ?_; rw [h1])
    | (with_reducible refine wpAny_typeLookup_exc hC hn Z.mro Z.noGetattr ?_; rw [h2])
    | wp_step))
  refine codeAny_call_builtin Z.ga.plain F.entry_bexc_ga (xg_check Z c0 hx hc (xg_field Z c0 hn hf hB I hv ?_))
  repeat (any_goals (first
    | assumption
    | rw [hh]
    | wp_step))
theorem xg_clsget {R : Result → Shared → Prop} (Z : XB B Bn newId inN bm bmN) (c : XAt h C N bm newId) (hx : h.get? x = some o) (hc : o.cls = .ref C) (k : R (.ok (.ret (.ref C))) ⟨h, g, d, t, os⟩) :
    codeAny (model prog w) A (.call (.builtin "getset_descriptor.__get__") ⟨[.builtin "object.__class__", .ref x, .ref C], []⟩) R ⟨h, g, d, t, os⟩ := by
  obtain ⟨_, _, _, _, _, _, _, _, _, _, _, _, _, hC⟩ := c
  have ty : (⟨h, g, d, t, os⟩ : Shared).TypeIs (.builtin "object.__class__") "getset_descriptor" := F.typeOf_object_class
  have yes : (Value.ref C :: bm).contains (.type (".".intercalate ("object.__class__".cutAt '.').dropLast)) = true := by
    rw [F.owner_object_class]; exact up_yes Z.hasObj
  refine codeAny_call_builtin F.slot_gs_get.plain F.entry_gs_get (F.slot_gs_get.check _ _ _ _ _ _ _ _ ty (F.args_gs_get _ _ _) ?_)
  repeat (any_goals (first
    | assumption
    | (with_reducible refine wpAny_loadPart_at hx ?_; rw [hc])
    | (with_reducible refine wpAny_isSubtype_exc hC ?_; rw [yes])
    | wp_step))
  refine ⟨Code.quiet_builtin _ (by decide +kernel), codeAny_builtin F.entry_object_class ?_⟩
  repeat (any_goals (first
    | assumption
    | (with_reducible refine wpAny_loadPart_at hx ?_; rw [hc])
    | wp_step))
theorem xg_cls {tk : Tok} {Q : Fin → Shared → Prop} (Z : XB B Bn newId inN bm bmN) (c : XAt h C N bm newId) (hn : h.Ns N mN) (h3 : mN "__class__" = none) (hx : h.get? x = some o) (hc : o.cls = .ref C) (k : Q (.done (.ret (.ref C))) ⟨h, g, d, t, os⟩) :
    wpAny (model prog w) A (Builtin.«object.__getattribute__» ⟨[.ref x, .str "__class__" tk], []⟩) Q E ⟨h, g, d, t, os⟩ := by
  have c0 := c
  obtain ⟨_, _, _, _, _, _, _, _, _, _, _, _, _, hC⟩ := c
  have ty : (⟨h, g, d, t, os⟩ : Shared).TypeIs (.builtin "object.__class__") "getset_descriptor" := F.typeOf_object_class
  have a1 := F.typeOf_object_class
  have a2 := F.slot_gs_get.lookup
  have a3 := F.slot_gs_set.lookup
  repeat (any_goals (first
    | assumption
    | (with_reducible refine wpAny_loadPart_at hx ?_; rw [hc])
    | (with_reducible refine wpAny_typeLookup_exc hC hn Z.mro Z.cls ?_; rw [h3])
    | wp_step))
  refine xg_clsget Z c0 hx hc ?_
  repeat (any_goals (first | wp_step | assumption))
theorem xg_clsby {tk : Tok} {Q : Value → Shared → Prop} (Z : XB B Bn newId inN bm bmN) (c : XAt h C N bm newId) (hn : h.Ns N mN) (h1 : mN "__getattribute__" = none) (h2 : mN "__getattr__" = none) (h3 : mN "__class__" = none) (hx : h.get? x = some o) (hc : o.cls = .ref C) (k : Q (.ref C) ⟨h, g, d, t, os⟩) :
    wpAny (model prog w) A (getAttrBy (.ref x) (.str "__class__" tk) false) Q E ⟨h, g, d, t, os⟩ := by
  have c0 := c
  obtain ⟨_, _, _, _, _, _, _, _, _, _, _, _, _, hC⟩ := c
  have bd := Z.ga.bind (.ref x)
  have e2 : (onTheHeap (Value.ref C) && Value.builtin "BaseException.__getattribute__" == Value.builtin "object.__getattribute__") = false := by rw [ga_no]; rfl
  have e1 := ga_no
  repeat (any_goals (first
    | assumption
    | (with_reducible refine wpAny_loadPart_at hx ?_; rw [hc])
    | (with_reducible refine wpAny_typeLookup_exc hC hn Z.mro Z.ga.lookup ?_; rw [h1])
    | (with_reducible refine wpAny_typeLookup_exc hC hn Z.mro Z.noGetattr ?_; rw [h2])
    | wp_step))
  refine codeAny_call_builtin Z.ga.plain F.entry_bexc_ga (xg_check Z c0 hx hc (xg_cls Z c0 hn h3 hx hc ?_))
  repeat (any_goals (first | wp_step | assumption))
theorem xw_class {Q : Option Value → Shared → Prop} (Z : XB B Bn newId inN bm bmN) (c : XAt h C N bm newId) (hn : h.Ns N mN) (h1 : mN "__getattribute__" = none) (h2 : mN "__getattr__" = none) (h3 : mN "__class__" = none) (hx : h.get? x = some o) (hc : o.cls = .ref C) (k : Q (some (.ref C)) ⟨h, g, d, t + 1, os⟩) :
    wpAny (model prog w) A (getAttr? (.ref x) "__class__") Q E ⟨h, g, d, t, os⟩ := by
  unfold getAttr? getAttrBy?
  repeat (any_goals (first
    | assumption
    | with_reducible apply xg_clsby Z c hn h1 h2 h3 hx hc
    | wp_step))
/-! ### the first field of an error: its dict is made -/
abbrev withDict (o : Obj) (dx : Addr) : Obj := { cls := o.cls, dict := some dx, data := o.data, slots := o.slots }
set_option maxHeartbeats 1000000 in
theorem xs_entry {sa owner : String} {tk : Tok} {Q : Fin → Shared → Prop} (SF : StoreFacts B bm sa owner) (c : XAt h C N bm newId) (hn : h.Ns N mN) (hf : mN f = none) (hB : typeLookup (.type B) f = pure none) (hx : h.get? x = some o) (hc : o.cls = .ref C) (hno : ∀ c, o.data ≠ .cls c) (hd : o.dict = none)
    (k : ∀ h' tk', h'.get? x = some (withDict o h.objs.size) → h'.Ns1 h.objs.size (fun y => if y = f then some v else none) → (∀ b ob, b ≠ x → h.get? b = some ob → h'.get? b = some ob) → Q (.done (.ret .none)) ⟨h', g, d, tk', os⟩) :
    wpAny (model prog w) A (Builtin.«object.__setattr__» ⟨[.ref x, .str f tk, v], []⟩) Q E ⟨h, g, d, t, os⟩ := by
  obtain ⟨_, _, _, _, _, _, _, _, _, _, _, _, _, hC⟩ := c
  have pass := SF.passes (.ref x)
  have nx : x ≠ h.objs.size := Nat.ne_of_lt (Heap.lt_size hx)
  have hx2 : (h.push { cls := .type "dict", data := .dict #[] }).get? x = some o := Heap.get?_push_of_some _ hx
  have live : (withDict o h.objs.size).isFreed = false := by
    have := (Heap.get?_some_iff.mp hx).2
    obtain ⟨_, _, dt, _⟩ := o
    cases dt <;> first | rfl | exact this
  have new : ((h.push { cls := .type "dict", data := .dict #[] }).update x fun o => withDict o h.objs.size).Ns h.objs.size (fun _ => none) :=
    ⟨_, #[], _, (Heap.get?_update_ne _ _ _ _ nx.symm).trans (Heap.get?_push_at rfl rfl), rfl, fun e he => absurd he (by simp), fun _ => rfl⟩
  unfold Builtin.«object.__setattr__»
  repeat (first
    | rw [refuse_eq]
    | (rw [refuseLoop_ref, pass])
    | (with_reducible refine wpAny_loadPart_at hx ?_; rw [hc])
    | with_reducible refine wpAny_mroOf_exc hC ?_
    | (with_reducible refine wpAny_typeLookup_exc hC hn SF.mro hB ?_; rw [hf])
    | wp_step)
  rw [hd, if_neg (by simp [typeHasDict])]
  split
  · rename_i z; cases z
  split
  · exact absurd (by assumption) (hno _)
  refine wpAny_bind (wpAny_alloc' (wpAny_bind (wpAny_update' hx2 (wpAny_pure ?_))))
  show wpAny _ _ (storeInDict h.objs.size (.str f tk) f v) _ _ _
  unfold storeInDict newKeyGuard
  refine wpAny_bind (wpAny_pure (wpAny_bind (wpAny_nsSet1 (Heap.Ns1.of_empty new) fun h' n' same => ?_)))
  obtain ⟨oD, es, ep, e1, e2, e3⟩ := n'.count (Within.cons f v Within.nil)
  refine wpAny_bind (wpAny_lookBehind e1 (by rw [e2]; exact pastItsLine_dict (Nat.le_trans e3 (show 1 ≤ sizeLine + 1 by omega))) ?_)
  wp_walk
  refine k h' _ ((same.2 x nx).trans (Heap.get?_update_self _ hx2 live)) n' fun b ob nb hb => ?_
  rw [same.2 b (Nat.ne_of_lt (Heap.lt_size hb)), Heap.get?_update_ne _ _ _ _ nb]
  exact Heap.get?_push_of_some _ hb
set_option maxHeartbeats 1000000 in
/-- error.f = v, the first one -/
theorem xw_store {sa owner : String} {Q : Unit → Shared → Prop} (SF : StoreFacts B bm sa owner) (c : XAt h C N bm newId) (hn : h.Ns N mN) (h4 : mN "__setattr__" = none) (hf : mN f = none) (hB : typeLookup (.type B) f = pure none) (hx : h.get? x = some o) (hc : o.cls = .ref C) (hno : ∀ c, o.data ≠ .cls c) (hd : o.dict = none)
    (k : ∀ h' tk', h'.get? x = some (withDict o h.objs.size) → h'.Ns1 h.objs.size (fun y => if y = f then some v else none) → (∀ b ob, b ≠ x → h.get? b = some ob → h'.get? b = some ob) → Q () ⟨h', g, d, tk', os⟩) :
    wpAny (model prog w) A (setAttr (.ref x) f v) Q E ⟨h, g, d, t, os⟩ := by
  have c0 := c
  obtain ⟨_, _, _, _, _, _, _, _, _, _, _, _, _, hC⟩ := c
  have bd := SF.slot.bind (.ref x)
  unfold setAttr callSpecial? specialOf
  repeat (any_goals (first
    | assumption
    | (with_reducible refine wpAny_loadPart_at hx ?_; rw [hc])
    | (with_reducible refine wpAny_typeLookup_exc hC hn SF.mro SF.slot.lookup ?_; rw [h4])
    | wp_step))
  refine codeAny_call_builtin SF.slot.plain SF.entry (wpAny_check_sa SF hC hx hc (xs_entry SF c0 hn hf hB hx hc hno hd fun h' tk' q1 q2 q3 => ?_))
  repeat (any_goals (first | wp_step | assumption))
  exact k h' tk' q1 q2 q3
end
/-! ### the built-in classes -/
namespace XF
theorem sf_RuntimeError : StoreFacts "RuntimeError" [.type "RuntimeError", .type "Exception", .type "BaseException", .type "object"] "object.__setattr__" "object" := ⟨by kernel_rfl, .of (owner := "object") (n := "__setattr__") (by rw [typeLookup_type, builtinLookup_eq_fast]; kernel_rfl) (by decide +kernel) (by decide +kernel) (by decide +kernel) (by first | exact .inl (by decide +kernel) | exact .inr (by decide +kernel)) (by rw [isSubtype_type]; kernel_rfl), F.entry_object_sa, by decide +kernel, by decide +kernel, by decide +kernel, fun a b c => by unfold argsOk; kernel_rfl, fun self => by kernel_rfl⟩
theorem xb_RuntimeError : XB "RuntimeError" "RuntimeError" "RuntimeError.__new__" "RuntimeError.__init__" [.type "RuntimeError", .type "Exception", .type "BaseException", .type "object"] [.type "RuntimeError", .type "Exception", .type "BaseException", .type "object"] := ⟨F.excBase_RuntimeError, by decide +kernel, by decide +kernel, by decide +kernel, by decide +kernel, by decide +kernel, by kernel_rfl, ⟨some (.builtin "RuntimeError.__init__"), by rw [typeLookup_type, builtinLookup_eq_fast]; kernel_rfl⟩, sf_RuntimeError, .of (owner := "BaseException") (n := "__getattribute__") (by rw [typeLookup_type, builtinLookup_eq_fast]; kernel_rfl) (by decide +kernel) (by decide +kernel) (by decide +kernel) (by first | exact .inl (by decide +kernel) | exact .inr (by decide +kernel)) (by rw [isSubtype_type]; kernel_rfl), by rw [typeLookup_type, builtinLookup_eq_fast]; kernel_rfl, by rw [typeLookup_type, builtinLookup_eq_fast]; kernel_rfl⟩
end XF
end L2

set_option Elab.async false
set_option linter.all false
set_option maxRecDepth 100000
namespace L2
open PySem PySem.Spec PyProof.Rows
/-! ### own errors as objects: the error at x of the class at C, its dict at dx -/
def excOb (C : Addr) (od : Option Addr) (t0 : Addr) : Obj := { cls := .ref C, dict := od, data := .fields #[.ref t0, .none, .none, .none, .bool false, .none] }
def XO (x C : Addr) (od : Option Addr) : HO := .ext fun h => ∃ t0, h.get? x = some (excOb C od t0)
def XD (dx : Addr) (fs : List (Str × V)) : HO := .ext fun h => ∃ mA, h.Ns1 dx mA ∧ ∀ f, RelO (fs.lookup f) (mA f)
structure IsX (H : Hp) (x C : Addr) (fs : List (Str × V)) : Prop where
  ex : ∃ dx, H x = some (XO x C (some dx)) ∧ H dx = some (XD dx fs) ∧ dx ≠ x
theorem IsX.same {H H' : Hp} {x C : Addr} {fs : List (Str × V)} (h : IsX H x C fs) (s : Same H H') : IsX H' x C fs :=
  let ⟨dx, a, b, c⟩ := h.ex; ⟨dx, s _ _ a, s _ _ b, c⟩
/-- what of the text an own class of error must have; fl: its fields -/
structure XCls (K : PySem.W.Frag) (C N : Addr) (B newId : String) (bm : List Value) (fl : List Str) : Prop where
  lk : ∃ nm q bs sn sub ab col dd k0 k1 k2 k3 k5, K.lookup C = some (excClassObj nm q C N bs bm true sn sub ab col dd k0 k1 k2 k3 k5 newId)
  ns : PySem.W.nsOkIn K N = true
  sa : PySem.W.nsIn K N "__setattr__" = some none
  ga : PySem.W.nsIn K N "__getattribute__" = some none
  gh : PySem.W.nsIn K N "__getattr__" = some none
  cl : PySem.W.nsIn K N "__class__" = some none
  fn : ∀ n ∈ fl, PySem.W.nsIn K N n = some none
  xb : ∃ Bn inN bmN, XB B Bn newId inN bm bmN
  nr : ∀ D, bm.contains (.ref D) = false
  lb : ∀ n ∈ fl, typeLookup (.type B) n = pure none
  kp : PySem.W.keepIn K (.ref C) = true
theorem XCls.at {K : PySem.W.Frag} {C N : Addr} {B newId : String} {bm : List Value} {fl : List Str} (c : XCls K C N B newId bm fl) {h : Heap} (k : K.In h) : XAt h C N bm newId :=
  match c.lk with | ⟨_, _, _, _, _, _, _, _, _, _, _, _, _, lk⟩ => ⟨_, _, _, _, _, _, _, _, _, _, _, _, _, k _ _ lk⟩
section
variable {X : Cx} {pins : List (Addr × Obj)} {σ : St} {H : Hp} {s : Shared} {A : Around} {E : Value → Shared → Prop} {x C N dx : Addr} {B newId : String} {bm : List Value} {fl : List Str} {fs : List (Str × V)} {f : Str} {v : V}
theorem XO.ok {P : Program} {w : World} {h : Heap} {od : Option Addr} {t0 : Addr} (e : h.get? x = some (excOb C od t0)) : ObjOk P w H h x (XO x C od) :=
  ⟨⟨t0, e⟩, ⟨_, e⟩, fun h1 h2 ⟨t, e1⟩ k => ⟨t, k _ e1⟩⟩
theorem Ns1.obj {h : Heap} {m : Str → Option Value} (n : h.Ns1 dx m) : ∃ o, h.get? dx = some o := let ⟨o, _, _, e, _⟩ := n; ⟨o, e⟩
theorem XD.ok {P : Program} {w : World} {h : Heap} {m : Str → Option Value} (n : h.Ns1 dx m) (r : ∀ f, RelO (fs.lookup f) (m f)) : ObjOk P w H h dx (XD dx fs) :=
  ⟨⟨m, n, r⟩, Ns1.obj n, fun h1 h2 ⟨m1, n1, r1⟩ k => ⟨m1, n1.at fun o q => k o q, r1⟩⟩
theorem xo_get {od : Option Addr} (I : Inv X pins σ H s) (e : H x = some (XO x C od)) : ∃ t0, s.heap.get? x = some (excOb C od t0) :=
  ((show ObjOk X.prog X.w H s.heap x (XO x C od) from I.hok x _ e)).1
theorem xd_get (I : Inv X pins σ H s) (e : H dx = some (XD dx fs)) : ∃ mA, s.heap.Ns1 dx mA ∧ ∀ f, RelO (fs.lookup f) (mA f) :=
  ((show ObjOk X.prog X.w H s.heap dx (XD dx fs) from I.hok dx _ e)).1
theorem XCls.nsv {h : Heap} {n : Str} (c : XCls X.K C N B newId bm fl) (k : X.K.In h) (e : PySem.W.nsIn X.K N n = some none) : h.nsMap N n = none := PySem.W.nsMap_none_of_in k c.ns e
theorem XCls.nsm {h : Heap} (c : XCls X.K C N B newId bm fl) (k : X.K.In h) : h.Ns N (h.nsMap N) := .of_isNs (PySem.W.isNs_of_in k c.ns)
theorem handedX {v : V} {u : Value} (r : RelV v u) : handedOut u = pure u := by
  cases v with
  | non => cases (show u = Value.none from r); rfl
  | bl b => cases (show u = Value.bool b from r); rfl
  | int i => obtain ⟨t, e⟩ := (show ∃ t, u = Value.int i t from r); cases e; rfl
  | str x => obtain ⟨t, e⟩ := (show ∃ t, u = Value.str x t from r); cases e; rfl
  | byt b => obtain ⟨t, e⟩ := (show ∃ t, u = Value.bytes b t from r); cases e; rfl
  | flt b => obtain ⟨t, e⟩ := (show ∃ t, u = Value.float b t from r); cases e; rfl
  | ref a => cases (show u = Value.ref a from r); rfl
  | ty n => cases (show u = Value.type n from r); rfl
/-! ### self.f = e: the first field, and one more -/
theorem upd3 {H : Hp} {x d : Addr} {o o' u : HO} : upd (upd (upd H x o) d u) x o' = upd (upd H d u) x o' := by
  funext b
  unfold upd
  split
  · rfl
  · split
    · rfl
    · rfl
theorem setx0_ok {y : V} {u : Value} {Q : Unit → Shared → Prop} (I : Inv X pins σ H s) (e : H x = some (XO x C none)) (c : XCls X.K C N B newId bm fl) (hf : f ∈ fl) (ry : RelV y u)
    (h : ∀ dx s', H dx = none → dx ≠ x → Inv X pins σ (upd (upd H dx (XD dx [(f, y)])) x (XO x C (some dx))) s' → Q () s') : wpAny (model X.prog X.w) A (setAttr (.ref x) f u) Q E s := by
  obtain ⟨t0, h1⟩ := xo_get I e
  obtain ⟨nm, q, bs, sn, sub, ab, col, dd, k0, k1, k2, k3, k5, lk⟩ := c.lk
  obtain ⟨Bn, inN, bmN, Z⟩ := c.xb
  have KI := I.kIn
  have hxs : x ≠ s.heap.objs.size := Nat.ne_of_lt (Heap.lt_size h1)
  have hd0 : H s.heap.objs.size = none := I.hok.fresh (Nat.le_refl _)
  obtain ⟨hh, g, d, t, os⟩ := s
  refine xw_store Z.store (c.at KI) (c.nsm KI) (c.nsv KI c.sa) (c.nsv KI (c.fn f hf)) (c.lb f hf) h1 rfl (fun c' q => by unfold excOb at q; cases q) rfl fun h' tk' q1 q2 q3 => ?_
  refine h hh.objs.size _ hd0 hxs.symm ?_
  have nx : ∀ b, H b = none → b ≠ x := fun b n z => by subst z; rw [n] at e; cases e
  refine Inv.un (h' := h') (t' := tk') I (Un.trans (Un.laid (h' := hh) (fun b u z => z) (Nat.le_refl _) hd0) (Un.write (x := x) (e := x) (by rw [upd_ne hxs, e]; exact True.intro) (.inl rfl) (fun b ob n z => q3 b ob n z) ⟨_, q1⟩)) ?_
  intro b ub qb
  by_cases b1 : b = x
  · subst b1; rw [upd_same] at qb; cases qb; exact XO.ok q1
  rw [upd_ne b1] at qb
  by_cases b2 : b = hh.objs.size
  · subst b2; rw [upd_same] at qb; cases qb
    refine XD.ok q2 fun f' => ?_
    show RelO (List.lookup f' [(f, y)]) (if f' = f then some u else none)
    by_cases hff : f' = f
    · have hbq : (f' == f) = true := beq_iff_eq.mpr hff
      simp only [List.lookup, hbq, if_pos hff]; exact ry
    · have hbq : (f' == f) = false := beq_eq_false_iff_ne.mpr hff
      simp only [List.lookup, hbq, if_neg hff]; exact True.intro
  rw [upd_ne b2] at qb
  have oth : ∀ (cc : Addr) (o' : HO), H cc = some o' → o' ≠ XO x C none → (upd (upd H hh.objs.size (XD hh.objs.size [(f, y)])) x (XO x C (some hh.objs.size))) cc = some o' := fun cc o' hcc hno => by
    have n1 : cc ≠ x := fun z => by subst z; rw [e] at hcc; exact hno (Option.some.inj hcc).symm
    have n2 : cc ≠ hh.objs.size := fun z => by rw [z, hd0] at hcc; cases hcc
    rw [upd_ne n1, upd_ne n2]; exact hcc
  refine (I.hok b ub qb).stay (fun cc v hc r => q3 cc v ?_ r) (fun cc r => oth cc _ r (by intro z; cases z)) fun cc xs r => oth cc _ r (by intro z; cases z)
  rcases hc with z | z
  · rw [z]; exact b1
  · intro z2; rw [z2, e] at z; cases z
end
end L2

set_option Elab.async false
set_option linter.all false
set_option maxRecDepth 100000
namespace L2
open PySem PySem.Spec PyProof.Rows
theorem ns_some_of {K : PySem.W.Frag} {h : Heap} {N : Addr} {mg : Str → Option Value} {n : Str} {v : Value} (X : K.In h) (G : h.Ns N mg) (e : PySem.W.nsIn K N n = some (some v)) : mg n = some v := by
  obtain ⟨o, es, ep, ho, hd, _, hf⟩ := G
  unfold PySem.W.nsIn at e
  split at e
  · rename_i c d es' n' sl q
    have := X _ _ q
    rw [ho] at this
    cases this
    cases hd
    split at e
    · rename_i en he
      cases e
      rw [← hf]
      unfold nsFind findBy
      rw [← Array.find?_toList, he]
      rfl
    · split at e <;> cases e
  · cases e
/-! ### the answers of isinstance -/
theorem kit_exc {K : PySem.W.Frag} {C N D M : Addr} {B B' n n' : String} {bm bm' : List Value} {fl fl' : List Str} (c : XCls K C N B n bm fl) (d : XCls K D M B' n' bm' fl') : PySem.W.kitOne K (.ref C) (.ref D) = some (decide (C = D)) := by
  obtain ⟨nm, q, bs, sn, sub, ab, col, dd, k0, k1, k2, k3, k5, lk⟩ := c.lk
  obtain ⟨nm', q', bs', sn', sub', ab', col', dd', k0', k1', k2', k3', k5', lk'⟩ := d.lk
  have hb := c.nr D
  unfold PySem.W.kitOne
  by_cases e : C = D
  · subst e; simp
  · have e1 : (Value.ref C == Value.ref D) = false := by simpa using e
    have e2 : (Value.ref D == Value.ref C) = false := by simpa using (fun z => e (Eq.symm z))
    rw [if_neg (by simp [e])]
    unfold PySem.W.kitCls PySem.W.clsIn PySem.W.typeIn PySem.W.subIn
    simp [lk, lk', PySem.W.mroIn, PySem.W.clsIn, hb, e, e1, e2, List.contains_cons]
    exact ⟨fun z => e z.symm, fun z => by rw [List.contains_eq_mem] at hb; exact of_decide_eq_false hb z⟩
theorem kit_excT {K : PySem.W.Frag} {C N : Addr} {B n T : String} {bm : List Value} {fl : List Str} (c : XCls K C N B n bm fl) (hm : PySem.W.kitMeta T = true) : PySem.W.kitOne K (.ref C) (.type T) = some (bm.contains (.type T)) := by
  obtain ⟨nm, q, bs, sn, sub, ab, col, dd, k0, k1, k2, k3, k5, lk⟩ := c.lk
  unfold PySem.W.kitOne
  rw [if_neg (by simp)]
  unfold PySem.W.kitCls PySem.W.subIn
  simp [lk, hm, PySem.W.mroIn, PySem.W.clsIn, List.contains_cons]
section
variable {X : Cx}
/-! ### self.f = e -/
def sX0 (K : PySem.W.Frag) (ta tv : TE) (f : Str) : TS := fun D σ H => tv σ H fun y H1 => ta σ H1 fun x H2 => ∃ a C N B newId bm fl, x = .ref a ∧ H2 a = some (XO a C none) ∧ XCls K C N B newId bm fl ∧ f ∈ fl ∧
  ∀ dx, H2 dx = none → dx ≠ a → D.nx σ (upd (upd H2 dx (XD dx [(f, y)])) a (XO a C (some dx)))
variable {o value : Expr} {f : Str} {pos pos' : Pos} {ta tv : TE}
theorem ps_x0 (ha : PE X o ta) (hv : PE X value tv) (hs : swapsWith value (some (.Attribute o f pos')) pos.line X.env = pure false) : PS X (.Assign [.Attribute o f pos'] value pos) (sX0 X.K ta tv f) := by
  intro pins s σ H D I h
  refine plainObj_wpAny_Assign_Attribute (thn (hv pins s σ H _ I h) fun u s1 ⟨y, H1, I1, ry, q⟩ => thn (ha pins s1 σ H1 _ I1 q) fun ov s2 ⟨x, H2, I2, rx, a, C, N, B, n, bm, fl, ex, ea, c, hf, q2⟩ => ?_) hs
  subst ex
  obtain rfl : ov = Value.ref a := rx
  exact setx0_ok I2 ea c hf ry fun dx s3 h1 h2 I3 => ⟨σ, _, I3, q2 dx h1 h2⟩
end
/-! ### __init__ -/
def spIni (C : Addr) (fl : List Str) : Sp := fun vs H Q _ => ∃ (x : Addr) (ws : List V), vs = .ref x :: ws ∧ ws.length = fl.length ∧ H x = some (XO x C none) ∧
  ∀ dx, H dx = none → dx ≠ x → Q .non (upd (upd H dx (XD dx (fl.zip ws))) x (XO x C (some dx)))
section
variable {P : Program} {w : World} {K : PySem.W.Frag} {mg : Str → Option Value} {base : Heap} {nm qual : Str} {st : Stmt} {f : Addr} {fd : FuncData} {C N : Addr} {B newId : String} {bm : List Value}
theorem ini1 {y : Str} {p1 p2 p3 p4 : Pos} (F : Fun K nm qual st f fd) (S : FnScope ["self", y] ["self", y] (defScope st)) (hb : defBody st = [.Assign [.Attribute (.Name "self" p1) y p2] (.Name y p3) p4]) (c : XCls K C N B newId bm [y])
    (hy : (y == ("__debug__" : Str)) = false := by decide) (hy2 : (y == ("__classdict__" : Str)) = false := by decide) : FnOk P w K mg base CX0 1 f fd ["self", y] (spIni C [y]) := by
  refine F.ok (k := 0) S (fun vs H Q E h => ?_) fun cdv A outer s H vs Q E hr h => ?_
  · obtain ⟨x, ws, rfl, e, _⟩ := h; simp [e]
  obtain ⟨x, ws, rfl, e, hx, k⟩ := h
  obtain ⟨v, rfl⟩ : ∃ v, ws = [v] := by
    match ws, e with
    | [v], _ => exact ⟨v, rfl⟩
  rw [hb]
  have hv : ∀ z ∈ (["self", y] : List Str), Vis (defScope st) z := fun z hz => by
    rcases S.par z hz with q | q
    · exact .inl q
    · exact .inr (.inl q)
  refine ⟨_, pss_one (ps_x0 (pe_var (i := 0) rfl (hv _ (by simp))) (pe_var (i := 1) rfl (hv _ (by simp)) hy hy2) rfl), ?_⟩
  refine ⟨_, rfl, _, rfl, x, C, N, B, newId, bm, [y], rfl, hx, c, by simp, fun dx h1 h2 => ?_⟩
  exact k dx h1 h2
end
/-! ### C(..) -/
structure Mx (P : Program) (w : World) (K : PySem.W.Frag) (mg : Str → Option Value) (base : Heap) (x : Str) (C : Addr) (fl : List Str) : Prop where
  ex : ∃ (f : Addr) (fd : FuncData) (N : Addr) (B newId : String) (bm : List Value) (oI : Obj), mg x = some (.ref C) ∧ XCls K C N B newId bm fl ∧ PySem.W.nsIn K N "__init__" = some (some (.ref f)) ∧ K.lookup f = some oI ∧ oI.cls = .type "function" ∧
    FnOk P w K mg base CX0 1 f fd ("self" :: fl) (spIni C fl) ∧ Binds K fd ("self" :: fl) [] ∧ ∀ (s : Shared) (e : Value) (ws : List Value), ws.length = fl.length → BindsTo s fd ⟨[e], fl.reverse.zip ws.reverse⟩ ((("self" : Str) :: fl).zip (e :: ws))
section
variable {X : Cx} {x : Str} {C : Addr} {fl : List Str} {p pos : Pos} {e : Expr} {es : List Expr} {t : TA}
theorem zlen {n : Nat} (h : n ≤ 1000) : n ≤ sizeLine := Nat.le_of_lt (small1000 h)
end
/-! ### C() where there is no __init__ but the built-in one -/
structure Mx0 (K : PySem.W.Frag) (mg : Str → Option Value) (x : Str) (C : Addr) : Prop where
  ex : ∃ (N : Addr) (B newId initId : String) (bm : List Value), mg x = some (.ref C) ∧ XCls K C N B newId bm [] ∧ PySem.W.nsIn K N "__init__" = some none ∧ ExcBaseFacts B newId initId bm
end L2

set_option Elab.async false
set_option linter.all false
set_option maxRecDepth 100000
namespace L2
open PySem PySem.Spec PyProof.Rows
section
variable {prog : Program} {w : World} {A : Around} {E : Value → Shared → Prop} {s : Shared}
end
section
variable {X : Cx} {pos : Pos}
end
/-! ### lists of errors -/
structure IsE (H : Hp) (x C : Addr) (fs : List (Str × V)) : Prop where
  xo : ∃ od, H x = some (XO x C od)
  fd : fs ≠ [] → IsX H x C fs
theorem IsE.same {H H' : Hp} {x C : Addr} {fs : List (Str × V)} (h : IsE H x C fs) (s : Same H H') : IsE H' x C fs :=
  ⟨let ⟨od, e⟩ := h.xo; ⟨od, s _ _ e⟩, fun n => (h.fd n).same s⟩
inductive ExA (H : Hp) : List (Addr × List (Str × V)) → List V → Prop
  | nil : ExA H [] []
  | cons {x C : Addr} {fs : List (Str × V)} {ms : List (Addr × List (Str × V))} {xs : List V} : IsE H x C fs → ExA H ms xs → ExA H ((C, fs) :: ms) (.ref x :: xs)
theorem ExA.same {H H' : Hp} (s : Same H H') : ∀ {ms : List (Addr × List (Str × V))} {xs : List V}, ExA H ms xs → ExA H' ms xs
  | _, _, .nil => .nil
  | _, _, .cons a b => .cons (a.same s) (b.same s)
theorem ExA.app {H : Hp} {ns : List (Addr × List (Str × V))} {ys : List V} (b : ExA H ns ys) : ∀ {ms : List (Addr × List (Str × V))} {xs : List V}, ExA H ms xs → ExA H (ms ++ ns) (xs ++ ys)
  | _, _, .nil => b
  | _, _, .cons a c => .cons a (ExA.app b c)
theorem ExA.length {H : Hp} : ∀ {ms : List (Addr × List (Str × V))} {xs : List V}, ExA H ms xs → xs.length = ms.length
  | _, _, .nil => rfl
  | _, _, .cons _ c => congrArg (· + 1) c.length
theorem ExA.get {H : Hp} : ∀ {ms : List (Addr × List (Str × V))} {xs : List V} {i : Nat} {C : Addr} {fs : List (Str × V)}, ExA H ms xs → ms[i]? = some (C, fs) → ∃ x, xs[i]? = some (.ref x) ∧ IsE H x C fs
  | _, _, i, _, _, .nil, e => by simp at e
  | _, _, 0, _, _, .cons a _, e => by
    simp at e
    obtain ⟨rfl, rfl⟩ := e
    exact ⟨_, rfl, a⟩
  | _, _, i + 1, C, fs, .cons _ c, e => by
    obtain ⟨x, h1, h2⟩ := ExA.get (i := i) c (by simpa using e)
    exact ⟨x, by simpa using h1, h2⟩
theorem ExA.take {H : Hp} : ∀ {ms : List (Addr × List (Str × V))} {xs : List V} (n : Nat), ExA H ms xs → ExA H (ms.take n) (xs.take n)
  | _, _, 0, _ => .nil
  | _, _, _ + 1, .nil => .nil
  | _, _, n + 1, .cons a c => .cons a (ExA.take n c)
theorem ExA.drop {H : Hp} : ∀ {ms : List (Addr × List (Str × V))} {xs : List V} (n : Nat), ExA H ms xs → ExA H (ms.drop n) (xs.drop n)
  | _, _, 0, r => r
  | _, _, _ + 1, .nil => .nil
  | _, _, n + 1, .cons _ c => ExA.drop n c
abbrev GF := St → Option (List (Str × V))
section
variable {X : Cx} {x : Str} {C : Addr} {p pos : Pos} {e e1 e2 : Expr} {es : List Expr} {g : GF} {ms : List (Addr × GF)} {i j : Nat} {f f' : Str}
def g0 : GF := fun _ => some []
def g1 (f : Str) (i : Nat) : GF := fun σ => match σ[i]? with
  | some (some v) => some [(f, v)]
  | _ => none
def g2 (f f' : Str) (i j : Nat) : GF := fun σ => match σ[i]?, σ[j]? with
  | some (some v), some (some u) => some [(f, v), (f', u)]
  | _, _ => none
theorem pe_gref (hg : Gl X x) (hm : X.mg x = some (.ref C)) (hd : (x == ("__debug__" : Str)) = false := by decide) : PE X (.Name x pos) (tC (.ref C)) := pe_glob (v := .ref C) hg hm rfl hd
end
end L2

set_option Elab.async false
set_option linter.all false
set_option maxRecDepth 100000
namespace L2
open PySem PySem.Spec PyProof.Rows
/-! ### an error in the air: its object at e, its trace entry at T -/
def airOb (C : Addr) (od : Option Addr) (vs : Array Value) : Obj := { cls := .ref C, dict := od, data := .fields vs }
structure Air (h : Heap) (e C : Addr) (od : Option Addr) (T : Addr) (fl : Value) : Prop where
  ex : ∃ vs oT ts, h.get? e = some (airOb C od vs) ∧ vs[1]? = some (.ref T) ∧ T ≠ e ∧ h.get? T = some oT ∧ oT.data = .fields ts ∧ ts[3]? = some fl
/-- nothing of h is changed but the slots of the frames at fs, and the records at ex -/
structure Lf (fs ex : List Addr) (h h' : Heap) : Prop where
  keep : ∀ b o, h.get? b = some o → b ∉ ex → b ∉ fs → h'.get? b = some o
  slot : ∀ b o, h.get? b = some o → b ∉ ex → ∃ sl, h'.get? b = some { o with slots := sl }
theorem Lf.trans {fs ex ex' : List Addr} {h h1 h2 : Heap} (a : Lf fs ex h h1) (b : Lf fs ex' h1 h2) (k : ∀ c o, h.get? c = some o → c ∉ ex → c ∉ ex') : Lf fs ex h h2 :=
  ⟨fun c o e n f => b.keep c o (a.keep c o e n f) (k c o e n) f, fun c o e n => let ⟨_, e1⟩ := a.slot c o e n; let ⟨sl, e2⟩ := b.slot c _ e1 (k c o e n); ⟨sl, e2⟩⟩
theorem Lf.mono {fs fs' ex ex' : List Addr} {h h1 : Heap} (a : Lf fs ex h h1) (k : ∀ c ∈ ex, c ∈ ex') (k2 : ∀ c ∈ fs, c ∈ fs') : Lf fs' ex' h h1 :=
  ⟨fun c o e n f => a.keep c o e (fun z => n (k c z)) fun z => f (k2 c z), fun c o e n => a.slot c o e fun z => n (k c z)⟩
section
variable {M : Model} {A : Around} {E : Value → Shared → Prop} {s : Shared}
theorem air_entry {base : Heap} {env : Env} {outer : List Env} {L e C : Addr} {od : Option Addr} {vs : Array Value} {head : Value} {hadNext : Bool} {Q : Unit → Shared → Prop}
    (hfr : A.frames = some (env :: outer)) (hl : s.heap.FunFrames base (env :: outer)) (hf : env.frame = some L) (he : s.heap.get? e = some (airOb C od vs)) (hsz : 1 < vs.size)
    (h : ∀ h', Lf (frs (env :: outer)) [e] s.heap h' → Air h' e C od s.heap.objs.size (rawInt L) → Q () { s with heap := h' }) :
    wpAny M A (do let a ← frameOf env; let pl ← entryPlaceOf L hadNext; let b ← EntryCells.newEntry head a .none (rawInt L) .none pl; setField (.ref e) 1 b) Q E s := by
  have hene : e ∉ (env :: outer).filterMap (·.frame) := fun hm => by
    obtain ⟨_, o, ho, hnf⟩ := hl.mem hm
    rw [he] at ho; injection ho with ho; subst ho; exact hnf vs rfl
  refine wpAny_bind (wpAny_frameOf_fun hfr hl hf fun h1 g1 => ?_)
  refine wpAny_bind (wpAny_entryPlaceOf fun pl hpl => ?_)
  unfold EntryCells.newEntry newFields
  refine wpAny_bind (wpAny_newObj_type ?_ (hpl.sizeOk5 _ _ _ _ _))
  have e1 : h1.get? e = some (airOb C od vs) := (g1.2.1 e hene).trans he
  generalize eo : ({ cls := .type "traceback", dict := none, data := .fields ([head, .ref L, .none, rawInt L, .none] ++ (if pl.isEmpty then List.replicate 6 Value.none else pl)).toArray } : Obj) = oT
  have e2 : (h1.push oT).get? e = some (airOb C od vs) := Heap.get?_push_of_some _ e1
  have ot : oT.isFreed = false := by rw [← eo]; rfl
  refine wpAny_setField e2 rfl hsz (h _ ?_ ?_)
  · refine ⟨fun b o hb hn hfs => ?_, fun b o hb hn => ?_⟩
    · have hbe : b ≠ e := fun z => hn (by simp [z])
      show ((h1.push oT).update e _).get? b = _
      rw [Heap.get?_update_other _ _ (Ne.symm hbe)]
      exact Heap.get?_push_of_some _ ((g1.2.1 b hfs).trans hb)
    · have hbe : b ≠ e := fun z => hn (by simp [z])
      obtain ⟨sl, q⟩ := g1.2.2 b o hb
      refine ⟨sl, ?_⟩
      show ((h1.push oT).update e _).get? b = _
      rw [Heap.get?_update_other _ _ (Ne.symm hbe)]
      exact Heap.get?_push_of_some _ q
  · rw [← g1.1]
    have ne : h1.objs.size ≠ e := Nat.ne_of_gt (Heap.lt_size e1)
    refine ⟨vs.setIfInBounds 1 (.ref h1.objs.size), oT, ([head, .ref L, .none, rawInt L, .none] ++ (if pl.isEmpty then List.replicate 6 Value.none else pl)).toArray, ?_, ?_, ne, ?_, ?_, ?_⟩
    · exact Heap.get?_update_self (o := airOb C od vs) _ e2 rfl
    · simp [hsz]
    · show ((h1.push oT).update e _).get? _ = _
      rw [Heap.get?_update_other _ _ (Ne.symm ne)]
      exact Heap.get?_push_size h1 ot
    · rw [← eo]
    · first | (simp; done) | (rcases hpl with rfl | ⟨_, _, _, _, _, _, _, rfl⟩ <;> simp)
theorem air_land {e C T : Addr} {od : Option Addr} {fl : Value} {Q : Unit → Shared → Prop} (a : Air s.heap e C od T fl) (h : ∀ h', Lf [] [T] s.heap h' → Air h' e C od T .none → Q () { s with heap := h' }) :
    wpAny M A (setFlight (.ref e) none) Q E s := by
  obtain ⟨vs, oT, ts, h1, h2, h3, h4, h5, h6⟩ := a.ex
  have hsz : 3 < ts.size := (Array.getElem?_eq_some_iff.mp h6).1
  have oth : ∀ b, b ≠ T → (s.heap.update T (Obj.mapFields (·.setIfInBounds 3 Value.none))).get? b = s.heap.get? b := fun b hb => Heap.get?_update_other _ _ (Ne.symm hb)
  refine wpAny_setFlight_none h1 rfl h2 h4 h5 hsz (h _ ⟨fun b o q n _ => ?_, fun b o q n => ⟨o.slots, ?_⟩⟩ ⟨vs, _, ts.setIfInBounds 3 .none, ?_, h2, h3, Heap.get?_update_self _ h4 (Obj.isFreed_of_fields (Obj.data_mapFields h5 _)), Obj.data_mapFields h5 _, by simp [hsz]⟩)
  · exact (oth b fun z => n (by simp [z])).trans q
  · exact (oth b fun z => n (by simp [z])).trans q
  · exact (oth e (Ne.symm h3)).trans h1
theorem air_first {base : Heap} {env : Env} {outer : List Env} {L e C : Addr} {od : Option Addr} {vs : Array Value} {Q : Unit → Shared → Prop}
    (hfr : A.frames = some (env :: outer)) (hl : s.heap.FunFrames base (env :: outer)) (hf : env.frame = some L) (he : s.heap.get? e = some (airOb C od vs)) (h1 : vs[1]? = some .none)
    (h : ∀ h', Lf (frs (env :: outer)) [e] s.heap h' → Air h' e C od s.heap.objs.size (rawInt L) → Q () { s with heap := h' }) : wpAny M A (noteFrame (.ref e) env) Q E s := by
  unfold noteFrame
  simp only [hf]
  refine wpAny_bind (wpAny_field he rfl h1 ?_)
  rw [if_neg (by decide)]
  exact air_entry hfr hl hf he (Array.getElem?_eq_some_iff.mp h1).1 h
theorem air_next {base : Heap} {env : Env} {outer : List Env} {L e C T0 : Addr} {od : Option Addr} {Q : Unit → Shared → Prop}
    (hfr : A.frames = some (env :: outer)) (hl : s.heap.FunFrames base (env :: outer)) (hf : env.frame = some L) (a : Air s.heap e C od T0 .none)
    (h : ∀ h', Lf (frs (env :: outer)) [e, T0] s.heap h' → Air h' e C od s.heap.objs.size (rawInt L) → Q () { s with heap := h' }) : wpAny M A (noteFrame (.ref e) env) Q E s := by
  obtain ⟨vs, oT, ts, h1, h2, h3, h4, h5, h6⟩ := a.ex
  have hsz : 3 < ts.size := (Array.getElem?_eq_some_iff.mp h6).1
  unfold noteFrame
  simp only [hf]
  refine wpAny_bind (wpAny_field h1 rfl h2 ?_)
  rw [if_pos (show (Value.ref T0 != Value.none) = true from by simp)]
  refine wpAny_bind (wpAny_field h4 h5 h6 ?_)
  rw [if_neg (show ¬ ((Value.none == rawInt L) = true) from by simp [rawInt])]
  refine wpAny_bind (wpAny_setField h4 h5 hsz ?_)
  have oth : ∀ b, b ≠ T0 → (s.heap.update T0 (Obj.mapFields (·.setIfInBounds 3 Value.none))).get? b = s.heap.get? b := fun b hb => Heap.get?_update_other _ _ (Ne.symm hb)
  have nr : ∀ b o, s.heap.get? b = some o → (∀ vs, o.data ≠ .fields vs) → b ≠ T0 := fun b o hb hnf q => by
    rw [q, h4] at hb; injection hb with hb; subst hb; exact hnf ts h5
  refine air_entry (s := { s with heap := s.heap.update T0 (Obj.mapFields (·.setIfInBounds 3 Value.none)) }) hfr (hl.of_keeps fun b o hb hnf => ⟨o, (oth b (nr b o hb hnf)).trans hb, rfl⟩) hf ((oth e (Ne.symm h3)).trans h1) (Array.getElem?_eq_some_iff.mp h2).1 fun h' l ar => h h' ?_ ?_
  · have l0 : Lf (frs (env :: outer)) [e, T0] s.heap (s.heap.update T0 (Obj.mapFields (·.setIfInBounds 3 Value.none))) :=
      ⟨fun b o q n _ => (oth b fun z => n (by simp [z])).trans q, fun b o q n => ⟨o.slots, (oth b fun z => n (by simp [z])).trans q⟩⟩
    exact l0.trans (l.mono (ex' := [e, T0]) (fun c hc => by simp at hc; simp [hc]) fun _ z => z) fun c _ _ n => n
  · have z : (s.heap.update T0 (Obj.mapFields (·.setIfInBounds 3 Value.none))).objs.size = s.heap.objs.size := Heap.size_after_update ..
    have ar' : Air h' e C od (s.heap.update T0 (Obj.mapFields (·.setIfInBounds 3 Value.none))).objs.size (rawInt L) := ar
    rw [z] at ar'
    exact ar'
theorem lv_first {base : Heap} {env : Env} {outer : List Env} {L e C : Addr} {od : Option Addr} {vs : Array Value} {Q : Unit → Shared → Prop}
    (hfr : A.frames = some (env :: outer)) (hl : s.heap.FunFrames base (env :: outer)) (hf : env.frame = some L) (he : s.heap.get? e = some (airOb C od vs)) (h1 : vs[1]? = some .none)
    (h : ∀ h', Lf (frs (env :: outer)) [e] s.heap h' → Air h' e C od s.heap.objs.size .none → Q () { s with heap := h' }) : wpAny M A (leaving env (.ref e)) Q E s := by
  unfold leaving
  refine wpAny_bind (air_first hfr hl hf he h1 fun h' l ar => ?_)
  refine air_land ar fun h2 l2 ar2 => h h2 (l.trans (l2.mono (fun _ z => z) fun _ z => nomatch z) fun c o q _ z => ?_) ar2
  simp at z
  subst z
  exact absurd (Heap.lt_size q) (Nat.lt_irrefl _)
end
end L2

set_option Elab.async false
set_option linter.all false
set_option maxRecDepth 100000
namespace L2
open PySem PySem.Spec PyProof.Rows
/-- how an error lies behind a call -/
def CXX (P : Program) (w : World) : CXT := fun outer H s E ev s' => ∃ (e C : Addr) (od : Option Addr) (T : Addr) (H' : Hp), ev = .ref e ∧ s'.os = s.os ∧ AllBare s'.gens ∧ Un (frs outer) [] H H' s.heap s'.heap ∧ HOk P w H' s'.heap ∧
  Air s'.heap e C od T .none ∧ H' e = none ∧ H' T = none ∧ s.heap.objs.size ≤ e ∧ s.heap.objs.size ≤ T ∧ E (.ref C) od H'
/-- new ahead of nothing that the body knows -/
structure Out (X : Cx) (pins : List (Addr × Obj)) (b : Addr) : Prop where
  sz : X.s_0.heap.objs.size ≤ b
  lo : b ≠ X.env.locals
  ce : ∀ x c, X.env.cells.lookup x = some c → c ≠ b
  pi : ∀ p ∈ X.pn ++ pins, p.1 ≠ b
def drp (H : Hp) (e : Addr) : Hp := fun b => if b = e then none else H b
theorem drp_same {H : Hp} {e : Addr} : drp H e e = none := if_pos rfl
theorem drp_ne {H : Hp} {e b : Addr} (n : b ≠ e) : drp H e b = H b := if_neg n
theorem drp_none {H : Hp} {e b : Addr} (h : H b = none) : drp H e b = none := by unfold drp; split <;> trivial
section
variable {X : Cx} {pins : List (Addr × Obj)} {σ : St} {H : Hp} {s : Shared} {e C T : Addr} {od : Option Addr} {E : XK}
theorem Inv.out (I : Inv X pins σ H s) {b : Addr} (h : s.heap.objs.size ≤ b) : Out X pins b where
  sz := Nat.le_trans I.sz h
  lo := fun z => by have := I.lt; rw [← z] at this; exact absurd (Nat.lt_of_lt_of_le this h) (Nat.lt_irrefl _)
  ce := fun x c q z => by
    obtain ⟨v, o, ho, _⟩ := I.cell x c q
    rw [z] at ho
    exact absurd (Nat.lt_of_lt_of_le (Heap.lt_size ho) h) (Nat.lt_irrefl _)
  pi := fun p hp z => by
    have q := (I.pin p hp).1
    rw [z] at q
    exact absurd (Nat.lt_of_lt_of_le (Heap.lt_size q) h) (Nat.lt_irrefl _)
theorem Inv.lf {ex : List Addr} {h' : Heap} (I : Inv X pins σ H s) (l : Lf (frs X.stack) ex s.heap h') (hex : ∀ b ∈ ex, H b = none ∧ Out X pins b) : Inv X pins σ H { s with heap := h' } := by
  refine I.call (g' := s.gens) (t' := s.toks) (d' := s.drawn) (ch := ex) ⟨fun b o q n f x => l.keep b o q x f, fun b o q n f x => l.slot b o q x, fun _ _ _ n _ => n, fun b o q x => let ⟨sl, z⟩ := l.slot b o q x; ⟨_, z⟩, fun _ _ q => q, fun _ _ _ q => q, fun _ ps q => ⟨#[], by rw [q]; simp⟩⟩ ?_ I.bare fun b hb => ?_
  · intro b u q
    refine (I.hok b u q).stay (fun c v hc r => ?_) (fun _ q => q) fun _ _ q => q
    have hc' : ∃ u', H c = some u' := by
      rcases hc with rfl | hc
      · exact ⟨_, q⟩
      · exact ⟨_, hc⟩
    obtain ⟨u', hu⟩ := hc'
    refine l.keep c v r (fun z => ?_) fun z => ?_
    · rw [(hex c z).1] at hu; cases hu
    · rw [I.stkFree c z] at hu; cases hu
  · have o := (hex b hb).2
    exact ⟨.inr o.sz, o.lo, o.ce, o.pi⟩
theorem Inv.drop {φ : Heap → Prop} (I : Inv X pins σ H s) (he : H e = some (.ext φ)) : Inv X pins σ (drp H e) s := by
  have ne : ∀ {b : Addr} {u : HO}, H b = some u → (∀ ψ, u ≠ .ext ψ) → drp H e b = some u := fun {b u} q n => by
    rw [drp_ne (fun z => by subst z; rw [he] at q; exact n φ (Option.some.inj q).symm)]; exact q
  refine ⟨I.ok, I.os, I.bare, ⟨I.base.keep, I.base.slot, fun b o q n x => drp_none (I.base.free b o q n x), I.base.there, fun b xs q => ne (I.base.tups b xs q) (fun _ z => by cases z), fun b o u q => ne (I.base.frzs b o u q) (fun _ z => by cases z), fun b ps q => let ⟨m, z⟩ := I.base.tbls b ps q; ⟨m, ne z (fun _ z => by cases z)⟩⟩,
    I.loc, I.cell, drp_none I.free, fun x c q => drp_none (I.freeC x c q), fun p hp => let ⟨a, b, c⟩ := I.pin p hp; ⟨a, drp_none b, c⟩, fun b u q => ?_, I.len⟩
  have hb : b ≠ e := fun z => by subst z; rw [drp_same] at q; cases q
  rw [drp_ne hb] at q
  exact (I.hok b u q).stay (fun c v _ r => r) (fun c r => ne r (fun _ z => by cases z)) fun c xs r => ne r (fun _ z => by cases z)
/-- an error that a body throws, one that it lets pass: they reach what is wanted of the body's errors -/
def Thr (X : Cx) (E : XK) : Prop := ∀ (pins : List (Addr × Obj)) (σ : St) (H : Hp) (s : Shared) (e C : Addr) (od : Option Addr) (vs : Array Value), Inv X pins σ H s → s.heap.get? e = some (airOb C od vs) → vs[1]? = some .none → H e = none → Out X pins e → E (.ref C) od H → X.xe (.ref e) s
end
section
variable {P : Program} {w : World} {K : PySem.W.Frag} {mg : Str → Option Value} {base : Heap} {N : List Str} {qual : Str} {scope : Scope} {f : Addr} {cd : Value} {A : Around} {outer : List Env} {s0 : Shared} {H0 : Hp} {E : XK}
theorem thrX : Thr (cxOf (CXX P w) P w K mg base N qual scope f cd A outer s0 H0 E) E := by
  intro pins σ H s e C od vs I he h1 hn o q
  refine lv_first (base := base) (s := s) I.ok.frames I.stack rfl he h1 fun h' l ar => ?_
  have hx : ∀ b ∈ [e], H b = none ∧ Out (cxOf (CXX P w) P w K mg base N qual scope f cd A outer s0 H0 E) pins b := fun b hb => by
    simp at hb; subst hb; exact ⟨hn, o⟩
  have I2 := I.lf l hx
  exact ⟨e, C, od, s.heap.objs.size, H, rfl, I.os, I.bare, I2.base, I2.hok, ar, hn, I.hok.fresh (Nat.le_refl _), o.sz, I.sz, q⟩
/-- a def that never throws is one that may -/
theorem FnOk.x {k : Nat} {fd : FuncData} {ps : List Str} {sp : Sp} (F : FnOk P w K mg base CX0 k f fd ps sp) : FnOk P w K mg base (CXX P w) k f fd ps sp :=
  ⟨F.len, fun A outer s H args us vs Q E hr he hb hv hs => codeAny_mono (F.run A outer s H args us vs Q E hr he hb hv hs) fun r s' q => by
    cases r with
    | error e => exact q.elim
    | ok fl => cases fl <;> exact q⟩
end
/-! ### raise C(e, ..) -/
section
variable {M : Model} {A : Around} {E : Value → Shared → Prop} {env : Env}
variable {nm q : Str} {C N : Addr} {bs bm : List Value} {hdct : Bool} {sn : List Str} {sub : List Value} {ab : Bool} {col : Option Bool} {dd : Option Addr} {k0 k1 k2 k3 k5 : Option Value} {newId : String}
theorem raise_own {s : Shared} {x : Sem Value} {Q : Flow → Shared → Prop} (hbase : bm.contains (.type "BaseException") = true) (hh : A.handled = none)
    (h : wpAny M A x (fun v s1 => ∃ e od t, v = .ref e ∧ s1.heap.get? C = some (excClassObj nm q C N bs bm hdct sn sub ab col dd k0 k1 k2 k3 k5 newId) ∧ s1.heap.get? e = some (excOb C od t) ∧ E (.ref e) s1) E s) :
    wpAny M A (raiseStmt env (some x) none) Q E s := by
  have hcB : (Value.ref C :: bm).contains (.type "BaseException") = true := by rw [List.contains_cons, hbase, Bool.or_true]
  unfold raiseStmt
  refine wpAny_bind (wpAny_mono h (fun v s1 h1 => ?_) fun _ _ x => x)
  obtain ⟨e, od, t, rfl, hC, he, hE⟩ := h1
  obtain ⟨hp, g, d, tk, os⟩ := s1
  unfold excOb at he
  repeat (first | with_reducible refine wpAny_loadPart_at he ?_ | with_reducible refine wpAny_loadPart_at hC ?_ | (with_reducible refine wpAny_isSubtype_exc hC ?_; rw [hcB]) | wp_step)
  exact wpAny_raiseNew_none hh hE
end
section
variable {X : Cx} {x : Str} {C : Addr} {fl : List Str} {p pos : Pos} {e : Expr} {es : List Expr} {t : TA} {E : XK}
theorem run_mxF {pins : List (Addr × Obj)} {σ : St} {H : Hp} {s : Shared} {Q : VK} {us ws : List Value} {vs : List V} {kw : List (Str × Value)} {f : Addr} {fd : FuncData} {N : Addr} {B newId : String} {bm : List Value} {oI : Obj}
    (c : XCls X.K C N B newId bm fl) (hi : PySem.W.nsIn X.K N "__init__" = some (some (.ref f))) (lf : X.K.lookup f = some oI) (hfc : oI.cls = .type "function") (F : FnOk X.prog X.w X.K X.mg X.base CX0 1 f fd ("self" :: fl) (spIni C fl))
    (hr : Room 2 X.A) (I : Inv X pins σ H s) (r : Vals vs ws) (bd : ∀ (s' : Shared) (e' : Value), X.K.In s'.heap → BindsTo s' fd ⟨e' :: us, kw⟩ ((("self" : Str) :: fl).zip (e' :: ws))) (hz : us.length ≤ sizeLine) (hl : vs.length = fl.length)
    (k : ∀ dx, H dx = none → dx ≠ s.heap.objs.size + 1 → Q (.ref (s.heap.objs.size + 1)) (upd (upd H dx (XD dx (fl.zip vs))) (s.heap.objs.size + 1) (XO (s.heap.objs.size + 1) C (some dx)))) :
    wpAny (model X.prog X.w) X.A (call (.ref C) us kw) (EP X pins σ Q) X.xe s := by
  obtain ⟨nm, q, bs, sn, sub, ab, col, dd, k0, k1, k2, k3, k5, lk⟩ := c.lk
  obtain ⟨Bn, inN, bmN, Z⟩ := c.xb
  have KI := I.kIn
  have hx0 : H (s.heap.objs.size + 1) = none := I.hok.fresh (Nat.le_succ _)
  obtain ⟨hh, g, d, tk, os⟩ := s
  refine xw_make Z (c.at KI) (c.nsm KI) (ns_some_of KI (c.nsm KI) hi) (KI _ _ lf) hfc hz ?_
  have I2 : Inv X pins σ (upd H (hh.objs.size + 1) (XO (hh.objs.size + 1) C none)) ⟨exHeap hh C us, g, d, tk, os⟩ :=
    I.laid (h' := exHeap hh C us) (t' := tk) (fun b u z => ex_kept z) (Nat.le_succ _) (XO.ok (t0 := hh.objs.size) (ex_at hh C us))
  have r2 : Vals (V.ref (hh.objs.size + 1) :: vs) (Value.ref (hh.objs.size + 1) :: ws) := .cons rfl r
  refine wpAny_call (codeAny_mono (F.run _ X.stack _ _ ⟨Value.ref (hh.objs.size + 1) :: us, kw⟩ (Value.ref (hh.objs.size + 1) :: ws) _ (fun v H2 => v = .non ∧ Q (.ref (hh.objs.size + 1)) H2) E0 (hr.make C us kw) (I2.env0.make C us kw) (bd _ _ I2.kIn) r2 ?_) fun r s' hq' => ?_)
  · refine ⟨_, vs, rfl, hl, upd_same, fun dx h1 h2 => ⟨rfl, ?_⟩⟩
    rw [upd3]
    refine k dx ?_ h2
    rw [upd_ne h2] at h1; exact h1
  · cases r with
    | error e => exact (pass0 pins σ _ _ e s' I2 hq')
    | ok fl =>
      cases fl with
      | ret u =>
        obtain ⟨v, H', I3, rv, ev, q3⟩ := I2.after hq'
        subst ev
        exact ⟨rv, ⟨V.ref (hh.objs.size + 1), H', I3, rfl, q3⟩⟩
      | next => exact False.elim hq'
      | brk => exact False.elim hq'
      | cont => exact False.elim hq'
def tThrow (C : Addr) (fl : List Str) (E : XK) (t : TA) : TS := fun _ σ H => t σ H fun vs H1 => vs.length = fl.length ∧ ∀ dx, H1 dx = none → E (.ref C) (some dx) (upd H1 dx (XD dx (fl.zip vs)))
theorem ps_throw {pos' : Pos} (ht : Thr X E) (hc : X.calm = true) (m : Mx X.prog X.w X.K X.mg X.base x C fl) (hr : Room 2 X.A) (hg : Gl X x) (ha : PA X (e :: es) t) (hz : fl.length ≤ 1000 := by decide) (hdb : (x == ("__debug__" : Str)) = false := by decide)
    (he : starEach (e :: es) X.env = (false, eval e X.env) :: starEach es X.env := by rfl) (hpl : (backTo pos (starEach es X.env)).any (·.1) = false := by rfl) :
    PS X (.Raise (some (.Call (.Name x p) (e :: es) [] pos)) none pos') (tThrow C fl E t) := by
  obtain ⟨f, fd, N, B, newId, bm, oI, hm, c, hi, lf, hfc, F, b, kb⟩ := m.ex
  obtain ⟨nm, qq, bs, sn, sub, ab, col, dd, k0, k1, k2, k3, k5, lk⟩ := id c.lk
  obtain ⟨Bn, inN, bmN, Z⟩ := id c.xb
  intro pins s σ H D I h
  rw [arm_exec_Raise]
  refine wpAny_bind (wpAny_standAt ?_)
  have hev : wpAny (model X.prog X.w) X.A (eval (.Call (.Name x p) (e :: es) [] pos) X.env) (fun v s2 => ∃ e od t, v = .ref e ∧ s2.heap.get? C = some (excClassObj nm qq C N bs bm true sn sub ab col dd k0 k1 k2 k3 k5 newId) ∧ s2.heap.get? e = some (excOb C od t) ∧ X.xe (.ref e) s2) X.xe s := by
    refine wpAny_Call_Name_kw (ld_glob I hg hm ?_ hdb)
    refine PySem.W.callWith_K (h₀ := X.base) I.ok.mod.kin c.kp (thn (ha pos pins s σ H _ I h) fun us s1 ⟨vs, H1, I1, r, q⟩ => ⟨I1.kIn, ?_⟩) he hpl
    obtain ⟨ql, q⟩ := q
    have hl : us.length = fl.length := by rw [← r.length]; exact ql
    have o1 := I1.out (b := s1.heap.objs.size + 1) (Nat.le_succ _)
    have nx : H1 (s1.heap.objs.size + 1) = none := I1.hok.fresh (Nat.le_succ _)
    refine thn (run_mxF (Q := fun v H2 => ∃ dx, v = .ref (s1.heap.objs.size + 1) ∧ H1 dx = none ∧ dx ≠ s1.heap.objs.size + 1 ∧ H2 = upd (upd H1 dx (XD dx (fl.zip vs))) (s1.heap.objs.size + 1) (XO (s1.heap.objs.size + 1) C (some dx))) c hi lf hfc F hr I1 r (fun s' e' KI => ?_) (by show us.length ≤ sizeLine; rw [hl]; exact zlen hz) ql fun dx h1 h2 => ⟨dx, rfl, h1, h2, rfl⟩) fun v s2 ⟨v', H2, I2, rv, dx, ev, h1, h2, eH⟩ => ?_
    · have := b s' (e' :: us) KI (by simp [hl])
      simpa using this
    · subst ev
      subst eH
      obtain rfl : v = Value.ref (s1.heap.objs.size + 1) := rv
      obtain ⟨t0, g0⟩ := xo_get I2 upd_same
      refine ⟨_, _, t0, rfl, I2.kIn _ _ lk, g0, ht pins σ _ s2 _ C (some dx) _ (I2.drop (φ := _) upd_same) g0 rfl drp_same ?_ ?_⟩
      · exact o1
      · have eH : drp (upd (upd H1 dx (XD dx (fl.zip vs))) (s1.heap.objs.size + 1) (XO (s1.heap.objs.size + 1) C (some dx))) (s1.heap.objs.size + 1) = upd H1 dx (XD dx (fl.zip vs)) := by
          funext b
          by_cases hb : b = s1.heap.objs.size + 1
          · subst hb; rw [drp_same, upd_ne (Ne.symm h2), nx]
          · rw [drp_ne hb, upd_ne hb]
        rw [eH]
        exact q dx h1
  have fin := raise_own (env := X.env) (Q := SP X pins D) (x := (do let v ← eval (.Call (.Name x p) (e :: es) [] pos) X.env; standAt pos'; pure v)) Z.hasBase (I.ok.hd hc) (wpAny_bind (thn hev fun v s2 h2 => wpAny_bind (wpAny_standAt (wpAny_pure h2))))
  exact fin
end
end L2

set_option Elab.async false
set_option linter.all false
set_option maxRecDepth 100000
namespace L2
open PySem PySem.Spec PyProof.Rows
/-! ### a caught error: XQ (its record's fields are anything) -/
def XQ (x C : Addr) (od : Option Addr) : HO := .ext fun h => ∃ vs, h.get? x = some (airOb C od vs)
theorem XQ.ok {P : Program} {w : World} {H : Hp} {h : Heap} {x C : Addr} {od : Option Addr} {vs : Array Value} (e : h.get? x = some (airOb C od vs)) : ObjOk P w H h x (XQ x C od) :=
  ⟨⟨vs, e⟩, ⟨_, e⟩, fun h1 h2 ⟨t, e1⟩ k => ⟨t, k _ e1⟩⟩
section
variable {X : Cx} {pins : List (Addr × Obj)} {σ : St} {H : Hp} {s : Shared} {A : Around} {E : Value → Shared → Prop} {x C N dx : Addr} {B newId : String} {bm : List Value} {fl : List Str} {fs : List (Str × V)} {f : Str} {v : V}
theorem xq_get {od : Option Addr} (I : Inv X pins σ H s) (e : H x = some (XQ x C od)) : ∃ vs, s.heap.get? x = some (airOb C od vs) :=
  ((show ObjOk X.prog X.w H s.heap x (XQ x C od) from I.hok x _ e)).1
theorem xq_inst (I : Inv X pins σ H s) (e : H x = some (XQ x C (some dx))) (ed : H dx = some (XD dx fs)) (ne : dx ≠ x) : ∃ mA, s.heap.Inst x C mA ∧ ∀ f, RelO (fs.lookup f) (mA f) := by
  obtain ⟨vs, h1⟩ := xq_get I e
  obtain ⟨mA, h2, r⟩ := xd_get I ed
  exact ⟨mA, ⟨_, h1, rfl, (fun c q => by unfold airOb at q; cases q), .inr ⟨dx, rfl, ne, h2⟩⟩, r⟩
/-- what a caught error is -/
structure IsQ (H : Hp) (x C : Addr) (fs : List (Str × V)) : Prop where
  ex : ∃ dx, H x = some (XQ x C (some dx)) ∧ H dx = some (XD dx fs) ∧ dx ≠ x
theorem getq_ok {b : Bool} {Q : Value → Shared → Prop} (I : Inv X pins σ H s) (ix : IsQ H x C fs) (c : XCls X.K C N B newId bm fl) (hf : f ∈ fl) (l : fs.lookup f = some v)
    (h : ∀ u s', Inv X pins σ H s' → RelV v u → Q u s') : wpAny (model X.prog X.w) A (getAttr (.ref x) f b) Q E s := by
  obtain ⟨dx, e, ed, ne⟩ := ix.ex
  obtain ⟨mA, O, r⟩ := xq_inst I e ed ne
  obtain ⟨u, hu, ru⟩ := RelO.some_of (v := v) (o := mA f) (by rw [← l]; exact r f)
  obtain ⟨nm, q, bs, sn, sub, ab, col, dd, k0, k1, k2, k3, k5, lk⟩ := c.lk
  obtain ⟨Bn, inN, bmN, Z⟩ := c.xb
  have KI := I.kIn
  have q2 := h u _ (I.tok (s.toks + 1)) ru
  obtain ⟨hh, g, d, t, os⟩ := s
  exact xw_load Z (c.at KI) (c.nsm KI) (c.nsv KI c.ga) (c.nsv KI c.gh) (c.nsv KI (c.fn f hf)) (c.lb f hf) O hu (handedX ru) q2
/-- e.f, e a caught error -/
def tFldQ (K : PySem.W.Frag) (ta : TE) (f : Str) : TE := fun σ H Q => ta σ H fun x H1 => ∃ a C N B newId bm fl fs v, x = .ref a ∧ IsQ H1 a C fs ∧ XCls K C N B newId bm fl ∧ f ∈ fl ∧ fs.lookup f = some v ∧ Q v H1
theorem pe_fldQ {e : Expr} {ta : TE} {pos : Pos} (he : PE X e ta) (hb : attributeBase e f X.env (eval e X.env) = eval e X.env) : PE X (.Attribute e f pos) (tFldQ X.K ta f) := by
  intro pins s σ H Q I h
  refine attr_of hb (thn (he pins s σ H _ I h) fun u s1 ⟨x, H1, I1, rx, a, C, N, B, newId, bm, fl, fs, v, ex, ix, c, hf, l, q⟩ => ?_)
  subst ex
  obtain rfl : u = Value.ref a := rx
  exact getq_ok I1 ix c hf l fun u' s2 I2 ru => ⟨v, H1, I2, ru, q⟩
theorem kitx_q (c : XCls X.K C N B newId bm fl) : PySem.W.KitX X.K (.ref x) (.ref C) (fun h => ∃ od vs, h.get? x = some (airOb C od vs)) := by
  obtain ⟨nm, q, bs, sn, sub, ab, col, dd, k0, k1, k2, k3, k5, lk⟩ := c.lk
  obtain ⟨Bn, inN, bmN, Z⟩ := c.xb
  refine ⟨fun M h KI ⟨od, t0, e⟩ => (PySem.W.Looks.ld e).andThen .now, fun M h KI _ => ?_, fun h tp dd its n sl KI htp => ?_, fun {prog w A E Q s} KI ⟨od, t0, e⟩ k => ?_⟩
  · intro A' Q' E' s' k q
    unfold isType loadHead
    exact wpAny_bind (wpAny_loadPart (k _ _ (KI _ _ lk)) (wpAny_pure q))
  · refine Bool.eq_false_iff.mpr fun q => ?_
    have e : C = tp := Value.ref.inj (beq_iff_eq.mp q)
    subst e
    have z := (KI _ _ lk).symm.trans htp
    have z2 := congrArg Obj.cls (Option.some.inj z)
    exact absurd (Value.type.inj z2) (by decide)
  · obtain ⟨hh, g, d, t, os⟩ := s
    exact xw_class Z (c.at KI) (c.nsm KI) (c.nsv KI c.ga) (c.nsv KI c.gh) (c.nsv KI c.cl) e rfl k
/-- isinstance(e, T), T a built-in class -/
def rIsT (K : PySem.W.Frag) : List V → Hp → VK → Prop := fun xs H Q => ∃ (a C N : Addr) (B n : String) (bm : List Value) (fl : List Str) (od : Option Addr) (T : String), xs = [.ref a, .ty T] ∧ H a = some (XQ a C od) ∧ XCls K C N B n bm fl ∧ PySem.W.kitMeta T = true ∧ Q (.bl (bm.contains (.type T))) H
theorem cr_isT : CallR X (.builtin "isinstance") (rIsT X.K) := by
  intro pins s σ H xs us Q I r h
  obtain ⟨a, C, N, B, n, bm, fl, od, T, rfl, ea, c, hm, q⟩ := h
  obtain ⟨u, w', rfl, rx, ry⟩ := vals2 r
  cases rx
  cases (show w' = Value.type T from ry)
  obtain ⟨vs, h1⟩ := xq_get I ea
  exact PySem.W.kia_one (kitx_q c) I.kIn ⟨od, vs, h1⟩ (kit_excT c hm) (fun z => nomatch z) fun tk => ⟨.bl _, H, I.tok tk, rfl, q⟩
/-- isinstance(e, (D, ..)), all of them other own classes of errors -/
def rIsN (K : PySem.W.Frag) : List V → Hp → VK → Prop := fun xs H Q => ∃ (a C N : Addr) (B n : String) (bm : List Value) (fl : List Str) (od : Option Addr) (tp : Addr) (Ds : List Addr), xs = [.ref a, .ref tp] ∧ H a = some (XQ a C od) ∧ XCls K C N B n bm fl ∧ H tp = some (.tup (Ds.map V.ref)) ∧
  (∀ D ∈ Ds, C ≠ D ∧ ∃ M B' n' bm' fl', XCls K D M B' n' bm' fl') ∧ Q (.bl false) H
theorem kitAny_no {K : PySem.W.Frag} {C N : Addr} {B n : String} {bm : List Value} {fl : List Str} (c : XCls K C N B n bm fl) : ∀ {Ds : List Addr}, (∀ D ∈ Ds, C ≠ D ∧ ∃ M B' n' bm' fl', XCls K D M B' n' bm' fl') → PySem.W.kitAny K (.ref C) (Ds.map Value.ref) = some false
  | [], _ => rfl
  | D :: r, h => by
    obtain ⟨ne, M, B', n', bm', fl', d⟩ := h D (by simp)
    show (match PySem.W.kitOne K (.ref C) (.ref D) with | some true => some true | some false => PySem.W.kitAny K (.ref C) (r.map Value.ref) | none => none) = some false
    rw [kit_exc c d, decide_eq_false ne]
    exact kitAny_no c fun D' h' => h D' (List.mem_cons_of_mem _ h')
theorem vals_refs : ∀ {Ds : List Addr} {us : List Value}, Vals (Ds.map V.ref) us → us = Ds.map Value.ref
  | [], _, .nil => rfl
  | _ :: _, _, .cons r t => by
    have e := vals_refs t
    cases r
    rw [e]; rfl
theorem cr_isN : CallR X (.builtin "isinstance") (rIsN X.K) := by
  intro pins s σ H xs us Q I r h
  obtain ⟨a, C, N, B, n, bm, fl, od, tp, Ds, rfl, ea, c, ht, hD, q⟩ := h
  obtain ⟨u, w', rfl, rx, ry⟩ := vals2 r
  cases rx
  cases ry
  obtain ⟨vs, h1⟩ := xq_get I ea
  obtain ⟨_, its, rv, o, ho, hc, _, m, hd⟩ := (show ObjOk X.prog X.w H s.heap tp (.tup (Ds.map V.ref)) from I.hok tp _ ht)
  have e := vals_refs rv
  subst e
  obtain ⟨oc, od', odt, osl⟩ := o
  dsimp only at hc hd
  subst hc hd
  exact PySem.W.kia_tup (kitx_q c) I.kIn ⟨od, vs, h1⟩ ho (kitAny_no c hD) (fun z => nomatch z) fun tk => ⟨.bl _, H, I.tok tk, rfl, q⟩
end
/-! ### try: .. except C as n: .. -/
/-- the context of a try's body: what the state bears is known to hold when an error comes, the names' state at the beginning -/
def tryE (X : Cx) (pn : List (Addr × Obj)) (σ0 : St) (E : XK) : Value → Shared → Prop := fun ev s' => ∃ (e C : Addr) (od : Option Addr) (T : Addr) (H' : Hp), ev = .ref e ∧ Inv X pn σ0 H' s' ∧ Air s'.heap e C od T .none ∧ H' e = none ∧ H' T = none ∧ Out X pn e ∧ Out X pn T ∧ E (.ref C) od H'
def Cx.tr (X : Cx) (pn : List (Addr × Obj)) (σ0 : St) (E : XK) : Cx := { X with pn := X.pn ++ pn, xe := tryE X pn σ0 E }
def Cx.cau (X : Cx) (e : Addr) : Cx := { X with A := X.A.mark (some (.ref e)), calm := false, xe := fun _ _ => False }
section
variable {X : Cx} {pins pn : List (Addr × Obj)} {σ σ0 : St} {H : Hp} {s : Shared} {E : XK}
theorem Inv.tr (I : Inv X pn σ H s) : Inv (X.tr pn σ0 E) [] σ H s :=
  ⟨⟨I.ok.mod, I.ok.kind, I.ok.glob, I.ok.blt, I.ok.above, I.ok.inj, I.ok.has, I.ok.cab, I.ok.hd, I.ok.frames, I.ok.stk, I.ok.exf, I.ok.bs, I.ok.bsz, I.ok.noex, I.ok.exfs, I.ok.funs, I.ok.frf⟩,
   I.os, I.bare, I.base, I.loc, I.cell, I.free, I.freeC, fun p hp => I.pin p (by simpa [Cx.tr] using hp), I.hok, I.len⟩
theorem Inv.untr (I : Inv (X.tr pn σ0 E) pins σ H s) : Inv X pn σ H s :=
  ⟨⟨I.ok.mod, I.ok.kind, I.ok.glob, I.ok.blt, I.ok.above, I.ok.inj, I.ok.has, I.ok.cab, I.ok.hd, I.ok.frames, I.ok.stk, I.ok.exf, I.ok.bs, I.ok.bsz, I.ok.noex, I.ok.exfs, I.ok.funs, I.ok.frf⟩,
   I.os, I.bare, I.base, I.loc, I.cell, I.free, I.freeC, fun p hp => I.pin p (List.mem_append_left _ hp), I.hok, I.len⟩
theorem Inv.cau {e : Addr} (I : Inv X pins σ H s) : Inv (X.cau e) pins σ H s :=
  ⟨⟨I.ok.mod, I.ok.kind, I.ok.glob, I.ok.blt, I.ok.above, I.ok.inj, I.ok.has, I.ok.cab, (fun z => nomatch z), I.ok.frames, I.ok.stk, I.ok.exf, I.ok.bs, I.ok.bsz, I.ok.noex, I.ok.exfs, I.ok.funs, I.ok.frf⟩,
   I.os, I.bare, I.base, I.loc, I.cell, I.free, I.freeC, I.pin, I.hok, I.len⟩
theorem Inv.uncau {e : Addr} (hd : X.calm = true → X.A.handled = none) (hfr : X.A.frames = some X.stack) (I : Inv (X.cau e) pins σ H s) : Inv X pins σ H s :=
  ⟨⟨I.ok.mod, I.ok.kind, I.ok.glob, I.ok.blt, I.ok.above, I.ok.inj, I.ok.has, I.ok.cab, hd, hfr, I.ok.stk, I.ok.exf, I.ok.bs, I.ok.bsz, I.ok.noex, I.ok.exfs, I.ok.funs, I.ok.frf⟩,
   I.os, I.bare, I.base, I.loc, I.cell, I.free, I.freeC, I.pin, I.hok, I.len⟩
/-- an error of a callee, where the names' state is the try's -/
def PassAt (CX : CXT) (X : Cx) (σ : St) (E : XK) : Prop := ∀ (pins : List (Addr × Obj)) (H : Hp) (s : Shared) (e : Value) (s' : Shared), Inv X pins σ H s → CX X.stack H s E e s' → X.xe e s'
theorem passTr : PassAt (CXX X.prog X.w) (X.tr pn σ0 E) σ0 E := by
  rintro pins H s ev s' I ⟨e, C, od, T, H', rfl, os, bare, un, hok, ar, n1, n2, z1, z2, q⟩
  have I1 := I.call' (ch := []) os un hok bare fun b z => nomatch z
  exact ⟨e, C, od, T, H', rfl, I1.untr, ar, n1, n2, I.untr.out z1, I.untr.out z2, q⟩
theorem Passes.at {CX : CXT} (h : Passes CX X E) : PassAt CX X σ E := fun pins H s e s' I q => h pins σ H s e s' I q
end
section
variable {X : Cx} {CX : CXT} {k : Nat} {f C : Addr} {fd : FuncData} {ps : List Str} {sp : Sp} {E : XK} {x : Str} {p pos : Pos} {e : Expr} {es : List Expr} {t : TA} {σ0 : St}
theorem run_fnS {pins : List (Addr × Obj)} {H : Hp} {s : Shared} {Q : VK} {us : List Value} {vs : List V} (F : FnOk X.prog X.w X.K X.mg X.base CX k f fd ps sp) (hr : Room k X.A) (hb : Binds X.K fd ps []) (hx : PassAt CX X σ0 E)
    (I : Inv X pins σ0 H s) (r : Vals vs us) (h : sp vs H Q E) : wpAny (model X.prog X.w) X.A (call (.ref f) us) (EP X pins σ0 Q) X.xe s := by
  have hl : us.length = ps.length := by rw [← r.length]; exact F.len _ _ _ _ h
  have hb' := hb s us I.kIn (by rw [List.append_nil]; exact hl)
  rw [List.append_nil] at hb'
  refine wpAny_call (codeAny_mono (F.run X.A X.stack s H ⟨us, []⟩ us vs Q E hr I.env0 hb' r h) fun r s' hq => ?_)
  cases r with
  | error e => exact hx pins H s e s' I hq
  | ok fl =>
    cases fl with
    | ret u => exact I.after hq
    | next => exact False.elim hq
    | brk => exact False.elim hq
    | cont => exact False.elim hq
/-- a def's promise, where it may throw -/
structure CalX (P : Program) (w : World) (K : PySem.W.Frag) (mg : Str → Option Value) (base : Heap) (x : Str) (ps : List Str) (k : Nat) (sp : Sp) : Prop where
  ex : ∃ (f : Addr) (fd : FuncData), FnOk P w K mg base (CXX P w) k f fd ps sp ∧ Binds K fd ps [] ∧ mg x = some (.ref f) ∧ PySem.W.keepIn K (.ref f) = true
end
/-- the end of a suite: the name goes -/
def clr (i : Nat) (D : Ends) : Ends := ⟨fun σ H => D.nx (σ.set i none) H, D.rt, fun σ H => D.bk (σ.set i none) H, fun σ H => D.ct (σ.set i none) H⟩
def tTry (C : Addr) (i : Nat) (tb : St → XK → TS) (ts : TS) : TS := fun D σ H => tb σ (fun cls od H' => cls = .ref C ∧ ∀ e, H' e = none → ts (clr i D) (σ.set i (some (.ref e))) (upd H' e (XQ e C od))) D σ H
section
variable {X : Cx} {pins : List (Addr × Obj)} {σ : St} {H : Hp} {s : Shared}
theorem goes_ok {M : Model} {A : Around} {E : Value → Shared → Prop} {i : Nat} {n : Str} {pos : Pos} {Q : Unit → Shared → Prop} (I : Inv X pins σ H s) (hN : X.N.Nodup) (hi : X.N[i]? = some n) (hk : X.env.kindOf n = some .local)
    (h : ∀ s', Inv X pins (σ.set i none) H s' → Q () s') : wpAny M A (do bindName X.env n .none; unbindBehindTheSuite X.env n pos) Q E s := by
  obtain ⟨m, hn, hl⟩ := id I.loc
  have hcls : (X.env.scope.kind == .class || (X.env.scope.kind == .module && X.env.locals != X.env.globals)) = false := by rw [I.ok.kind]; rfl
  have cne := I.cne
  refine wpAny_nameGoes_keeps hk hn hcls fun h' v hn' hs => h _ ?_
  have hiσ : i < σ.length := by rw [I.len]; exact (List.getElem?_eq_some_iff.mp hi).1
  refine ⟨I.ok, I.os, I.bare, ⟨fun b o e n hb hx => ?_, fun b o e n hb hx => ?_, I.base.free, fun b o e hx => ?_, I.base.tups, I.base.frzs, I.base.tbls⟩, ⟨_, hn', fun j y v' e1 e2 e3 => ?_⟩, fun y c e => ?_, I.free, I.freeC, fun p hp => ?_, fun b ob e => ?_, by simpa using I.len⟩
  · exact (hs.2 b (Nat.ne_of_lt (Nat.lt_of_lt_of_le (Heap.lt_size e) I.ok.above))).trans (I.base.keep b o e n hb hx)
  · obtain ⟨sl, e1⟩ := I.base.slot b o e n hb hx
    exact ⟨sl, (hs.2 b (Nat.ne_of_lt (Nat.lt_of_lt_of_le (Heap.lt_size e) I.ok.above))).trans e1⟩
  · obtain ⟨o', e1⟩ := I.base.there b o e hx
    exact ⟨o', (hs.2 b (Nat.ne_of_lt (Nat.lt_of_lt_of_le (Heap.lt_size e) I.ok.above))).trans e1⟩
  · by_cases hj : j = i
    · subst hj
      rw [List.getElem?_set_self hiσ] at e2
      cases e2
    · rw [List.getElem?_set_ne (Ne.symm hj)] at e2
      obtain ⟨u', r', q⟩ := hl j y v' e1 e2 e3
      refine ⟨u', r', ?_⟩
      rcases q with ⟨k, e⟩ | ⟨k, c, e, z⟩
      · refine .inl ⟨k, ?_⟩
        have : y ≠ n := fun e => hj (nodup_ix hN e1 (e ▸ hi))
        simp [this, e]
      · exact .inr ⟨k, c, e, z.sameBut hs (cne y c e)⟩
  · obtain ⟨w', z⟩ := I.cell y c e
    exact ⟨w', z.sameBut hs (cne y c e)⟩
  · obtain ⟨e, n, ne, nf, d⟩ := I.pin p hp
    exact ⟨(hs.2 p.1 ne).trans e, n, ne, nf, d⟩
  · refine (I.hok b ob e).stay (fun c w' hc q => (hs.2 c ?_).trans q) (fun _ q => q) fun _ _ q => q
    rintro rfl
    rcases hc with rfl | hc
    · rw [I.free] at e; cases e
    · rw [I.free] at hc; cases hc
/-- an own error that was caught is known from now on -/
theorem Inv.know {e C : Addr} {od : Option Addr} {vs : Array Value} (I : Inv X pins σ H s) (he : s.heap.get? e = some (airOb C od vs)) (hn : H e = none) (o : Out X pins e) : Inv X pins σ (upd H e (XQ e C od)) s := by
  have nt : ∀ {b : Addr} {u : HO}, H b = some u → upd H e (XQ e C od) b = some u := fun {b u} q => by rw [upd_ne (ne_of_none q hn)]; exact q
  refine ⟨I.ok, I.os, I.bare, ⟨I.base.keep, I.base.slot, fun b ob q n x => ?_, I.base.there, fun b xs q => nt (I.base.tups b xs q), fun b ob u q => nt (I.base.frzs b ob u q), fun b ps q => let ⟨m, z⟩ := I.base.tbls b ps q; ⟨m, nt z⟩⟩,
    I.loc, I.cell, ?_, fun x c q => ?_, fun p hp => ?_, fun b u q => ?_, I.len⟩
  · rw [upd_ne (fun z => ?_)]
    · exact I.base.free b ob q n x
    · subst z
      exact absurd (Nat.lt_of_lt_of_le (Heap.lt_size q) o.sz) (Nat.lt_irrefl _)
  · rw [upd_ne (Ne.symm o.lo)]; exact I.free
  · rw [upd_ne (o.ce x c q)]; exact I.freeC x c q
  · obtain ⟨a, b, c⟩ := I.pin p hp
    exact ⟨a, by rw [upd_ne (o.pi p hp)]; exact b, c⟩
  · by_cases hb : b = e
    · subst hb
      rw [upd_same] at q; cases q
      exact XQ.ok he
    · rw [upd_ne hb] at q
      exact (I.hok b u q).stay (fun c v _ r => r) (fun c r => nt r) fun c xs r => nt r
theorem ps_try {c n : Str} {C N : Addr} {B newId : String} {bm : List Value} {fl : List Str} {i : Nat} {body suite : List Stmt} {b0 : Stmt} {np hpos pos : Pos} {tb : St → XK → TS} {ts : TS} (hst : X.stack = X.env :: X.outer) (hfr : X.env.frame = some X.env.locals)
    (hg : Gl X c) (hm : X.mg c = some (.ref C)) (cl : XCls X.K C N B newId bm fl) (hN : X.N.Nodup) (hi : X.N[i]? = some n) (hk : X.env.kindOf n = some .local)
    (hb : ∀ pn σ0 E, PSs (X.tr pn σ0 E) body (tb σ0 E)) (hs : ∀ e, PSs (X.cau e) (b0 :: suite) ts) (hdb : (c == ("__debug__" : Str)) = false := by decide) :
    PS X (.Try body [.ExceptHandler (some (.Name c np)) (some n) (b0 :: suite) hpos] [] [] pos) (tTry C i tb ts) := by
  obtain ⟨nm, qq, bs, sn, sub, ab, col, dd, k0, k1, k2, k3, k5, lk⟩ := id cl.lk
  obtain ⟨Bn, inN, bmN, Z⟩ := id cl.xb
  intro pins s σ H D I h
  refine wpAny_Try_except (wpAny_mono (hb pins σ _ [] s σ H D I.tr h) (fun fl s1 h1 => ?_) fun ev s1 h1 => ?_)
  · have fin : SP X pins D fl s1 := by
      cases fl with
      | next => obtain ⟨σ', H', I', q⟩ := h1; exact ⟨σ', H', I'.untr, q⟩
      | brk => obtain ⟨σ', H', I', q⟩ := h1; exact ⟨σ', H', I'.untr, q⟩
      | cont => obtain ⟨σ', H', I', q⟩ := h1; exact ⟨σ', H', I'.untr, q⟩
      | ret u => obtain ⟨v, σ', H', I', r, q⟩ := h1; exact ⟨v, σ', H', I'.untr, r, q⟩
    cases fl with
    | next => exact wpAny_pure fin
    | brk => exact fin
    | cont => exact fin
    | ret u => exact fin
  · obtain ⟨e, C', od, T, H1, rfl, I1, ar, n1, n2, o1, o2, ec, q⟩ := h1
    obtain rfl : C' = C := Value.ref.inj ec
    have fr1 : X.A.frames = some (X.env :: X.outer) := by rw [← hst]; exact I1.ok.frames
    have st1 : s1.heap.FunFrames X.base (X.env :: X.outer) := by rw [← hst]; exact I1.stack
    refine air_next (base := X.base) fr1 st1 hfr ar fun h2 l2 ar2 => ?_
    have hx : ∀ b ∈ [e, T], H1 b = none ∧ Out X pins b := fun b hb => by
      simp at hb
      rcases hb with rfl | rfl
      · exact ⟨n1, o1⟩
      · exact ⟨n2, o2⟩
    rw [← hst] at l2
    have I2 := I1.lf l2 hx
    have oT := I1.out (Nat.le_refl s1.heap.objs.size)
    have nT : H1 s1.heap.objs.size = none := I1.hok.fresh (Nat.le_refl _)
    have hT : ∀ b ∈ [s1.heap.objs.size], H1 b = none ∧ Out X pins b := fun b hb => by
      simp at hb; subst hb; exact ⟨nT, oT⟩
    refine air_land (s := { s1 with heap := h2 }) ar2 fun h3 l3 ar3 => ?_
    have I3 := I2.lf (h' := h3) (l3.mono (fs' := frs X.stack) (fun _ z => z) fun _ z => nomatch z) hT
    refine wpAny_handleBy_cons (codeAny_handlers_test ?_) (by intro z; cases z)
    refine ld_glob (X := X.cau e) (I3.cau (e := e)) hg hm ?_ hdb
    obtain ⟨vs3, oT3, ts3, a1, a2, a3, a4, a5, a6⟩ := id ar3.ex
    refine wpAny_excMatches_sub_self (I3.kIn _ _ lk) a1 rfl Z.hasBase (codeAny_handlers_suite_as ?_)
    refine air_land (s := { s1 with heap := h3 }) ar3 fun h4 l4 ar4 => ?_
    have I4 := I3.lf (h' := h4) (l4.mono (fs' := frs X.stack) (fun _ z => z) fun _ z => nomatch z) hT
    obtain ⟨vs4, oT4, ts4, b1, b2⟩ := id ar4.ex
    have I5 := I4.know b1 n1 o1
    refine store_ok (v := .ref e) I5 hN hi (.inl hk) rfl (fun s5 I6 => ?_) (.inr hk)
    refine wpAny_mono (hs e pins s5 _ _ (clr i D) I6.cau (q e n1)) (fun fl s6 h6 => ?_) fun _ _ z => z.elim
    have un : ∀ {σ' : St} {H' : Hp} {s' : Shared}, Inv (X.cau e) pins σ' H' s' → Inv X pins σ' H' s' := fun z => z.uncau I.ok.hd I.ok.frames
    cases fl with
    | next =>
      obtain ⟨σ', H', I', q'⟩ := h6
      exact goes_ok (un I') hN hi hk fun s7 I7 => ⟨_, _, I7, q'⟩
    | brk =>
      obtain ⟨σ', H', I', q'⟩ := h6
      exact goes_ok (un I') hN hi hk fun s7 I7 => ⟨_, _, I7, q'⟩
    | cont =>
      obtain ⟨σ', H', I', q'⟩ := h6
      exact goes_ok (un I') hN hi hk fun s7 I7 => ⟨_, _, I7, q'⟩
    | ret u =>
      obtain ⟨v, σ', H', I', r, q'⟩ := h6
      exact goes_ok (un I') hN hi hk fun s7 I7 => ⟨v, _, _, I7, r, q'⟩
end
end L2

set_option Elab.async false
set_option linter.all false
set_option maxRecDepth 100000
namespace L2
open PySem PySem.Spec PyProof.Rows
section
variable {X : Cx}
end
theorem Cal.x {P : Program} {w : World} {K : PySem.W.Frag} {mg : Str → Option Value} {base : Heap} {x : Str} {ps : List Str} {k : Nat} {sp : Sp} (c : Cal P w K mg base x ps k sp) : CalX P w K mg base x ps k sp :=
  let ⟨f, fd, F, r⟩ := c.ex; ⟨f, fd, F.x, r⟩
theorem CalX.mono {P : Program} {w : World} {K : PySem.W.Frag} {mg : Str → Option Value} {base : Heap} {x : Str} {ps : List Str} {j k : Nat} {sp : Sp} (c : CalX P w K mg base x ps j sp) (h : j ≤ k) : CalX P w K mg base x ps k sp :=
  let ⟨f, fd, F, r⟩ := c.ex; ⟨f, fd, F.mono h, r⟩
end L2

set_option Elab.async false
set_option linter.all false
set_option maxRecDepth 100000
namespace L2
open PySem PySem.Spec PyProof.Rows
open AutoSeq1 (wpAny_loadPart')
/-! ### enumerate(tuple) -/
section
variable {prog : Program} {w : World} {A : Around} {E : Value → Shared → Prop} {s : Shared}
end
section
variable {X : Cx}
/-! ### a call of what a name holds -/
structure CalA (P : Program) (w : World) (K : PySem.W.Frag) (mg : Str → Option Value) (base : Heap) (f : Addr) (k : Nat) (sp : Sp) : Prop where
  ex : ∃ (fd : FuncData) (ps : List Str), FnOk P w K mg base CX0 k f fd ps sp ∧ Binds K fd ps [] ∧ PySem.W.keepIn K (.ref f) = true
end
end L2

set_option Elab.async false
set_option linter.all false
set_option maxRecDepth 100000
namespace L2
open PySem PySem.Spec PyProof.Rows
section
variable {X : Cx} {pins : List (Addr × Obj)} {σ : L2.St} {H : Hp} {s : Shared}
end
section
variable {X : Cx}
end
end L2

set_option Elab.async false
set_option linter.all false
set_option maxRecDepth 100000
namespace L2
open PySem PySem.Spec PyProof.Rows
/-! ### methods and makings of a class of the program's own, by promises -/
structure MCal (P : Program) (w : World) (K : PySem.W.Frag) (mg : Str → Option Value) (base : Heap) (C : Addr) (m : Str) (ps : List Str) (k : Nat) (sp : Sp) : Prop where
  ex : ∃ (f : Addr) (fd : FuncData), Cls K C ∧ Meth K C m f ∧ FnOk P w K mg base CX0 k f fd ps sp ∧ Binds K fd ps []
structure NCal (P : Program) (w : World) (K : PySem.W.Frag) (mg : Str → Option Value) (base : Heap) (x : Str) (C : Addr) (ps : List Str) (k : Nat) (sp : Sp) : Prop where
  ex : ∃ (f : Addr) (fd : FuncData), mg x = some (.ref C) ∧ Mk K C f ∧ FnOk P w K mg base CX0 k f fd ps sp ∧ Binds K fd ps []
section
variable {X : Cx} {k : Nat} {sp : Sp} {C : Addr} {x m : Str} {ps : List Str} {p pos apos : Pos} {o e : Expr} {es : List Expr} {ta : TE} {t : TA}
theorem pe_mcal0 {pl : Sem Bool} (c : MCal X.prog X.w X.K X.mg X.base C m ps k sp) (hr : Room k X.A) (he : PE X o ta)
    (ht : eval (.Call (.Attribute o m apos) [] [] pos) X.env = (do
      let ov ← eval o X.env
      standAt apos.atName
      let (f, first) ← holding [ov] (getMethod ov m pl)
      callWith pos f first (backTo pos (starEach [] X.env)) (backToKw pos (keywordEach [] X.env))) := by rfl) :
    PE X (.Call (.Attribute o m apos) [] [] pos) (tMeth C m sp [] E0 ta tNil) := by
  obtain ⟨f, fd, c1, c2, F, b⟩ := c.ex
  exact pe_meth0 he c1 c2 F hr b .nil pass0 ht
end
end L2

set_option Elab.async false
set_option linter.all false
set_option maxRecDepth 100000
namespace L2
open PySem PySem.Spec PyProof.Rows
/-! ### == of dicts -/
/-- == of two values tells this, in this world -/
def EqIn (prog : Program) (w : World) (A : Around) (s : Shared) (u v : Value) (b : Bool) : Prop := ∀ (E : Value → Shared → Prop) (Q : Bool → Shared → Prop), Q b s → wpAny (model prog w) A (eqBool u v) Q E s
theorem same_pairs {K : Type} [DecidableEq K] {prog : Program} {w : World} {knd : PySem.KeyKind prog w K} {A : Around} {E : Value → Shared → Prop} {s : Shared} {id : String} {a b : Addr} {va vb : List (K × Value)} {Q : Bool → Shared → Prop} (e : K → Bool) (ha : s.heap.DictOf knd a va) (hb : s.heap.DictOf knd b vb)
    (na : (a == sysModules) = false) (nb : (b == sysModules) = false) (heq : ∀ k u v, (k, u) ∈ va → (k, v) ∈ vb → EqIn prog w A s u v (e k))
    (h : Q (decide (va.length = vb.length) && va.all fun p => decide (p.1 ∈ vb.map (·.1)) && e p.1) s) : wpAny (model prog w) A (Builtin.Dict.samePairs id a b) Q E s := by
  obtain ⟨oa, ea, pa, hoa, xa, da, ka, ra, nda⟩ := ha
  obtain ⟨ob, eb, pb, hob, xb, db, kb, rb, ndb⟩ := hb
  have la : va.length = ea.size := by have := ra.length; rw [Array.length_toList] at this; exact this.symm
  have lb : vb.length = eb.size := by have := rb.length; rw [Array.length_toList] at this; exact this.symm
  unfold Builtin.Dict.samePairs Builtin.Dict.showsAll
  rw [if_neg (by rw [na]; decide), if_neg (by rw [nb]; decide)]
  refine wpAny_bind (wpAny_pure ?_)
  refine wpAny_bind (wpAny_pure ?_)
  refine wpAny_bind (wpAny_dictEntries hoa da ?_)
  refine wpAny_bind (wpAny_dictEntries hob db ?_)
  by_cases hl : ea.size = eb.size
  · rw [if_neg (by simp [hl])]
    have hl' : va.length = vb.length := by omega
    rw [decide_eq_true hl', Bool.true_and] at h
    refine wpAny_bind (wpAny_dictEpoch hoa da ?_)
    refine wpAny_bind ?_
    rw [Std.Legacy.Range.forIn_eq_forIn_range']
    simp only [Std.Legacy.Range.size, Nat.sub_zero, Nat.add_sub_cancel, Nat.div_one]
    refine wpAny_forIn_list _
      (fun rest b s' => s' = s ∧ b = (none, ()) ∧ ∃ i, rest = List.range' i (ea.size - i) ∧ i ≤ ea.size ∧ ∀ p ∈ va.take i, (decide (p.1 ∈ vb.map (·.1)) && e p.1) = true)
      _ ?_ ?_ _ _ ⟨rfl, rfl, 0, by simp, Nat.zero_le _, fun p hp => by simp at hp⟩
    · rintro x rest b s' ⟨rfl, rfl, i, hr, hi, good⟩
      have hlt : i < ea.size := by
        rcases Nat.lt_or_ge i ea.size with h | h
        · exact h
        · rw [Nat.sub_eq_zero_of_le h] at hr; simp at hr
      obtain ⟨rfl, hrest⟩ : x = i ∧ rest = List.range' (i + 1) (ea.size - (i + 1)) := by
        have e : ea.size - i = (ea.size - (i + 1)) + 1 := by omega
        rw [e, List.range'_succ] at hr
        injection hr with h1 h2
        exact ⟨h1, h2⟩
      refine wpAny_bind (wpAny_dictEntries hoa da ?_)
      rw [Array.getElem?_eq_getElem hlt]
      obtain ⟨kv, hkv⟩ : ∃ kv, va[x]? = some kv := ⟨va[x]'(by omega), List.getElem?_eq_getElem _⟩
      obtain ⟨k, u⟩ := kv
      obtain ⟨hkey, hval⟩ := ra.get? (e := ea[x]) (by simp [hlt]) hkv
      obtain ⟨k', hkey', hhash⟩ := ka ea[x] (Array.getElem_mem hlt)
      obtain rfl : k' = k := knd.inj _ _ _ hkey' hkey
      have mem : (k', u) ∈ va := List.mem_of_getElem? hkv
      have stop : (decide (k' ∈ vb.map (·.1)) && e k') = false → (va.all fun p => decide (p.1 ∈ vb.map (·.1)) && e p.1) = false := fun hf => by
        cases hc : va.all fun p => decide (p.1 ∈ vb.map (·.1)) && e p.1 with
        | false => rfl
        | true => rw [List.all_eq_true.mp hc _ mem] at hf; cases hf
      have up : (decide (k' ∈ vb.map (·.1)) && e k') = true → ∀ p ∈ va.take (x + 1), (decide (p.1 ∈ vb.map (·.1)) && e p.1) = true := fun ht p hp => by
        rw [List.take_succ, hkv] at hp
        rcases List.mem_append.mp hp with q | q
        · exact good p q
        · rw [List.mem_singleton.mp q]; exact ht
      refine wpAny_bind (wpAny_holding ?_)
      rw [hhash, hval]
      refine wpAny_bind (PySem.wpAny_dictFind_of hkey hob db kb ?_)
      cases hf : eb.findIdx? fun e => knd.is k' e.key with
      | none =>
        have nin : k' ∉ vb.map (·.1) := fun hm => by
          obtain ⟨p, hp, e1⟩ := List.mem_map.mp hm
          obtain ⟨j, hj, e2⟩ := List.getElem_of_mem hp
          have hjb : j < eb.size := by omega
          have q := rb.get? (i := j) (e := eb[j]) (k := p.1) (v := p.2) (by simp [hjb]) (by rw [List.getElem?_eq_getElem hj, e2])
          have z := Array.findIdx?_eq_none_iff.mp hf eb[j] (Array.getElem_mem hjb)
          rw [← e1, q.1] at z
          cases z
        refine wpAny_pure ?_
        rw [if_pos (by rfl)]
        rw [stop (by rw [decide_eq_false nin]; rfl)] at h
        exact wpAny_pure (wpAny_pure h)
      | some j =>
        obtain ⟨hjb, hj1, _⟩ := Array.findIdx?_eq_some_iff_getElem.mp hf
        refine wpAny_bind (wpAny_dictEntries hob db ?_)
        rw [Array.getElem?_eq_getElem hjb]
        have hjv : j < vb.length := by omega
        obtain ⟨g1, g2⟩ := rb.get? (i := j) (e := eb[j]) (k := vb[j].1) (v := vb[j].2) (by simp [hjb]) (List.getElem?_eq_getElem hjv)
        have ek : vb[j].1 = k' := knd.inj _ _ _ g1 hj1
        have memb : (k', vb[j].2) ∈ vb := by rw [← ek]; exact List.getElem_mem hjv
        refine wpAny_holding ?_
        rw [g2]
        refine heq k' u _ mem memb _ _ ?_
        have inb : decide (k' ∈ vb.map (·.1)) = true := decide_eq_true (List.mem_map.mpr ⟨_, memb, rfl⟩)
        cases he : e k' with
        | false =>
          rw [if_pos (by rfl)]
          refine wpAny_pure ?_
          rw [stop (by rw [he, Bool.and_false])] at h
          exact wpAny_pure h
        | true =>
          rw [if_neg (by decide)]
          refine wpAny_bind (wpAny_dictEpoch hoa da ?_)
          rw [if_neg (by simp)]
          exact wpAny_pure ⟨rfl, rfl, x + 1, hrest, hlt, up (by rw [inb, he]; rfl)⟩
    · rintro b s' ⟨rfl, rfl, i, hr, hi, good⟩
      have hin : i = ea.size := by
        rcases Nat.lt_or_ge i ea.size with h | h
        · have e : ea.size - i = (ea.size - (i + 1)) + 1 := by omega
          rw [e, List.range'_succ] at hr
          cases hr
        · omega
      subst hin
      rw [← la, List.take_length] at good
      rw [List.all_eq_true.mpr good] at h
      exact wpAny_pure h
  · rw [if_pos (by simp [hl])]
    rw [decide_eq_false (by omega), Bool.false_and] at h
    exact wpAny_bind (wpAny_rule (wpAny_pure h))
end L2

set_option Elab.async false
set_option linter.all false
set_option maxRecDepth 100000
namespace L2
open PySem PySem.Spec PyProof.Rows
theorem rc_dicts {K : Type} [DecidableEq K] {prog : Program} {w : World} {knd : PySem.KeyKind prog w K} {A : Around} {E : Value → Shared → Prop} {s : Shared} {a b : Addr} {va vb : List (K × Value)} {Q : Value → Shared → Prop} (e : K → Bool) (ha : s.heap.DictOf knd a va) (hb : s.heap.DictOf knd b vb)
    (na : (a == sysModules) = false) (nb : (b == sysModules) = false) (hu : A.units < cLine) (heq : ∀ k u v, (k, u) ∈ va → (k, v) ∈ vb → EqIn prog w A.in1 s u v (e k))
    (h : Q (.bool (decide (va.length = vb.length) && va.all fun p => decide (p.1 ∈ vb.map (·.1)) && e p.1)) s) : wpAny (model prog w) A (richCompare .Eq (.ref a) (.ref b)) Q E s := by
  have ta : s.TypeIs (.ref a) "dict" := let ⟨o, _, _, ho, hx, _⟩ := ha; ⟨o, ho, hx.1⟩
  have tb : s.TypeIs (.ref b) "dict" := let ⟨o, _, _, ho, hx, _⟩ := hb; ⟨o, ho, hx.1⟩
  refine wpAny_richCompare_same_room ta tb F.slot_dict_eq (wpAny_call_entry F.slot_dict_eq ta F.entry_dict_eq ?_ (F.args_dict_eq_2 _ _)) hu
  unfold Builtin.«dict.__eq__»
  wp_walk
  have f1 : isSubtype (.type "dict") (.type "dict") = pure true := by rw [isSubtype_type]; kernel_rfl
  refine wpAny_of_eq f1 ?_
  rw [if_neg (by decide)]
  refine wpAny_bind (wpAny_pure ?_)
  refine wpAny_bind (wpAny_pure ?_)
  refine wpAny_bind (same_pairs e ha hb na nb heq ?_)
  rw [beq_true]
  exact wpAny_pure ⟨_, rfl, (fun z => nomatch z), h⟩
theorem rcne_dicts {K : Type} [DecidableEq K] {prog : Program} {w : World} {knd : PySem.KeyKind prog w K} {A : Around} {E : Value → Shared → Prop} {s : Shared} {a b : Addr} {va vb : List (K × Value)} {Q : Value → Shared → Prop} (e : K → Bool) (ha : s.heap.DictOf knd a va) (hb : s.heap.DictOf knd b vb)
    (na : (a == sysModules) = false) (nb : (b == sysModules) = false) (hu : A.units < cLine) (heq : ∀ k u v, (k, u) ∈ va → (k, v) ∈ vb → EqIn prog w A.in1 s u v (e k))
    (h : Q (.bool (!(decide (va.length = vb.length) && va.all fun p => decide (p.1 ∈ vb.map (·.1)) && e p.1))) s) : wpAny (model prog w) A (richCompare .NotEq (.ref a) (.ref b)) Q E s := by
  have ta : s.TypeIs (.ref a) "dict" := let ⟨o, _, _, ho, hx, _⟩ := ha; ⟨o, ho, hx.1⟩
  have tb : s.TypeIs (.ref b) "dict" := let ⟨o, _, _, ho, hx, _⟩ := hb; ⟨o, ho, hx.1⟩
  refine wpAny_richCompare_same_room ta tb F.slot_dict_ne (wpAny_call_entry F.slot_dict_ne ta F.entry_dict_ne ?_ (F.args_dict_ne_2 _ _)) hu
  unfold Builtin.«dict.__ne__»
  wp_walk
  have f1 : isSubtype (.type "dict") (.type "dict") = pure true := by rw [isSubtype_type]; kernel_rfl
  refine wpAny_of_eq f1 ?_
  rw [if_neg (by decide)]
  refine wpAny_bind (wpAny_pure ?_)
  refine wpAny_bind (wpAny_pure ?_)
  refine wpAny_bind (same_pairs e ha hb na nb heq ?_)
  rw [beq_false]
  exact wpAny_pure ⟨_, rfl, (fun z => nomatch z), h⟩
end L2

set_option Elab.async false
set_option linter.all false
set_option maxRecDepth 100000
set_option maxHeartbeats 1000000
namespace L2
open PySem PySem.Spec PyProof.Rows
theorem compTurn_dict (key val target iter : Expr) (ifs : List Expr) (scope : Scope) (pos : Pos) (it : Value) (acc : Addr) (env : Env) :
    compTurn (.DictComp key val [⟨target, iter, ifs, 0⟩] scope pos) 0 it (.ref acc) env = (do
      standAt iter.pos
      match ← pyNext it with
      | none => pure (.done .next)
      | some v =>
        letOwnedTupleGo target it v
        assign target env v
        let mut ok := true
        for c in ifs do
          if ok then ok ← isTrue c env (eval c env)
        if ok then
          (do
            let kv ← eval key env
            let vv ← holding [kv] (eval val env)
            standAt { key.pos with endLine := val.pos.endLine, endCol := val.pos.endCol }
            holding [kv, vv] (dictSet acc kv vv))
        again (.compLoop (.DictComp key val [⟨target, iter, ifs, 0⟩] scope pos) 0 it (.ref acc) env)) := by rfl
theorem codeAny_compStart_dict {prog : Program} {w : World} {A : Around} {R : Result → Shared → Prop} {s : Shared} {key val target iter ifs rest scope pos it acc env}
    (h0 : codeAny (model prog w) A (.compLoop (.DictComp key val (⟨target, iter, ifs, 0⟩ :: rest) scope pos) 0 it acc env) R s)
    (h : wpAny (model prog w) A (pyIter it) (fun it' s' => codeAny (model prog w) A (.compLoop (.DictComp key val (⟨target, iter, ifs, 0⟩ :: rest) scope pos) 0 it' acc env) R s')
      (notedBy (model prog w) A env fun x s' => R (.error x) s') s) :
    codeAny (model prog w) A (.compStart (.DictComp key val (⟨target, iter, ifs, 0⟩ :: rest) scope pos) 0 it acc env) R s := by
  refine codeAny_of_tree ?_
  show wpAny _ _ ((compStart (.DictComp key val (⟨target, iter, ifs, 0⟩ :: rest) scope pos) 0 it acc env).onRaise (fun x => do noteFrame x env; standAt theWindowsPlace)) _ _ s
  refine wpAny_notedAt ?_
  unfold compStart
  show wpAny _ _ (ask >>= _) _ _ s
  refine wpAny_bind (wpAny_askSetting (wpAny_ite ?_))
  split
  · first
      | exact wpAny_bind (wpAny_pure (wpAny_pure (And.intro rfl h0)))
      | exact wpAny_pure (And.intro rfl h0)
  · first
      | exact wpAny_bind (wpAny_rule (wpAny_bind (wpAny_standAt (wpAny_bind (wpAny_mono h (fun it' s' h' => wpAny_pure (And.intro rfl h')) fun _ _ x => x)))))
      | (refine wpAny_bind (wpAny_rule ?_); show wpAny _ _ (standAt iter.pos >>= _) _ _ s; exact wpAny_bind (wpAny_standAt (wpAny_bind (wpAny_mono h (fun it' s' h' => wpAny_pure (And.intro rfl h')) fun _ _ x => x))))
theorem newDict_any {M : Model} {A : Around} {Q : Value → Shared → Prop} {E : Value → Shared → Prop} {s : Shared} (h : Q (.ref s.heap.objs.size) { s with heap := s.heap.push { cls := .type "dict", data := .dict #[] } }) : wpAny M A newDict Q E s := by
  unfold newDict
  first
    | exact wpAny_newObj_type h
    | (simp only [newObj]; exact wpAny_bind (wpAny_alloc (wpAny_pure h)))
    | exact wpAny_bind (wpAny_alloc (wpAny_pure h))
theorem dcompLoop_any {prog : Program} {w : World} {A : Around} {R : Result → Shared → Prop} {s : Shared} {key val target iter : Expr} {ifs : List Expr} {scope : Scope} {pos : Pos} {it : Value} {acc : Addr} {env : Env} (I : Nat → Shared → Prop)
    (turn : ∀ n s, I n s → wpAny (model prog w) A (pyNext it) (fun r s₁ => match r with
      | none => R (.ok .next) s₁
      | some v => wpAny (model prog w) A (letOwnedTupleGo target it v) (fun _ s₁' => wpAny (model prog w) A (assign target env v) (fun _ s₂ =>
          wpAny (model prog w) A (forIn ifs true fun c r => if r = true then do let ok ← isTrue c env (eval c env); pure (ForInStep.yield ok) else pure (ForInStep.yield r)) (fun ok s₃ =>
            if ok = true then wpAny (model prog w) A (eval key env) (fun x s₄ => wpAny (model prog w) A (eval val env) (fun y s₄' =>
              wpAny (model prog w) A (dictSet acc x y) (fun _ s₅ => ∃ m, m < n ∧ I m s₅) (notedBy (model prog w) A env fun e s' => R (.error e) s') s₄') (notedBy (model prog w) A env fun e s' => R (.error e) s') s₄) (notedBy (model prog w) A env fun e s' => R (.error e) s') s₃
            else ∃ m, m < n ∧ I m s₃) (notedBy (model prog w) A env fun e s' => R (.error e) s') s₂) (notedBy (model prog w) A env fun e s' => R (.error e) s') s₁') (notedBy (model prog w) A env fun e s' => R (.error e) s') s₁) (notedBy (model prog w) A env fun e s' => R (.error e) s') s)
    (n : Nat) (h : I n s) :
    codeAny (model prog w) A (.compLoop (.DictComp key val [⟨target, iter, ifs, 0⟩] scope pos) 0 it (.ref acc) env) R s := by
  refine codeAny_loop rfl I (fun n s hI => ?_) n h
  show wpAny _ A ((compTurn (.DictComp key val [⟨target, iter, ifs, 0⟩] scope pos) 0 it (.ref acc) env).onRaise (fun x => do noteFrame x env; theTreesLotGoes x)) _ _ s
  refine wpAny_noted ?_
  rw [compTurn_dict]
  refine wpAny_bind (wpAny_standAt (wpAny_bind (wpAny_mono (turn n s hI) (fun r s₁ h₁ => ?_) fun _ _ h' => h')))
  cases r with
  | none => exact wpAny_pure h₁
  | some v =>
    refine wpAny_bind (wpAny_mono h₁ (fun _ s₁' h₁' => ?_) fun _ _ h' => h')
    refine wpAny_bind (wpAny_mono h₁' (fun _ s₂ h₂ => wpAny_bind (wpAny_mono h₂ (fun ok s₃ h₃ => ?_) fun _ _ h' => h')) fun _ _ h' => h')
    cases ok with
    | false => exact wpAny_pure ⟨rfl, h₃⟩
    | true =>
      exact wpAny_bind (wpAny_bind (wpAny_mono h₃ (fun x s₄ h₄ => wpAny_bind (wpAny_holding (wpAny_mono h₄ (fun y s₄' h₄' => wpAny_bind (wpAny_standAt (wpAny_holding (wpAny_mono h₄' (fun _ s₅ h₅ => wpAny_pure ⟨rfl, h₅⟩) fun _ _ h' => h')))) fun _ _ h' => h'))) fun _ _ h' => h'))


section
variable {X : Cx} {pins : List (Addr × Obj)} {σ : St} {H : Hp} {s : Shared}
/-- a pair put into a dict, as a comprehension does it -/
theorem dset_ok {A : Around} {E : Value → Shared → Prop} {a : Addr} {kvs : List (Key × V)} {k : Key} {v : V} {u r : Value} {Q : Unit → Shared → Prop} (I : Inv X pins σ H s) (e : H a = some (.dK kvs)) (l : kvs.length < sizeLine) (ry : RelV (kV k) u) (rv : RelV v r) (h : ∀ s', Inv X pins σ (upd H a (.dK (putK kvs k v))) s' → Q () s') :
    wpAny (model X.prog X.w) A (dictSet a u r) Q E s := by
  obtain ⟨z, hd, vs, rel, dd⟩ := dk_of I.hok e
  have hz : vs.length ≤ sizeLine := by rw [← rel.length]; exact z
  have hl : (putK kvs k v).length ≤ sizeLine := by have := length_putK kvs k v; omega
  refine wpAny_dictSet_pairs (hsz := hz) (kV_is ry) dd fun h' dd' hs => h _ ?_
  have he : ∃ q, h'.get? a = some q := let ⟨q, _, _, hq, _⟩ := dd'; ⟨q, hq⟩
  exact d_write I (by rw [e]; exact True.intro) hs he (dk_new hl hd (rel.put k rv) dd')
/-- {key: val for target in iter if ..}: D the new dict -/
def tDc (wi : TI) (g : TG) (tt : TT) (te tv : TE) (vs : List Nat) : TE := fun σ H Q => wi σ H fun J H1 => ∀ D, H1 D = none → ∃ W : Nat → Nat → Hp → Prop, (∃ m, W 0 m (upd H1 D (.dK []))) ∧ ∀ i m H, W i m H →
  (J.stop i H ∧ Q (.ref D) H) ∨ (J.go i H ∧ ∃ Nx : Hp → Prop, (∀ H', Nx H' → ∃ m', m' < m ∧ W (i + 1) m' H') ∧ ∀ x H', J.yld i H x H' → g x (wipe σ vs) H' fun σ2 H2 => wipe σ2 vs = wipe σ vs ∧ tt σ2 H2 fun b H3 =>
    if b = true then te σ2 H3 fun y H4 => tv σ2 H4 fun z H5 => ∃ (kvs : List (Key × V)) (k : Key), y = kV k ∧ H5 D = some (.dK kvs) ∧ kvs.length < sizeLine ∧ Nx (upd H5 D (.dK (putK kvs k z))) else Nx H3)
theorem dc_core {pins : List (Addr × Obj)} {s : Shared} {σ : St} {H : Hp} {Q : VK} {key val tg iter : Expr} {ifs : List Expr} {scope : Scope} {own : List (Str × Nat)} {pos pos' : Pos} {wi : TI} {g : TG} {tt : TT} {te tv : TE} {use : Option (Value → Sem Unit)} {Qf : Value → Shared → Prop}
    (hc : X.calm = true) (hN : X.N.Nodup) (I : Inv X pins σ H s) (hi : PI X tg iter wi) (ok : BlkOk X.N X.env.scope scope own)
    (hg : ∀ (s : Shared) (H : Hp) (C : Addr) (cl : List (Str × Addr)) (fp : List Addr), PG (X.blk s H scope (compEnvC scope cl C X.env) fp) tg g) (ht : ∀ (s : Shared) (H : Hp) (C : Addr) (cl : List (Str × Addr)) (fp : List Addr), PTs (X.blk s H scope (compEnvC scope cl C X.env) fp) ifs tt)
    (he : ∀ (s : Shared) (H : Hp) (C : Addr) (cl : List (Str × Addr)) (fp : List Addr), PE (X.blk s H scope (compEnvC scope cl C X.env) fp) key te) (hv : ∀ (s : Shared) (H : Hp) (C : Addr) (cl : List (Str × Addr)) (fp : List Addr), PE (X.blk s H scope (compEnvC scope cl C X.env) fp) val tv) (hs : ∀ x, foldedSetIterable iter X.env x = pure x)
    (h : tDc wi g tt te tv (own.map (·.2)) σ H Q)
    (hRR : ∀ D C s' m H', Inv X pins σ H' s' → Q (.ref D) H' → s'.heap.Ns C m → FpOk X pins H' C → compPost (model X.prog X.w) X.A X.xe use Qf (.ref D) C (.ok .next) s') :
    wpAny (model X.prog X.w) X.A (comprehension (.DictComp key val [⟨tg, iter, ifs, 0⟩] scope pos) scope X.env pos' newDict false (eval iter X.env) use) Qf X.xe s := by
  have hfree : ∀ y ∈ scope.names, y.2 = .free → ∃ c, X.env.cells.lookup y.1 = some c := fun y hy e => by
    rcases ok.free y hy e with k | k
    · exact I.ok.has _ (.inl k)
    · exact I.ok.has _ (.inr k)
  refine wpAny_comprehension_free (use := use) rfl hs (closure_ok hfree) ok.kind (fun y hy e => by rw [ok.uniq y hy, e])
    (thn (hi pins s σ H _ I h) fun xv s1 hx => thn hx fun itv s2 h2 => ?_)
  obtain ⟨it, fp, tn, J, H2, e, I2, T, st2, f2, q⟩ := h2
  subst e
  refine newDict_any (newEnv_comp ?_)
  generalize hD : s2.heap.objs.size = D
  have hDn : H2 D = none := I2.hok.fresh (Nat.le_of_eq hD)
  obtain ⟨W, ⟨m0, w0⟩, turn⟩ := q D hDn
  -- the new list
  generalize hs3 : ({ s2 with heap := s2.heap.push { cls := .type "dict", data := .dict #[] } } : Shared) = s3
  have I3 : Inv X pins σ (upd H2 D (.dK [])) s3 := by
    rw [← hs3]
    refine I2.laid (t' := s2.toks) (fun b o e => Heap.get?_push_of_some _ e) (Nat.le_of_eq hD) ?_
    rw [← hD]
    exact dk_empty s2.heap I2.big
  have h3 : s3.heap = s2.heap.push { cls := .type "dict", data := .dict #[] } := by rw [← hs3]
  have sz : ∀ b ∈ fp, b < s2.heap.objs.size := fun b hb => by
    obtain ⟨o, e, _⟩ := T.obj _ _ st2 b hb
    exact Heap.lt_size e
  have f3 : ∀ b ∈ fp, FpOk X pins (upd H2 D (.dK [])) b ∧ b < s3.heap.objs.size := fun b hb => by
    have hlt := sz b hb
    refine ⟨⟨?_, (f2 b hb).2⟩, by rw [h3, Heap.size_push]; exact Nat.lt_succ_of_lt hlt⟩
    rw [upd_ne (by rw [← hD]; exact Nat.ne_of_lt hlt)]
    exact (f2 b hb).1
  have st3 : tn 0 s3.heap := T.keep _ _ _ st2 fun b _ o e => by rw [h3]; exact Heap.get?_push_of_some _ e
  have I4 := block_start I3 ok hN f3
  have pg := hg s3 (upd H2 D (.dK [])) s3.heap.objs.size (cellsFrom (s3.heap.objs.size + 1) scope.names (cloFrom X.env.cells scope.names [])) fp
  have pt := ht s3 (upd H2 D (.dK [])) s3.heap.objs.size (cellsFrom (s3.heap.objs.size + 1) scope.names (cloFrom X.env.cells scope.names [])) fp
  have pv' := hv s3 (upd H2 D (.dK [])) s3.heap.objs.size (cellsFrom (s3.heap.objs.size + 1) scope.names (cloFrom X.env.cells scope.names [])) fp
  have pe := he s3 (upd H2 D (.dK [])) s3.heap.objs.size (cellsFrom (s3.heap.objs.size + 1) scope.names (cloFrom X.env.cells scope.names [])) fp
  show codeAny _ _ (.compStart (.DictComp key val [⟨tg, iter, ifs, 0⟩] scope pos) 0 (.ref it) (.ref D) (compEnvC scope (cellsFrom (s3.heap.objs.size + 1) scope.names (cloFrom X.env.cells scope.names [])) s3.heap.objs.size X.env)) (compPost (model X.prog X.w) X.A X.xe use Qf (.ref D) s3.heap.objs.size) { s3 with heap := pushCells (s3.heap.push { cls := .type "dict", data := .dict #[] }) scope.names }
  have nfp : ∀ b ∈ fp, (upd H2 D (.dK [])) b = none := fun b hb => (f3 b hb).1.1
  generalize hce : compEnvC scope (cellsFrom (s3.heap.objs.size + 1) scope.names (cloFrom X.env.cells scope.names [])) s3.heap.objs.size X.env = ce at I4 pg pt pe pv' ⊢
  have cL : ce.locals = s3.heap.objs.size := by subst hce; rfl
  generalize hH3 : upd H2 D (.dK []) = H3 at I3 I4 pg pt pe pv' w0 nfp f3
  generalize hs4 : ({ s3 with heap := pushCells (s3.heap.push { cls := .type "dict", data := .dict #[] }) scope.names } : Shared) = s4 at I4 ⊢
  have st4 : tn 0 s4.heap := T.keep _ _ _ st3 fun b _ o e => by rw [← hs4]; exact pushCells_keeps _ _ _ _ (Heap.get?_push_of_some _ e)
  have stat : ∀ {σ' : St} {H' : Hp} {s' : Shared}, Inv (X.blk s3 H3 scope ce fp) [] σ' H' s' → (∀ b ∈ fp, H' b = none) → ∀ b ∈ fp, FpOk (X.blk s3 H3 scope ce fp) [] H' b := fun {σ' H' s'} I' hn b hb =>
    ⟨hn b hb, (I'.ok.exf b hb).1, I'.ok.exfs b hb, .inl hb, fun x c e => (I'.ok.exf b hb).2 x c e, fun p hp => absurd (show p ∈ ([] : List (Addr × Obj)) ++ [] from hp) (by simp)⟩
  have loop : codeAny (model X.prog X.w) X.A (.compLoop (.DictComp key val [⟨tg, iter, ifs, 0⟩] scope pos) 0 (.ref it) (.ref D) ce) (compPost (model X.prog X.w) X.A X.xe use Qf (.ref D) s3.heap.objs.size) s4 := by
    refine dcompLoop_any (fun n s' => ∃ i H', Inv (X.blk s3 H3 scope ce fp) [] (wipe σ (own.map (·.2))) H' s' ∧ tn i s'.heap ∧ (∀ b ∈ fp, H' b = none) ∧ W i n H') ?_ m0 ⟨0, H3, I4, st4, nfp, w0⟩
    rintro n s5 ⟨i, H5, I5, st5, n5, w5⟩
    rcases turn i n H5 w5 with ⟨stop, qq⟩ | ⟨go, Nx, hNx, step⟩
    · have td := T.done (X.blk s3 H3 scope ce fp) rfl rfl rfl hc i [] s5 _ H5 (fun _ _ => False) I5 (stat I5 n5) st5 stop
      refine thnF td fun r s6 ⟨hr, I6⟩ => ?_
      subst hr
      -- back in the def's context
      have I7 : Inv X pins σ H5 s6 := I3.call' (ch := fp) I6.os I6.base I6.hok I6.bare fun b hb => ⟨(f3 b hb).1.2.2.2.1, (f3 b hb).1.2.1, (f3 b hb).1.2.2.2.2.1, (f3 b hb).1.2.2.2.2.2⟩
      have nC : H5 s3.heap.objs.size = none := by
        have z : H5 ce.locals = none := I6.free
        rw [cL] at z
        exact z
      obtain ⟨m, hn, _⟩ := I6.loc
      have hn : s6.heap.Ns ce.locals m := hn
      rw [cL] at hn
      exact hRR D s3.heap.objs.size s6 m H5 I7 qq hn (I3.fpOk (Nat.le_refl _) nC)
    · have ti := T.item (X.blk s3 H3 scope ce fp) rfl rfl rfl hc i [] s5 _ H5 (fun _ _ => False) I5 (stat I5 n5) st5 go
      refine thnF ti fun r s6 ⟨u, hr, h6⟩ => ?_
      subst hr
      refine thnF h6 fun _ s7 ⟨x, H7, I7, r7, y7, st7, n7⟩ => ?_
      have I7' := I7.pinned (stat I7 n7) (T.obj _ _ st7)
      refine thnF (pg _ s7 _ H7 x u _ I7' r7 (step x H7 y7)) fun _ s8 ⟨σ8, H8, I8, hw8, q8⟩ => ?_
      refine thnF (pt _ s8 σ8 H8 _ I8 q8) fun b s9 ⟨H9, I9, q9⟩ => ?_
      -- the turn's end
      have fin : ∀ {s' : Shared} {H' : Hp}, Inv (X.blk s3 H3 scope ce fp) ([] ++ pinsAt fp s7.heap) σ8 H' s' → Nx H' → ∃ m, m < n ∧ ∃ i H', Inv (X.blk s3 H3 scope ce fp) [] (wipe σ (own.map (·.2))) H' s' ∧ tn i s'.heap ∧ (∀ b ∈ fp, H' b = none) ∧ W i m H' := fun {s' H'} I' nx => by
        obtain ⟨m', hm, w'⟩ := hNx H' nx
        have pin' : ∀ b ∈ fp, ∀ o, s7.heap.get? b = some o → s'.heap.get? b = some o ∧ H' b = none := fun b hb o e =>
          let z := I'.pin (b, o) (List.mem_append_right _ (List.mem_append_right _ (mem_pinsAt hb e)))
          ⟨z.1, z.2.1⟩
        have hl : (wipe σ (own.map (·.2))).length = σ8.length := by rw [← hw8, wipe_length]
        refine ⟨m', hm, i + 1, H', (I'.unpinned (pins := [])).weak hl (fun j v e => ?_), T.keep _ _ _ st7 fun b hb o e => (pin' b hb o e).1, fun b hb => ?_, w'⟩
        · rw [← hw8] at e
          exact (wipe_some e).1
        · obtain ⟨o, e, _⟩ := T.obj _ _ st7 b hb
          exact (pin' b hb o e).2
      cases b with
      | false =>
        simp only [Bool.false_eq_true, if_false] at q9 ⊢
        exact fin I9 q9
      | true =>
        simp only [if_true] at q9 ⊢
        refine thnF (pe _ s9 σ8 H9 _ I9 q9) fun z s10 ⟨yv, H10, I10, r10, q10⟩ => ?_
        refine thnF (pv' _ s10 σ8 H10 _ I10 q10) fun z2 s11 ⟨wv, H11, I11, r11, kvs, k, ey, e11, l11, nx⟩ => ?_
        subst ey
        exact dset_ok (X := X.blk s3 H3 scope ce fp) I11 e11 l11 r10 r11 fun s12 I12 => fin I12 nx
  exact codeAny_compStart_dict loop (T.self X.A 0 _ _ _ st4 loop)

theorem pe_dc {key val tg iter : Expr} {ifs : List Expr} {scope : Scope} {own : List (Str × Nat)} {pos : Pos} {wi : TI} {g : TG} {tt : TT} {te tv : TE} (hc : X.calm = true) (hN : X.N.Nodup) (hi : PI X tg iter wi) (ok : BlkOk X.N X.env.scope scope own)
    (hg : ∀ (s : Shared) (H : Hp) (C : Addr) (cl : List (Str × Addr)) (fp : List Addr), PG (X.blk s H scope (compEnvC scope cl C X.env) fp) tg g) (ht : ∀ (s : Shared) (H : Hp) (C : Addr) (cl : List (Str × Addr)) (fp : List Addr), PTs (X.blk s H scope (compEnvC scope cl C X.env) fp) ifs tt)
    (he : ∀ (s : Shared) (H : Hp) (C : Addr) (cl : List (Str × Addr)) (fp : List Addr), PE (X.blk s H scope (compEnvC scope cl C X.env) fp) key te) (hv : ∀ (s : Shared) (H : Hp) (C : Addr) (cl : List (Str × Addr)) (fp : List Addr), PE (X.blk s H scope (compEnvC scope cl C X.env) fp) val tv) (hs : ∀ x, foldedSetIterable iter X.env x = pure x := by intro _; rfl) :
    PE X (.DictComp key val [⟨tg, iter, ifs, 0⟩] scope pos) (tDc wi g tt te tv (own.map (·.2))) := by
  intro pins s σ H Q I h
  rw [arm_eval_DictComp]
  refine dc_core hc hN I hi ok hg ht he hv hs h fun D C s' m H' I' q hn f => ⟨m, hn, fun h'' sb => ?_⟩
  obtain ⟨f0, f1, f2, f3, f4, f5⟩ := f
  exact ⟨.ref D, H', I'.turned (t' := s'.toks) (fun b o hb e => (sb.2 b hb).trans e) f0 f1 f3 f4 f5, rfl, q⟩
end
end L2

set_option Elab.async false
set_option linter.all false
set_option maxRecDepth 100000
set_option maxHeartbeats 1000000
namespace L2
open PySem PySem.Spec PySem.Calls PyProof.Rows
/-- the keys of a dict as they come -/
theorem vals_keys : ∀ {kvs : List (Key × V)} {xs : List (Key × Value)} {l : List Value}, KV kvs xs → l.length = xs.length → (∀ (j : Nat) (v : Value), l[j]? = some v → ∃ (k : Key) (x : Value), xs[j]? = some (k, x) ∧ keyIs k v = true) → Vals (kvs.map fun kv => kV kv.1) l
  | _, _, [], .nil, _, _ => .nil
  | _, _, _ :: _, .nil, h, _ => by simp at h
  | _, _, [], .cons _ _, h, _ => by simp at h
  | p :: _, q :: _, a :: r, .cons e t, hl, h => by
    refine .cons ?_ (vals_keys (l := r) t (by simpa using hl) fun j v e => h (j + 1) v (by simpa using e))
    obtain ⟨k, x, e1, e2⟩ := h 0 a rfl
    have e1' : q = (k, x) := by simpa using e1
    have ek : p.1 = k := e.1.trans (by rw [e1'])
    show RelV (kV p.1) a
    rw [ek]
    rcases keyIs_shape e2 with ⟨i, t, rfl, rfl⟩ | ⟨x, t, rfl, rfl⟩
    · exact ⟨t, rfl⟩
    · exact ⟨t, rfl⟩
section
variable {X : Cx}
/-- a dict's keys, brought into a list -/
theorem d_collect {pins : List (Addr × Obj)} {s : Shared} {σ : St} {H : Hp} {a : Addr} {kvs : List (Key × V)} {E : Value → Shared → Prop} {R : List Value → Shared → Prop} (hc : X.calm = true) (I : Inv X pins σ H s) (ha : Rd H a (.dK kvs))
    (h : ∀ (h' : Heap) (tk : Nat) (l : List Value), (∀ b o, s.heap.get? b = some o → h'.get? b = some o) → Vals (kvs.map fun kv => kV kv.1) l → R l { s with heap := h', toks := tk }) :
    wpAny (model X.prog X.w) X.A.in1 (collect (.ref a)) R E s := by
  obtain ⟨z, hd, xs, rel, o, es, ep, d1, d2, d3, d4⟩ := dk_rd I.hok ha
  have hl : kvs.length = xs.length := Paired.length rel
  refine PySem.W.kdu_collect (PySem.W.kdl_dict (knd := mixKind X.prog X.w) (kvs := xs) (ep := ep) hd) (I.ok.hd hc) ⟨o, es, d1, d2, d3, d4⟩ (by rw [← hl]; exact z) fun h' tk acc hk hacc => ?_
  exact h h' tk acc.toList hk (vals_keys rel (by rw [Array.length_toList]; exact hacc.1) fun j v e => hacc.2 j v (by rw [← Array.getElem?_toList]; exact e))
end
end L2

set_option Elab.async false
set_option linter.all false
set_option maxRecDepth 100000
set_option maxHeartbeats 1000000
namespace L2
open PySem PySem.Spec PySem.Calls PyProof.Rows
section
variable {X : Cx}
/-- d.setdefault(k, v) -/
def rSetDef : V → List V → Hp → VK → Prop := fun x vs H Q => ∃ (a : Addr) (kvs : List (Key × V)) (k : Key) (v : V), x = .ref a ∧ vs = [kV k, v] ∧ H a = some (.dK kvs) ∧ kvs.length < sizeLine ∧ (∀ y, valV kvs k = some y → Q y H) ∧ (valV kvs k = none → Q v (upd H a (.dK (putK kvs k v))))
theorem mt_setdefault : MtM X "dict.setdefault" rSetDef := by
  intro pins s σ H x vs v us Q I rx rv h
  obtain ⟨a, kvs, k, y, rfl, rfl, ha, hz, q1, q2⟩ := h
  cases rx
  cases rv with
  | cons r1 rv => ?_
  cases rv with
  | cons r2 rv => ?_
  cases rv
  rename_i u1 u2
  obtain ⟨z, hd, xs, rel, dd⟩ := dk_of I.hok ha
  have hl : kvs.length = xs.length := Paired.length rel
  have val := rel.val k
  refine call_meetsIn F.slot_dict_setdefault dd.typeIs F.entry_dict_setdefault (F.args_dict_setdefault_3 _ _ _) (kt_meets_setdefault (mixKind X.prog X.w) a (kV_is r1) hd _) ⟨xs, dd, by omega, fun w' e => ?_, fun e h' d2 sb => ?_⟩
  · rw [e] at val
    cases e2 : valV kvs k with
    | none => rw [e2] at val; exact absurd val (by first | exact id | simp [RelO])
    | some y' =>
      rw [e2] at val
      exact ⟨y', H, I.kept (t' := s.toks + 1) fun b o e => e, val, q1 y' e2⟩
  · rw [e] at val
    cases e2 : valV kvs k with
    | some y' => rw [e2] at val; exact absurd val (by first | exact id | simp [RelO])
    | none =>
      have hl' : (putK kvs k y).length ≤ sizeLine := by have := length_putK kvs k y; omega
      have he : ∃ q, h'.get? a = some q := let ⟨q, _, _, hq, _⟩ := d2; ⟨q, hq⟩
      exact ⟨y, _, d_write I (by rw [ha]; exact True.intro) sb he (dk_new hl' hd (rel.put k r2) d2), r2, q2 e2⟩
end
end L2

set_option Elab.async false
set_option linter.all false
set_option maxRecDepth 100000
namespace L2
open PySem PySem.Spec PyProof.Rows
section
variable {X : Cx} {k : Nat} {sp : Sp} {C : Addr} {ps : List Str}
end
end L2

set_option Elab.async false
set_option linter.all false
set_option maxRecDepth 100000
namespace L2
open PySem PySem.Spec PyProof.Rows
open PySem.AutoSeq1 (wpAny_loadPart')
open PySem.MeetsSeq PySem.MeetsSeq2 PySem.MeetsSeq3
/-! ### == and != of two tuples whose items are asked in this world alone -/
section
variable {prog : Program} {w : World} {A : Around} {s : Shared} {l b : Addr} {its jts : List Value} {e : Nat → Bool}
theorem pair_at {i : Nat} {y x : Value} {rest : List (Value × Value)} (h : (its.zip jts).drop i = (y, x) :: rest) : its[i]? = some y ∧ jts[i]? = some x ∧ rest = (its.zip jts).drop (i + 1) := by
  have h0 : (its.zip jts)[i]? = some (y, x) := by
    have := congrArg List.head? h
    rwa [List.head?_drop] at this
  rw [List.getElem?_zip_eq_some] at h0
  refine ⟨h0.1, h0.2, ?_⟩
  have := congrArg List.tail h
  rw [List.tail_drop] at this
  exact this.symm
theorem pair_end {i : Nat} (h : (its.zip jts).drop i = []) : min its.length jts.length ≤ i := by
  have := congrArg List.length h
  rw [List.length_drop, List.length_zip, List.length_nil] at this
  omega
def allTo (e : Nat → Bool) (n : Nat) : Bool := (List.range n).all e
theorem allTo_false {n i : Nat} (h : i < n) (q : e i = false) : allTo e n = false := by
  unfold allTo
  rw [List.all_eq_false]
  exact ⟨i, List.mem_range.mpr h, by rw [q]; decide⟩
theorem allTo_true {n : Nat} (h : ∀ j, j < n → e j = true) : allTo e n = true := List.all_eq_true.mpr fun j hj => h j (List.mem_range.mp hj)
theorem tupEqIn {R : Result → Shared → Prop} (hl : IsTup s.heap l its.toArray) (hb : IsTup s.heap b jts.toArray) (he : ∀ (j : Nat) (y x : Value), its[j]? = some y → jts[j]? = some x → EqIn prog w A.in1 s y x (e j))
    (h : R (.ok (.ret (.bool (allTo e (min its.length jts.length) && its.length == jts.length)))) s) :
    wpAny (model prog w) A.in1 (Builtin.«tuple.__eq__» ⟨[.ref l, .ref b], []⟩) (fun fin s' => ∃ v, fin = .done (.ret v) ∧ R (.ok (.ret v)) s') (fun e s' => R (.error e) s') s := by
  obtain ⟨⟨c1, d1, t1, l1⟩, o1, rfl, n1, rfl⟩ := id hl
  obtain ⟨⟨c2, d2, t2, l2⟩, o2, rfl, n2, rfl⟩ := id hb
  obtain ⟨hp, g, d, tk, os⟩ := s
  have f2 := AutoSeq1.sub_tuple_tuple
  wp_walk using wpAny_loadPart' o1, wpAny_loadPart' o2, wpAny_forIn_list _ (fun rest b s' => (b.1 = none ∧ s' = ⟨hp, g, d, tk, os⟩) ∧ ∃ i, (its.zip jts).drop i = rest ∧ ∀ j, j < i → j < min its.length jts.length → e j = true) _
  case turn =>
    rintro ⟨y, x⟩ rest b s' ⟨⟨hb', rfl⟩, i, hz, good⟩
    obtain ⟨hy, hx, hrest⟩ := pair_at hz
    have i1 := (List.getElem?_eq_some_iff.mp hy).1
    have i2 := (List.getElem?_eq_some_iff.mp hx).1
    refine wpAny_bind (he i y x hy hx _ _ ?_)
    cases q : e i with
    | true =>
      wp_walk
      refine ⟨⟨rfl, rfl⟩, i + 1, hrest.symm, fun j hj hm => ?_⟩
      rcases Nat.lt_succ_iff_lt_or_eq.mp hj with h' | rfl
      · exact good j h' hm
      · exact q
    | false =>
      rw [allTo_false (n := min its.length jts.length) (by omega) q, Bool.false_and] at h
      wp_walk
      exact ⟨_, rfl, h⟩
  case fin =>
    rintro ⟨b1, b2⟩ s' ⟨⟨hb', rfl⟩, i, hz, good⟩
    simp only at hb'
    subst hb'
    have hge := pair_end hz
    rw [allTo_true (fun j hj => good j (by omega) hj), Bool.true_and] at h
    wp_walk
    exact ⟨_, rfl, by simpa [Builtin.Tuple.tupleCompareSizes] using h⟩
  case h =>
    exact ⟨⟨rfl, rfl⟩, 0, by simp, fun j hj => absurd hj (Nat.not_lt_zero j)⟩
theorem tupNeIn {R : Result → Shared → Prop} (hl : IsTup s.heap l its.toArray) (hb : IsTup s.heap b jts.toArray) (he : ∀ (j : Nat) (y x : Value), its[j]? = some y → jts[j]? = some x → EqIn prog w A.in1 s y x (e j))
    (h : R (.ok (.ret (.bool (!(allTo e (min its.length jts.length) && its.length == jts.length))))) s) :
    wpAny (model prog w) A.in1 (Builtin.«tuple.__ne__» ⟨[.ref l, .ref b], []⟩) (fun fin s' => ∃ v, fin = .done (.ret v) ∧ R (.ok (.ret v)) s') (fun e s' => R (.error e) s') s := by
  obtain ⟨⟨c1, d1, t1, l1⟩, o1, rfl, n1, rfl⟩ := id hl
  obtain ⟨⟨c2, d2, t2, l2⟩, o2, rfl, n2, rfl⟩ := id hb
  obtain ⟨hp, g, d, tk, os⟩ := s
  have f2 := AutoSeq1.sub_tuple_tuple
  wp_walk using wpAny_loadPart' o1, wpAny_loadPart' o2, wpAny_forIn_list _ (fun rest b s' => (b.1 = none ∧ s' = ⟨hp, g, d, tk, os⟩) ∧ ∃ i, (its.zip jts).drop i = rest ∧ ∀ j, j < i → j < min its.length jts.length → e j = true) _
  case turn =>
    rintro ⟨y, x⟩ rest b s' ⟨⟨hb', rfl⟩, i, hz, good⟩
    obtain ⟨hy, hx, hrest⟩ := pair_at hz
    have i1 := (List.getElem?_eq_some_iff.mp hy).1
    have i2 := (List.getElem?_eq_some_iff.mp hx).1
    refine wpAny_bind (he i y x hy hx _ _ ?_)
    cases q : e i with
    | true =>
      wp_walk
      refine ⟨⟨rfl, rfl⟩, i + 1, hrest.symm, fun j hj hm => ?_⟩
      rcases Nat.lt_succ_iff_lt_or_eq.mp hj with h' | rfl
      · exact good j h' hm
      · exact q
    | false =>
      rw [allTo_false (n := min its.length jts.length) (by omega) q, Bool.false_and] at h
      wp_walk
      exact ⟨_, rfl, h⟩
  case fin =>
    rintro ⟨b1, b2⟩ s' ⟨⟨hb', rfl⟩, i, hz, good⟩
    simp only at hb'
    subst hb'
    have hge := pair_end hz
    rw [allTo_true (fun j hj => good j (by omega) hj), Bool.true_and] at h
    wp_walk
    exact ⟨_, rfl, by simpa [Builtin.Tuple.tupleCompareSizes, bne] using h⟩
  case h =>
    exact ⟨⟨rfl, rfl⟩, 0, by simp, fun j hj => absurd hj (Nat.not_lt_zero j)⟩
def RcIn (prog : Program) (w : World) (op : CmpOp) (A : Around) (s : Shared) (u v : Value) (b : Bool) : Prop := ∀ (E : Value → Shared → Prop) (Q : Value → Shared → Prop), Q (.bool b) s → wpAny (model prog w) A (richCompare op u v) Q E s
theorem RcIn.tupEq (hl : IsTup s.heap l its.toArray) (hb : IsTup s.heap b jts.toArray) (hu : A.units < cLine) (he : ∀ (j : Nat) (y x : Value), its[j]? = some y → jts[j]? = some x → EqIn prog w A.in1 s y x (e j)) :
    RcIn prog w .Eq A s (.ref l) (.ref b) (allTo e (min its.length jts.length) && its.length == jts.length) := fun E Q h => by
  have t1 : s.TypeIs (.ref l) "tuple" := let ⟨o, ho, hc, _⟩ := hl; ⟨o, ho, hc⟩
  have t2 : s.TypeIs (.ref b) "tuple" := let ⟨o, ho, hc, _⟩ := hb; ⟨o, ho, hc⟩
  refine wpAny_richCompare_same_room t1 t2 F.slot_tuple_eq (call_meetsIn (S := fun A' R s' => A' = A ∧ s' = s ∧ R (.ok (.ret (.bool (allTo e (min its.length jts.length) && its.length == jts.length)))) s) F.slot_tuple_eq t1 F.entry_tuple_eq (F.args_tuple_eq_2 _ _) ?_ ⟨rfl, rfl, show (_ : Value) ≠ _ ∧ _ from ⟨(fun z => nomatch z), h⟩⟩) hu
  refine MeetsIn.of_wp ?_
  rintro A' R s' ⟨rfl, rfl, hR⟩
  exact tupEqIn hl hb he hR
theorem RcIn.tupNe (hl : IsTup s.heap l its.toArray) (hb : IsTup s.heap b jts.toArray) (hu : A.units < cLine) (he : ∀ (j : Nat) (y x : Value), its[j]? = some y → jts[j]? = some x → EqIn prog w A.in1 s y x (e j)) :
    RcIn prog w .NotEq A s (.ref l) (.ref b) (!(allTo e (min its.length jts.length) && its.length == jts.length)) := fun E Q h => by
  have t1 : s.TypeIs (.ref l) "tuple" := let ⟨o, ho, hc, _⟩ := hl; ⟨o, ho, hc⟩
  have t2 : s.TypeIs (.ref b) "tuple" := let ⟨o, ho, hc, _⟩ := hb; ⟨o, ho, hc⟩
  refine wpAny_richCompare_same_room t1 t2 F.slot_tuple_ne (call_meetsIn (S := fun A' R s' => A' = A ∧ s' = s ∧ R (.ok (.ret (.bool (!(allTo e (min its.length jts.length) && its.length == jts.length))))) s) F.slot_tuple_ne t1 F.entry_tuple_ne (F.args_tuple_ne_2 _ _) ?_ ⟨rfl, rfl, show (_ : Value) ≠ _ ∧ _ from ⟨(fun z => nomatch z), h⟩⟩) hu
  refine MeetsIn.of_wp ?_
  rintro A' R s' ⟨rfl, rfl, hR⟩
  exact tupNeIn hl hb he hR
end
end L2

set_option Elab.async false
set_option linter.all false
set_option maxRecDepth 100000
namespace L2
open PySem PySem.Spec PyProof.Rows
def memK {κ : Type} [DecidableEq κ] (k : κ) (l : List κ) : Bool := decide (k ∈ l)
theorem memK_iff {κ : Type} [DecidableEq κ] {k : κ} {l : List κ} : memK k l = true ↔ k ∈ l := by unfold memK; exact decide_eq_true_iff
/-- == of things at two places: flat ones, tuples, lists, dicts of such; n: how deep, c: what it tells -/
inductive Eqd (K : PySem.W.Frag) (H : Hp) : Nat → V → V → Bool → Prop
  | flat {n : Nat} {x y : V} {c : Bool} : flatV x = true → flatV y = true → c = eqV x y → Eqd K H n x y c
  | tup {n : Nat} {a b : Addr} {xs ys : List V} {e : Nat → Bool} {c : Bool} : SqT K H a xs → SqT K H b ys → (∀ (i : Nat) (x y : V), xs[i]? = some x → ys[i]? = some y → Eqd K H n x y (e i)) →
      c = (allTo e (min xs.length ys.length) && xs.length == ys.length) → Eqd K H (n + 1) (.ref a) (.ref b) c
  | dct {n : Nat} {a b : Addr} {kvs lvs : List (Key × V)} {e : Key → Bool} {c : Bool} : Rd H a (.dK kvs) → Rd H b (.dK lvs) → (∀ (k : Key) (u v : V), (k, u) ∈ kvs → (k, v) ∈ lvs → Eqd K H n u v (e k)) →
      c = (decide (kvs.length = lvs.length) && kvs.all fun p => memK p.1 (lvs.map Prod.fst) && e p.1) → Eqd K H (n + 1) (.ref a) (.ref b) c
theorem eqV_refl {x : V} (h : flatV x = true) : eqV x x = true := by cases x <;> simp_all [eqV, flatV]
theorem Rd.inj {H : Hp} {a : Addr} {u v : HO} (h : Rd H a u) (h' : Rd H a v) (hu : ∀ o w, u ≠ .frz o w) (hv : ∀ o w, v ≠ .frz o w) : u = v := by
  rcases h with h | ⟨o, h⟩ <;> rcases h' with h' | ⟨o', h'⟩ <;> rw [h] at h' <;> injection h' with e
  · exact absurd e (hu _ _)
  · exact absurd e.symm (hv _ _)
  · injection e
section
variable {X : Cx} {pins : List (Addr × Obj)} {σ : St} {H : Hp} {s : Shared}
theorem Eqd.refl_true (I : Inv X pins σ H s) {n : Nat} {x y : V} {c : Bool} (h : Eqd X.K H n x y c) : x = y → c = true := by
  induction h with
  | flat fx fy hc => rintro rfl; rw [hc]; exact eqV_refl fx
  | @tup n a b xs ys e c h1 h2 _ hc ih =>
    intro q
    cases q
    obtain rfl := I.tuple_inj h1 h2
    rw [hc, Bool.and_eq_true]
    refine ⟨allTo_true fun i hi => ?_, beq_self_eq_true _⟩
    have hi' : i < xs.length := by omega
    exact ih i _ _ (List.getElem?_eq_getElem hi') (List.getElem?_eq_getElem hi') rfl
  | @dct n a b kvs lvs e c h1 h2 _ hc ih =>
    intro q
    cases q
    have := Rd.inj h1 h2 (fun _ _ z => nomatch z) (fun _ _ z => nomatch z)
    injection this with e1
    subst e1
    rw [hc, decide_eq_true rfl, Bool.true_and, List.all_eq_true]
    rintro ⟨k, u⟩ hp
    rw [Bool.and_eq_true]
    exact ⟨memK_iff.mpr (List.mem_map.mpr ⟨_, hp, rfl⟩), ih k u u hp hp rfl⟩
theorem kv_mem {kvs : List (Key × V)} {vs : List (Key × Value)} (r : KV kvs vs) {k : Key} {u : Value} (h : (k, u) ∈ vs) : ∃ x, (k, x) ∈ kvs ∧ RelV x u := by
  induction r with
  | nil => cases h
  | @cons p q _ _ hr t ih =>
    rcases List.mem_cons.mp h with e | e
    · obtain ⟨h1, h2⟩ := hr
      refine ⟨p.2, List.mem_cons.mpr (.inl ?_), by rw [← e] at h2; exact h2⟩
      rw [← e] at h1
      exact Prod.ext h1.symm rfl
    · obtain ⟨x, hx, rx⟩ := ih e
      exact ⟨x, List.mem_cons_of_mem _ hx, rx⟩
theorem all_keys {kvs lvs : List (Key × V)} {va vb : List (Key × Value)} (r : KV kvs va) (r' : KV lvs vb) (e : Key → Bool) :
    (decide (va.length = vb.length) && va.all fun p => memK p.1 (vb.map Prod.fst) && e p.1) = (decide (kvs.length = lvs.length) && kvs.all fun p => memK p.1 (lvs.map Prod.fst) && e p.1) := by
  have h1 : kvs.map Prod.fst = va.map Prod.fst := r.keys
  have h2 : lvs.map Prod.fst = vb.map Prod.fst := r'.keys
  have q : ∀ {α : Type} (l : List (Key × α)) (f : Key → Bool), (l.all fun p => f p.1) = (l.map Prod.fst).all f := by
    intro α l f; rw [List.all_map]; rfl
  rw [q va (fun k => memK k (vb.map Prod.fst) && e k), q kvs (fun k => memK k (lvs.map Prod.fst) && e k), h1, h2, r.length, r'.length]
theorem item_rel {xs : List V} {is : List Value} (r : Vals xs is) {j : Nat} {u : Value} (h : is[j]? = some u) : ∃ x, xs[j]? = some x ∧ RelV x u := by
  have h' := (List.getElem?_eq_some_iff.mp h).1
  have hx : j < xs.length := by rw [r.length]; exact h'
  obtain ⟨u', hu, ru⟩ := r.get (List.getElem?_eq_getElem hx)
  rw [h] at hu
  cases hu
  exact ⟨_, List.getElem?_eq_getElem hx, ru⟩
/-- what == and != tell of two things -/
structure RcB (X : Cx) (s : Shared) (n : Nat) (x y : V) (c : Bool) : Prop where
  eq : ∀ (A : Around) (u v : Value), RelV x u → RelV y v → A.units + n < cLine → EqIn X.prog X.w A s u v c
  rc : ∀ (A : Around) (a b : Addr), x = .ref a → y = .ref b → A.units + n < cLine → RcIn X.prog X.w .Eq A s (.ref a) (.ref b) c ∧ RcIn X.prog X.w .NotEq A s (.ref a) (.ref b) (!c)
theorem eqIn_refs {A : Around} {a b : Addr} {c : Bool} (hne : a ≠ b) (h : RcIn X.prog X.w .Eq A s (.ref a) (.ref b) c) : EqIn X.prog X.w A s (.ref a) (.ref b) c := fun E Q hq => by
  unfold eqBool
  refine wpAny_holding (wpAny_ite_split (fun hab => absurd (by have := eq_of_beq hab; injection this) hne) fun _ => ?_)
  exact wpAny_bind (h E _ (wpAny_truthy_bool hq))
theorem Eqd.rcB (I : Inv X pins σ H s) {n : Nat} {x y : V} {c : Bool} (h : Eqd X.K H n x y c) : RcB X s n x y c := by
  induction h with
  | flat fx fy hc =>
    refine ⟨fun A u v rx ry _ E Q hq => ?_, fun A a b e => ?_⟩
    · exact eqAt_V rx ry fx fy X.prog X.w E Q (by rw [← hc]; exact hq)
    · rw [e] at fx; cases fx
  | @tup n a b xs ys e c h1 h2 h3 hc ih =>
    obtain ⟨is, r1, t1, _⟩ := I.tuple h1
    obtain ⟨js, r2, t2, _⟩ := I.tuple h2
    have rc : ∀ (A : Around), A.units + (n + 1) < cLine → RcIn X.prog X.w .Eq A s (.ref a) (.ref b) c ∧ RcIn X.prog X.w .NotEq A s (.ref a) (.ref b) (!c) := by
      intro A hu
      have he : ∀ (j : Nat) (y x : Value), is[j]? = some y → js[j]? = some x → EqIn X.prog X.w A.in1 s y x (e j) := by
        intro j u v hu' hv'
        obtain ⟨x, hx, rx⟩ := item_rel r1 hu'
        obtain ⟨y, hy, ry⟩ := item_rel r2 hv'
        exact (ih j x y hx hy).eq A.in1 _ _ rx ry (by show A.units + 1 + n < cLine; omega)
      have q1 := RcIn.tupEq t1 t2 (by omega) he
      have q2 := RcIn.tupNe t1 t2 (by omega) he
      rw [← r1.length, ← r2.length, ← hc] at q1 q2
      exact ⟨q1, q2⟩
    refine ⟨fun A u v rx ry hu => ?_, fun A a' b' ea eb hu => ?_⟩
    · cases rx; cases ry
      by_cases hab : a = b
      · subst hab
        have hc' := Eqd.refl_true I (.tup h1 h2 h3 hc) rfl
        rw [hc']; exact fun E Q hq => SeqAt.EqAt.same _ X.prog X.w E Q hq
      · exact eqIn_refs hab (rc A hu).1
    · cases ea; cases eb; exact rc A hu
  | @dct n a b kvs lvs e c h1 h2 h3 hc ih =>
    obtain ⟨_, na, va, r1, d1⟩ := dk_rd I.hok h1
    obtain ⟨_, nb, vb, r2, d2⟩ := dk_rd I.hok h2
    have rc : ∀ (A : Around), A.units + (n + 1) < cLine → RcIn X.prog X.w .Eq A s (.ref a) (.ref b) c ∧ RcIn X.prog X.w .NotEq A s (.ref a) (.ref b) (!c) := by
      intro A hu
      have heq : ∀ k u v, (k, u) ∈ va → (k, v) ∈ vb → EqIn X.prog X.w A.in1 s u v (e k) := by
        intro k u v hu' hv'
        obtain ⟨x, hx, rx⟩ := kv_mem r1 hu'
        obtain ⟨y, hy, ry⟩ := kv_mem r2 hv'
        exact (ih k x y hx hy).eq A.in1 _ _ rx ry (by show A.units + 1 + n < cLine; omega)
      have hc2 := hc.trans (all_keys r1 r2 e).symm
      exact ⟨fun E Q hq => rc_dicts e d1 d2 na nb (by omega) heq (by rw [hc2] at hq; exact hq), fun E Q hq => rcne_dicts e d1 d2 na nb (by omega) heq (by rw [hc2] at hq; exact hq)⟩
    refine ⟨fun A u v rx ry hu => ?_, fun A a' b' ea eb hu => ?_⟩
    · cases rx; cases ry
      by_cases hab : a = b
      · subst hab
        have hc' := Eqd.refl_true I (.dct h1 h2 h3 hc) rfl
        rw [hc']; exact fun E Q hq => SeqAt.EqAt.same _ X.prog X.w E Q hq
      · exact eqIn_refs hab (rc A hu).1
    · cases ea; cases eb; exact rc A hu
end
section
variable {X : Cx}
/-- a == b, a != b of tuples and dicts with dicts within -/
def rEqE (K : PySem.W.Frag) (n : Bool) : R2 := fun x y H Q => ∃ (k : Nat) (a b : Addr) (c : Bool), x = .ref a ∧ y = .ref b ∧ Eqd K H k (.ref a) (.ref b) c ∧ k ≤ 60 ∧ Q (.bl (n ^^ c)) H
theorem op_neE (hu : X.A.units + 64 < cLine) : OpR X (compareOp .NotEq) (rEqE X.K true) := by
  intro pins s σ H x y v u Q I rx ry h
  obtain ⟨k, a, b, c, rfl, rfl, he, hk, q⟩ := h
  cases rx; cases ry
  rw [Bool.true_xor] at q
  exact ((he.rcB I).rc X.A a b rfl rfl (by omega)).2 _ _ ⟨.bl (!c), H, I, rfl, q⟩
end
end L2

set_option Elab.async false
set_option linter.all false
set_option maxRecDepth 100000
namespace L2
open PySem PySem.Spec PyProof.Rows
/-! ### a list or a tuple, walked -/
def Sqb (b : Bool) (K : PySem.W.Frag) (H : Hp) (a : Addr) (xs : List V) : Prop := if b = true then SqL K H a xs else SqT K H a xs
theorem Sqb.l {K : PySem.W.Frag} {H : Hp} {a : Addr} {xs : List V} (h : SqL K H a xs) : Sqb true K H a xs := h
theorem Sqb.t {K : PySem.W.Frag} {H : Hp} {a : Addr} {xs : List V} (h : SqT K H a xs) : Sqb false K H a xs := h
theorem Sqb.or {b : Bool} {K : PySem.W.Frag} {H : Hp} {a : Addr} {xs : List V} (h : Sqb b K H a xs) : SqL K H a xs ∨ SqT K H a xs := by
  cases b
  · exact .inr h
  · exact .inl h
theorem Rd.up {H H' : Hp} {a : Addr} {u : HO} (h : Rd H a u) (e : ∀ o, H a = some o → H' a = some o) : Rd H' a u := by
  rcases h with h | ⟨o, h⟩
  · exact .inl (e _ h)
  · exact .inr ⟨o, e _ h⟩
theorem Sqb.up {b : Bool} {K : PySem.W.Frag} {H H' : Hp} {a : Addr} {xs : List V} (h : Sqb b K H a xs) (e : ∀ o, H a = some o → H' a = some o) : Sqb b K H' a xs := by
  cases b
  · rcases h with h | h
    · exact .inl (h.up e)
    · exact .inr h
  · rcases h with h | h
    · exact .inl (h.up e)
    · exact .inr h
theorem Turn.weak {P : Program} {w : World} {K : PySem.W.Frag} {tg : Expr} {J J' : It} {fp : List Addr} {it : Addr} {tn : Nat → Heap → Prop} (T : Turn P w K tg J fp it tn) (g : ∀ i H, J'.go i H → J.go i H) (y : ∀ i H x H', J'.go i H → J.yld i H x H' → J'.yld i H x H') (z : ∀ i H, J'.stop i H → J.stop i H) : Turn P w K tg J' fp it tn where
  mem := T.mem
  obj := T.obj
  keep := T.keep
  item := fun X h1 h2 h3 h4 i pins s σ H E I f t q => thn (T.item X h1 h2 h3 h4 i pins s σ H E I f t (g _ _ q)) fun r s1 ⟨u, e, k⟩ => ⟨u, e, thn k fun _ s2 ⟨x, H', a1, a2, a3, a4⟩ => ⟨x, H', a1, a2, y _ _ _ _ q a3, a4⟩⟩
  done := fun X h1 h2 h3 h4 i pins s σ H E I f t q => T.done X h1 h2 h3 h4 i pins s σ H E I f t (z _ _ q)
  self := T.self
section
variable {X : Cx} {tg : Expr}
end
/-- a walk by places: over anything that yields the items of a list -/
theorem it_by {α : Type} {J : It} {xs : List α} {B : V → Hp → (Hp → Prop) → Prop} {H0 : Hp} {Qd : Hp → Prop} (f : α → V) (Pv : Nat → Hp → Prop) (h0 : Pv 0 H0) (hg : ∀ i H, i < xs.length → Pv i H → J.go i H) (hz : ∀ H, Pv xs.length H → J.stop xs.length H)
    (hy : ∀ i H x H', J.yld i H x H' → H' = H ∧ ∃ z, xs[i]? = some z ∧ x = f z) (hs : ∀ i z H, xs[i]? = some z → Pv i H → B (f z) H (Pv (i + 1))) (hd : ∀ H, Pv xs.length H → Qd H) :
    ∃ W : Nat → Nat → Hp → Prop, (∃ m, W 0 m H0) ∧ ∀ i m H, W i m H → (J.stop i H ∧ Qd H) ∨ (J.go i H ∧ ∃ Nx : Hp → Prop, (∀ H', Nx H' → ∃ m', m' < m ∧ W (i + 1) m' H') ∧ ∀ x H', J.yld i H x H' → B x H' Nx) := by
  refine ⟨fun i m H => m + i = xs.length ∧ Pv i H, ⟨xs.length, rfl, h0⟩, ?_⟩
  rintro i m H ⟨hm, p⟩
  by_cases hlt : i < xs.length
  · refine .inr ⟨hg i H hlt p, Pv (i + 1), fun H' p' => ⟨m - 1, by omega, by omega, p'⟩, fun x H' y => ?_⟩
    obtain ⟨rfl, z, hz', rfl⟩ := hy i H x H' y
    exact hs i z _ hz' p
  · obtain rfl : i = xs.length := by omega
    exact .inl ⟨hz H p, hd H p⟩
theorem fo_by {α : Type} {J : It} {xs : List α} {g : TG} {tb : TS} {D : Ends} {σ : St} {H : Hp} (f : α → V) (Pv : Nat → St → Hp → Prop) (h0 : Pv 0 σ H) (hg : ∀ i σ H, i < xs.length → Pv i σ H → J.go i H) (hz : ∀ σ H, Pv xs.length σ H → J.stop xs.length H)
    (hy : ∀ i H x H', J.yld i H x H' → H' = H ∧ ∃ z, xs[i]? = some z ∧ x = f z)
    (hs : ∀ i z σ H, xs[i]? = some z → Pv i σ H → g (f z) σ H fun σ2 H2 => tb { D with nx := Pv (i + 1), ct := Pv (i + 1), bk := D.nx } σ2 H2) (hd : ∀ σ H, Pv xs.length σ H → D.nx σ H) :
    ∃ W : Nat → Nat → St → Hp → Prop, (∃ m, W 0 m σ H) ∧ ∀ i m σ H, W i m σ H →
      (J.stop i H ∧ D.nx σ H) ∨ (J.go i H ∧ ∃ N : St → Hp → Prop, (∀ σ' H', N σ' H' → ∃ m', m' < m ∧ W (i + 1) m' σ' H') ∧ ∀ x H', J.yld i H x H' → g x σ H' fun σ2 H2 => tb { D with nx := N, ct := N, bk := D.nx } σ2 H2) := by
  refine ⟨fun i m σ H => m + i = xs.length ∧ Pv i σ H, ⟨xs.length, rfl, h0⟩, ?_⟩
  rintro i m σ H ⟨hm, p⟩
  by_cases hlt : i < xs.length
  · refine .inr ⟨hg i σ H hlt p, Pv (i + 1), fun σ' H' p' => ⟨m - 1, by omega, by omega, p'⟩, fun x H' y => ?_⟩
    obtain ⟨rfl, z, hz', rfl⟩ := hy i H x H' y
    exact hs i z σ _ hz' p
  · obtain rfl : i = xs.length := by omega
    exact .inl ⟨hz σ H p, hd σ H p⟩
/-- over a dict's keys, the dict held fast -/
theorem it_keys {d : Addr} {o : Obj} {kvs : List (Key × V)} {B : V → Hp → (Hp → Prop) → Prop} {H0 : Hp} {Qd : Hp → Prop} (Pv : Nat → Hp → Prop) (h0 : Pv 0 H0) (hl : ∀ i H, Pv i H → H d = some (.frz o (.dK kvs))) (hs : ∀ i (z : Key × V) H, kvs[i]? = some z → Pv i H → B (kV z.1) H (Pv (i + 1))) (hd : ∀ H, Pv kvs.length H → Qd H) :
    ∃ W : Nat → Nat → Hp → Prop, (∃ m, W 0 m H0) ∧ ∀ i m H, W i m H → ((Itk d o kvs).stop i H ∧ Qd H) ∨ ((Itk d o kvs).go i H ∧ ∃ Nx : Hp → Prop, (∀ H', Nx H' → ∃ m', m' < m ∧ W (i + 1) m' H') ∧ ∀ x H', (Itk d o kvs).yld i H x H' → B x H' Nx) :=
  it_by (fun z => kV z.1) Pv h0 (fun i H hi p => ⟨hl i H p, hi⟩) (fun H p => ⟨hl _ H p, Nat.le_refl _⟩) (fun i H x H' y => by obtain ⟨e, k, v, h, rfl⟩ := y; exact ⟨e, (k, v), h, rfl⟩) hs hd
theorem fo_keys {d : Addr} {o : Obj} {kvs : List (Key × V)} {g : TG} {tb : TS} {D : Ends} {σ : St} {H : Hp} (Pv : Nat → St → Hp → Prop) (h0 : Pv 0 σ H) (hl : ∀ i σ H, Pv i σ H → H d = some (.frz o (.dK kvs)))
    (hs : ∀ i (z : Key × V) σ H, kvs[i]? = some z → Pv i σ H → g (kV z.1) σ H fun σ2 H2 => tb { D with nx := Pv (i + 1), ct := Pv (i + 1), bk := D.nx } σ2 H2) (hd : ∀ σ H, Pv kvs.length σ H → D.nx σ H) :
    ∃ W : Nat → Nat → St → Hp → Prop, (∃ m, W 0 m σ H) ∧ ∀ i m σ H, W i m σ H →
      ((Itk d o kvs).stop i H ∧ D.nx σ H) ∨ ((Itk d o kvs).go i H ∧ ∃ N : St → Hp → Prop, (∀ σ' H', N σ' H' → ∃ m', m' < m ∧ W (i + 1) m' σ' H') ∧ ∀ x H', (Itk d o kvs).yld i H x H' → g x σ H' fun σ2 H2 => tb { D with nx := N, ct := N, bk := D.nx } σ2 H2) :=
  fo_by (fun z => kV z.1) Pv h0 (fun i σ H hi p => ⟨hl i σ H p, hi⟩) (fun σ H p => ⟨hl _ σ H p, Nat.le_refl _⟩) (fun i H x H' y => by obtain ⟨e, k, v, h, rfl⟩ := y; exact ⟨e, (k, v), h, rfl⟩) hs hd
/-- held fast and let go: all else as it was -/
theorem same_lock {H H' : Hp} {d : Addr} {u : HO} {o : Obj} (h : H d = some u) (s : Same (upd H d (.frz o u)) H') : Same H (upd H' d u) := fun b v e => by
  by_cases hb : b = d
  · subst hb; rw [h] at e; cases e; exact upd_same
  · rw [upd_ne hb]; exact s _ _ (by rw [upd_ne hb]; exact e)
theorem lock_ne {H : Hp} {d b : Addr} {u v : HO} {o : Obj} (h : H b = some v) (n : b ≠ d) : upd H d (.frz o u) b = some v := by rw [upd_ne n]; exact h
theorem free_lock {H : Hp} {d b : Addr} {u : HO} {o : Obj} (h : upd H d (.frz o u) b = none) : H b = none ∧ b ≠ d := by
  by_cases hb : b = d
  · subst hb; rw [upd_same] at h; cases h
  · rw [upd_ne hb] at h; exact ⟨h, hb⟩
section
variable {X : Cx} {pins : List (Addr × Obj)} {σ : St} {H : Hp} {s : Shared}
end
section
variable {X : Cx}
end
end L2

set_option Elab.async false
set_option linter.all false
set_option maxRecDepth 100000
namespace L2
open PySem PySem.Spec PyProof.Rows
/-! ### methods of the text, defaults or none -/
structure FunD (K : PySem.W.Frag) (x qual : Str) (st : Stmt) (f : Addr) (fd : FuncData) : Prop where
  ex : ∃ (oc : Value) (od : Option Addr) (dV kV doc pm : Value) (an : Option Addr) (cdv ct : Value) (osl : Array (Option Value)),
    fd = PySem.W.fnOf x qual (defArgs st) (defBody st) (defScope st) dV kV doc pm an cdv ct ∧ K.lookup f = some ⟨oc, od, .func fd, osl⟩ ∧ PySem.W.codeIn K cdv qual = true
  kp : PySem.W.keepIn K (.ref f) = true
structure MDef (K : PySem.W.Frag) (C : Addr) (m qual : Str) (st : Stmt) (ps : List Str) : Prop where
  ex : ∃ (f : Addr) (fd : FuncData), Cls K C ∧ Meth K C m f ∧ FunD K m qual st f fd ∧ Binds K fd ps []
structure NDef (K : PySem.W.Frag) (mg : Str → Option Value) (x : Str) (C : Addr) (qual : Str) (st : Stmt) (ps : List Str) : Prop where
  ex : ∃ (f : Addr) (fd : FuncData), mg x = some (.ref C) ∧ Mk K C f ∧ FunD K "__init__" qual st f fd ∧ Binds K fd ps []
/-- a class of the program's own, its instances asked by isinstance and != -/
structure OwnC (K : PySem.W.Frag) (C : Addr) : Prop where
  cl : Cls K C
  ha : PySem.W.findIn K (.ref C) "__class__" = some (some (.builtin "object.__class__"))
  hn : PySem.W.specialIn K (.builtin "object.__class__") "__get__" = some (some (.builtin "getset_descriptor.__get__"))
  ht : PySem.W.takesIn K (.builtin "object.__class__") = some true
  hm : PySem.W.mroIn K C (.type "object") = some true
theorem OwnC.ty {K : PySem.W.Frag} {C : Addr} (o : OwnC K C) {H : Hp} {a dx : Addr} {fs : List (Str × V)} (h : H a = some (.ins C dx fs)) : TyOf K H (.ref a) (.ref C) := .ins h o.cl o.ha o.hn o.ht o.hm
section
variable {P : Program} {w : World} {K : PySem.W.Frag} {mg : Str → Option Value} {base : Heap}
theorem FunD.ok {x qual : Str} {st : Stmt} {f : Addr} {fd : FuncData} {N ps : List Str} {k : Nat} {sp : Sp} (F : FunD K x qual st f fd) (S : FnScope N ps (defScope st)) (len : ∀ vs H Q E, sp vs H Q E → vs.length = ps.length)
    (hb : ∀ (cdv : Value) (A : Around) (outer : List Env) (s : Shared) (H : Hp) (vs : List V) (Q : VK) (E : XK), Room k (A.deeper (envOfC qual (defScope st) s.heap.objs.size f cdv)) → sp vs H Q E →
      ∃ t, PSs (cxOf CX0 P w K mg base N qual (defScope st) f cdv A outer s H E).nox (defBody st) t ∧ t { nx := fun _ H' => Q .non H', rt := Q } (start N vs) H) : FnOk P w K mg base CX0 (k + 1) f fd ps sp := by
  obtain ⟨oc, od, dV, kV, doc, pm, an, cdv, ct, osl, rfl, lk, hcd⟩ := F.ex
  refine fn_of lk hcd S len fun A outer s H vs Q E hr hsp => ?_
  exact let ⟨t, h, q⟩ := hb cdv A outer s H vs Q E hr hsp; ⟨t, h.nox, q⟩
theorem FunD.binds {x qual : Str} {st : Stmt} {f : Addr} {fd : FuncData} {ps : List Str} (F : FunD K x qual st f fd)
    (h : ∀ (dV kV doc pm : Value) (an : Option Addr) (cdv ct : Value) (us : List Value), us.length = ps.length → bindArgs (PySem.W.fnOf x qual (defArgs st) (defBody st) (defScope st) dV kV doc pm an cdv ct) ⟨us, []⟩ = pure (ps.zip us)) : Binds K fd ps [] := by
  obtain ⟨oc, od, dV, kV, doc, pm, an, cdv, ct, osl, rfl, lk, hcd⟩ := F.ex
  exact .all (h dV kV doc pm an cdv ct)
theorem funD_mk {x qual : Str} {st : Stmt} {f : Addr} {oc : Value} {od an : Option Addr} {osl : Array (Option Value)} {dV kV doc pm cdv ct : Value} (l : K.lookup f = some ⟨oc, od, .func (PySem.W.fnOf x qual (defArgs st) (defBody st) (defScope st) dV kV doc pm an cdv ct), osl⟩)
    (c : PySem.W.codeIn K cdv qual = true) (k : PySem.W.keepIn K (.ref f) = true) : FunD K x qual st f (PySem.W.fnOf x qual (defArgs st) (defBody st) (defScope st) dV kV doc pm an cdv ct) := ⟨⟨oc, od, dV, kV, doc, pm, an, cdv, ct, osl, rfl, l, c⟩, k⟩
theorem MCal.mono {C : Addr} {m : Str} {ps : List Str} {j k : Nat} {sp : Sp} (c : MCal P w K mg base C m ps j sp) (h : j ≤ k) : MCal P w K mg base C m ps k sp := let ⟨f, fd, a, b, F, r⟩ := c.ex; ⟨f, fd, a, b, F.mono h, r⟩
end
end L2

set_option Elab.async false
set_option linter.all false
set_option maxRecDepth 100000
set_option maxHeartbeats 1000000
namespace L2
open PySem PySem.Spec PyProof.Rows
section
variable {prog : Program} {w : World} {A : Around} {E : Value → Shared → Prop}
end

section
variable {X : Cx}
end
end L2

set_option Elab.async false
set_option linter.all false
set_option maxRecDepth 100000
namespace L2
open PySem PySem.Spec PyProof.Rows
@[irreducible] def WE (X : Cx) (e : PySem.Expr) (t : TE) : Prop := PE X e t
theorem WE.of {X : Cx} {e : PySem.Expr} {t : TE} (h : PE X e t) : WE X e t := by with_unfolding_all exact h
theorem WE.to {X : Cx} {e : PySem.Expr} {t : TE} (h : WE X e t) : PE X e t := by with_unfolding_all exact h
@[irreducible] def WT (X : Cx) (e : PySem.Expr) (t : TT) : Prop := PT X e t
theorem WT.of {X : Cx} {e : PySem.Expr} {t : TT} (h : PT X e t) : WT X e t := by with_unfolding_all exact h
theorem WT.to {X : Cx} {e : PySem.Expr} {t : TT} (h : WT X e t) : PT X e t := by with_unfolding_all exact h
@[irreducible] def WW (X : Cx) (e : PySem.Expr) (t : TT) : Prop := PW X e t
theorem WW.of {X : Cx} {e : PySem.Expr} {t : TT} (h : PW X e t) : WW X e t := by with_unfolding_all exact h
theorem WW.to {X : Cx} {e : PySem.Expr} {t : TT} (h : WW X e t) : PW X e t := by with_unfolding_all exact h
@[irreducible] def WA (X : Cx) (es : List PySem.Expr) (t : TA) : Prop := PA X es t
theorem WA.of {X : Cx} {es : List PySem.Expr} {t : TA} (h : PA X es t) : WA X es t := by with_unfolding_all exact h
theorem WA.to {X : Cx} {es : List PySem.Expr} {t : TA} (h : WA X es t) : PA X es t := by with_unfolding_all exact h
@[irreducible] def WS (X : Cx) (st : PySem.Stmt) (t : TS) : Prop := PS X st t
theorem WS.of {X : Cx} {st : PySem.Stmt} {t : TS} (h : PS X st t) : WS X st t := by with_unfolding_all exact h
theorem WS.to {X : Cx} {st : PySem.Stmt} {t : TS} (h : WS X st t) : PS X st t := by with_unfolding_all exact h
@[irreducible] def WSs (X : Cx) (st : List PySem.Stmt) (t : TS) : Prop := PSs X st t
theorem WSs.of {X : Cx} {st : List PySem.Stmt} {t : TS} (h : PSs X st t) : WSs X st t := by with_unfolding_all exact h
theorem WSs.to {X : Cx} {st : List PySem.Stmt} {t : TS} (h : WSs X st t) : PSs X st t := by with_unfolding_all exact h
@[irreducible] def WG (X : Cx) (e : PySem.Expr) (t : TG) : Prop := PG X e t
theorem WG.of {X : Cx} {e : PySem.Expr} {t : TG} (h : PG X e t) : WG X e t := by with_unfolding_all exact h
theorem WG.to {X : Cx} {e : PySem.Expr} {t : TG} (h : WG X e t) : PG X e t := by with_unfolding_all exact h
@[irreducible] def WGs (X : Cx) (e : List PySem.Expr) (t : TGs) : Prop := PGs X e t
theorem WGs.of {X : Cx} {e : List PySem.Expr} {t : TGs} (h : PGs X e t) : WGs X e t := by with_unfolding_all exact h
theorem WGs.to {X : Cx} {e : List PySem.Expr} {t : TGs} (h : WGs X e t) : PGs X e t := by with_unfolding_all exact h
@[irreducible] def WI (X : Cx) (tg e : PySem.Expr) (t : TI) : Prop := PI X tg e t
theorem WI.of {X : Cx} {tg e : PySem.Expr} {t : TI} (h : PI X tg e t) : WI X tg e t := by with_unfolding_all exact h
theorem WI.to {X : Cx} {tg e : PySem.Expr} {t : TI} (h : WI X tg e t) : PI X tg e t := by with_unfolding_all exact h
@[irreducible] def WTs (X : Cx) (e : List PySem.Expr) (t : TT) : Prop := PTs X e t
theorem WTs.of {X : Cx} {e : List PySem.Expr} {t : TT} (h : PTs X e t) : WTs X e t := by with_unfolding_all exact h
theorem WTs.to {X : Cx} {e : List PySem.Expr} {t : TT} (h : WTs X e t) : PTs X e t := by with_unfolding_all exact h
@[irreducible] def WPs (X : Cx) (pos : PySem.Pos) (ks : List (Option PySem.Expr)) (vs : List PySem.Expr) (t : List (TE × TE)) : Prop := PPs X pos ks vs t
theorem WPs.of {X : Cx} {pos : PySem.Pos} {ks : List (Option PySem.Expr)} {vs : List PySem.Expr} {t : List (TE × TE)} (h : PPs X pos ks vs t) : WPs X pos ks vs t := by with_unfolding_all exact h
theorem WPs.to {X : Cx} {pos : PySem.Pos} {ks : List (Option PySem.Expr)} {vs : List PySem.Expr} {t : List (TE × TE)} (h : WPs X pos ks vs t) : PPs X pos ks vs t := by with_unfolding_all exact h
@[irreducible] def WO (X : Cx) (e : Option PySem.Expr) (t : TO) : Prop := PO X e t
theorem WO.of {X : Cx} {e : Option PySem.Expr} {t : TO} (h : PO X e t) : WO X e t := by with_unfolding_all exact h
theorem WO.to {X : Cx} {e : Option PySem.Expr} {t : TO} (h : WO X e t) : PO X e t := by with_unfolding_all exact h
@[irreducible] def WC (X : Cx) (op : PySem.CmpOp) (a b : PySem.Expr) (t : TE) : Prop := PC X op a b t
theorem WC.of {X : Cx} {op : PySem.CmpOp} {a b : PySem.Expr} {t : TE} (h : PC X op a b t) : WC X op a b t := by with_unfolding_all exact h
theorem WC.to {X : Cx} {op : PySem.CmpOp} {a b : PySem.Expr} {t : TE} (h : WC X op a b t) : PC X op a b t := by with_unfolding_all exact h
@[irreducible] def WOp (X : Cx) (f : PySem.Value → PySem.Value → PySem.Sem PySem.Value) (r : R2) : Prop := OpR X f r
theorem WOp.of {X : Cx} {f : PySem.Value → PySem.Value → PySem.Sem PySem.Value} {r : R2} (h : OpR X f r) : WOp X f r := by with_unfolding_all exact h
theorem WOp.to {X : Cx} {f : PySem.Value → PySem.Value → PySem.Sem PySem.Value} {r : R2} (h : WOp X f r) : OpR X f r := by with_unfolding_all exact h
@[irreducible] def WUn (X : Cx) (f : PySem.Value → PySem.Sem PySem.Value) (r : V → Hp → VK → Prop) : Prop := UnR X f r
theorem WUn.of {X : Cx} {f : PySem.Value → PySem.Sem PySem.Value} {r : V → Hp → VK → Prop} (h : UnR X f r) : WUn X f r := by with_unfolding_all exact h
theorem WUn.to {X : Cx} {f : PySem.Value → PySem.Sem PySem.Value} {r : V → Hp → VK → Prop} (h : WUn X f r) : UnR X f r := by with_unfolding_all exact h
@[irreducible] def WCall (X : Cx) (f : PySem.Value) (r : List V → Hp → VK → Prop) : Prop := CallR X f r
theorem WCall.of {X : Cx} {f : PySem.Value} {r : List V → Hp → VK → Prop} (h : CallR X f r) : WCall X f r := by with_unfolding_all exact h
theorem WCall.to {X : Cx} {f : PySem.Value} {r : List V → Hp → VK → Prop} (h : WCall X f r) : CallR X f r := by with_unfolding_all exact h
@[irreducible] def WMt (X : Cx) (f : String) (r : V → List V → Hp → VK → Prop) : Prop := MtR X f r
theorem WMt.of {X : Cx} {f : String} {r : V → List V → Hp → VK → Prop} (h : MtR X f r) : WMt X f r := by with_unfolding_all exact h
theorem WMt.to {X : Cx} {f : String} {r : V → List V → Hp → VK → Prop} (h : WMt X f r) : MtR X f r := by with_unfolding_all exact h
@[irreducible] def WSl (X : Cx) (r : V → Option Int → Option Int → Hp → VK → Prop) : Prop := SlR X r
theorem WSl.of {X : Cx} {r : V → Option Int → Option Int → Hp → VK → Prop} (h : SlR X r) : WSl X r := by with_unfolding_all exact h
theorem WSl.to {X : Cx} {r : V → Option Int → Option Int → Hp → VK → Prop} (h : WSl X r) : SlR X r := by with_unfolding_all exact h
@[irreducible] def WIx (X : Cx) (r : R2) : Prop := IxR X r
theorem WIx.of {X : Cx} {r : R2} (h : IxR X r) : WIx X r := by with_unfolding_all exact h
theorem WIx.to {X : Cx} {r : R2} (h : WIx X r) : IxR X r := by with_unfolding_all exact h
@[irreducible] def WSet (X : Cx) (t : TSet) : Prop := PSet X t
theorem WSet.of {X : Cx} {t : TSet} (h : PSet X t) : WSet X t := by with_unfolding_all exact h
theorem WSet.to {X : Cx} {t : TSet} (h : WSet X t) : PSet X t := by with_unfolding_all exact h
theorem wpe_int {X : Cx} {i : Int} {j : Nat} {pos : PySem.Pos} : WE X (PySem.Expr.Constant (PySem.Const.int i) j pos) (tC (V.int i)) := WE.of (pe_int)
theorem wpe_bl {X : Cx} {b : Bool} {j : Nat} {pos : PySem.Pos} : WE X (PySem.Expr.Constant (PySem.Const.bool b) j pos) (tC (V.bl b)) := WE.of (pe_bl)
theorem wpe_non {X : Cx} {j : Nat} {pos : PySem.Pos} : WE X (PySem.Expr.Constant PySem.Const.none j pos) (tC V.non) := WE.of (pe_non)
theorem wpe_str {X : Cx} {x : PySem.Str} {j : Nat} {pos : PySem.Pos} : WE X (PySem.Expr.Constant (PySem.Const.str x) j pos) (tC (V.str x)) := WE.of (pe_str)
theorem wpe_gty {X : Cx} {x : PySem.Str} {T : String} {pos : PySem.Pos} (h1 : Gl X x) (h2 : Cx.mg X x = none) (h3 : PySem.bootBuiltins x = some (PySem.Value.type T)) (h4 : autoParam (x ≠ PySem.Str.ofString "__name__") pe_gty._auto_1) (h5 : autoParam ((x == PySem.Str.ofString "__debug__") = false) pe_gty._auto_2) : WE X (PySem.Expr.Name x pos) (tC (V.ty T)) := WE.of (pe_gty h1 h2 h3 h4 h5)
theorem wpv {X : Cx} (i : Nat) {x : PySem.Str} {pos : PySem.Pos} (h1 : autoParam ((Cx.N X)[i]? = some x) pv._auto_1) (h2 : autoParam (Vis (PySem.Env.scope (Cx.env X)) x) pv._auto_2) (h3 : autoParam ((x == PySem.Str.ofString "__debug__") = false) pv._auto_3) (h4 : autoParam ((x == PySem.Str.ofString "__classdict__") = false) pv._auto_4) : WE X (PySem.Expr.Name x pos) (tVar i) := WE.of (pv i h1 h2 h3 h4)
theorem wpe_not {X : Cx} {a : PySem.Expr} {ta : TE} {pos : PySem.Pos} (h1 : WE X a ta) : WE X (PySem.Expr.UnaryOp PySem.UnaryOp.Not a pos) (tNotV ta) := WE.of (pe_not h1.to)
theorem wpe_one {X : Cx} {a : PySem.Expr} {pos : PySem.Pos} {op : PySem.BoolOp} {t : TE} (h1 : WE X a t) : WE X (PySem.Expr.BoolOp op [a] pos) t := WE.of (pe_one h1.to)
theorem wpe_or {X : Cx} {a b : PySem.Expr} {ta tb : TE} {pos : PySem.Pos} {rest : List PySem.Expr} (h1 : WE X a ta) (h2 : WE X (PySem.Expr.BoolOp PySem.BoolOp.Or (b :: rest) pos) tb) : WE X (PySem.Expr.BoolOp PySem.BoolOp.Or (a :: b :: rest) pos) (tOrV ta tb) := WE.of (pe_or h1.to h2.to)
theorem wpe_ifExp {X : Cx} {a b : PySem.Expr} {ta tb : TE} {pos : PySem.Pos} {tA : TT} {c : PySem.Expr} (h1 : WT X c tA) (h2 : WE X a ta) (h3 : WE X b tb) : WE X (PySem.Expr.IfExp c a b pos) (tIf tA ta tb) := WE.of (pe_ifExp h1.to h2.to h3.to)
theorem wpe_op {X : Cx} {a b : PySem.Expr} {ta tb : TE} {pos : PySem.Pos} {op : PySem.Operator} {r : R2} (h1 : WOp X (PySem.binaryOp op) r) (h2 : WE X a ta) (h3 : WE X b tb) : WE X (PySem.Expr.BinOp a op b pos) (tOp r ta tb) := WE.of (pe_op h1.to h2.to h3.to)
theorem wpe_cmpR {X : Cx} {a b : PySem.Expr} {ta tb : TE} {pos : PySem.Pos} {op : PySem.CmpOp} {r : R2} (h1 : WOp X (PySem.compareOp op) r) (h2 : WE X a ta) (h3 : WE X b tb) (h4 : PySem.behindInMarks op b = false) : WE X (PySem.Expr.Compare a [op] [b] pos) (tOp r ta tb) := WE.of (pe_cmpR h1.to h2.to h3.to h4)
theorem wpc_isN {X : Cx} {a : PySem.Expr} {ta : TE} {j : Nat} {pos' : PySem.Pos} (h1 : WE X a ta) : WC X PySem.CmpOp.Is a (PySem.Expr.Constant PySem.Const.none j pos') (tIsN ta) := WC.of (pc_isN h1.to)
theorem wpc_notN {X : Cx} {a : PySem.Expr} {ta : TE} {j : Nat} {pos' : PySem.Pos} (h1 : WE X a ta) : WC X PySem.CmpOp.IsNot a (PySem.Expr.Constant PySem.Const.none j pos') (tNotN ta) := WC.of (pc_notN h1.to)
theorem wpe_callB {X : Cx} {x : PySem.Str} {p pos : PySem.Pos} {e : PySem.Expr} {es : List PySem.Expr} {t : TA} {id : String} {r : List V → Hp → VK → Prop} (h1 : WCall X (PySem.Value.builtin id) r) (h2 : Gl X x) (h3 : Cx.mg X x = none) (h4 : PySem.bootBuiltins x = some (PySem.Value.builtin id)) (h5 : WA X (e :: es) t) (h6 : autoParam (x ≠ PySem.Str.ofString "__name__") pe_callB._auto_1) (h7 : autoParam ((x == PySem.Str.ofString "__debug__") = false) pe_callB._auto_2) (h8 : autoParam (PySem.starEach (e :: es) (Cx.env X) = (false, PySem.eval e (Cx.env X)) :: PySem.starEach es (Cx.env X)) pe_callB._auto_3) (h9 : autoParam ((List.any (PySem.backTo pos (PySem.starEach es (Cx.env X))) fun x => Prod.fst x) = false) pe_callB._auto_4) : WE X (PySem.Expr.Call (PySem.Expr.Name x p) (e :: es) [] pos) (tCB r t) := WE.of (pe_callB h1.to h2 h3 h4 h5.to h6 h7 h8 h9)
theorem wpe_callTy {X : Cx} {x : PySem.Str} {p pos : PySem.Pos} {e : PySem.Expr} {es : List PySem.Expr} {t : TA} {T : String} {r : List V → Hp → VK → Prop} (h1 : WCall X (PySem.Value.type T) r) (h2 : Gl X x) (h3 : Cx.mg X x = none) (h4 : PySem.bootBuiltins x = some (PySem.Value.type T)) (h5 : WA X (e :: es) t) (h6 : autoParam (x ≠ PySem.Str.ofString "__name__") pe_callTy._auto_1) (h7 : autoParam ((x == PySem.Str.ofString "__debug__") = false) pe_callTy._auto_2) (h8 : autoParam (PySem.starEach (e :: es) (Cx.env X) = (false, PySem.eval e (Cx.env X)) :: PySem.starEach es (Cx.env X)) pe_callTy._auto_3) (h9 : autoParam ((List.any (PySem.backTo pos (PySem.starEach es (Cx.env X))) fun x => Prod.fst x) = false) pe_callTy._auto_4) : WE X (PySem.Expr.Call (PySem.Expr.Name x p) (e :: es) [] pos) (tCB r t) := WE.of (pe_callTy h1.to h2 h3 h4 h5.to h6 h7 h8 h9)
theorem wpe_slice {X : Cx} {e : PySem.Expr} {te : TE} {lo hi : Option PySem.Expr} {tl th : TO} {pos p2 : PySem.Pos} {r : V → Option Int → Option Int → Hp → VK → Prop} (h1 : WSl X r) (h2 : WE X e te) (h3 : WO X lo tl) (h4 : WO X hi th) : WE X (PySem.Expr.Subscript e (PySem.Expr.Slice lo hi none p2) pos) (tSl r te tl th) := WE.of (pe_slice h1.to h2.to h3.to h4.to)
theorem wpo_none {X : Cx} : WO X none tNoPart := WO.of (po_none)
theorem wpo_some {X : Cx} {e : PySem.Expr} {te : TE} (h1 : WE X e te) : WO X (some e) (tPart te) := WO.of (po_some h1.to)
theorem wpe_dget {X : Cx} {o i : PySem.Expr} {pos : PySem.Pos} {td ty : TE} (h1 : PySem.Around.units (Cx.A X) + 1 < PySem.cLine) (h2 : WE X o td) (h3 : WE X i ty) (h4 : NoSl i) : WE X (PySem.Expr.Subscript o i pos) (tDGet td ty) := WE.of (pe_dget h1 h2.to h3.to h4)
theorem wpe_tup {X : Cx} {es : List PySem.Expr} {t : TA} {pos : PySem.Pos} {x1 : Nat} (h1 : WA X es t) : WE X (PySem.Expr.Tuple es x1 pos) (tTup t) := WE.of (pe_tup h1.to)
theorem wpe_dnewK {X : Cx} {pos : PySem.Pos} : WE X (PySem.Expr.Dict [] [] pos) tDNewK := WE.of (pe_dnewK)
theorem wpe_disp {X : Cx} {pos : PySem.Pos} {keys : List (Option PySem.Expr)} {values : List PySem.Expr} {trs : List (TE × TE)} (h1 : WPs X pos keys values trs) (h2 : (List.all keys fun x => Option.isSome x) = true) (h3 : List.length keys = List.length values) (h4 : keys ≠ []) (h5 : List.length keys ≤ 15) : WE X (PySem.Expr.Dict keys values pos) (tDisp trs) := WE.of (pe_disp h1.to h2 h3 h4 h5)
theorem wpps_nil {X : Cx} {pos : PySem.Pos} : WPs X pos [] [] [] := WPs.of (pps_nil)
theorem wpps_cons {X : Cx} {pos : PySem.Pos} {k v : PySem.Expr} {ks : List (Option PySem.Expr)} {vs : List PySem.Expr} {tk tv : TE} {trs : List (TE × TE)} (h1 : WE X k tk) (h2 : WE X v tv) (h3 : WPs X pos ks vs trs) : WPs X pos (some k :: ks) (v :: vs) ((tk, tv) :: trs) := WPs.of (pps_cons h1.to h2.to h3.to)
theorem wpe_lc {X : Cx} {elt tg iter : PySem.Expr} {ifs : List PySem.Expr} {scope : PySem.Scope} {own : List (PySem.Str × Nat)} {pos : PySem.Pos} {wi : TI} {g : TG} {tt : TT} {te : TE} (h1 : Cx.calm X = true) (h2 : List.Nodup (Cx.N X)) (h3 : WI X tg iter wi) (h4 : BlkOk (Cx.N X) (PySem.Env.scope (Cx.env X)) scope own) (h5 : (∀ (s : PySem.Shared) (H : Hp) (C : PySem.Addr) (cl : List (PySem.Str × PySem.Addr)) (fp : List PySem.Addr), WG (Cx.blk X s H scope (PySem.compEnvC scope cl C (Cx.env X)) fp) tg g)) (h6 : (∀ (s : PySem.Shared) (H : Hp) (C : PySem.Addr) (cl : List (PySem.Str × PySem.Addr)) (fp : List PySem.Addr), WTs (Cx.blk X s H scope (PySem.compEnvC scope cl C (Cx.env X)) fp) ifs tt)) (h7 : (∀ (s : PySem.Shared) (H : Hp) (C : PySem.Addr) (cl : List (PySem.Str × PySem.Addr)) (fp : List PySem.Addr), WE (Cx.blk X s H scope (PySem.compEnvC scope cl C (Cx.env X)) fp) elt te)) (h8 : autoParam (∀ (x : PySem.Value), PySem.foldedSetIterable iter (Cx.env X) x = pure x) pe_lc._auto_1) : WE X (PySem.Expr.ListComp elt [{ target := tg, iter := iter, ifs := ifs, is_async := 0 }] scope pos) (tLc wi g tt te (List.map (fun x => Prod.snd x) own)) := WE.of (pe_lc h1 h2 h3.to h4 (fun s H C cl fp => (h5 s H C cl fp).to) (fun s H C cl fp => (h6 s H C cl fp).to) (fun s H C cl fp => (h7 s H C cl fp).to) h8)
theorem wpt_cmpR {X : Cx} {a b : PySem.Expr} {ta tb : TE} {pos : PySem.Pos} {op : PySem.CmpOp} {r : R2} (h1 : WOp X (PySem.compareOp op) r) (h2 : WE X a ta) (h3 : WE X b tb) (h4 : PySem.behindInMarks op b = false) : WT X (PySem.Expr.Compare a [op] [b] pos) (tTest (tOp r ta tb)) := WT.of (pt_cmpR h1.to h2.to h3.to h4)
theorem wpt_cmp {X : Cx} {a b : PySem.Expr} {pos : PySem.Pos} {op : PySem.CmpOp} {t : TE} (h1 : WC X op a b t) (h2 : autoParam (PySem.behindInMarks op b = false) pt_cmp._auto_1) : WT X (PySem.Expr.Compare a [op] [b] pos) (tB t) := WT.of (pt_cmp h1.to h2)
theorem wpt_not {X : Cx} {a : PySem.Expr} {pos : PySem.Pos} {tA : TT} (h1 : WT X a tA) : WT X (PySem.Expr.UnaryOp PySem.UnaryOp.Not a pos) (tNot tA) := WT.of (pt_not h1.to)
theorem wpw_and1 {X : Cx} {a : PySem.Expr} {pos : PySem.Pos} {tA : TT} (h1 : WT X a tA) : WW X (PySem.Expr.BoolOp PySem.BoolOp.And [a] pos) tA := WW.of (pw_and1 h1.to)
theorem wpw_or1 {X : Cx} {a : PySem.Expr} {pos : PySem.Pos} {tA : TT} (h1 : WT X a tA) : WW X (PySem.Expr.BoolOp PySem.BoolOp.Or [a] pos) tA := WW.of (pw_or1 h1.to)
theorem wpw_and {X : Cx} {a b : PySem.Expr} {pos : PySem.Pos} {tA tB' : TT} {rest : List PySem.Expr} (h1 : WT X a tA) (h2 : WW X (PySem.Expr.BoolOp PySem.BoolOp.And (b :: rest) pos) tB') : WW X (PySem.Expr.BoolOp PySem.BoolOp.And (a :: b :: rest) pos) (tAnd tA tB') := WW.of (pw_and h1.to h2.to)
theorem wpw_or {X : Cx} {a b : PySem.Expr} {pos : PySem.Pos} {tA tB' : TT} {rest : List PySem.Expr} (h1 : WT X a tA) (h2 : WW X (PySem.Expr.BoolOp PySem.BoolOp.Or (b :: rest) pos) tB') : WW X (PySem.Expr.BoolOp PySem.BoolOp.Or (a :: b :: rest) pos) (tOr tA tB') := WW.of (pw_or h1.to h2.to)
theorem wps_ret {X : Cx} {e : PySem.Expr} {te : TE} {pos : PySem.Pos} (h1 : WE X e te) : WS X (PySem.Stmt.Return (some e) pos) (tRet te) := WS.of (ps_ret h1.to)
theorem wps_if {X : Cx} {t u : TS} {pos : PySem.Pos} {c : PySem.Expr} {a b : List PySem.Stmt} {tc : TT} (h1 : WT X c tc) (h2 : WSs X a t) (h3 : WSs X b u) : WS X (PySem.Stmt.If c a b pos) (tIfS tc t u) := WS.of (ps_if h1.to h2.to h3.to)
theorem wps_set {X : Cx} {pos : PySem.Pos} {i : Nat} {x : PySem.Str} {e : PySem.Expr} {te : TE} {pos' : PySem.Pos} (h1 : List.Nodup (Cx.N X)) (h2 : (Cx.N X)[i]? = some x) (h3 : Loc (PySem.Env.scope (Cx.env X)) x) (h4 : WE X e te) (h5 : autoParam (PySem.swapsWith e (some (PySem.Expr.Name x pos')) (PySem.Pos.line pos) (Cx.env X) = pure false) ps_set._auto_1) (h6 : autoParam (Cx.fn X x = true ∨ List.lookup x (PySem.Scope.names (PySem.Env.scope (Cx.env X))) = some PySem.NameKind.local) ps_set._auto_2) : WS X (PySem.Stmt.Assign [PySem.Expr.Name x pos'] e pos) (tAsg te (gName i)) := WS.of (ps_set h1 h2 h3 h4.to h5 h6)
theorem wps_asg {X : Cx} {pos : PySem.Pos} {tg e : PySem.Expr} {te : TE} {g : TG} (h1 : WE X e te) (h2 : WG X tg g) (h3 : autoParam (PySem.swapsWithSole [tg] e (PySem.Pos.line pos) (Cx.env X) = pure false) ps_asg._auto_1) (h4 : autoParam (PySem.swappedStores [tg] e (Cx.env X) = pure none) ps_asg._auto_2) (h5 : autoParam (List.map (fun x => Prod.snd x) (PySem.assignEach [tg] (Cx.env X)) = [PySem.assign tg (Cx.env X)]) ps_asg._auto_3) : WS X (PySem.Stmt.Assign [tg] e pos) (tAsg te g) := WS.of (ps_asg h1.to h2.to h3 h4 h5)
theorem wps_dput {X : Cx} {o i value : PySem.Expr} {pos pos' : PySem.Pos} {td ty tv : TE} (h1 : PySem.Around.units (Cx.A X) + 1 < PySem.cLine) (h2 : WE X o td) (h3 : WE X i ty) (h4 : WE X value tv) (h5 : PySem.swapsWith value (some (PySem.Expr.Subscript o i pos')) (PySem.Pos.line pos) (Cx.env X) = pure false) : WS X (PySem.Stmt.Assign [PySem.Expr.Subscript o i pos'] value pos) (sDPut td ty tv) := WS.of (ps_dput h1 h2.to h3.to h4.to h5)
theorem wps_expr {X : Cx} {e : PySem.Expr} {te : TE} {pos : PySem.Pos} (h1 : WE X e te) (h2 : autoParam (PySem.swapsWith e none (PySem.Pos.line pos) (Cx.env X) = pure false) ps_expr._auto_1) : WS X (PySem.Stmt.Expr e pos) (tDrop te) := WS.of (ps_expr h1.to h2)
theorem wps_for {X : Cx} {tg iter : PySem.Expr} {body : List PySem.Stmt} {wi : TI} {g : TG} {tb : TS} {pos : PySem.Pos} (h1 : PySem.PassesOwn (PySem.model (Cx.prog X) (Cx.w X)) (Cx.A X) (Cx.env X) (Cx.xe X)) (h2 : Cx.calm X = true) (h3 : WI X tg iter wi) (h4 : WG X tg g) (h5 : WSs X body tb) (h6 : autoParam (∀ (x : PySem.Value), PySem.foldedSetIterable iter (Cx.env X) x = pure x) ps_for._auto_1) : WS X (PySem.Stmt.For tg iter body [] pos) (tFor wi g tb) := WS.of (ps_for h1 h2 h3.to h4.to h5.to h6)
theorem wpss_nil {X : Cx} : WSs X [] tNext := WSs.of (pss_nil)
theorem wpss_one {X : Cx} {st : PySem.Stmt} {t : TS} (h1 : WS X st t) : WSs X [st] t := WSs.of (pss_one h1.to)
theorem wpss_cons {X : Cx} {st : PySem.Stmt} {rest : List PySem.Stmt} {t u : TS} (h1 : WS X st t) (h2 : WSs X rest u) : WSs X (st :: rest) (tSeq t u) := WSs.of (pss_cons h1.to h2.to)
theorem wpss_cut {X : Cx} {st : PySem.Stmt} {rest : List PySem.Stmt} {t u : TS} (h1 : WS X st t) (h2 : WSs X rest u) : WSs X (st :: rest) (tCut t u) := WSs.of (pss_cut h1.to h2.to)
theorem wpg_name {X : Cx} {pos : PySem.Pos} {i : Nat} {x : PySem.Str} (h1 : List.Nodup (Cx.N X)) (h2 : (Cx.N X)[i]? = some x) (h3 : Loc (PySem.Env.scope (Cx.env X)) x) (h4 : autoParam (Cx.fn X x = true ∨ List.lookup x (PySem.Scope.names (PySem.Env.scope (Cx.env X))) = some PySem.NameKind.local) pg_name._auto_1) : WG X (PySem.Expr.Name x pos) (gName i) := WG.of (pg_name h1 h2 h3 h4)
theorem wpg_tup {X : Cx} {pos : PySem.Pos} {es : List PySem.Expr} {k : Nat} {t : TGs} {n : Nat} (h1 : Cx.calm X = true) (h2 : WGs X es t) (h3 : autoParam (List.length (PySem.assignEach es (Cx.env X)) = n) pg_tup._auto_1) (h4 : autoParam (List.findIdx? (fun x => Prod.fst x) (PySem.assignEach es (Cx.env X)) = none) pg_tup._auto_2) : WG X (PySem.Expr.Tuple es k pos) (gTup (Cx.K X) n t) := WG.of (pg_tup h1 h2.to h3 h4)
theorem wpgs_nil {X : Cx} : WGs X [] gNil := WGs.of (pgs_nil)
theorem wpgs_cons {X : Cx} {e : PySem.Expr} {es : List PySem.Expr} {t : TG} {u : TGs} (h1 : WG X e t) (h2 : WGs X es u) (h3 : autoParam (List.map (fun x => Prod.snd x) (PySem.assignEach (e :: es) (Cx.env X)) = PySem.assign e (Cx.env X) :: List.map (fun x => Prod.snd x) (PySem.assignEach es (Cx.env X))) pgs_cons._auto_1) : WGs X (e :: es) (gCons t u) := WGs.of (pgs_cons h1.to h2.to h3)
theorem wpi_range1 {X : Cx} {tg a : PySem.Expr} {ta : TA} {p pos : PySem.Pos} (h1 : Gl X (PySem.Str.ofString "range")) (h2 : Cx.mg X (PySem.Str.ofString "range") = none) (h3 : WA X [a] ta) (h4 : autoParam (PySem.starEach [a] (Cx.env X) = [(false, PySem.eval a (Cx.env X))]) pi_range1._auto_1) : WI X tg (PySem.Expr.Call (PySem.Expr.Name (PySem.Str.ofString "range") p) [a] [] pos) (iRng1 ta) := WI.of (pi_range1 h1 h2 h3.to h4)
theorem wpts_nil {X : Cx} : WTs X [] tYes := WTs.of (pts_nil)
theorem wpts_one {X : Cx} {c : PySem.Expr} {t : TT} (h1 : WT X c t) : WTs X [c] t := WTs.of (pts_one h1.to)
theorem wpi_keys {X : Cx} {tg e : PySem.Expr} {td : TE} (h1 : WE X e td) : WI X tg e (iKeys td) := WI.of (pi_keys h1.to)
theorem wps_fld {X : Cx} {o value : PySem.Expr} {f : PySem.Str} {pos pos' : PySem.Pos} {ta tv : TE} (h1 : WE X o ta) (h2 : WE X value tv) (h3 : PySem.swapsWith value (some (PySem.Expr.Attribute o f pos')) (PySem.Pos.line pos) (Cx.env X) = pure false) : WS X (PySem.Stmt.Assign [PySem.Expr.Attribute o f pos'] value pos) (sFld (Cx.K X) ta tv f) := WS.of (ps_fld h1.to h2.to h3)
theorem wpe_fld {X : Cx} {e : PySem.Expr} {f : PySem.Str} {pos : PySem.Pos} {ta : TE} (h1 : WE X e ta) (h2 : PySem.attributeBase e f (Cx.env X) (PySem.eval e (Cx.env X)) = PySem.eval e (Cx.env X)) : WE X (PySem.Expr.Attribute e f pos) (tFld (Cx.K X) ta f) := WE.of (pe_fld h1.to h2)
theorem wps_lock {X : Cx} {st : PySem.Stmt} {t : TS} (h1 : WS X st t) : WS X st (tLock t) := WS.of (ps_lock h1.to)
theorem wpe_lock {X : Cx} {e : PySem.Expr} {t : TE} (h1 : WE X e t) : WE X e (tLockE t) := WE.of (pe_lock h1.to)
theorem wpe_ix {X : Cx} {a b : PySem.Expr} {ta tb : TE} {pos : PySem.Pos} {r : R2} (h1 : WIx X r) (h2 : WE X a ta) (h3 : WE X b tb) (h4 : PlainIx b) : WE X (PySem.Expr.Subscript a b pos) (tOp r ta tb) := WE.of (pe_ix h1.to h2.to h3.to h4)
theorem wpe_lstN {X : Cx} {es : List PySem.Expr} {t : TA} {pos : PySem.Pos} (h1 : WA X es t) : WE X (PySem.Expr.List es pos) (tLstN t) := WE.of (pe_lstN h1.to)
theorem wpe_cal {X : Cx} {k : Nat} {sp : Sp} {x : PySem.Str} {ps : List PySem.Str} {p pos : PySem.Pos} {e : PySem.Expr} {es : List PySem.Expr} {t : TA} (h1 : Cal (Cx.prog X) (Cx.w X) (Cx.K X) (Cx.mg X) (Cx.base X) x ps k sp) (h2 : Room k (Cx.A X)) (h3 : Gl X x) (h4 : WA X (e :: es) t) (h5 : autoParam ((x == PySem.Str.ofString "__debug__") = false) pe_cal._auto_1) (h6 : autoParam (PySem.starEach (e :: es) (Cx.env X) = (false, PySem.eval e (Cx.env X)) :: PySem.starEach es (Cx.env X)) pe_cal._auto_2) (h7 : autoParam ((List.any (PySem.backTo pos (PySem.starEach es (Cx.env X))) fun x => Prod.fst x) = false) pe_cal._auto_3) : WE X (PySem.Expr.Call (PySem.Expr.Name x p) (e :: es) [] pos) (tCall sp [] E0 t) := WE.of (pe_cal h1 h2 h3 h4.to h5 h6 h7)
theorem wpa_nil {X : Cx} : WA X [] tNil := WA.of (pa_nil)
theorem wpa_cons {X : Cx} {e : PySem.Expr} {es : List PySem.Expr} {te : TE} {t : TA} (h1 : WE X e te) (h2 : WA X es t) (h3 : autoParam (PySem.starEach (e :: es) (Cx.env X) = (false, PySem.eval e (Cx.env X)) :: PySem.starEach es (Cx.env X)) pa_cons._auto_1) : WA X (e :: es) (tCons te t) := WA.of (pa_cons h1.to h2.to h3)
theorem wpa_consts {X : Cx} {es : List PySem.Expr} {vs : List V} (h1 : cVs es = some vs) : WA X es fun x H Q => Q vs H := WA.of (pa_consts h1)
theorem wpe_dget2 {X : Cx} {o e f : PySem.Expr} {apos cpos : PySem.Pos} {td ty tx : TE} (h1 : PySem.Around.units (Cx.A X) + 1 < PySem.cLine) (h2 : WE X o td) (h3 : WE X e ty) (h4 : WE X f tx) (h5 : M2 X o (PySem.Str.ofString "get") apos e f cpos) : WE X (PySem.Expr.Call (PySem.Expr.Attribute o (PySem.Str.ofString "get") apos) [e, f] [] cpos) (tDGet2 td ty tx) := WE.of (pe_dget2 h1 h2.to h3.to h4.to h5)
theorem wps_par {X : Cx} {pos : PySem.Pos} {i j : Nat} {x y : PySem.Str} {a b : PySem.Expr} {ta : TA} {px py pt : PySem.Pos} {kt k2 : Nat} {pt2 : PySem.Pos} (h1 : Cx.calm X = true) (h2 : List.Nodup (Cx.N X)) (h3 : (Cx.N X)[i]? = some x) (h4 : (Cx.N X)[j]? = some y) (h5 : i ≠ j) (h6 : List.lookup x (PySem.Scope.names (PySem.Env.scope (Cx.env X))) = some PySem.NameKind.local) (h7 : List.lookup y (PySem.Scope.names (PySem.Env.scope (Cx.env X))) = some PySem.NameKind.local) (h8 : WA X [a, b] ta) (h9 : PySem.swappedStores [PySem.Expr.Tuple [PySem.Expr.Name x px, PySem.Expr.Name y py] kt pt] (PySem.Expr.Tuple [a, b] k2 pt2) (Cx.env X) = pure (some [x, y])) (h10 : autoParam (PySem.swapsWithSole [PySem.Expr.Tuple [PySem.Expr.Name x px, PySem.Expr.Name y py] kt pt] (PySem.Expr.Tuple [a, b] k2 pt2) (PySem.Pos.line pos) (Cx.env X) = pure false) ps_par._auto_1) : WS X (PySem.Stmt.Assign [PySem.Expr.Tuple [PySem.Expr.Name x px, PySem.Expr.Name y py] kt pt] (PySem.Expr.Tuple [a, b] k2 pt2) pos) (tPar i j ta) := WS.of (ps_par h1 h2 h3 h4 h5 h6 h7 h8.to h9 h10)
theorem wop_add {X : Cx} : WOp X (PySem.binaryOp PySem.Operator.Add) (rI0 fun i j => V.int (i + j)) := WOp.of (op_add)
theorem wop_sub {X : Cx} : WOp X (PySem.binaryOp PySem.Operator.Sub) (rI0 fun i j => V.int (i - j)) := WOp.of (op_sub)
theorem wop_mul {X : Cx} : WOp X (PySem.binaryOp PySem.Operator.Mult) (rI CMul fun i j => V.int (i * j)) := WOp.of (op_mul)
theorem wop_fdiv {X : Cx} : WOp X (PySem.binaryOp PySem.Operator.FloorDiv) (rI CDiv fun i j => V.int (i / j)) := WOp.of (op_fdiv)
theorem wop_mod {X : Cx} : WOp X (PySem.binaryOp PySem.Operator.Mod) (rI (fun x j => 0 < j) fun i j => V.int (i % j)) := WOp.of (op_mod)
theorem wop_pow {X : Cx} : WOp X (PySem.binaryOp PySem.Operator.Pow) (rI CPow fun i j => V.int (i ^ Int.toNat j)) := WOp.of (op_pow)
theorem wop_eq {X : Cx} : WOp X (PySem.compareOp PySem.CmpOp.Eq) rEq := WOp.of (op_eq)
theorem wop_ne {X : Cx} : WOp X (PySem.compareOp PySem.CmpOp.NotEq) rNe := WOp.of (op_ne)
theorem wop_lt {X : Cx} : WOp X (PySem.compareOp PySem.CmpOp.Lt) (rI0 fun i j => V.bl (decide (i < j))) := WOp.of (op_lt)
theorem wop_gt {X : Cx} : WOp X (PySem.compareOp PySem.CmpOp.Gt) (rI0 fun i j => V.bl (decide (j < i))) := WOp.of (op_gt)
theorem wop_ge {X : Cx} : WOp X (PySem.compareOp PySem.CmpOp.GtE) (rI0 fun i j => V.bl (decide (j ≤ i))) := WOp.of (op_ge)
theorem wop_cat {X : Cx} : WOp X (PySem.binaryOp PySem.Operator.Add) rCat := WOp.of (op_cat)
theorem wop_neD {X : Cx} (h1 : PySem.Around.units (Cx.A X) + 64 < PySem.cLine) : WOp X (PySem.compareOp PySem.CmpOp.NotEq) (rNeD (Cx.K X)) := WOp.of (op_neD h1)
theorem wcr_repr {X : Cx} {k : Nat} (h1 : Room k (Cx.A X)) (p : PySem.Addr → Prop) : WCall X (PySem.Value.builtin "repr") (rRepr p) := WCall.of (cr_repr h1 p)
theorem wcall_len {X : Cx} : WCall X (PySem.Value.builtin "len") fun xs H Q => ∃ x n, xs = [x] ∧ LenV (Cx.K X) x H n ∧ Q (V.int ↑n) H := WCall.of (call_len)
theorem wcall_abs {X : Cx} : WCall X (PySem.Value.builtin "abs") fun xs H Q => ∃ i, xs = [V.int i] ∧ Q (V.int (if i < 0 then -i else i)) H := WCall.of (call_abs)
theorem wcall_list_of {X : Cx} : WCall X (PySem.Value.type "list") fun xs H Q => ∃ p ys, xs = [V.ref p] ∧ (SqL (Cx.K X) H p ys ∨ SqT (Cx.K X) H p ys) ∧ ∀ (l : PySem.Addr), H l = none → Q (V.ref l) (upd H l (HO.lst ys)) := WCall.of (call_list_of)
theorem wcall_tuple_of {X : Cx} : WCall X (PySem.Value.type "tuple") fun xs H Q => ∃ p ys, xs = [V.ref p] ∧ ((SqL (Cx.K X) H p ys ∧ ∀ (l : PySem.Addr), H l = none → Q (V.ref l) (upd H l (HO.tup ys))) ∨ SqT (Cx.K X) H p ys ∧ Q (V.ref p) H) := WCall.of (call_tuple_of)
theorem wcall_int1 {X : Cx} : WCall X (PySem.Value.type "int") fun xs H Q => (∃ i, xs = [V.int i] ∧ Q (V.int i) H) ∨ ∃ k, xs = [V.bl k] ∧ Q (V.int (if k = true then 1 else 0)) H := WCall.of (call_int1)
theorem wcall_dictP {X : Cx} (h1 : Cx.calm X = true) : WCall X (PySem.Value.type "dict") fun xs H Q => ∃ a ps kvs, xs = [V.ref a] ∧ SqL (Cx.K X) H a (List.map V.ref ps) ∧ PySem.Paired (fun p kv => SqT (Cx.K X) H p [kV (Prod.fst kv), Prod.snd kv]) ps kvs ∧ ∀ (p : PySem.Addr), H p = none → Q (V.ref p) (upd H p (HO.dK (mergeK [] kvs))) := WCall.of (call_dictP h1)
theorem wix_list {X : Cx} : WIx X (rIxL (Cx.K X)) := WIx.of (ix_list)
theorem wsl_list {X : Cx} : WSl X (rSlL (Cx.K X)) := WSl.of (sl_list)
theorem wpe_gref {X : Cx} {x : PySem.Str} {C : PySem.Addr} {pos : PySem.Pos} (h1 : Gl X x) (h2 : Cx.mg X x = some (PySem.Value.ref C)) (h3 : autoParam ((x == PySem.Str.ofString "__debug__") = false) pe_gref._auto_1) : WE X (PySem.Expr.Name x pos) (tC (V.ref C)) := WE.of (pe_gref h1 h2 h3)
theorem wpe_fldQ {X : Cx} {f : PySem.Str} {e : PySem.Expr} {ta : TE} {pos : PySem.Pos} (h1 : WE X e ta) (h2 : PySem.attributeBase e f (Cx.env X) (PySem.eval e (Cx.env X)) = PySem.eval e (Cx.env X)) : WE X (PySem.Expr.Attribute e f pos) (tFldQ (Cx.K X) ta f) := WE.of (pe_fldQ h1.to h2)
theorem wcr_isT {X : Cx} : WCall X (PySem.Value.builtin "isinstance") (rIsT (Cx.K X)) := WCall.of (cr_isT)
theorem wcr_isN {X : Cx} : WCall X (PySem.Value.builtin "isinstance") (rIsN (Cx.K X)) := WCall.of (cr_isN)
theorem wpe_dc {X : Cx} {key val tg iter : PySem.Expr} {ifs : List PySem.Expr} {scope : PySem.Scope} {own : List (PySem.Str × Nat)} {pos : PySem.Pos} {wi : TI} {g : TG} {tt : TT} {te tv : TE} (h1 : Cx.calm X = true) (h2 : List.Nodup (Cx.N X)) (h3 : WI X tg iter wi) (h4 : BlkOk (Cx.N X) (PySem.Env.scope (Cx.env X)) scope own) (h5 : (∀ (s : PySem.Shared) (H : Hp) (C : PySem.Addr) (cl : List (PySem.Str × PySem.Addr)) (fp : List PySem.Addr), WG (Cx.blk X s H scope (PySem.compEnvC scope cl C (Cx.env X)) fp) tg g)) (h6 : (∀ (s : PySem.Shared) (H : Hp) (C : PySem.Addr) (cl : List (PySem.Str × PySem.Addr)) (fp : List PySem.Addr), WTs (Cx.blk X s H scope (PySem.compEnvC scope cl C (Cx.env X)) fp) ifs tt)) (h7 : (∀ (s : PySem.Shared) (H : Hp) (C : PySem.Addr) (cl : List (PySem.Str × PySem.Addr)) (fp : List PySem.Addr), WE (Cx.blk X s H scope (PySem.compEnvC scope cl C (Cx.env X)) fp) key te)) (h8 : (∀ (s : PySem.Shared) (H : Hp) (C : PySem.Addr) (cl : List (PySem.Str × PySem.Addr)) (fp : List PySem.Addr), WE (Cx.blk X s H scope (PySem.compEnvC scope cl C (Cx.env X)) fp) val tv)) (h9 : autoParam (∀ (x : PySem.Value), PySem.foldedSetIterable iter (Cx.env X) x = pure x) pe_dc._auto_1) : WE X (PySem.Expr.DictComp key val [{ target := tg, iter := iter, ifs := ifs, is_async := 0 }] scope pos) (tDc wi g tt te tv (List.map (fun x => Prod.snd x) own)) := WE.of (pe_dc h1 h2 h3.to h4 (fun s H C cl fp => (h5 s H C cl fp).to) (fun s H C cl fp => (h6 s H C cl fp).to) (fun s H C cl fp => (h7 s H C cl fp).to) (fun s H C cl fp => (h8 s H C cl fp).to) h9)
theorem wop_neE {X : Cx} (h1 : PySem.Around.units (Cx.A X) + 64 < PySem.cLine) : WOp X (PySem.compareOp PySem.CmpOp.NotEq) (rEqE (Cx.K X) true) := WOp.of (op_neE h1)
theorem wpe_append {X : Cx} {o e : PySem.Expr} {to te : TE} {apos cpos : PySem.Pos} (h1 : WE X o to) (h2 : WE X e te) (hb : attributeBase o "append" X.env (eval o X.env) = eval o X.env := by rfl)
    (hf : ((backTo cpos (starEach [e] X.env)).all (fun x => !x.1) && (backToKw cpos (keywordEach [] X.env)).all (fun x => x.1.isSome) && decide (([e] : List PySem.Expr).length + ([] : List Keyword).length + (if ([] : List Keyword).isEmpty then 0 else 1) < 30)) = true := by rfl)
    (hl : (apos.endLine == cpos.line) = true := by rfl) (hs : starEach [e] X.env = (false, eval e X.env) :: starEach [] X.env := by rfl) (hp : (backTo cpos (starEach [] X.env)).any (·.1) = false := by rfl) :
    WE X (.Call (.Attribute o "append" apos) [e] [] cpos) (tBM X.K "list" rAppend to (tCons te tNil)) :=
  WE.of (pe_bm PySem.F.plainAttrs_list PySem.F.slot_list_append PySem.F.type_list_append mt_append h1.to (pa_cons h2.to pa_nil hs) hb hf hl hs hp)
theorem wpt_val {X : Cx} {e : PySem.Expr} {t : TE} (h1 : WE X e t) (h2 : ∀ whole, isTrue e X.env whole = (do let v ← whole; standAt e.pos; holding [v] (truthy v)) := by intro _; rfl) : WT X e (tB t) := WT.of (pt_val h1.to h2)
theorem wpt_truth {X : Cx} {a : PySem.Expr} {ta : TE} (h1 : WE X a ta) (h2 : ∀ whole, isTrue a X.env whole = (do let v ← whole; standAt a.pos; holding [v] (truthy v))) : WT X a (fun σ H Q => ta σ H fun x H' => ∃ k, TruV X.K x H' k ∧ Q k H') := WT.of (pt_truth h1.to h2)
theorem WW.pt {X : Cx} {e : PySem.Expr} {t : TT} (h : WW X e t) : WT X e t := WT.of (PW.pt h.to)
/-- a def's promise, from its body -/
theorem wcal_of {P : Program} {w : World} {K : PySem.W.Frag} {mg : Str → Option Value} {base : Heap} {x : Str} {st : Stmt} {N ps : List Str} {k : Nat} {sp : Sp} (d : Def K mg x st ps) (S : FnScope N ps (defScope st))
    (len : ∀ vs H Q E, sp vs H Q E → vs.length = ps.length)
    (hbody : ∀ (f : Addr) (cdv : Value) (A : Around) (outer : List Env) (s : Shared) (H : Hp) (vs : List V) (Q : VK) (E : XK), Room k (A.deeper (envOfC x (defScope st) s.heap.objs.size f cdv)) → sp vs H Q E →
      ∃ t, WSs (cxOf CX0 P w K mg base N x (defScope st) f cdv A outer s H E).nox (defBody st) t ∧ t { nx := fun _ H' => Q .non H', rt := Q } (start N vs) H) : Cal P w K mg base x ps (k + 1) sp :=
  cal_of d S len fun f cdv A outer s H vs Q E hr h => let ⟨t, h1, h2⟩ := hbody f cdv A outer s H vs Q E hr h; ⟨t, h1.to, h2⟩
theorem wfn_of {P : Program} {w : World} {K : PySem.W.Frag} {mg : Str → Option Value} {base : Heap} {x : Str} {st : Stmt} {f : Addr} {fd : FuncData} {N ps : List Str} {k : Nat} {sp : Sp} (F : Fun K x x st f fd) (S : FnScope N ps (defScope st))
    (len : ∀ vs H Q E, sp vs H Q E → vs.length = ps.length)
    (hbody : ∀ (cdv : Value) (A : Around) (outer : List Env) (s : Shared) (H : Hp) (vs : List V) (Q : VK) (E : XK), Room k (A.deeper (envOfC x (defScope st) s.heap.objs.size f cdv)) → sp vs H Q E →
      ∃ t, WSs (cxOf CX0 P w K mg base N x (defScope st) f cdv A outer s H E).nox (defBody st) t ∧ t { nx := fun _ H' => Q .non H', rt := Q } (start N vs) H) : FnOk P w K mg base CX0 (k + 1) f fd ps sp :=
  F.ok S len fun cdv A outer s H vs Q E hr h => let ⟨t, h1, h2⟩ := hbody cdv A outer s H vs Q E hr h; ⟨t, h1.to, h2⟩
theorem wpe_setdefault {X : Cx} {o e e2 : PySem.Expr} {to te te2 : TE} {apos cpos : PySem.Pos} (h1 : WE X o to) (h2 : WE X e te) (h3 : WE X e2 te2) (hb : attributeBase o "setdefault" X.env (eval o X.env) = eval o X.env := by rfl)
    (hf : ((backTo cpos (starEach [e, e2] X.env)).all (fun x => !x.1) && (backToKw cpos (keywordEach [] X.env)).all (fun x => x.1.isSome) && decide (([e, e2] : List PySem.Expr).length + ([] : List Keyword).length + (if ([] : List Keyword).isEmpty then 0 else 1) < 30)) = true := by rfl)
    (hl : (apos.endLine == cpos.line) = true := by rfl) (hs : starEach [e, e2] X.env = (false, eval e X.env) :: starEach [e2] X.env := by rfl) (hs2 : starEach [e2] X.env = (false, eval e2 X.env) :: starEach [] X.env := by rfl) (hp : (backTo cpos (starEach [e2] X.env)).any (·.1) = false := by rfl) :
    WE X (.Call (.Attribute o "setdefault" apos) [e, e2] [] cpos) (tBM X.K "dict" rSetDef to (tCons te (tCons te2 tNil))) :=
  WE.of (pe_bm PySem.F.plainAttrs_dict PySem.F.slot_dict_setdefault PySem.F.type_dict_setdefault mt_setdefault h1.to (pa_cons h2.to (pa_cons h3.to pa_nil hs2) hs) hb hf hl hs hp)
end L2

set_option Elab.async false
set_option linter.all false
set_option maxRecDepth 100000
namespace L2
open PySem PySem.Spec PyProof.Rows
section
variable {X : Cx} {k : Nat} {sp : Sp} {C : Addr} {x m : Str} {ps : List Str} {p pos apos : Pos} {o e : PySem.Expr} {es : List PySem.Expr} {ta : TE} {t : TA}
theorem wpe_mcal0 {pl : Sem Bool} (c : MCal X.prog X.w X.K X.mg X.base C m ps k sp) (hr : Room k X.A) (he : WE X o ta)
    (ht : eval (.Call (.Attribute o m apos) [] [] pos) X.env = (do
      let ov ← eval o X.env
      standAt apos.atName
      let (f, first) ← holding [ov] (getMethod ov m pl)
      callWith pos f first (backTo pos (starEach [] X.env)) (backToKw pos (keywordEach [] X.env))) := by rfl) :
    WE X (.Call (.Attribute o m apos) [] [] pos) (tMeth C m sp [] E0 ta tNil) := WE.of (pe_mcal0 c hr he.to ht)
end
section
variable {P : Program} {w : World} {K : PySem.W.Frag} {mg : Str → Option Value} {base : Heap} {C : Addr} {x m qual : Str} {st : Stmt} {N ps : List Str} {k : Nat} {sp : Sp}
/-- a method's promise, from its body -/
theorem wmcal_of (d : MDef K C m qual st ps) (S : FnScope N ps (defScope st)) (len : ∀ vs H Q E, sp vs H Q E → vs.length = ps.length)
    (hb : ∀ (f : Addr) (cdv : Value) (A : Around) (outer : List Env) (s : Shared) (H : Hp) (vs : List V) (Q : VK) (E : XK), Room k (A.deeper (envOfC qual (defScope st) s.heap.objs.size f cdv)) → sp vs H Q E →
      ∃ t, WSs (cxOf CX0 P w K mg base N qual (defScope st) f cdv A outer s H E).nox (defBody st) t ∧ t { nx := fun _ H' => Q .non H', rt := Q } (start N vs) H) : MCal P w K mg base C m ps (k + 1) sp := by
  obtain ⟨f, fd, c1, c2, F, b⟩ := d.ex
  exact ⟨f, fd, c1, c2, F.ok S len (fun cdv A outer s H vs Q E hr h => let ⟨t, h1, h2⟩ := hb f cdv A outer s H vs Q E hr h; ⟨t, h1.to, h2⟩), b⟩
end
end L2

set_option Elab.async false
set_option linter.all false
set_option maxRecDepth 100000
namespace L2
open PySem
/-! ### rising order of keys -/
def kle : Key → Key → Bool
  | .inl a, .inl b => decide (a ≤ b)
  | .inr a, .inr b => !decide (b.cps.toList < a.cps.toList)
  | .inl _, .inr _ => true
  | .inr _, .inl _ => false
theorem str_ext {a b : Str} (h : a.cps.toList = b.cps.toList) : a = b := by
  obtain ⟨x⟩ := a; obtain ⟨y⟩ := b
  congr
  exact Array.toList_inj.mp h
theorem kle_anti : ∀ (a b : Key), kle a b = true → kle b a = true → a = b
  | .inl a, .inl b, h, h' => by simp only [kle, decide_eq_true_eq] at *; rw [Int.le_antisymm h h']
  | .inr a, .inr b, h, h' => by
    simp only [kle, Bool.not_eq_true', decide_eq_false_iff_not] at *
    rw [str_ext (List.le_antisymm (as := a.cps.toList) (bs := b.cps.toList) h h')]
  | .inl _, .inr _, _, h => by cases h
  | .inr _, .inl _, h, _ => by cases h
theorem kle_trans : ∀ (a b c : Key), kle a b = true → kle b c = true → kle a c = true
  | .inl a, .inl b, .inl c, h, h' => by simp only [kle, decide_eq_true_eq] at *; omega
  | .inr a, .inr b, .inr c, h, h' => by
    simp only [kle, Bool.not_eq_true', decide_eq_false_iff_not] at *
    exact List.le_trans (l₁ := a.cps.toList) (l₂ := b.cps.toList) (l₃ := c.cps.toList) h h'
  | .inl _, _, .inr _, _, _ => rfl
  | .inl _, .inr _, .inl _, _, h => by cases h
  | .inr _, .inl _, _, h, _ => by cases h
  | .inr _, .inr _, .inl _, _, h => by cases h
section
variable {α : Type} (f : α → Key)
def Up (l : List α) : Prop := l.Pairwise fun a b => kle (f a) (f b) = true
variable {f}
theorem up_uniq : ∀ {l l' : List α}, l.Perm l' → Up f l → Up f l' → (l.map f).Nodup → l = l'
  | [], l', p, _, _, _ => (List.nil_perm.mp p).symm ▸ rfl
  | x :: l, [], p, _, _, _ => absurd p.length_eq (by simp)
  | x :: l, y :: l', p, h, h', nd => by
    have a := List.pairwise_cons.mp h
    have b := List.pairwise_cons.mp h'
    have nd' := List.nodup_cons.mp (show (f x :: l.map f).Nodup from nd)
    have hxy : x = y := by
      have hx : x ∈ y :: l' := p.mem_iff.mp (List.mem_cons_self ..)
      have hy : y ∈ x :: l := p.mem_iff.mpr (List.mem_cons_self ..)
      rcases List.mem_cons.mp hx with e | hx
      · exact e
      rcases List.mem_cons.mp hy with e | hy
      · exact e.symm
      exact absurd (kle_anti _ _ (a.1 y hy) (b.1 x hx)) fun e => nd'.1 (by rw [e]; exact List.mem_map.mpr ⟨y, hy, rfl⟩)
    subst hxy
    rw [up_uniq (List.Perm.cons_inv p) a.2 b.2 nd'.2]
end
theorem pr_get2 {α β : Type} {R : α → β → Prop} : ∀ {l : List α} {l' : List β} {i : Nat} {y : β}, Paired R l l' → l'[i]? = some y → ∃ x, l[i]? = some x ∧ R x y
  | _, _, _, _, .nil, e => by simp at e
  | _, _, 0, _, .cons r _, e => by simp at e; subst e; exact ⟨_, rfl, r⟩
  | _, _, i + 1, _, .cons _ t, e => by simpa using pr_get2 t (by simpa using e)
theorem pr_mem2 {α β : Type} {R : α → β → Prop} {l : List α} {l' : List β} {y : β} (p : Paired R l l') (h : y ∈ l') : ∃ x ∈ l, R x y := by
  obtain ⟨i, hi⟩ := List.mem_iff_getElem?.mp h
  obtain ⟨x, hx, r⟩ := pr_get2 p hi
  exact ⟨x, List.mem_of_getElem? hx, r⟩
theorem pr_maps {α β γ : Type} {R : α → β → Prop} {f : α → γ} {g : β → γ} (h : ∀ a b, R a b → f a = g b) : ∀ {l : List α} {l' : List β}, Paired R l l' → l.map f = l'.map g
  | _, _, .nil => rfl
  | _, _, .cons r t => by rw [List.map_cons, List.map_cons, h _ _ r, pr_maps h t]
open PySem.Spec (ltCps)
open PyProof.Rows (sortedS risingS)
theorem ltCps_lt : ∀ (a b : List Nat), ltCps a b = decide (a < b)
  | [], [] => by simp [ltCps]
  | _ :: _, [] => by simp [ltCps]
  | [], _ :: _ => by simp [ltCps]
  | x :: a, y :: b => by
    rw [show ltCps (x :: a) (y :: b) = (decide (x < y) || (x == y && ltCps a b)) from rfl, ltCps_lt a b]
    by_cases h : x < y
    · simp [h, List.cons_lt_cons_iff]
    · by_cases e : x = y
      · subst e; simp [List.cons_lt_cons_iff]
      · simp [h, e, List.cons_lt_cons_iff]
theorem rising_up : ∀ (p : Str) (r : List Str), risingS p r = true → Up (fun x : Str => (Sum.inr x : Key)) (p :: r)
  | p, [], _ => List.pairwise_singleton _ _
  | p, x :: r, h => by
    have h' : (!ltCps x.cps.toList p.cps.toList) = true ∧ risingS x r = true := Bool.and_eq_true_iff.mp (show (!ltCps x.cps.toList p.cps.toList && risingS x r) = true from h)
    have u := rising_up x r h'.2
    have px : kle (Sum.inr p) (Sum.inr x) = true := by rw [kle, ← ltCps_lt]; exact h'.1
    refine List.pairwise_cons.mpr ⟨fun y hy => ?_, u⟩
    rcases List.mem_cons.mp hy with rfl | hy
    · exact px
    · exact kle_trans _ _ _ px ((List.pairwise_cons.mp u).1 y hy)
theorem up_S {ys : List Str} (h : sortedS ys = true) : Up (fun x : Str => (Sum.inr x : Key)) ys := by
  cases ys with
  | nil => exact List.Pairwise.nil
  | cons x r => exact rising_up x r h
theorem map_inj_nodup {α β : Type} {f : α → β} (hf : ∀ a b, f a = f b → a = b) : ∀ {l : List α}, l.Nodup → (l.map f).Nodup
  | [], _ => List.nodup_nil
  | x :: l, h => by
    obtain ⟨h1, h2⟩ := List.nodup_cons.mp h
    refine List.nodup_cons.mpr ⟨fun m => ?_, map_inj_nodup hf h2⟩
    obtain ⟨y, hy, e⟩ := List.mem_map.mp m
    exact h1 (hf _ _ e ▸ hy)
theorem valV_hit {kvs : List (Key × V)} {k : Key} {v : V} (nd : (kvs.map (·.1)).Nodup) (h : (k, v) ∈ kvs) : valV kvs k = some v := by
  induction kvs with
  | nil => cases h
  | cons p r ih =>
    obtain ⟨n1, n2⟩ := List.nodup_cons.mp (show (p.1 :: r.map (·.1)).Nodup from nd)
    unfold valV
    rw [List.find?_cons]
    by_cases e : p.1 = k
    · rw [decide_eq_true e]
      rcases List.mem_cons.mp h with q | q
      · rw [← q]; rfl
      · exact absurd (List.mem_map.mpr ⟨_, q, rfl⟩) (e ▸ n1)
    · rw [decide_eq_false e]
      rcases List.mem_cons.mp h with q | q
      · rw [← q] at e; exact absurd rfl e
      · exact ih n2 q
theorem valV_at {kvs : List (Key × V)} {k : Key} {v : V} (h : valV kvs k = some v) : (k, v) ∈ kvs := by
  unfold valV at h
  obtain ⟨p, hp, rfl⟩ := Option.map_eq_some_iff.mp h
  have := List.find?_some hp
  rw [← of_decide_eq_true this]
  exact List.mem_of_find?_eq_some hp
theorem putK_snoc {kvs : List (Key × V)} {k : Key} {v : V} (h : k ∉ kvs.map (·.1)) : putK kvs k v = kvs ++ [(k, v)] := by
  unfold putK
  rw [if_neg]
  rw [List.any_eq_true]
  rintro ⟨x, hx, e⟩
  exact h (List.mem_map.mpr ⟨x, hx, by simpa using e⟩)
theorem take_next {α : Type} {xs : List α} {i : Nat} {x : α} (h : xs[i]? = some x) : xs.take (i + 1) = xs.take i ++ [x] := by rw [List.take_succ, h]; rfl
end L2

set_option Elab.async false
set_option linter.all false
set_option maxRecDepth 100000
namespace L2
open PySem
/-! ### webs as data -/
abbrev Wo := List (Key × V)
structure Kn where
  n : Int
  kind : Str
  wo : Wo
structure Ti where
  n : Int
  kind : Str
  a : Int
  b : Int
  w : Int
structure Wb where
  ks : List Kn
  ts : List Ti
abbrev Kn.key (k : Kn) : Key := .inl k.n
abbrev Ti.key (t : Ti) : Key := .inl t.n
def isW (v : V) : Prop := (∃ i, v = .int i) ∨ ∃ s, v = .str s
theorem isW.flat {v : V} (h : isW v) : flatV v = true := by rcases h with ⟨i, rfl⟩ | ⟨s, rfl⟩ <;> rfl
theorem isW.eqv {v w : V} (h : isW v) (h' : isW w) : eqV v w = decide (v = w) := by
  rcases h with ⟨i, rfl⟩ | ⟨s, rfl⟩ <;> rcases h' with ⟨j, rfl⟩ | ⟨t, rfl⟩
  · by_cases e : i = j <;> simp [eqV, e]
  · simp [eqV]
  · simp [eqV]
  · by_cases e : s = t <;> simp [eqV, e]
/-- worths by their names -/
structure WoOk (wo : Wo) : Prop where
  ks : ∃ zs : List Str, wo.map (·.1) = zs.map Sum.inr ∧ zs.Nodup
  fl : ∀ p ∈ wo, isW p.2
  len : wo.length < 64
structure WbOk (S : Wb) : Prop where
  kn : (S.ks.map Kn.n).Nodup
  tn : (S.ts.map Ti.n).Nodup
  wo : ∀ k ∈ S.ks, WoOk k.wo
  kl : S.ks.length < 64
  tl : S.ts.length < 64
theorem nd_key {α : Type} {f : α → Int} {l : List α} (h : (l.map f).Nodup) : (l.map fun x => (Sum.inl (f x) : Key)).Nodup := by
  have := map_inj_nodup (f := fun n : Int => (Sum.inl n : Key)) (fun a b e => Sum.inl.inj e) h
  rwa [List.map_map] at this
theorem WoOk.nd {wo : Wo} (h : WoOk wo) : (wo.map (·.1)).Nodup := by
  obtain ⟨zs, e, nd⟩ := h.ks
  rw [e]
  exact map_inj_nodup (fun a b e => Sum.inr.inj e) nd
theorem WoOk.perm {wo wo' : Wo} (h : WoOk wo) (p : wo'.Perm wo) : WoOk wo' := by
  obtain ⟨zs, e, nd⟩ := h.ks
  refine ⟨?_, fun q hq => h.fl q (p.mem_iff.mp hq), by rw [p.length_eq]; exact h.len⟩
  refine ⟨wo'.map (fun q => match q.1 with | .inr z => z | .inl _ => ""), ?_, ?_⟩
  · rw [List.map_map]
    refine List.map_congr_left fun q hq => ?_
    have : q.1 ∈ wo.map (·.1) := List.mem_map.mpr ⟨q, p.mem_iff.mp hq, rfl⟩
    rw [e] at this
    obtain ⟨z, _, ez⟩ := List.mem_map.mp this
    simp only [Function.comp]
    rw [← ez]
  · have p2 : (wo'.map (·.1)).Nodup := (p.map _).nodup_iff.mpr h.nd
    refine List.Pairwise.of_map (f := fun z : Str => (Sum.inr z : Key)) (fun a b (q : (Sum.inr a : Key) ≠ Sum.inr b) (z : a = b) => q (by rw [z])) ?_
    rw [List.map_map]
    refine (List.map_congr_left fun q hq => ?_) ▸ p2
    have : q.1 ∈ wo.map (·.1) := List.mem_map.mpr ⟨q, p.mem_iff.mp hq, rfl⟩
    rw [e] at this
    obtain ⟨z, _, ez⟩ := List.mem_map.mp this
    simp only [Function.comp]
    rw [← ez]
theorem WoOk.filter {wo : Wo} (h : WoOk wo) (p : Key × V → Bool) : WoOk (wo.filter p) := by
  obtain ⟨zs, e, nd⟩ := h.ks
  refine ⟨?_, fun q hq => h.fl q (List.mem_filter.mp hq).1, Nat.lt_of_le_of_lt (List.length_filter_le ..) h.len⟩
  have : ∀ (w : Wo) (zs : List Str), w.map (·.1) = zs.map Sum.inr → zs.Nodup → ∃ ys : List Str, (w.filter p).map (·.1) = ys.map Sum.inr ∧ ys.Nodup ∧ ∀ y ∈ ys, y ∈ zs := by
    intro w
    induction w with
    | nil => exact fun zs _ _ => ⟨[], rfl, List.nodup_nil, fun y h => nomatch h⟩
    | cons q r ih =>
      intro zs hz hn
      cases zs with
      | nil => simp at hz
      | cons z zs =>
        rw [List.map_cons, List.map_cons] at hz
        injection hz with h1 h2
        obtain ⟨n1, n2⟩ := List.nodup_cons.mp hn
        obtain ⟨ys, e1, e2, e3⟩ := ih zs h2 n2
        rw [List.filter_cons]
        split
        · exact ⟨z :: ys, by rw [List.map_cons, List.map_cons, h1, e1], List.nodup_cons.mpr ⟨fun m => n1 (e3 _ m), e2⟩, fun y hy => by
            rcases List.mem_cons.mp hy with rfl | hy
            · exact List.mem_cons_self ..
            · exact List.mem_cons_of_mem _ (e3 y hy)⟩
        · exact ⟨ys, e1, e2, fun y hy => List.mem_cons_of_mem _ (e3 y hy)⟩
  obtain ⟨ys, e1, e2, _⟩ := this wo zs e nd
  exact ⟨ys, e1, e2⟩
/-! ### where they lie -/
def KnAt (N : Addr → Prop) (H : Hp) (q : Key × V) (k : Kn) : Prop := ∃ t w, q = (.inl k.n, .ref t) ∧ N t ∧ H t = some (.tup [.str k.kind, .ref w]) ∧ N w ∧ H w = some (.dK k.wo)
def TiAt (N : Addr → Prop) (H : Hp) (q : Key × V) (τ : Ti) : Prop := ∃ t, q = (.inl τ.n, .ref t) ∧ N t ∧ H t = some (.tup [.str τ.kind, .int τ.a, .int τ.b, .int τ.w])
abbrev KnsAt (N : Addr → Prop) (H : Hp) : List (Key × V) → List Kn → Prop := Paired (KnAt N H)
abbrev TisAt (N : Addr → Prop) (H : Hp) : List (Key × V) → List Ti → Prop := Paired (TiAt N H)
def ends (p : Ti → Int) (ts : List Ti) (n : Int) : List Int := (ts.filter fun τ => decide (p τ = n)).map Ti.n
def IxAt (N : Addr → Prop) (H : Hp) (d : Addr) (p : Ti → Int) (ts : List Ti) : Prop := N d ∧ ∃ kvs, H d = some (.dK kvs) ∧ ∀ n : Int, (valV kvs (.inl n) = none ∧ ends p ts n = []) ∨ ∃ l, valV kvs (.inl n) = some (.ref l) ∧ N l ∧ H l = some (.lst ((ends p ts n).map V.int))
def webF (kr tr tf ti : Addr) : List (Str × V) := [("knot_rows", .ref kr), ("tie_rows", .ref tr), ("ties_from", .ref tf), ("ties_into", .ref ti)]
structure WebAt (N : Addr → Prop) (C : Addr) (H : Hp) (x : Addr) (W : Wb) : Prop where
  ex : ∃ (dx kr tr tf ti : Addr) (kvs tvs : List (Key × V)), N x ∧ H x = some (.ins C dx (webF kr tr tf ti)) ∧ N kr ∧ H kr = some (.dK kvs) ∧ KnsAt N H kvs W.ks ∧ N tr ∧ H tr = some (.dK tvs) ∧ TisAt N H tvs W.ts ∧ IxAt N H tf Ti.a W.ts ∧ IxAt N H ti Ti.b W.ts
section
variable {N M : Addr → Prop} {H H' : Hp}
theorem KnAt.move {q : Key × V} {k : Kn} (h : KnAt N H q k) (e : ∀ b o, N b → H b = some o → M b ∧ H' b = some o) : KnAt M H' q k := by
  obtain ⟨t, w, a, b, c, d, f⟩ := h
  exact ⟨t, w, a, (e _ _ b c).1, (e _ _ b c).2, (e _ _ d f).1, (e _ _ d f).2⟩
theorem TiAt.move {q : Key × V} {k : Ti} (h : TiAt N H q k) (e : ∀ b o, N b → H b = some o → M b ∧ H' b = some o) : TiAt M H' q k := by
  obtain ⟨t, a, b, c⟩ := h
  exact ⟨t, a, (e _ _ b c).1, (e _ _ b c).2⟩
theorem KnsAt.move {kvs : List (Key × V)} {ks : List Kn} (h : KnsAt N H kvs ks) (e : ∀ b o, N b → H b = some o → M b ∧ H' b = some o) : KnsAt M H' kvs ks := Paired.mapP h fun _ _ q => KnAt.move q e
theorem TisAt.move {kvs : List (Key × V)} {ks : List Ti} (h : TisAt N H kvs ks) (e : ∀ b o, N b → H b = some o → M b ∧ H' b = some o) : TisAt M H' kvs ks := Paired.mapP h fun _ _ q => TiAt.move q e
theorem IxAt.move {d : Addr} {p : Ti → Int} {ts : List Ti} (h : IxAt N H d p ts) (e : ∀ b o, N b → H b = some o → M b ∧ H' b = some o) : IxAt M H' d p ts := by
  obtain ⟨a, kvs, b, c⟩ := h
  refine ⟨(e _ _ a b).1, kvs, (e _ _ a b).2, fun n => ?_⟩
  rcases c n with q | ⟨l, q1, q2, q3⟩
  · exact .inl q
  · exact .inr ⟨l, q1, (e _ _ q2 q3).1, (e _ _ q2 q3).2⟩
theorem WebAt.move {C x : Addr} {W : Wb} (h : WebAt N C H x W) (e : ∀ b o, N b → H b = some o → M b ∧ H' b = some o) : WebAt M C H' x W := by
  obtain ⟨dx, kr, tr, tf, ti, kvs, tvs, a1, a2, a3, a4, a5, a6, a7, a8, a9, a10⟩ := h.ex
  exact ⟨dx, kr, tr, tf, ti, kvs, tvs, (e _ _ a1 a2).1, (e _ _ a1 a2).2, (e _ _ a3 a4).1, (e _ _ a3 a4).2, a5.move e, (e _ _ a6 a7).1, (e _ _ a6 a7).2, a8.move e, a9.move e, a10.move e⟩
theorem WebAt.same {C x : Addr} {W : Wb} (h : WebAt N C H x W) (s : Same H H') : WebAt N C H' x W := h.move fun b o n q => ⟨n, s _ _ q⟩
end
theorem KnsAt.keys {N : Addr → Prop} {H : Hp} {kvs : List (Key × V)} {ks : List Kn} (h : KnsAt N H kvs ks) : kvs.map (·.1) = ks.map Kn.key := pr_maps (fun _ _ ⟨_, _, e, _⟩ => by rw [e]) h
theorem TisAt.keys {N : Addr → Prop} {H : Hp} {kvs : List (Key × V)} {ks : List Ti} (h : TisAt N H kvs ks) : kvs.map (·.1) = ks.map Ti.key := pr_maps (fun _ _ ⟨_, e, _⟩ => by rw [e]) h
/-- one of them by its number -/
theorem KnsAt.at {N : Addr → Prop} {H : Hp} {kvs : List (Key × V)} {ks : List Kn} (h : KnsAt N H kvs ks) (nd : (ks.map Kn.n).Nodup) {k : Kn} (hk : k ∈ ks) : ∃ t w, valV kvs (.inl k.n) = some (.ref t) ∧ N t ∧ H t = some (.tup [.str k.kind, .ref w]) ∧ N w ∧ H w = some (.dK k.wo) := by
  obtain ⟨q, hq, t, w, rfl, r⟩ := pr_mem2 h hk
  refine ⟨t, w, valV_hit ?_ hq, r⟩
  rw [h.keys]
  exact nd_key nd
theorem TisAt.at {N : Addr → Prop} {H : Hp} {kvs : List (Key × V)} {ks : List Ti} (h : TisAt N H kvs ks) (nd : (ks.map Ti.n).Nodup) {k : Ti} (hk : k ∈ ks) : ∃ t, valV kvs (.inl k.n) = some (.ref t) ∧ N t ∧ H t = some (.tup [.str k.kind, .int k.a, .int k.b, .int k.w]) := by
  obtain ⟨q, hq, t, rfl, r⟩ := pr_mem2 h hk
  refine ⟨t, valV_hit ?_ hq, r⟩
  rw [h.keys]
  exact nd_key nd
end L2

set_option Elab.async false
set_option linter.all false
set_option maxRecDepth 100000
namespace L2
open PySem
end L2

set_option Elab.async false
set_option linter.all false
set_option maxRecDepth 100000
namespace L2
open PySem PySem.Spec PyProof.Rows
/-! ### bars -/
inductive Bar where
  | kind (s : Str) | one (n : Int) | ties (s : Str) | name (s : Str) | hold (s : Str) (v : V)
def Bar.word : Bar → Str
  | .kind _ => "kind" | .one _ => "one" | .ties _ => "ties" | .name _ => "name" | .hold _ _ => "holding"
def Bar.snd : Bar → V
  | .kind s => .str s | .one n => .int n | .ties s => .str s | .name s => .str s | .hold s _ => .str s
def Bar.rest : Bar → List V
  | .hold _ v => [v]
  | _ => []
def Bar.vs (b : Bar) : List V := .str b.word :: b.snd :: b.rest
def Bar.ok : Bar → Prop
  | .hold _ v => isW v
  | _ => True
theorem Bar.flat {b : Bar} (h : b.ok) : b.vs.all flatV = true := by
  cases b <;> first | rfl | (show (true && (true && (flatV _ && true))) = true; rw [isW.flat h]; rfl)
def BarsAt (K : PySem.W.Frag) (H : Hp) (a : Addr) (bs : List Bar) : Prop := ∃ (b : Bool) (ps : List Addr), Sqb b K H a (ps.map V.ref) ∧ Paired (fun p β => SqT K H p (Bar.vs β)) ps bs ∧ (∀ β ∈ bs, β.ok) ∧ bs.length ≤ 500
theorem BarsAt.up {K : PySem.W.Frag} {H H' : Hp} {a : Addr} {bs : List Bar} (h : BarsAt K H a bs) (s : Same H H') : BarsAt K H' a bs := by
  obtain ⟨b, ps, h1, h2, h3⟩ := h
  exact ⟨b, ps, h1.up fun o => s _ o, Paired.mapP h2 fun p β q => Sqb.up (b := false) q fun o => s _ o, h3⟩
def nameB (bs : List Bar) (q : Key) : Bool := bs.any fun β => match β with | .name s => decide (q = .inr s) | _ => false
def hasN (ks : List Kn) (n : Int) : Bool := ks.any fun k => decide (k.n = n)
def Kn.left (bs : List Bar) (k : Kn) : Kn := { k with wo := k.wo.filter fun q => !nameB bs q.1 }
end L2

set_option Elab.async false
set_option linter.all false
set_option maxRecDepth 100000
namespace L2
open PySem
theorem WoOk.name {wo : Wo} (h : WoOk wo) {q : Key × V} (hq : q ∈ wo) : ∃ s, q.1 = .inr s := by
  obtain ⟨zs, e, _⟩ := h.ks
  have : q.1 ∈ wo.map (·.1) := List.mem_map.mpr ⟨q, hq, rfl⟩
  rw [e] at this
  obtain ⟨s, _, es⟩ := List.mem_map.mp this
  exact ⟨s, es.symm⟩
theorem merge_nodup : ∀ {l kvs : List (Key × V)}, ((kvs ++ l).map (·.1)).Nodup → mergeK kvs l = kvs ++ l
  | [], kvs, _ => by rw [List.append_nil]; rfl
  | (k, v) :: l, kvs, h => by
    have nk : k ∉ kvs.map (·.1) := by
      rw [List.map_append, List.map_cons] at h
      exact fun hm => (List.nodup_append.mp h).2.2 k hm k (List.mem_cons_self ..) rfl
    show mergeK (putK kvs k v) l = _
    rw [putK_snoc nk, merge_nodup (by rw [List.append_assoc]; exact h), List.append_assoc]; rfl
theorem merge_nil {l : List (Key × V)} (h : (l.map (·.1)).Nodup) : mergeK [] l = l := merge_nodup h
theorem KnsAt.has {N : Addr → Prop} {H : Hp} {kvs : List (Key × V)} {ks : List Kn} (h : KnsAt N H kvs ks) (n : Int) : (valV kvs (.inl n)).isSome = hasN ks n := by
  induction h with
  | nil => rfl
  | @cons q k r l hq t ih =>
    obtain ⟨t', w', e, _⟩ := hq
    unfold valV hasN at *
    rw [List.find?_cons, List.any_cons, e]
    by_cases z : k.n = n
    · rw [decide_eq_true (show (Sum.inl k.n : Key) = .inl n by rw [z]), decide_eq_true z]; rfl
    · rw [decide_eq_false (show ¬ (Sum.inl k.n : Key) = .inl n from fun q => z (Sum.inl.inj q)), decide_eq_false z, Bool.false_or]; exact ih
end L2

set_option Elab.async false
set_option linter.all false
set_option maxRecDepth 100000
set_option maxHeartbeats 1000000
namespace L2
open PySem PySem.Spec PyProof.Rows
end L2

set_option Elab.async false
set_option linter.all false
set_option maxRecDepth 100000
namespace L2
open PySem PySem.Spec PyProof.Rows
section
variable {X : Cx} {x : Str} {C : Addr} {fl : List Str} {p pos : Pos} {e : PySem.Expr} {es : List PySem.Expr} {t : TA} {E : XK} {ps : List Str} {k : Nat} {sp : Sp} {σ0 : St}
theorem wps_throw {pos' : Pos} (ht : Thr X E) (hc : X.calm = true) (m : Mx X.prog X.w X.K X.mg X.base x C fl) (hr : Room 2 X.A) (hg : Gl X x) (ha : WA X (e :: es) t) (hz : fl.length ≤ 1000 := by decide) (hdb : (x == ("__debug__" : Str)) = false := by decide)
    (he : starEach (e :: es) X.env = (false, eval e X.env) :: starEach es X.env := by rfl) (hpl : (backTo pos (starEach es X.env)).any (·.1) = false := by rfl) :
    WS X (.Raise (some (.Call (.Name x p) (e :: es) [] pos)) none pos') (tThrow C fl E t) := WS.of (ps_throw ht hc m hr hg ha.to hz hdb he hpl)
theorem wps_try {c n : Str} {N : Addr} {B newId : String} {bm : List Value} {i : Nat} {body suite : List Stmt} {b0 : Stmt} {np hpos : Pos} {tb : St → XK → TS} {ts : TS} (hst : X.stack = X.env :: X.outer) (hfr : X.env.frame = some X.env.locals)
    (hg : Gl X c) (hm : X.mg c = some (.ref C)) (cl : XCls X.K C N B newId bm fl) (hN : X.N.Nodup) (hi : X.N[i]? = some n) (hk : X.env.kindOf n = some .local)
    (hb : ∀ pn σ0 E, WSs (X.tr pn σ0 E) body (tb σ0 E)) (hs : ∀ e, WSs (X.cau e) (b0 :: suite) ts) (hdb : (c == ("__debug__" : Str)) = false := by decide) :
    WS X (.Try body [.ExceptHandler (some (.Name c np)) (some n) (b0 :: suite) hpos] [] [] pos) (tTry C i tb ts) := WS.of (ps_try hst hfr hg hm cl hN hi hk (fun pn σ0 E => (hb pn σ0 E).to) (fun e => (hs e).to) hdb)
end
/-- an own class of errors, made and known -/
structure Xs (P : Program) (w : World) (K : PySem.W.Frag) (mg : Str → Option Value) (base : Heap) (x : Str) (C : Addr) (B : String) (bm : List Value) (fl : List Str) : Prop where
  m : mg x = some (.ref C)
  c : ∃ N n, XCls K C N B n bm fl
  k : Mx P w K mg base x C fl
end L2

set_option Elab.async false
set_option linter.all false
set_option maxRecDepth 100000
set_option maxHeartbeats 1000000
namespace L2
open PySem PySem.Spec PyProof.Rows
/-! ### methods that may throw -/
structure MCalX (P : Program) (w : World) (K : PySem.W.Frag) (mg : Str → Option Value) (base : Heap) (C : Addr) (m : Str) (ps : List Str) (k : Nat) (sp : Sp) : Prop where
  ex : ∃ (f : Addr) (fd : FuncData), Cls K C ∧ Meth K C m f ∧ FnOk P w K mg base (CXX P w) k f fd ps sp ∧ Binds K fd ps []
def tMethS (σ0 : St) (C : Addr) (m : Str) (sp : Sp) (E : XK) (ta : TE) (t : TA) : TE := fun σ H Q => σ = σ0 ∧ tMeth C m sp [] E ta t σ H Q
section
variable {X : Cx} {k : Nat} {sp : Sp} {C : Addr} {m : Str} {ps : List Str} {pos apos : Pos} {o e : Expr} {es : List Expr} {ta : TE} {t : TA} {E : XK} {σ0 : St}
/-- o.m(..) at the try's own state -/
theorem pe_mcalS {pl : Sem Bool} (c : MCalX X.prog X.w X.K X.mg X.base C m ps k sp) (hx : PassAt (CXX X.prog X.w) X σ0 E) (hr : Room k X.A) (he : PE X o ta) (ha : PA X (e :: es) t)
    (hst : starEach (e :: es) X.env = (false, eval e X.env) :: starEach es X.env := by rfl) (hpl : (backTo pos (starEach es X.env)).any (·.1) = false := by rfl)
    (ht : eval (.Call (.Attribute o m apos) (e :: es) [] pos) X.env = (do
      let ov ← eval o X.env
      standAt apos.atName
      let (f, first) ← holding [ov] (getMethod ov m pl)
      callWith pos f first (backTo pos (starEach (e :: es) X.env)) (backToKw pos (keywordEach [] X.env))) := by rfl) :
    PE X (.Call (.Attribute o m apos) (e :: es) [] pos) (tMethS σ0 C m sp E ta t) := by
  obtain ⟨f, fd, c1, c2, F, b⟩ := c.ex
  intro pins s σ H Q I h
  obtain ⟨rfl, h⟩ := h
  refine PySem.W.methodCall_KW (pl := pl) (thn (he pins s σ H _ I h) fun u s1 ⟨x, H1, I1, rx, a, dx, fs, ex, ea, l, q⟩ => ?_) ht
  subst ex
  obtain rfl : u = Value.ref a := rx
  refine getmeth_ok I1 ea c1 c2 l ?_
  refine PySem.W.callWith_K (first := [.ref a]) (h₀ := X.base) I.ok.mod.kin c2.kp (thn (ha pos pins s1 σ H1 _ I1 q) fun us s2 ⟨vs, H2, I2, r, q2⟩ => ⟨I2.kIn, ?_⟩) hst hpl
  exact run_fnS (us := .ref a :: us) (vs := .ref a :: vs) F hr b hx I2 (.cons rfl r) (by have q3 := q2; dsimp only at q3; rw [List.append_nil] at q3; exact q3)
end
section
variable {P : Program} {w : World} {K : PySem.W.Frag} {mg : Str → Option Value} {base : Heap}
theorem MCal.x {C : Addr} {m : Str} {ps : List Str} {k : Nat} {sp : Sp} (c : MCal P w K mg base C m ps k sp) : MCalX P w K mg base C m ps k sp := let ⟨f, fd, a, b, F, r⟩ := c.ex; ⟨f, fd, a, b, F.x, r⟩
theorem FunD.okX {x qual : Str} {st : Stmt} {f : Addr} {fd : FuncData} {N ps : List Str} {k : Nat} {sp : Sp} (F : FunD K x qual st f fd) (S : FnScope N ps (defScope st)) (len : ∀ vs H Q E, sp vs H Q E → vs.length = ps.length)
    (hb : ∀ (cdv : Value) (A : Around) (outer : List Env) (s : Shared) (H : Hp) (vs : List V) (Q : VK) (E : XK), Room k (A.deeper (envOfC qual (defScope st) s.heap.objs.size f cdv)) → sp vs H Q E →
      ∃ t, PSs (cxOf (CXX P w) P w K mg base N qual (defScope st) f cdv A outer s H E) (defBody st) t ∧ t { nx := fun _ H' => Q .non H', rt := Q } (start N vs) H) : FnOk P w K mg base (CXX P w) (k + 1) f fd ps sp := by
  obtain ⟨oc, od, dV, kV, doc, pm, an, cdv, ct, osl, rfl, lk, hcd⟩ := F.ex
  exact fn_of lk hcd S len fun A outer s H vs Q E hr hsp => hb cdv A outer s H vs Q E hr hsp
end
section
variable {M : Model} {A : Around} {E : Value → Shared → Prop}
end
/-- names of own classes, written one behind another -/
inductive Nms (X : Cx) : List Expr → List Addr → Prop
  | nil : Nms X [] []
  | cons {c : Str} {np : Pos} {es : List Expr} {D : Addr} {Ds : List Addr} (hg : Gl X c) (hm : X.mg c = some (.ref D)) (hd : (c == ("__debug__" : Str)) = false) (hs : starEach (.Name c np :: es) X.env = (false, eval (.Name c np) X.env) :: starEach es X.env) (t : Nms X es Ds) : Nms X (.Name c np :: es) (D :: Ds)
end L2

set_option Elab.async false
set_option linter.all false
set_option maxRecDepth 100000
namespace L2
open PySem PySem.Spec PyProof.Rows
section
variable {X : Cx} {k : Nat} {sp : Sp} {C : Addr} {m : Str} {ps : List Str} {pos apos : Pos} {o e : PySem.Expr} {es : List PySem.Expr} {ta : TE} {t : TA} {E : XK} {σ0 : St}
theorem wpe_mcalS {pl : Sem Bool} (c : MCalX X.prog X.w X.K X.mg X.base C m ps k sp) (hx : PassAt (CXX X.prog X.w) X σ0 E) (hr : Room k X.A) (he : WE X o ta) (ha : WA X (e :: es) t)
    (hst : starEach (e :: es) X.env = (false, eval e X.env) :: starEach es X.env := by rfl) (hpl : (backTo pos (starEach es X.env)).any (·.1) = false := by rfl)
    (ht : eval (.Call (.Attribute o m apos) (e :: es) [] pos) X.env = (do
      let ov ← eval o X.env
      standAt apos.atName
      let (f, first) ← holding [ov] (getMethod ov m pl)
      callWith pos f first (backTo pos (starEach (e :: es) X.env)) (backToKw pos (keywordEach [] X.env))) := by rfl) :
    WE X (.Call (.Attribute o m apos) (e :: es) [] pos) (tMethS σ0 C m sp E ta t) := WE.of (pe_mcalS c hx hr he.to ha.to hst hpl ht)
end
section
variable {P : Program} {w : World} {K : PySem.W.Frag} {mg : Str → Option Value} {base : Heap} {C : Addr} {m qual : Str} {st : Stmt} {N ps : List Str} {k : Nat} {sp : Sp}
/-- a method's promise where it may throw, from its body -/
theorem wmcal_ofX (d : MDef K C m qual st ps) (S : FnScope N ps (defScope st)) (len : ∀ vs H Q E, sp vs H Q E → vs.length = ps.length)
    (hb : ∀ (f : Addr) (cdv : Value) (A : Around) (outer : List Env) (s : Shared) (H : Hp) (vs : List V) (Q : VK) (E : XK), Room k (A.deeper (envOfC qual (defScope st) s.heap.objs.size f cdv)) → sp vs H Q E →
      ∃ t, WSs (cxOf (CXX P w) P w K mg base N qual (defScope st) f cdv A outer s H E) (defBody st) t ∧ t { nx := fun _ H' => Q .non H', rt := Q } (start N vs) H) : MCalX P w K mg base C m ps (k + 1) sp := by
  obtain ⟨f, fd, c1, c2, F, b⟩ := d.ex
  exact ⟨f, fd, c1, c2, F.okX S len (fun cdv A outer s H vs Q E hr h => let ⟨t, h1, h2⟩ := hb f cdv A outer s H vs Q E hr h; ⟨t, h1.to, h2⟩), b⟩
end
end L2

set_option Elab.async false
set_option linter.all false
set_option maxRecDepth 100000
set_option maxHeartbeats 1000000
namespace L2
open PySem PySem.Spec PyProof.Rows
section
variable {X : Cx}
/-! ### del xs[i] -/
end
end L2

set_option Elab.async false
set_option linter.all false
set_option maxRecDepth 100000
set_option maxHeartbeats 1000000
namespace L2
open PySem PyProof.Rows
/-! ### how long what repr shows is -/
mutual
def smallD : PyData → Bool
  | .str s => decide (s.length ≤ 1000) && s.cps.toList.all (fun c => decide (c < 4294967296))
  | .tuple ds => decide (ds.length ≤ 1000) && smallAll ds
  | .list ds => decide (ds.length ≤ 1000) && smallAll ds
  | .none => true
  | .bool _ => true
  | .int i => decide (i.natAbs < 10 ^ 20)
  | .dict kvs => smallKv kvs
def smallAll : List PyData → Bool
  | [] => true
  | d :: r => smallD d && smallAll r
def smallKv : List (PyData × PyData) → Bool
  | [] => true
  | (k, v) :: r => smallD k && (smallD v && smallKv r)
end
mutual
def wtD : PyData → Nat
  | .str s => 10 * s.length + 2
  | .tuple ds => 4 + wtAll ds
  | .list ds => 4 + wtAll ds
  | .none => 4
  | .bool _ => 5
  | .int _ => 21
  | .dict kvs => 4 + wtKv kvs
def wtAll : List PyData → Nat
  | [] => 0
  | d :: r => (wtD d + 2) + wtAll r
def wtKv : List (PyData × PyData) → Nat
  | [] => 0
  | (k, v) :: r => (wtD k + wtD v + 4) + wtKv r
end
theorem strLenA (x y : Str) : (x ++ y).length = x.length + y.length := strLen_append x y
theorem listText_len : ∀ ts : List Str, (listText ts).length ≤ 2 + piled ts
  | [] => by decide
  | t :: r => by
    have h := textFrom_length_pos r 1 (("[" : Str) ++ (if (0 : Nat) > 0 then ", " else "" : String) ++ t) (Nat.succ_pos 0)
    have e : (("[" : Str) ++ (if (0 : Nat) > 0 then ", " else "" : String) ++ t).length = 1 + t.length := by
      rw [strLenA, strLenA]; rfl
    show (textFrom 1 (("[" : Str) ++ (if (0 : Nat) > 0 then ", " else "" : String) ++ t) r ++ "]").length ≤ _
    rw [strLenA, h, e, piled_cons]
    have : ("]" : Str).length = 1 := by decide +kernel
    omega
theorem join_len (ts : List Str) : (Str.join ", " ts).length ≤ piled ts := by
  cases ts with
  | nil => decide
  | cons a r =>
    have q := join_length_add (a :: r) (by simp)
    omega
theorem tupleText_len (ts : List Str) : (tupleText ts).length ≤ 3 + piled ts := by
  unfold tupleText
  rw [strLenA, strLenA]
  have h1 : ("(" : Str).length = 1 := by decide +kernel
  have h2 := join_len ts
  have h3 : (Str.ofString (if (ts.length == 1) = true then ",)" else ")")).length ≤ 2 := by split <;> decide +kernel
  omega
theorem dictText_len (ts : List Str) : (dictText ts).length ≤ 3 + piled ts := by
  unfold dictText
  rw [strLenA, strLenA]
  have h1 : ("{" : Str).length = 1 := by decide +kernel
  have h2 := join_len ts
  have h3 : ("}" : Str).length = 1 := by decide +kernel
  omega
mutual
theorem show_ok : ∀ d : PyData, smallD d = true → d.showable = true ∧ d.shown.length ≤ wtD d
  | .none, _ => ⟨by simp [PyData.showable], by decide +kernel⟩
  | .bool b, _ => ⟨by simp [PyData.showable], by cases b <;> decide +kernel⟩
  | .int i, h => by
    have h : i.natAbs < 10 ^ 20 := by simpa [smallD] using h
    refine ⟨?_, ?_⟩
    · simp only [PyData.showable, decide_eq_true_eq]
      rcases Nat.eq_zero_or_pos i.natAbs with e | e
      · rw [e]; decide
      · refine (Nat.log2_lt (by omega)).mpr (Nat.lt_of_lt_of_le h (Nat.le_trans (show (10 : Nat) ^ 20 ≤ 2 ^ 67 by decide) (Nat.pow_le_pow_right (by decide) (by decide))))
    · have q := int_text_length_le10 (a := i) (k := 20) (by decide) h
      simp only [PyData.shown, wtD]
      refine Nat.le_trans (Nat.le_of_eq ?_) q
      exact PySem.ofString_length _
  | .str x, h => by
    have h : x.length ≤ 1000 ∧ ∀ c ∈ x.cps.toList, c < 4294967296 := by
      simp only [smallD, Bool.and_eq_true, decide_eq_true_eq, List.all_eq_true] at h
      exact h
    refine ⟨by simp [PyData.showable], ?_⟩
    simp only [PyData.shown, wtD]
    exact StrLaws.reprText_len x (fun c hc => h.2 c hc)
  | .list ds, h => by
    have h : ds.length ≤ 1000 ∧ smallAll ds = true := by simpa [smallD] using h
    obtain ⟨h1, h2⟩ := show_all ds h.2
    refine ⟨by simpa [PyData.showable] using h1, ?_⟩
    simp only [PyData.shown, wtD]
    have q := listText_len (PyData.shownAll ds)
    omega
  | .tuple ds, h => by
    have h : ds.length ≤ 1000 ∧ smallAll ds = true := by simpa [smallD] using h
    obtain ⟨h1, h2⟩ := show_all ds h.2
    refine ⟨by simpa [PyData.showable] using h1, ?_⟩
    simp only [PyData.shown, wtD]
    have q := tupleText_len (PyData.shownAll ds)
    omega
  | .dict kvs, h => by
    have h : smallKv kvs = true := by simpa [smallD] using h
    obtain ⟨h1, h2⟩ := show_kv kvs h
    refine ⟨by simpa [PyData.showable] using h1, ?_⟩
    simp only [PyData.shown, wtD]
    have q := dictText_len (PyData.shownKv kvs)
    omega
theorem show_all : ∀ ds : List PyData, smallAll ds = true → PyData.showableAll ds = true ∧ piled (PyData.shownAll ds) ≤ wtAll ds
  | [], _ => ⟨by simp [PyData.showableAll], by simp [PyData.shownAll, wtAll, piled]⟩
  | d :: r, h => by
    have h : smallD d = true ∧ smallAll r = true := by simpa [smallAll] using h
    obtain ⟨a1, a2⟩ := show_ok d h.1
    obtain ⟨b1, b2⟩ := show_all r h.2
    refine ⟨by simp [PyData.showableAll, a1, b1], ?_⟩
    simp only [PyData.shownAll, wtAll, piled_cons]
    omega
theorem show_kv : ∀ ds : List (PyData × PyData), smallKv ds = true → PyData.showableKv ds = true ∧ piled (PyData.shownKv ds) ≤ wtKv ds
  | [], _ => ⟨by simp [PyData.showableKv], by simp [PyData.shownKv, wtKv, piled]⟩
  | (a, b) :: r, h => by
    have h : smallD a = true ∧ smallD b = true ∧ smallKv r = true := by simpa [smallKv] using h
    obtain ⟨a1, a2⟩ := show_ok a h.1
    obtain ⟨c1, c2⟩ := show_ok b h.2.1
    obtain ⟨b1, b2⟩ := show_kv r h.2.2
    refine ⟨by simp [PyData.showableKv, a1, b1, c1], ?_⟩
    simp only [PyData.shownKv, wtKv, piled_cons]
    rw [strLenA, strLenA]
    have : (": " : Str).length = 2 := by decide +kernel
    omega
end
end L2

set_option Elab.async false
set_option linter.all false
set_option maxRecDepth 100000
set_option maxHeartbeats 1000000
namespace L2
open PySem PySem.Spec PyProof.Rows
/-! ### a dict cleared -/
def rDClear : V → List V → Hp → VK → Prop := fun x vs H Q => ∃ (d : Addr) (kvs : List (Key × V)), x = .ref d ∧ vs = [] ∧ H d = some (.dK kvs) ∧ Q .non (upd H d (.dK []))
section
variable {X : Cx}
theorem mt_dclear : MtM X "dict.clear" rDClear := by
  intro pins s σ H x vs v us Q I rx rv h
  obtain ⟨d, kvs, rfl, rfl, hd, q⟩ := h
  cases rx
  have hus := rv.zero
  subst hus
  obtain ⟨z1, n1, v1, k1, D1⟩ := I.hok d _ hd
  have l1 := k1.length
  refine call_meetsIn F.slot_dict_clear D1.typeIs F.entry_dict_clear (F.args_dict_clear_1 _) (meets_dict_clear (mixKind X.prog X.w) d) ⟨v1, D1, by rw [← l1]; exact z1, fun h' q1 sb => ?_⟩
  exact ⟨.non, _, I.write (e := d) (o := .dK []) (t' := s.toks) (by rw [hd]; trivial) (.inl rfl) (fun b u hb e => (sb.2 b hb).trans e) (let ⟨o, _, _, e, _⟩ := q1; ⟨o, e⟩) ⟨Nat.zero_le _, n1, _, .nil, q1⟩, rfl, q⟩
variable {k : Nat} {sp : Sp} {C : Addr} {ps : List Str}
end
/-! ### a class's call where its last parameters' defaults serve -/
structure NCalD (P : Program) (w : World) (K : PySem.W.Frag) (mg : Str → Option Value) (base : Heap) (x : Str) (C : Addr) (ps : List Str) (dvs : List V) (k : Nat) (sp : Sp) : Prop where
  ex : ∃ (f : Addr) (fd : FuncData) (ds : List Value), mg x = some (.ref C) ∧ Mk K C f ∧ FnOk P w K mg base CX0 k f fd ps sp ∧ Binds K fd ps ds ∧ Vals dvs ds
section
variable {X : Cx} {k : Nat} {sp : Sp} {C : Addr} {x : Str} {ps : List Str} {dvs : List V} {p pos : Pos} {e : Expr} {es : List Expr} {t : TA}
end
end L2

set_option Elab.async false
set_option linter.all false
set_option maxRecDepth 100000
set_option maxHeartbeats 4000000
namespace L2
open PySem PySem.Spec PyProof.Rows
section
variable {X : Cx}
end
end L2

set_option Elab.async false
set_option linter.all false
set_option maxRecDepth 100000
set_option maxHeartbeats 1000000
namespace L2
open PySem PySem.Spec PyProof.Rows
/-- == of things at two places: flat ones, tuples, lists, dicts of such; n: how deep, c: what it tells -/
inductive Eqd2 (K : PySem.W.Frag) (H : Hp) : Nat → V → V → Bool → Prop
  | flat {n : Nat} {x y : V} {c : Bool} : flatV x = true → flatV y = true → c = eqV x y → Eqd2 K H n x y c
  | tup {n : Nat} {a b : Addr} {xs ys : List V} {e : Nat → Bool} {c : Bool} : SqT K H a xs → SqT K H b ys → (∀ (i : Nat) (x y : V), xs[i]? = some x → ys[i]? = some y → Eqd2 K H n x y (e i)) →
      c = (allTo e (min xs.length ys.length) && xs.length == ys.length) → Eqd2 K H (n + 1) (.ref a) (.ref b) c
  | dct {n : Nat} {a b : Addr} {kvs lvs : List (Key × V)} {e : Key → Bool} {c : Bool} : Rd H a (.dK kvs) → Rd H b (.dK lvs) → (∀ (k : Key) (u v : V), (k, u) ∈ kvs → (k, v) ∈ lvs → Eqd2 K H n u v (e k)) →
      c = (decide (kvs.length = lvs.length) && kvs.all fun p => memK p.1 (lvs.map Prod.fst) && e p.1) → Eqd2 K H (n + 1) (.ref a) (.ref b) c
  | dat {n : Nat} {x y : V} {d e : PyData} {c : Bool} : Dp K H x d → Dp K H y e → SeqAt.shaped d = true → SeqAt.shaped e = true → c = PyData.eqv d e → Eqd2 K H (n + 64) x y c
section
variable {X : Cx} {pins : List (Addr × Obj)} {σ : St} {H : Hp} {s : Shared}
mutual
theorem Dp.uniq (I : Inv X pins σ H s) : ∀ (d e : PyData) (v : V), Dp X.K H v d → Dp X.K H v e → d = e
  | .none, e, _, h, h' => by cases h; cases h'; rfl
  | .bool b, e, _, h, h' => by cases h; cases h'; rfl
  | .int i, e, _, h, h' => by cases h; cases h'; rfl
  | .str x, e, _, h, h' => by cases h; cases h'; rfl
  | .list ds, e, _, h, h' => by
    cases h with
    | lst hs ha =>
      obtain ⟨its, rv, il, _⟩ := I.list hs
      cases h' with
      | lst hs' ha' =>
        obtain ⟨its', rv', il', _⟩ := I.list hs'
        obtain rfl := I.list_inj hs hs'
        rw [Dp.uniqAll I ds _ _ ha ha']
      | tup hs' ha' =>
        exfalso
        obtain ⟨its', rv', ⟨o', ho', hc', _⟩, _⟩ := I.tuple hs'
        obtain ⟨o, n, ho, hc, _⟩ := il
        rw [ho] at ho'
        injection ho' with ho'
        subst ho'
        rw [hc] at hc'
        exact absurd (Value.type.inj hc') (by decide)
  | .tuple ds, e, _, h, h' => by
    cases h with
    | tup hs ha =>
      obtain ⟨its, rv, it, _⟩ := I.tuple hs
      cases h' with
      | tup hs' ha' =>
        obtain rfl := I.tuple_inj hs hs'
        rw [Dp.uniqAll I ds _ _ ha ha']
      | lst hs' ha' =>
        exfalso
        obtain ⟨its', rv', ⟨o', n', ho', hc', _⟩, _⟩ := I.list hs'
        obtain ⟨o, ho, hc, _⟩ := it
        rw [ho] at ho'
        injection ho' with ho'
        subst ho'
        rw [hc] at hc'
        exact absurd (Value.type.inj hc') (by decide)
  | .dict _, _, _, h, _ => by cases h
theorem Dp.uniqAll (I : Inv X pins σ H s) : ∀ (ds es : List PyData) (vs : List V), DpAll X.K H vs ds → DpAll X.K H vs es → ds = es
  | [], es, _, h, h' => by cases h; cases h'; rfl
  | d :: ds, es, _, h, h' => by
    cases h with
    | cons h1 h2 =>
      cases h' with
      | cons h1' h2' => rw [Dp.uniq I d _ _ h1 h1', Dp.uniqAll I ds _ _ h2 h2']
end
theorem Eqd2.refl_true (I : Inv X pins σ H s) {n : Nat} {x y : V} {c : Bool} (h : Eqd2 X.K H n x y c) : x = y → c = true := by
  induction h with
  | flat fx fy hc => rintro rfl; rw [hc]; exact eqV_refl fx
  | @tup n a b xs ys e c h1 h2 _ hc ih =>
    intro q
    cases q
    obtain rfl := I.tuple_inj h1 h2
    rw [hc, Bool.and_eq_true]
    refine ⟨allTo_true fun i hi => ?_, beq_self_eq_true _⟩
    have hi' : i < xs.length := by omega
    exact ih i _ _ (List.getElem?_eq_getElem hi') (List.getElem?_eq_getElem hi') rfl
  | @dct n a b kvs lvs e c h1 h2 _ hc ih =>
    intro q
    cases q
    have := Rd.inj h1 h2 (fun _ _ z => nomatch z) (fun _ _ z => nomatch z)
    injection this with e1
    subst e1
    rw [hc, decide_eq_true rfl, Bool.true_and, List.all_eq_true]
    rintro ⟨k, u⟩ hp
    rw [Bool.and_eq_true]
    exact ⟨memK_iff.mpr (List.mem_map.mpr ⟨_, hp, rfl⟩), ih k u u hp hp rfl⟩
  | @dat n x y d e c h1 h2 sd se hc =>
    intro q
    subst q
    obtain rfl := Dp.uniq I d e x h1 h2
    rw [hc]
    exact SeqAt.eqv_refl _ (SeqAt.canLay_of_shaped sd)
theorem Eqd2.rcB (I : Inv X pins σ H s) {n : Nat} {x y : V} {c : Bool} (h : Eqd2 X.K H n x y c) : RcB X s n x y c := by
  induction h with
  | flat fx fy hc =>
    refine ⟨fun A u v rx ry _ E Q hq => ?_, fun A a b e => ?_⟩
    · exact eqAt_V rx ry fx fy X.prog X.w E Q (by rw [← hc]; exact hq)
    · rw [e] at fx; cases fx
  | @tup n a b xs ys e c h1 h2 h3 hc ih =>
    obtain ⟨is, r1, t1, _⟩ := I.tuple h1
    obtain ⟨js, r2, t2, _⟩ := I.tuple h2
    have rc : ∀ (A : Around), A.units + (n + 1) < cLine → RcIn X.prog X.w .Eq A s (.ref a) (.ref b) c ∧ RcIn X.prog X.w .NotEq A s (.ref a) (.ref b) (!c) := by
      intro A hu
      have he : ∀ (j : Nat) (y x : Value), is[j]? = some y → js[j]? = some x → EqIn X.prog X.w A.in1 s y x (e j) := by
        intro j u v hu' hv'
        obtain ⟨x, hx, rx⟩ := item_rel r1 hu'
        obtain ⟨y, hy, ry⟩ := item_rel r2 hv'
        exact (ih j x y hx hy).eq A.in1 _ _ rx ry (by show A.units + 1 + n < cLine; omega)
      have q1 := RcIn.tupEq t1 t2 (by omega) he
      have q2 := RcIn.tupNe t1 t2 (by omega) he
      rw [← r1.length, ← r2.length, ← hc] at q1 q2
      exact ⟨q1, q2⟩
    refine ⟨fun A u v rx ry hu => ?_, fun A a' b' ea eb hu => ?_⟩
    · cases rx; cases ry
      by_cases hab : a = b
      · subst hab
        have hc' := Eqd2.refl_true I (.tup h1 h2 h3 hc) rfl
        rw [hc']; exact fun E Q hq => SeqAt.EqAt.same _ X.prog X.w E Q hq
      · exact eqIn_refs hab (rc A hu).1
    · cases ea; cases eb; exact rc A hu
  | @dct n a b kvs lvs e c h1 h2 h3 hc ih =>
    obtain ⟨_, na, va, r1, d1⟩ := dk_rd I.hok h1
    obtain ⟨_, nb, vb, r2, d2⟩ := dk_rd I.hok h2
    have rc : ∀ (A : Around), A.units + (n + 1) < cLine → RcIn X.prog X.w .Eq A s (.ref a) (.ref b) c ∧ RcIn X.prog X.w .NotEq A s (.ref a) (.ref b) (!c) := by
      intro A hu
      have heq : ∀ k u v, (k, u) ∈ va → (k, v) ∈ vb → EqIn X.prog X.w A.in1 s u v (e k) := by
        intro k u v hu' hv'
        obtain ⟨x, hx, rx⟩ := kv_mem r1 hu'
        obtain ⟨y, hy, ry⟩ := kv_mem r2 hv'
        exact (ih k x y hx hy).eq A.in1 _ _ rx ry (by show A.units + 1 + n < cLine; omega)
      have hc2 := hc.trans (all_keys r1 r2 e).symm
      exact ⟨fun E Q hq => rc_dicts e d1 d2 na nb (by omega) heq (by rw [hc2] at hq; exact hq), fun E Q hq => rcne_dicts e d1 d2 na nb (by omega) heq (by rw [hc2] at hq; exact hq)⟩
    refine ⟨fun A u v rx ry hu => ?_, fun A a' b' ea eb hu => ?_⟩
    · cases rx; cases ry
      by_cases hab : a = b
      · subst hab
        have hc' := Eqd2.refl_true I (.dct h1 h2 h3 hc) rfl
        rw [hc']; exact fun E Q hq => SeqAt.EqAt.same _ X.prog X.w E Q hq
      · exact eqIn_refs hab (rc A hu).1
    · cases ea; cases eb; exact rc A hu
  | @dat n x y d e c h1 h2 sd se hc =>
    refine ⟨fun A u v rx ry hu => ?_, fun A a b ea eb hu => ?_⟩
    · obtain ⟨as, r1⟩ := Dp.reads I d x u h1 rx
      obtain ⟨bs, r2⟩ := Dp.reads I e y v h2 ry
      intro E Q hq
      exact SeqAt.eqAt_reads d e A s u v as bs r1 r2 (SeqAt.canLay_of_shaped sd) (SeqAt.canLay_of_shaped se) (SeqAt.room_of_shaped sd (by omega)) X.prog X.w E Q (by rw [← hc]; exact hq)
    · subst ea eb
      obtain ⟨as, r1⟩ := Dp.reads I d (.ref a) (.ref a) h1 rfl
      obtain ⟨bs, r2⟩ := Dp.reads I e (.ref b) (.ref b) h2 rfl
      exact ⟨fun E Q hq => SeqAt.compareEq_shaped r1 r2 sd se (by omega) (by rw [← hc]; exact hq), fun E Q hq => SeqAt.compareNe_shaped r1 r2 sd se (by omega) (by rw [← hc]; exact hq)⟩
end
section
variable {X : Cx}
/-- a == b, a != b of tuples and dicts with dicts within -/
def rEqE2 (K : PySem.W.Frag) (n : Bool) : R2 := fun x y H Q => ∃ (k : Nat) (a b : Addr) (c : Bool), x = .ref a ∧ y = .ref b ∧ Eqd2 K H k (.ref a) (.ref b) c ∧ k ≤ 130 ∧ Q (.bl (n ^^ c)) H
theorem op_neE2 (hu : X.A.units + 140 < cLine) : OpR X (compareOp .NotEq) (rEqE2 X.K true) := by
  intro pins s σ H x y v u Q I rx ry h
  obtain ⟨k, a, b, c, rfl, rfl, he, hk, q⟩ := h
  cases rx; cases ry
  rw [Bool.true_xor] at q
  exact ((he.rcB I).rc X.A a b rfl rfl (by omega)).2 _ _ ⟨.bl (!c), H, I, rfl, q⟩
end
end L2

set_option Elab.async false
set_option linter.all false
set_option maxRecDepth 100000
namespace L2
open PySem PySem.Spec PyProof.Rows
theorem u140 {k : Nat} {A : Around} (hr : Room k A) : A.units + 140 < cLine := by have := hr.un; omega
section
variable {X : Cx}
theorem wop_neE2 (hu : X.A.units + 140 < cLine) : WOp X (PySem.compareOp PySem.CmpOp.NotEq) (rEqE2 (Cx.K X) true) := WOp.of (op_neE2 hu)
theorem wpe_dclear {o : PySem.Expr} {to : TE} {apos cpos : Pos} (h1 : WE X o to) (hb : attributeBase o "clear" X.env (eval o X.env) = eval o X.env := by rfl) (hl : (apos.endLine == cpos.line) = true := by rfl) :
    WE X (.Call (.Attribute o "clear" apos) [] [] cpos) (tBM0 X.K "dict" rDClear to) := WE.of (pe_bm0 PySem.F.plainAttrs_dict PySem.F.slot_dict_clear PySem.F.type_dict_clear mt_dclear h1.to hb hl)
variable {k : Nat} {sp : Sp} {C : Addr} {x : Str} {ps : List Str} {dvs : List V} {p pos : Pos} {e : PySem.Expr} {es : List PySem.Expr} {t : TA}
end
end L2

set_option Elab.async false
set_option linter.all false
set_option maxRecDepth 100000
set_option maxHeartbeats 2000000
/-! sorted(d, key=str): a dict's keys in the order of their texts -/
namespace L2
open PySem PySem.Spec PyProof.Rows
/-- pairs of a text and a thing, put in the texts' order -/
theorem keyed_out {keys : Array Value} {vs : List Value} {zs : List Str} (hk : StrsAre keys.toList zs) (hl : zs.length = vs.length) {xs : Array Keyed} (hp : xs.Perm (keys.zip vs.toArray)) (hs : SortedToK strKind xs xs.size) :
    ∃ ps : List (Str × Value), ps.Perm (zs.zip vs) ∧ (xs.map (·.2)).toList = ps.map (·.2) ∧ sortedS (ps.map (·.1)) = true := by
  have hl' : xs.toList.Perm (keys.toList.zip vs) := by
    have := Array.perm_iff_toList_perm.mp hp
    rwa [ksk_zip] at this
  have hmem : ∀ p ∈ xs.toList, ∃ x t, p.1 = .str x t := fun p hp' => hk.all _ (List.of_mem_zip (hl'.mem_iff.mp hp')).1
  refine ⟨xs.toList.map fun p => (strOf p.1, p.2), ?_, by rw [Array.toList_map, List.map_map]; rfl, ?_⟩
  · refine (hl'.map fun p => (strOf p.1, p.2)).trans (List.Perm.of_eq ?_)
    rw [← hk.strs, List.zip_map_left]
    rfl
  · rw [List.map_map]
    apply sortedS_of_pairwise
    rw [List.pairwise_iff_getElem]
    intro i j hi hj hij
    have hi' : i < xs.size := by simpa using hi
    have hj' : j < xs.size := by simpa using hj
    have h1 := hs i j (Nat.le_of_lt hij) hj'
    obtain ⟨x, t, ex⟩ := hmem xs[i] (by simp)
    obtain ⟨y, u, ey⟩ := hmem xs[j] (by simp)
    rw [KK_str hi' (x := x) (t := t) (q := xs[i].2) (Prod.ext ex rfl), KK_str hj' (x := y) (t := u) (q := xs[j].2) (Prod.ext ey rfl)] at h1
    change decide (y.cps.toList < x.cps.toList) = false at h1
    simp only [List.getElem_map, Array.getElem_toList, Function.comp]
    rw [show strOf xs[i].1 = x by rw [ex]; rfl, show strOf xs[j].1 = y by rw [ey]; rfl, ltCps_eq]
    exact h1
theorem strKind_of {keys : Array Value} {zs : List Str} (hk : StrsAre keys.toList zs) (h2 : 2 ≤ keys.size) : keyKind' keys = pure oneType' := by
  have hl : 2 ≤ keys.toList.length := by rw [Array.length_toList]; exact h2
  match q : keys.toList, hl with
  | v₁ :: v₂ :: rest, _ =>
    have ek : keys = (v₁ :: v₂ :: rest).toArray := by rw [← q, Array.toArray_toList]
    rw [q] at hk
    rw [ek]
    exact keyKind_strs hk
theorem strsAre_snoc {z : Str} {t : Tok} : ∀ {vs : List Value} {zs : List Str}, StrsAre vs zs → StrsAre (vs ++ [.str z t]) (zs ++ [z])
  | _, _, .nil => .cons z t .nil
  | _, _, .cons y u h => .cons y u (strsAre_snoc h)
theorem strsAre_len {vs : List Value} {zs : List Str} (h : StrsAre vs zs) : vs.length = zs.length := by
  rw [← h.strs, List.length_map]
section
variable {prog : Program} {w : World} {A : Around} {E : Value → Shared → Prop} {s : Shared} {P : PySem.Fin → Shared → Prop} {a kS : Addr} {vs : List Value} {zs : List Str} {keys : Array Value} {e e1 : Nat}
/-- behind the keys -/
theorem keyed_end (hkS : s.heap.get? kS = some (seqObj "list" keys e)) (ha : s.heap.get? a = some (seqObj "list" #[] e1)) (hka : kS ≠ a) (hk : StrsAre keys.toList zs) (hl : zs.length = vs.length) (h64 : vs.length < 64)
    (h : ∀ (h' : Heap) (tk : Nat) (ps : List (Str × Value)) (out : Array Value) (c : Nat), (∀ b, b ≠ kS → b ≠ a → h'.get? b = s.heap.get? b) → h'.objs.size = s.heap.objs.size → h'.get? a = some (seqObj "list" out c) → ps.Perm (zs.zip vs) → out.toList = ps.map (·.2) → sortedS (ps.map (·.1)) = true →
      P (.done (.ret .none)) { s with heap := h', toks := tk }) :
    wpAny (model prog w) A (ksk_end a false vs.toArray e1 (.ref kS) keys) P E s := by
  have hsz : keys.size = vs.length := by rw [← Array.length_toList, strsAre_len hk, hl]
  have hzs : (keys.zip vs.toArray).size = vs.length := by rw [Array.size_zip, hsz, List.size_toArray, Nat.min_self]
  have tail : ∀ st : SortSt, (arrOf st).Perm (keys.zip vs.toArray) → failedOf st = none → SortedToK strKind (arrOf st) (arrOf st).size → wpAny (model prog w) A (ksk_tail a false e1 (.ref kS) st) P E s := by
    intro st hp hf hs
    have hz2 : (arrOf st).size = vs.length := by rw [hp.size_eq, hzs]
    obtain ⟨ps, p1, p2, p3⟩ := keyed_out hk hl hp hs
    have s1 := Heap.SameBut.update s.heap kS (Obj.mapSeq fun _ => (#[] : Array Value))
    have na1 : (s.heap.update kS (Obj.mapSeq fun _ => (#[] : Array Value))).get? a = some (seqObj "list" #[] e1) := (s1.2 a hka.symm).trans ha
    obtain ⟨c2, hc2⟩ : ∃ c2, ((s.heap.update kS (Obj.mapSeq fun _ => (#[] : Array Value))).update a (Obj.mapSeq fun _ => (arrOf st).map (·.2))).get? a = some (seqObj "list" ((arrOf st).map (·.2)) c2) :=
      ⟨_, get?_update_seq na1 fun _ => (arrOf st).map (·.2)⟩
    have s2 := Heap.SameBut.update (s.heap.update kS (Obj.mapSeq fun _ => (#[] : Array Value))) a (Obj.mapSeq fun _ => (arrOf st).map (·.2))
    unfold ksk_tail
    try dsimp only
    refine wpAny_bind (listUpdate_at hkS rfl ?_ (by rw [hsz, sizeLine_eq]; omega) (Nat.zero_le _))
    refine wpAny_bind (wpAny_letGo ?_)
    refine wpAny_bind (seqEpoch_at na1 rfl ?_)
    refine wpAny_bind (listUpdate_at na1 rfl ?_ (Nat.zero_le _) (by simp only [Bool.false_eq_true, if_false, Array.size_map]; rw [hz2, sizeLine_eq]; omega))
    rw [hf]
    simp only [bne_self_eq_false, Bool.false_eq_true, if_false]
    refine wpAny_pure (h _ _ ps _ c2 (fun b h1 h2 => (s2.2 b h2).trans (s1.2 b h1)) (by rw [Heap.size_update, Heap.size_update]) hc2 p1 p2 p3)
  unfold ksk_end
  try dsimp only
  rw [if_neg (by decide)]
  by_cases h2 : vs.toArray.size < 2
  · rw [if_pos h2, if_pos h2]
    refine wpAny_bind (wpAny_pure ?_)
    rw [StateT.run_pure]
    refine wpAny_bind (wpAny_pure ?_)
    try dsimp only
    refine tail (SortSt.mk' general' (keys.zip vs.toArray) #[] 7 none) (Array.Perm.refl _) rfl ?_
    intro i j hij hj
    have hj2 : j < (keys.zip vs.toArray).size := hj
    rw [hzs] at hj2
    rw [List.size_toArray] at h2
    have : i = j := by omega
    subst this
    exact KeyOrd.kle_refl _
  · rw [if_neg h2, if_neg h2]
    rw [List.size_toArray] at h2
    rw [strKind_of hk (by rw [hsz]; omega)]
    refine wpAny_bind (wpAny_pure ?_)
    refine wpAny_bind (wpAny_mono (wpS_sortRunsK (κ := strKind) strKind_oneLt (a₀ := keys.zip vs.toArray) (st := SortSt.mk' oneType' (keys.zip vs.toArray) #[] 7 none)
      (Q := fun _ st' => (arrOf st').Perm (keys.zip vs.toArray) ∧ failedOf st' = none ∧ SortedToK strKind (arrOf st') (keys.zip vs.toArray).size)
      (fun p hp => ?_) ⟨Array.Perm.refl _, rfl, rfl, rfl⟩ (by rw [hzs]; omega) (by rw [hzs]; exact h64) fun st' a1 a2 a3 => ⟨a1, a2, a3⟩) ?_ fun _ _ e => e)
    · rw [ksk_zip] at hp
      obtain ⟨x, y⟩ := p
      obtain ⟨z, t, ez⟩ := hk.all _ (List.of_mem_zip hp).1
      exact ⟨z.cps.toList, by rw [ez]⟩
    · rintro ⟨⟨⟩, st'⟩ s' ⟨rfl, hp, hf, hs⟩
      try dsimp only
      exact tail st' hp hf (by rw [hp.size_eq]; exact hs)
/-- the keys, one by one -/
theorem keyed_rest {f : Value} (hkS : s.heap.get? kS = some (seqObj "list" #[] 0)) (ha : s.heap.get? a = some (seqObj "list" #[] e1)) (hka : kS ≠ a) (hl : zs.length = vs.length) (h64 : vs.length < 64)
    (turn : ∀ (i : Nat) (v : Value) (z : Str), vs[i]? = some v → zs[i]? = some z → ∀ (s' : Shared) (Q : Value → Shared → Prop), (∀ t tk, Q (.str z t) { s' with toks := tk }) → wpAny (model prog w) A (call f [v]) Q (fun _ _ => False) s')
    (h : ∀ (h' : Heap) (tk : Nat) (ps : List (Str × Value)) (out : Array Value) (c : Nat), (∀ b, b ≠ kS → b ≠ a → h'.get? b = s.heap.get? b) → h'.objs.size = s.heap.objs.size → h'.get? a = some (seqObj "list" out c) → ps.Perm (zs.zip vs) → out.toList = ps.map (·.2) → sortedS (ps.map (·.1)) = true →
      P (.done (.ret .none)) { s with heap := h', toks := tk }) :
    wpAny (model prog w) A (ksk_rest a f false vs.toArray e1 (.ref kS)) P E s := by
  unfold ksk_rest
  refine wpAny_bind (wpAny_rule ?_)
  first
    | rw [List.forIn_toArray]
    | (rw [← Array.forIn_toList]; simp only [List.toList_toArray])
    | rw [← Array.forIn_toList]
  refine wpAny_bind (ksk_fold (fun i s' => ∃ h' tk kA e, s' = { s with heap := h', toks := tk } ∧ (∀ b, b ≠ kS → h'.get? b = s.heap.get? b) ∧ h'.objs.size = s.heap.objs.size ∧ h'.get? kS = some (seqObj "list" kA e) ∧ StrsAre kA.toList (zs.take i)) vs 0 s
    ⟨s.heap, s.toks, #[], 0, rfl, fun _ _ => rfl, rfl, hkS, by simpa using StrsAre.nil⟩ ?step ?done)
  case step =>
    rintro j x s' hx ⟨h', tk, kA, e, rfl, k1, k2, k3, hk⟩
    simp only [Nat.zero_add] at hk ⊢
    have hj : j < vs.length := (List.getElem?_eq_some_iff.mp hx).1
    obtain ⟨z, hz⟩ : ∃ z, zs[j]? = some z := ⟨_, List.getElem?_eq_getElem (by omega)⟩
    have hsz : kA.size ≤ vs.length := by
      have h1 := strsAre_len hk
      rw [Array.length_toList, List.length_take] at h1
      omega
    refine wpAny_bind (wpAny_attempt (wpAny_mono (turn j x z hx hz { s with heap := h', toks := tk } (fun v s'' => ∃ t2 tk2, v = .str z t2 ∧ s'' = { s with heap := h', toks := tk2 }) fun t2 tk2 => ⟨t2, tk2, rfl, rfl⟩) (fun v s'' he => ?_) fun _ _ hF => hF.elim))
    obtain ⟨t2, tk2, rfl, rfl⟩ := he
    try dsimp only
    have s1 := Heap.SameBut.update h' kS (Obj.mapSeq (·.push (.str z t2)))
    obtain ⟨c2, hc2⟩ : ∃ c2, (h'.update kS (Obj.mapSeq (·.push (.str z t2)))).get? kS = some (seqObj "list" (kA.push (.str z t2)) c2) := ⟨_, get?_update_seq k3 (·.push (.str z t2))⟩
    have ek : zs.take (j + 1) = zs.take j ++ [z] := by rw [List.take_add_one, hz]; simp
    have ea : (kA.push (Value.str z t2)).toList = kA.toList ++ [Value.str z t2] := by simp
    refine wpAny_bind (listUpdate_at k3 rfl ?_ (by rw [sizeLine_eq]; omega) (Nat.le_trans (Nat.le_of_eq (Array.size_push ..)) (by rw [sizeLine_eq]; omega)))
    exact wpAny_pure ⟨rfl, _, _, kA.push (.str z t2), c2, rfl, fun b hb => (s1.2 b hb).trans (k1 b hb), by rw [Heap.size_update]; exact k2, hc2, by rw [ea, ek]; exact strsAre_snoc hk⟩
  case done =>
    rintro s' ⟨h', tk, kA, e, rfl, k1, k2, k3, hk⟩
    have hk' : StrsAre kA.toList zs := by
      have e3 : zs.take (0 + vs.length) = zs := List.take_of_length_le (by omega)
      rw [e3] at hk
      exact hk
    try dsimp only
    refine wpAny_bind (listItems_at k3 rfl ?_)
    exact keyed_end (s := { s with heap := h', toks := tk }) k3 ((k1 a hka.symm).trans ha) hka hk' hl h64 fun h3 tk3 ps out c g1 g2 g3 g4 g5 g6 => h h3 tk3 ps out c (fun b b1 b2 => (g1 b b1 b2).trans (k1 b b1)) (g2.trans k2) g3 g4 g5 g6
/-- the list put in order -/
theorem keyed_sort {f : Value} {n : Nat} (ho : s.heap.get? a = some (seqObj "list" vs.toArray n)) (hl : zs.length = vs.length) (h64 : vs.length < 64)
    (turn : ∀ (i : Nat) (v : Value) (z : Str), vs[i]? = some v → zs[i]? = some z → ∀ (s' : Shared) (Q : Value → Shared → Prop), (∀ t tk, Q (.str z t) { s' with toks := tk }) → wpAny (model prog w) A (call f [v]) Q (fun _ _ => False) s')
    (h : ∀ (h' : Heap) (tk : Nat) (ps : List (Str × Value)) (out : Array Value) (c : Nat), (∀ b o, b ≠ a → s.heap.get? b = some o → h'.get? b = some o) → s.heap.objs.size ≤ h'.objs.size → h'.get? a = some (seqObj "list" out c) → ps.Perm (zs.zip vs) → out.toList = ps.map (·.2) → sortedS (ps.map (·.1)) = true →
      P (.done (.ret .none)) { s with heap := h', toks := tk }) :
    wpAny (model prog w) A (ksk_tree a f false) P E s := by
  have ha : a < s.heap.objs.size := Heap.lt_size ho
  have s1 := Heap.SameBut.update s.heap a (Obj.mapSeq fun _ => (#[] : Array Value))
  obtain ⟨e1, ho1⟩ : ∃ e1, (s.heap.update a (Obj.mapSeq fun _ => (#[] : Array Value))).get? a = some (seqObj "list" #[] e1) := ⟨_, get?_update_seq ho fun _ => #[]⟩
  have hkS : ((s.heap.update a (Obj.mapSeq fun _ => (#[] : Array Value))).push (seqObj "tuple" vs.toArray 0)).objs.size = s.heap.objs.size + 1 := by rw [size_push', Heap.size_update]
  unfold ksk_tree
  refine wpAny_bind (listItems_at ho rfl ?_)
  refine wpAny_bind (listUpdate_at ho rfl ?_ (by rw [List.size_toArray, sizeLine_eq]; omega) (Nat.zero_le _))
  refine wpAny_bind (seqEpoch_at ho1 rfl ?_)
  refine wpAny_bind (wpAny_newTuple ?_ (by show vs.length ≤ _; rw [sizeLine_eq]; omega))
  refine wpAny_bind (wpAny_newList ?_ (Nat.zero_le _))
  refine wpAny_holding ?_
  have old : ∀ b o, b ≠ a → s.heap.get? b = some o → (((s.heap.update a (Obj.mapSeq fun _ => (#[] : Array Value))).push (seqObj "tuple" vs.toArray 0)).push (seqObj "list" #[] 0)).get? b = some o := fun b o n q =>
    Heap.get?_push_of_some _ (Heap.get?_push_of_some _ ((s1.2 b n).trans q))
  refine keyed_rest (s := { s with heap := ((s.heap.update a (Obj.mapSeq fun _ => (#[] : Array Value))).push (seqObj "tuple" vs.toArray 0)).push (seqObj "list" #[] 0) }) (kS := ((s.heap.update a (Obj.mapSeq fun _ => (#[] : Array Value))).push (seqObj "tuple" vs.toArray 0)).objs.size)
    (Heap.get?_push_size _ rfl) (Heap.get?_push_of_some _ (Heap.get?_push_of_some _ ho1)) (by rw [hkS]; exact Nat.ne_of_gt (Nat.lt_succ_of_lt ha)) hl h64 turn fun h' tk ps out c g1 g2 g3 g4 g5 g6 => h h' tk ps out c (fun b o n q => ?_) ?_ g3 g4 g5 g6
  · have hb := Heap.lt_size q
    exact (g1 b (by rw [hkS]; exact Nat.ne_of_lt (Nat.lt_succ_of_lt hb)) n).trans (old b o n q)
  · rw [g2]
    show s.heap.objs.size ≤ (((s.heap.update a (Obj.mapSeq fun _ => (#[] : Array Value))).push (seqObj "tuple" vs.toArray 0)).push (seqObj "list" #[] 0)).objs.size
    rw [size_push', hkS]; omega
end
def keyT : Key → Str
  | .inl i => toString i
  | .inr z => z
def keyFit : Key → Prop
  | .inl i => i.natAbs.log2 < 1920
  | .inr _ => True
theorem str_key {prog : Program} {w : World} {A : Around} {E : Value → Shared → Prop} {s : Shared} {k : Key} {u : Value} {Q : Value → Shared → Prop} (r : RelV (kV k) u) (hk : keyFit k) (h : ∀ t tk, Q (.str (keyT k) t) { s with toks := tk }) : wpAny (model prog w) A (call (.type "str") [u]) Q E s := by
  cases k with
  | inl i =>
    obtain ⟨t, rfl⟩ := (show ∃ t, u = Value.int i t from r)
    exact PySem.P.str_of_int hk (h _ _)
  | inr z =>
    obtain ⟨t, rfl⟩ := (show ∃ t, u = Value.str z t from r)
    exact PySem.P.str_of_str (h t s.toks)
theorem vals_keysOf {ks : List Key} {l : List Value} (v : Vals (ks.map kV) l) : Paired (fun k u => RelV (kV k) u) ks l := by
  induction ks generalizing l with
  | nil => cases v; exact .nil
  | cons k r ih => cases v with | cons a b => exact .cons a (ih b)
theorem perm_paired {α β : Type} {R : α → β → Prop} {m l : List α} (p : m.Perm l) : ∀ {l' : List β}, Paired R l l' → ∃ m' : List β, m'.Perm l' ∧ Paired R m m' := by
  induction p with
  | nil => exact fun h => ⟨_, .refl _, h⟩
  | cons x _ ih =>
    intro l' h
    cases h with
    | cons r t =>
      obtain ⟨m', p1, p2⟩ := ih t
      exact ⟨_, p1.cons _, .cons r p2⟩
  | swap x y l =>
    intro l' h
    cases h with
    | cons r t =>
      cases t with
      | cons r2 t2 => exact ⟨_, .swap _ _ _, .cons r2 (.cons r t2)⟩
  | trans _ _ ih1 ih2 =>
    intro l' h
    obtain ⟨m1, p1, q1⟩ := ih2 h
    obtain ⟨m2, p2, q2⟩ := ih1 q1
    exact ⟨m2, p2.trans p1, q2⟩
theorem keyed_base {ks : List Key} {l : List Value} (p : Paired (fun k u => RelV (kV k) u) ks l) : ∃ qs : List (Key × Value), qs.map (·.1) = ks ∧ qs.map (fun q => (keyT q.1, q.2)) = (ks.map keyT).zip l ∧ ∀ q ∈ qs, RelV (kV q.1) q.2 := by
  induction p with
  | nil => exact ⟨[], rfl, rfl, (fun _ m => nomatch m)⟩
  | @cons k u ks l a b ih =>
    obtain ⟨qs, h1, h2, h3⟩ := ih
    refine ⟨(k, u) :: qs, by rw [List.map_cons, h1], by rw [List.map_cons, h2]; rfl, fun q m => ?_⟩
    rcases List.mem_cons.mp m with rfl | m
    · exact a
    · exact h3 q m
theorem keyed_pick {ks : List Key} {l : List Value} (p : Paired (fun k u => RelV (kV k) u) ks l) {ps : List (Str × Value)} (hp : ps.Perm ((ks.map keyT).zip l)) : ∃ ks' : List Key, ks'.Perm ks ∧ Vals (ks'.map kV) (ps.map (·.2)) ∧ ks'.map keyT = ps.map (·.1) := by
  obtain ⟨qs, h1, h2, h3⟩ := keyed_base p
  rw [← h2] at hp
  have self : ∀ l : List (Key × Value), Paired (fun (x : Str × Value) (q : Key × Value) => x = (keyT q.1, q.2)) (l.map fun q => (keyT q.1, q.2)) l := by
    intro l
    induction l with
    | nil => exact .nil
    | cons q r ih => exact .cons rfl ih
  obtain ⟨qs', pm, pr⟩ := perm_paired hp (self qs)
  have h3' : ∀ q ∈ qs', RelV (kV q.1) q.2 := fun q m => h3 q (pm.mem_iff.mp m)
  refine ⟨qs'.map (·.1), h1 ▸ pm.map _, ?_, ?_⟩
  · clear hp pm
    induction pr with
    | nil => exact .nil
    | cons a b ih =>
      subst a
      exact .cons (h3' _ (List.mem_cons_self ..)) (ih fun q m => h3' q (List.mem_cons_of_mem _ m))
  · clear hp pm h3'
    induction pr with
    | nil => rfl
    | cons a b ih =>
      subst a
      rw [List.map_cons, List.map_cons, List.map_cons, ih]
theorem paired_get2 {α β : Type} {R : α → β → Prop} : ∀ {l : List α} {l' : List β} {i : Nat} {y : β}, Paired R l l' → l'[i]? = some y → ∃ x, l[i]? = some x ∧ R x y
  | _, _, _, _, .nil, e => by simp at e
  | _, _, 0, _, .cons r _, e => by simp at e; subst e; exact ⟨_, rfl, r⟩
  | _, _, i + 1, _, .cons _ t, e => by simpa using paired_get2 t (by simpa using e)
section
variable {X : Cx}
/-- sorted(d, key=str) -/
def rSortedDK : List V → Hp → VK → Prop := fun vs H Q => ∃ (a : Addr) (kvs : List (Key × V)), vs = [.ref a] ∧ Rd H a (.dK kvs) ∧ kvs.length < 64 ∧ (∀ q ∈ kvs, keyFit q.1) ∧
  ∀ (ks : List Key) (p : Addr), ks.Perm (kvs.map (·.1)) → sortedS (ks.map keyT) = true → H p = none → p ≠ sysModules → Q (.ref p) (upd H p (.lst (ks.map kV)))
theorem sortedDK_of (hc : X.calm = true) (pins : List (Addr × Obj)) (s : Shared) (σ : St) (H : Hp) (xs : List V) (us : List Value) (Q : VK) (I : Inv X pins σ H s) (r : Vals xs us) (h : rSortedDK xs H Q) :
    wpAny (model X.prog X.w) X.A (call (.builtin "sorted") us [(Str.ofString "key", .type "str")]) (EP X pins σ Q) X.xe s := by
  obtain ⟨a, kvs, rfl, ha, h64, fit, q⟩ := h
  rw [Vals.ref1 r]
  refine call_function_entry_kw kind_sorted plain_sorted entry_sorted (ksk_s1 _ _) ?_
  unfold Builtin.«sorted»
  refine wpAny_bind (m := checkCount "sorted" 1 1 _) (wpAny_pure ?_)
  refine wpAny_bind (d_collect hc I ha fun h' tk l hk rv => ?_)
  have ev : kvs.map (fun kv => kV kv.1) = (kvs.map (·.1)).map kV := by rw [List.map_map]; rfl
  rw [ev] at rv
  have pk := vals_keysOf rv
  have hl : l.length = kvs.length := by have := Paired.length pk; rw [List.length_map] at this; exact this.symm
  refine wpAny_bind (wpAny_newList ?_ (by rw [hl]; exact small64 h64))
  have hoL : (h'.push (seqObj "list" l.toArray 0)).get? h'.objs.size = some (seqObj "list" l.toArray 0) := Heap.get?_push_size _ rfl
  refine wpAny_bind (wpAny_holding (wpAny_call_entry_kw slot_list_sort ⟨_, hoL, rfl⟩ entry_list_sort ?body (ksk_l1 _ _)))
  case body =>
    show wpAny (model X.prog X.w) X.A.in1.in1 (ksk_tree h'.objs.size (.type "str") false) _ _ _
    refine keyed_sort (s := { s with heap := h'.push (seqObj "list" l.toArray 0), toks := tk }) (zs := (kvs.map (·.1)).map keyT) hoL (by rw [List.length_map, List.length_map]; exact hl.symm) (by rw [hl]; exact h64) (fun i v z hv hz s' Q' hq => ?_) fun h2 tk2 ps out c g1 g2 g3 g4 g5 g6 => ⟨_, rfl, ?_⟩
    · rw [List.map_map, List.getElem?_map] at hz
      obtain ⟨kv, hkv, rfl⟩ := Option.map_eq_some_iff.mp hz
      have hr : RelV (kV kv.1) v := by
        obtain ⟨k, e1, e2⟩ := paired_get2 pk hv
        rw [List.getElem?_map, hkv] at e1
        cases e1
        exact e2
      exact str_key hr (fit kv (List.mem_of_getElem? hkv)) hq
    · obtain ⟨ks, p1, p2, p3⟩ := keyed_pick pk g4
      have I1 : Inv X pins σ H { s with heap := h', toks := tk } := I.kept hk
      have hlen : (ks.map kV).length ≤ sizeLine := by rw [List.length_map, p1.length_eq, List.length_map]; exact small64 h64
      refine wpAny_pure ⟨_, rfl, .ref h'.objs.size, upd H h'.objs.size (.lst (ks.map kV)), I1.laid (t' := tk2) (fun b o e => ?_) (Nat.le_refl _) ⟨hlen, out.toList, c, by rw [g5]; exact p2, by rw [Array.toArray_toList]; exact g3⟩, rfl, q ks _ p1 (by rw [p3]; exact g6) (I1.hok.fresh (Nat.le_refl _)) (Nat.ne_of_gt I1.big)⟩
      exact g1 b o (Nat.ne_of_lt (Heap.lt_size e)) (Heap.get?_push_of_some _ e)
theorem pe_sortedDK {p p2 kp pos : Pos} {e : Expr} {te : TE} (hc : X.calm = true) (hg : Gl X "sorted") (hm : X.mg "sorted" = none) (hv : bootBuiltins "sorted" = some (.builtin "sorted")) (hg2 : Gl X "str") (hm2 : X.mg "str" = none) (hv2 : bootBuiltins "str" = some (.type "str")) (he : PE X e te)
    (hs : starEach [e] X.env = (false, eval e X.env) :: starEach [] X.env := by rfl) (hpl : (backTo pos (starEach [e] X.env)).any (·.1) = false := by rfl) :
    PE X (.Call (.Name "sorted" p) [e] [⟨some "key", .Name "str" p2, kp⟩] pos) (tCB rSortedDK (tCons te tNil)) := by
  intro pins s σ H Q I h
  refine wpAny_Call_Name_kw (ld_blt I hg hm hv ?_)
  refine callWith_kw (thn ((pa_cons he pa_nil hs) pos pins s σ H _ I h) fun us s1 ⟨vs, H1, I1, r1, q1⟩ => ?_) (by rw [hs]; rfl) hpl rfl rfl
  exact kws_cons (ld_blt I1 hg2 hm2 hv2 (kws_nil (sortedDK_of hc pins s1 σ H1 vs us Q I1 r1 q1)))
end
end L2

set_option Elab.async false
set_option linter.all false
set_option maxRecDepth 100000
set_option maxHeartbeats 1000000
/-! a class's call by its parameters' names -/
namespace L2
open PySem PySem.Spec PyProof.Rows
def tMakeK (C : Addr) (sp : Sp) (gV : List V → List V → List V) (E : XK) (tk : TA) : TE := fun σ H Q => tk σ H fun zs H1 => ∀ x dx, H1 x = none → H1 dx = none → dx ≠ x →
  sp (gV [.ref x] zs) (upd (upd H1 dx (.own x)) x (.ins C dx [])) (fun v H2 => v = .non ∧ Q (.ref x) H2) E
section
variable {X : Cx} {CX : CXT} {k : Nat} {f C : Addr} {fd : FuncData} {ps ks : List Str} {sp : Sp} {E : XK} {x : Str} {p pos : Pos} {kws : List Keyword} {tk : TA} {g : List Value → List Value → List Value} {gV : List V → List V → List V}
theorem run_makeK {pins : List (Addr × Obj)} {σ : St} {H : Hp} {s : Shared} {Q : VK} {ws : List Value} {zs : List V} (M : Mk X.K C f) (F : FnOk X.prog X.w X.K X.mg X.base CX k f fd ps sp) (hr : Room (k + 1) X.A) (hb : KBinds X.K fd ps ks g gV)
    (hx : Passes CX X E) (I : Inv X pins σ H s) (rz : Vals zs ws)
    (h : ∀ x dx, H x = none → H dx = none → dx ≠ x → sp (gV [.ref x] zs) (upd (upd H dx (.own x)) x (.ins C dx [])) (fun v H2 => v = .non ∧ Q (.ref x) H2) E) :
    wpAny (model X.prog X.w) X.A (call (.ref C) [] (ks.zip ws)) (EP X pins σ Q) X.xe s := by
  have hq := h (s.heap.objs.size + 1) s.heap.objs.size (I.hok.fresh (Nat.le_succ _)) (I.hok.fresh (Nat.le_refl _)) (Nat.ne_of_lt (Nat.lt_succ_self _))
  have I2 := Inv.made (C := C) I
  have r2 : Vals (gV [V.ref (s.heap.objs.size + 1)] zs) (g [Value.ref (s.heap.objs.size + 1)] ws) := hb.rel (.cons rfl .nil) rz
  have hl : (g [Value.ref (s.heap.objs.size + 1)] ws).length = ps.length := by
    rw [← r2.length]
    exact F.len _ _ _ _ hq
  refine wpAny_call (make_map (f := f) I.kIn M.makes M.init (beq_iff_eq.mp M.fn) (codeAny_mono (F.run _ X.stack _ _ ⟨[Value.ref (s.heap.objs.size + 1)], ks.zip ws⟩ (g [Value.ref (s.heap.objs.size + 1)] ws) _ _ E (hr.make C [] (ks.zip ws))
    (I2.env0.make C [] (ks.zip ws)) (hb.to _ [Value.ref (s.heap.objs.size + 1)] ws I2.kIn hl) r2 hq) fun r s' hq' => ?_))
  cases r with
  | error e => exact hx pins σ _ _ e s' I2 hq'
  | ok fl =>
    cases fl with
    | ret u =>
      obtain ⟨v, H', I3, rv, ev, q3⟩ := I2.after hq'
      subst ev
      exact ⟨rv, ⟨V.ref (s.heap.objs.size + 1), H', I3, rfl, q3⟩⟩
    | next => exact False.elim hq'
    | brk => exact False.elim hq'
    | cont => exact False.elim hq'
/-- a class that may be called by names -/
structure NCalK (P : Program) (w : World) (K : PySem.W.Frag) (mg : Str → Option Value) (base : Heap) (x : Str) (C : Addr) (ps ks : List Str) (gV : List V → List V → List V) (k : Nat) (sp : Sp) : Prop where
  ex : ∃ (f : Addr) (fd : FuncData) (g : List Value → List Value → List Value), mg x = some (.ref C) ∧ Mk K C f ∧ FnOk P w K mg base CX0 k f fd ps sp ∧ KBinds K fd ps ks g gV
theorem pe_ncalK (c : NCalK X.prog X.w X.K X.mg X.base x C ps ks gV k sp) (hr : Room (k + 1) X.A) (hg : Gl X x)
    (hkw : PK X kws tk) (hall : (backToKw pos (keywordEach kws X.env)).all (·.1.isSome) = true := by rfl) (hks : (backToKw pos (keywordEach kws X.env)).filterMap (·.1) = ks := by rfl)
    (hdb : (x == ("__debug__" : Str)) = false := by decide) (hpl : ((backTo pos (starEach [] X.env)).any (·.1) || (backToKw pos (keywordEach kws X.env)).any (·.1.isNone)) = false := by rfl) :
    PE X (.Call (.Name x p) [] kws pos) (tMakeK C sp gV E0 tk) := by
  obtain ⟨f, fd, g, hm, M, F, hb⟩ := c.ex
  intro pins s σ H Q I h
  refine wpAny_Call_Name_kw (ld_glob I hg hm ?_ hdb)
  refine PySem.W.callWith_KW0 (h₀ := X.base) (first := []) I.ok.mod.kin M.kp hall ?_ hpl
  refine thn (hkw pos pins s σ H _ I h) fun ws s2 ⟨zs, H2, I2, rz, q2⟩ => ⟨I2.kIn, ?_⟩
  rw [hks]
  exact run_makeK M F hr hb pass0 I2 rz q2
end
end L2

set_option Elab.async false
set_option linter.all false
set_option maxRecDepth 100000
namespace L2
open PySem PySem.Spec PyProof.Rows
section
variable {X : Cx} {o e value : PySem.Expr} {f : Str} {p p2 kp pos tpos kpos : Pos} {ta tv te : TE} {op : Operator} {rd : V → V → Hp → VK → Prop} {C : Addr} {ps ks : List Str} {gV : List V → List V → List V} {k : Nat} {sp : Sp} {x : Str} {kws : List Keyword} {tk : TA} {nm : Option Str}
theorem wps_fldaug (ha : WE X o ta) (hv : WE X value tv) (hop : InOp X op rd) : WS X (.AugAssign (.Attribute o f tpos) op value pos) (sFldAug X.K ta tv rd f) := WS.of (ps_fldaug ha.to hv.to hop)
theorem wpe_sortedDK (hc : X.calm = true) (hg : Gl X "sorted") (hm : X.mg "sorted" = none) (hv : bootBuiltins "sorted" = some (.builtin "sorted")) (hg2 : Gl X "str") (hm2 : X.mg "str" = none) (hv2 : bootBuiltins "str" = some (.type "str")) (he : WE X e te)
    (hs : starEach [e] X.env = (false, eval e X.env) :: starEach [] X.env := by rfl) (hpl : (backTo pos (starEach [e] X.env)).any (·.1) = false := by rfl) :
    WE X (.Call (.Name "sorted" p) [e] [⟨some "key", .Name "str" p2, kp⟩] pos) (tCB rSortedDK (tCons te tNil)) := WE.of (pe_sortedDK hc hg hm hv hg2 hm2 hv2 he.to hs hpl)
theorem wpk_nil : PK X [] tNil := pk_nil
theorem wpk_cons (ha : WE X e te) (hr : PK X kws tk) : PK X (⟨nm, e, kpos⟩ :: kws) (tCons te tk) := pk_cons ha.to hr
theorem wpe_ncalK (c : NCalK X.prog X.w X.K X.mg X.base x C ps ks gV k sp) (hr : Room (k + 1) X.A) (hg : Gl X x)
    (hkw : PK X kws tk) (hall : (backToKw pos (keywordEach kws X.env)).all (·.1.isSome) = true := by rfl) (hks : (backToKw pos (keywordEach kws X.env)).filterMap (·.1) = ks := by rfl)
    (hdb : (x == ("__debug__" : Str)) = false := by decide) (hpl : ((backTo pos (starEach [] X.env)).any (·.1) || (backToKw pos (keywordEach kws X.env)).any (·.1.isNone)) = false := by rfl) :
    WE X (.Call (.Name x p) [] kws pos) (tMakeK C sp gV E0 tk) := WE.of (pe_ncalK c hr hg hkw hall hks hdb hpl)
theorem wkpe_fld {K : PySem.W.Frag} {e : PySem.Expr} (hK : Cx.K X = K) (he : WE X e ta) (hb : attributeBase e f X.env (eval e X.env) = eval e X.env) : WE X (.Attribute e f pos) (tFld K ta f) := hK ▸ wpe_fld he hb
theorem wkpt_truth {K : PySem.W.Frag} {a : PySem.Expr} (hK : Cx.K X = K) (h1 : WE X a ta) (h2 : ∀ whole, isTrue a X.env whole = (do let v ← whole; standAt a.pos; holding [v] (truthy v))) : WT X a (fun σ H Q => ta σ H fun x H' => ∃ k, TruV K x H' k ∧ Q k H') := hK ▸ wpt_truth h1 h2
end
end L2

set_option Elab.async false
set_option linter.all false
set_option maxRecDepth 100000
set_option maxHeartbeats 4000000

namespace My
open PySem L2 PyProof.Rows
def top (i : Nat) : Stmt := PySem.Challenge.pw_websplit_k63_disks_that_fall.main.body.getD i (.Pass ⟨0, 0, 0, 0⟩)
def mAt (s : Stmt) (j : Nat) : Stmt := match s with
  | .ClassDef _ _ _ b _ _ _ _ _ _ _ => b.getD j (.Pass ⟨0, 0, 0, 0⟩)
  | _ => .Pass ⟨0, 0, 0, 0⟩
abbrev clsAt (s : Stmt) : Stmt := mAt s 0
abbrev s_Disk_init : Stmt := mAt (top 6) 0
theorem sc_Disk_init : FnScope ["self", "rows", "fall", "place"] ["self", "rows", "fall"] (defScope s_Disk_init) := ⟨rfl, rfl, rfl, by decide +kernel, rfl, by decide +kernel, by decide +kernel⟩
abbrev s_Disk_write : Stmt := mAt (top 6) 1
theorem sc_Disk_write : FnScope ["self", "place", "row"] ["self", "place", "row"] (defScope s_Disk_write) := ⟨rfl, rfl, rfl, by decide +kernel, rfl, by decide +kernel, by decide +kernel⟩
abbrev s_Disk_rows : Stmt := mAt (top 6) 2
theorem sc_Disk_rows : FnScope ["self", "place"] ["self"] (defScope s_Disk_rows) := ⟨rfl, rfl, rfl, by decide +kernel, rfl, by decide +kernel, by decide +kernel⟩
abbrev s_Disk_steps : Stmt := mAt (top 6) 3
theorem sc_Disk_steps : FnScope ["self"] ["self"] (defScope s_Disk_steps) := ⟨rfl, rfl, rfl, by decide +kernel, rfl, by decide +kernel, by decide +kernel⟩
abbrev s_Disk_is_up : Stmt := mAt (top 6) 4
theorem sc_Disk_is_up : FnScope ["self"] ["self"] (defScope s_Disk_is_up) := ⟨rfl, rfl, rfl, by decide +kernel, rfl, by decide +kernel, by decide +kernel⟩
abbrev s__law_pen : Stmt := top 8
theorem sc__law_pen : FnScope ["_law_script"] ["_law_script"] (defScope s__law_pen) := ⟨rfl, rfl, rfl, by decide +kernel, rfl, by decide +kernel, by decide +kernel⟩
abbrev s__law_draw : Stmt := top 9
theorem sc__law_draw : FnScope ["_law_pen_here", "_law_many", "_law_digit", "_law_turn", "_law_cell", "_law_primes", "_law_prime", "_law_drawn"] ["_law_pen_here", "_law_many"] (defScope s__law_draw) := ⟨rfl, rfl, rfl, by decide +kernel, rfl, by decide +kernel, by decide +kernel⟩
abbrev s__law_pick : Stmt := top 10
theorem sc__law_pick : FnScope ["_law_pen_here", "_law_some"] ["_law_pen_here", "_law_some"] (defScope s__law_pick) := ⟨rfl, rfl, rfl, by decide +kernel, rfl, by decide +kernel, by decide +kernel⟩
abbrev s__law_thing : Stmt := top 11
theorem sc__law_thing : FnScope ["_law_pen_here", "_law_deep", "_law_some", "_law_inner", "_law_k"] ["_law_pen_here", "_law_deep"] (defScope s__law_thing) := ⟨rfl, rfl, rfl, by decide +kernel, rfl, by decide +kernel, by decide +kernel⟩
abbrev s__law_wrote : Stmt := top 12
theorem sc__law_wrote : FnScope ["_law_disk", "_law_spot", "_law_thing_here", "_law_kept", "e"] ["_law_disk", "_law_spot", "_law_thing_here"] (defScope s__law_wrote) := ⟨rfl, rfl, rfl, by decide +kernel, rfl, by decide +kernel, by decide +kernel⟩
abbrev s_law : Stmt := top 13
theorem sc_law : FnScope ["_law_script", "_law_pen_here", "_law_known", "_law_bout", "_law_handed", "_law_spot", "_law_step", "_law_disk", "_law_passed", "_law_down", "_law_turn", "_law_thing_here", "_law_told"] ["_law_script"] (defScope s_law) := ⟨rfl, rfl, rfl, by decide +kernel, rfl, by decide +kernel, by decide +kernel⟩
abbrev s_Fell : Stmt := clsAt (top 1)
theorem sc_Fell : FnScope ["self", "step"] ["self", "step"] (defScope s_Fell) := ⟨rfl, rfl, rfl, by decide +kernel, rfl, by decide +kernel, by decide +kernel⟩
abbrev s_Moving : Stmt := clsAt (top 3)
theorem sc_Moving : FnScope ["self", "slot"] ["self", "slot"] (defScope s_Moving) := ⟨rfl, rfl, rfl, by decide +kernel, rfl, by decide +kernel, by decide +kernel⟩

end My

set_option Elab.async false
set_option linter.all false
set_option maxRecDepth 100000
set_option maxHeartbeats 4000000

namespace My
open PySem L2 PyProof.Rows
structure Tx (mg : Str → Option Value) : Prop where
  z_len : mg "len" = none
  z_abs : mg "abs" = none
  z_isinstance : mg "isinstance" = none
  z_int : mg "int" = none
  z_bool : mg "bool" = none
  z_str : mg "str" = none
  z_list : mg "list" = none
  z_dict : mg "dict" = none
  z_tuple : mg "tuple" = none
  z_sorted : mg "sorted" = none
  z_KeyError : mg "KeyError" = none
  z_min : mg "min" = none
  z_repr : mg "repr" = none
  z_range : mg "range" = none
  z_RuntimeError : mg "RuntimeError" = none
/-! ### the pen -/
def penD (l : Addr) (t : Int) (r : Int) : List (Key × V) := [(.inr "cells", .ref l), (.inr "turn", .int t), (.inr "rest", .int r)]
structure Pen (p l : Addr) (t : Nat) (H : Hp) : Prop where
  ex : ∃ (ns : List Int) (r : Int), H p = some (.dK (penD l t r)) ∧ H l = some (.lst (ns.map V.int)) ∧ 0 ≤ r ∧ ns.length ≤ 63
theorem k1 : ¬ (("cells" : Str) = "turn") := by decide +kernel
theorem k2 : ¬ (("cells" : Str) = "rest") := by decide +kernel
theorem k3 : ¬ (("turn" : Str) = "rest") := by decide +kernel
theorem k1' : ¬ (("turn" : Str) = "cells") := by decide +kernel
theorem k2' : ¬ (("rest" : Str) = "cells") := by decide +kernel
theorem k3' : ¬ (("rest" : Str) = "turn") := by decide +kernel
theorem pen_cells (l : Addr) (t : Int) (r : Int) : valV (penD l t r) (.inr "cells") = some (.ref l) := by
  unfold penD; rw [valV_pos rfl]
theorem pen_turn (l : Addr) (t : Int) (r : Int) : valV (penD l t r) (.inr "turn") = some (.int t) := by
  unfold penD; rw [valV_neg (by simp [k1]), valV_pos rfl]
theorem pen_rest (l : Addr) (t : Int) (r : Int) : valV (penD l t r) (.inr "rest") = some (.int r) := by
  unfold penD; rw [valV_neg (by simp [k2]), valV_neg (by simp [k3]), valV_pos rfl]
theorem put_turn (l : Addr) (t r t' : Int) : putK (penD l t r) (.inr "turn") (.int t') = penD l t' r := by
  simp [penD, putK, k1, k2, k3, k1', k2', k3']
theorem put_rest (l : Addr) (t : Int) (r r' : Int) : putK (penD l t r) (.inr "rest") (.int r') = penD l t r' := by
  simp [penD, putK, k1, k2, k3, k1', k2', k3']
theorem ext_upd {p : Addr} {H : Hp} (o : HO) : Ext p H (upd H p o) := fun b u n h => by rw [upd_ne n]; exact h
theorem Pen.put {p l : Addr} {t : Nat} {H : Hp} (P : Pen p l t H) {a : Addr} {vs : List V} (h : H a = some (.lst vs)) (n : a ≠ l) (ws : List V) : Pen p l t (upd H a (.lst ws)) := by
  obtain ⟨ns, r, h1, h2, h3⟩ := P.ex
  exact ⟨ns, r, by rw [upd_ne (ne_of h1 h (by intro z; cases z))]; exact h1, by rw [upd_ne n.symm]; exact h2, h3⟩
theorem Pen.lne {p l : Addr} {t : Nat} {H : Hp} (P : Pen p l t H) {b : Addr} (h : H b = none) : b ≠ l := by
  obtain ⟨ns, r, _, h1, _⟩ := P.ex
  exact (ne_of_none h1 h).symm
theorem Pen.new {p l : Addr} {t : Nat} {H : Hp} (P : Pen p l t H) {b : Addr} (h : H b = none) (o : HO) : Pen p l t (upd H b o) := by
  obtain ⟨ns, r, h1, h2, h3⟩ := P.ex
  exact ⟨ns, r, same_new h _ _ _ h1, same_new h _ _ _ h2, h3⟩
theorem Pen.ne {p l : Addr} {t : Nat} {H : Hp} (P : Pen p l t H) {b : Addr} (h : H b = none) : b ≠ p := by
  obtain ⟨ns, r, h1, _⟩ := P.ex
  exact (ne_of_none h1 h).symm
theorem Pen.same {p l : Addr} {t : Nat} {H H' : Hp} (P : Pen p l t H) (s : Same H H') : Pen p l t H' := by
  obtain ⟨ns, r, h1, h2, h3⟩ := P.ex
  exact ⟨ns, r, s _ _ h1, s _ _ h2, h3⟩
def spDraw : Sp := fun vs H Q _ => ∃ (p l : Addr) (m : Int) (t : Nat), vs = [.ref p, .int m] ∧ Pen p l t H ∧ 0 < m ∧ m < 1073741824 ∧ t < 1000000000 ∧
  ∀ (d : Int) (t' : Nat) (H' : Hp), 0 ≤ d → d < m → t' ≤ t + 1 → Pen p l t' H' → Ext p H H' → Q (.int d) H'
theorem eqv_nil : ∀ ns : List Int, PyData.eqv (.list (ns.map .int)) (.list []) = ns.isEmpty
  | [] => by simp [PyData.eqv, PyData.eqvAll]
  | _ :: _ => by simp [PyData.eqv, PyData.eqvAll]
theorem lay_ints : ∀ ns : List Int, PyData.canLayAll0 (ns.map .int) = true ∧ PyData.depthAll (ns.map .int) = 0
  | [] => ⟨rfl, rfl⟩
  | n :: r => by
    obtain ⟨h1, h2⟩ := lay_ints r
    simp [PyData.canLayAll0, PyData.depthAll, PyData.canLay0, PyData.depth, h1, h2]
theorem shaped_ints (ns : List Int) : SeqAt.shaped (.list (ns.map .int)) = true := by
  obtain ⟨h1, h2⟩ := lay_ints ns
  simp [SeqAt.shaped, PyData.canLay0, PyData.depth, h1, h2]
theorem tok1000 {n : Nat} (h : n ≤ 1000) : n ≤ sizeLine := Nat.le_of_lt (small1000 h)
theorem Pen.ext {p l : Addr} {t : Nat} {H H' : Hp} (P : Pen p l t H) (e : Ext p H H') (n : Nat) {r' : Int} (h0 : 0 ≤ r') : ∀ {ns : List Int} {t0 : Int} {r0 : Int}, H p = some (.dK (penD l t0 r0)) → H l = some (.lst (ns.map V.int)) → ns.length ≤ 63 → H' p = some (.dK (penD l n r')) → Pen p l n H' :=
  fun {ns t0 r0} h1 h2 h3 h4 => ⟨ns, r', h4, e _ _ (ne_of h2 h1 (by intro z; cases z)) h2, h0, h3⟩
theorem dp_ints {K : PySem.W.Frag} {H : Hp} : ∀ ns : List Int, DpAll K H (ns.map V.int) (ns.map .int)
  | [] => .nil
  | n :: r => .cons (.int n) (dp_ints r)
section
variable {P : Program} {w : World} {K : PySem.W.Frag} {mg : Str → Option Value} {base : Heap}
theorem ok_draw (T : Tx mg) (D : Def K mg "_law_draw" s__law_draw ["_law_pen_here", "_law_many"]) : Cal P w K mg base "_law_draw" ["_law_pen_here", "_law_many"] 1 spDraw := by
  refine wcal_of D sc__law_draw (fun vs H Q E h => ?_) (fun f cdv A outer s H vs Q E hr h => ?_)
  · obtain ⟨p, l, m, t, rfl, _⟩ := h; rfl
  obtain ⟨p, l, m, t, rfl, Pn, hm0, hm1, ht, k⟩ := h
  have hu := hu_of hr
  refine ⟨_, (wpss_cons (wps_if (wpt_cmpR wop_gt (wpe_dget hu (wpv 0) wpe_str (fun _ _ => rfl)) wpe_int (nomark _)) (wpss_cons (wps_set (i := 2) sc__law_draw.nd rfl (Or.inl rfl) (wpe_op wop_mod (wpe_dget hu (wpv 0) wpe_str (fun _ _ => rfl)) (wpv 1))) (wpss_cons (wps_dput hu (wpv 0) wpe_str (wpe_op wop_fdiv (wpe_dget hu (wpv 0) wpe_str (fun _ _ => rfl)) (wpv 1)) rfl) (wpss_one (wps_ret (wpv 2))))) wpss_nil) (wpss_cons (wps_set (i := 3) sc__law_draw.nd rfl (Or.inl rfl) (wpe_dget hu (wpv 0) wpe_str (fun _ _ => rfl))) (wpss_cons (wps_dput hu (wpv 0) wpe_str (wpe_op wop_add (wpv 3) wpe_int) rfl) (wpss_cons (wps_set (i := 4) sc__law_draw.nd rfl (Or.inl rfl) (wpe_op wop_add (wpe_op wop_mul wpe_int (wpv 3)) wpe_int)) (wpss_cut (wps_if (wpt_cmpR (wop_neD hr.units) (wpe_dget hu (wpv 0) wpe_str (fun _ _ => rfl)) (wpe_lstN wpa_nil) (nomark _)) (wpss_one (wps_set (i := 4) sc__law_draw.nd rfl (Or.inl rfl) (wpe_ix wix_list (wpe_dget hu (wpv 0) wpe_str (fun _ _ => rfl)) (wpe_op wop_mod (wpv 3) (wpe_callB wcall_len (by rfl) T.z_len (by decide +kernel) (wpa_cons (wpe_dget hu (wpv 0) wpe_str (fun _ _ => rfl)) wpa_nil))) ixp_bin))) wpss_nil) (wpss_cut (wps_if (WW.pt (wpw_and (wpt_cmpR wop_lt (wpv 3) (wpe_callB wcall_len (by rfl) T.z_len (by decide +kernel) (wpa_cons (wpe_dget hu (wpv 0) wpe_str (fun _ _ => rfl)) wpa_nil)) (nomark _)) (wpw_and1 (wpt_cmpR wop_ge (wpe_callB wcall_abs (by rfl) T.z_abs (by decide +kernel) (wpa_cons (wpv 4) wpa_nil)) (wpe_op wop_pow wpe_int wpe_int) (nomark _))))) (wpss_cons (wps_dput hu (wpv 0) wpe_str (wpe_op wop_fdiv (wpe_op wop_sub (wpe_callB wcall_abs (by rfl) T.z_abs (by decide +kernel) (wpa_cons (wpv 4) wpa_nil)) (wpe_op wop_pow wpe_int wpe_int)) (wpv 1)) rfl) (wpss_one (wps_ret (wpe_op wop_mod (wpe_op wop_sub (wpe_callB wcall_abs (by rfl) T.z_abs (by decide +kernel) (wpa_cons (wpv 4) wpa_nil)) (wpe_op wop_pow wpe_int wpe_int)) (wpv 1))))) wpss_nil) (wpss_cons (wps_set (i := 5) sc__law_draw.nd rfl (Or.inl rfl) (wpe_lstN (wpa_consts (vs := [.int 2147483647, .int 2147483629, .int 2147483587, .int 2147483579, .int 2147483563]) (by decide +kernel)))) (wpss_cons (wps_set (i := 6) sc__law_draw.nd rfl (Or.inl rfl) (wpe_ix wix_list (wpv 5) (wpe_op wop_mod (wpv 3) wpe_int) ixp_bin)) (wpss_cons (wps_set (i := 7) sc__law_draw.nd rfl (Or.inl rfl) (wpe_op wop_mod (wpe_op wop_add (wpe_op wop_add (wpe_op wop_mul (wpe_op wop_mod (wpv 4) (wpv 6)) wpe_int) (wpe_op wop_mul (wpe_op wop_mul wpe_int (wpv 3)) (wpv 3))) wpe_int) (wpv 6))) (wpss_cons (wps_set (i := 7) sc__law_draw.nd rfl (Or.inl rfl) (wpe_op wop_mod (wpe_op wop_mul (wpv 7) (wpe_op wop_add (wpv 7) wpe_int)) (wpe_ix wix_list (wpv 5) (wpe_op wop_mod (wpe_op wop_add (wpv 3) wpe_int) wpe_int) ixp_bin))) (wpss_one (wps_ret (wpe_op wop_mod (wpe_op wop_fdiv (wpe_op wop_mod (wpe_op wop_mul (wpv 7) (wpv 7)) wpe_int) wpe_int) (wpv 1)))))))))))))), ?_⟩
  obtain ⟨ns, r, h1, h2, h3, h4⟩ := Pn.ex
  have hpl : l ≠ p := ne_of h2 h1 (by intro z; cases z)
  -- if pen['rest'] > 0
  refine ⟨_, rfl, p, _, rfl, (by have q := DGet.k (k := Sum.inr "rest") h1; rw [pen_rest] at q; exact q), _, _, rfl, rfl, _, rfl, ?_⟩
  refine ite2 (fun c => ?_) (fun c => ?_)
  · -- a digit more of the rest
    have gr : DGet H p (kV (Sum.inr "rest")) (some (.int r)) := by have q := DGet.k (k := Sum.inr "rest") h1; rw [pen_rest] at q; exact q
    refine ⟨_, rfl, p, _, rfl, gr, _, rfl, _, _, rfl, rfl, hm0, ?_⟩
    refine ⟨_, rfl, p, _, rfl, gr, _, rfl, _, _, rfl, rfl, ⟨hm0, hm1⟩, _, rfl, p, _, rfl, DPut.k (k := Sum.inr "rest") h1 (small1000 (by show 3 ≤ 1000; decide)), ?_⟩
    refine ⟨_, rfl, ?_⟩
    refine k (r % m) t _ (Int.emod_nonneg _ (by omega)) (Int.emod_lt_of_pos _ hm0) (by omega) ?_ (ext_upd _)
    exact Pn.ext (ext_upd _) t (r' := r / m) (Int.ediv_nonneg h3 (by omega)) h1 h2 h4 (by rw [upd_same, put_rest])
  · -- a cell, or a number of the turn
    have gt : DGet H p (kV (Sum.inr "turn")) (some (.int t)) := by have q := DGet.k (k := Sum.inr "turn") h1; rw [pen_turn] at q; exact q
    refine ⟨_, rfl, p, _, rfl, gt, ?_⟩
    refine ⟨_, rfl, _, _, rfl, rfl, _, rfl, p, _, rfl, DPut.k (k := Sum.inr "turn") h1 (small1000 (by show 3 ≤ 1000; decide)), ?_⟩
    generalize e1 : upd H p (.dK (putK (penD l t r) (Sum.inr "turn") (V.int ((t : Int) + 1)))) = H1
    have x1 : Ext p H H1 := by rw [← e1]; exact ext_upd _
    have g1 : H1 p = some (.dK (penD l ((t : Int) + 1) r)) := by rw [← e1, upd_same, put_turn]
    have g2 : H1 l = some (.lst (ns.map V.int)) := x1 _ _ hpl h2
    clear e1
    refine ⟨_, rfl, _, _, rfl, rfl, .inl ⟨by decide, by decide⟩, _, _, rfl, rfl, ?_⟩
    refine ⟨fun σ' H' => ∃ c : Int, σ' = [some (.ref p), some (.int m), none, some (.int t), some (.int c), none, none, none] ∧ Same H1 H', ?_, ?_⟩
    · have gc : DGet H1 p (kV (Sum.inr "cells")) (some (.ref l)) := by have q := DGet.k (k := Sum.inr "cells") g1; rw [pen_cells] at q; exact q
      refine ⟨_, rfl, p, _, rfl, gc, tok1000 (by show 0 ≤ 1000; decide), fun q hq _ => ?_⟩
      have s1 : Same H1 (upd H1 q (.lst [])) := same_new hq _
      refine ⟨.list (ns.map .int), .list [], .lst (SqL.of (s1 _ _ g2)) (dp_ints ns), .lst (SqL.of upd_same) .nil, shaped_ints ns, rfl, _, rfl, ?_⟩
      rw [eqv_nil]
      refine ite2 (fun c => ?_) (fun c => ?_)
      · have hne : 0 < ns.length := by
          cases ns with
          | nil => simp at c
          | cons a b => simp
        have gc' : DGet (upd H1 q (.lst [])) p (kV (Sum.inr "cells")) (some (.ref l)) := by have z := DGet.k (k := Sum.inr "cells") (s1 _ _ g1); rw [pen_cells] at z; exact z
        have hl : (ns.map V.int).length = ns.length := List.length_map _
        have hi : (t : Int) % ((ns.map V.int).length : Nat) = ((t % ns.length : Nat) : Int) := by rw [hl]; exact (Int.natCast_emod _ _).symm
        have ht2 : t % ns.length < ns.length := Nat.mod_lt _ hne
        obtain ⟨v, hv⟩ : ∃ v, ns[t % ns.length]? = some v := ⟨_, List.getElem?_eq_getElem ht2⟩
        refine ⟨_, rfl, p, _, rfl, gc', _, rfl, _, rfl, p, _, rfl, gc', _, _, rfl, .inl ⟨_, SqL.of (s1 _ _ g2), rfl⟩, _, _, rfl, rfl, (by rw [hl]; omega), l, _, _, .int v, rfl, rfl, SqL.of (s1 _ _ g2), at_of hi (by rw [List.getElem?_map, hv]; rfl), ?_⟩
        exact ⟨v, rfl, s1⟩
      · exact ⟨_, rfl, s1⟩
    · rintro σ' H2 ⟨c, rfl, s2⟩
      have gc : DGet H2 p (kV (Sum.inr "cells")) (some (.ref l)) := by have q := DGet.k (k := Sum.inr "cells") (s2 _ _ g1); rw [pen_cells] at q; exact q
      have x2 : Ext p H H2 := x1.trans s2.ext
      refine ⟨fun σ' H' => σ' = [some (.ref p), some (.int m), none, some (.int t), some (.int c), none, none, none] ∧ Same H2 H', ?_, ?_⟩
      · refine ⟨_, rfl, _, rfl, p, _, rfl, gc, _, _, rfl, .inl ⟨_, SqL.of (s2 _ _ g2), rfl⟩, _, _, rfl, rfl, _, rfl, ?_⟩
        refine ite2 (fun c1 => ?_) (fun c1 => ?_)
        · refine ⟨_, rfl, _, rfl, _, _, rfl, rfl, ⟨by decide, by decide, by decide⟩, _, _, rfl, rfl, _, rfl, ?_⟩
          refine ite2 (fun c2 => ?_) (fun c2 => ?_)
          · have hge : (10 : Int) ^ (18 : Int).toNat ≤ (if c < 0 then -c else c) := of_decide_eq_true c2
            refine ⟨_, rfl, _, rfl, _, _, rfl, rfl, ⟨by decide, by decide, by decide⟩, _, _, rfl, rfl, _, rfl, _, _, rfl, rfl, ⟨hm0, hm1⟩, _, rfl, p, _, rfl, DPut.k (k := Sum.inr "rest") (s2 _ _ g1) (small1000 (by show 3 ≤ 1000; decide)), ?_⟩
            refine ⟨_, rfl, _, rfl, _, _, rfl, rfl, ⟨by decide, by decide, by decide⟩, _, _, rfl, rfl, _, rfl, _, _, rfl, rfl, hm0, ?_⟩
            refine k _ (t + 1) _ (Int.emod_nonneg _ (by omega)) (Int.emod_lt_of_pos _ hm0) (by omega) ?_ (x2.trans (ext_upd _))
            exact Pn.ext (x2.trans (ext_upd _)) (t + 1) (r' := ((if c < 0 then -c else c) - (10 : Int) ^ (18 : Int).toNat) / m) (Int.ediv_nonneg (by omega) (by omega)) h1 h2 h4 (by rw [upd_same, put_rest]; rfl)
          · exact ⟨rfl, Same.refl _⟩
        · exact ⟨rfl, Same.refl _⟩
      · rintro σ' H3 ⟨rfl, s3⟩
        refine ⟨tok1000 (by show 5 ≤ 1000; decide), fun q hq _ => ?_⟩
        have pr : ∀ i : Int, ∃ v : Int, atI [V.int 2147483647, V.int 2147483629, V.int 2147483587, V.int 2147483579, V.int 2147483563] (i % 5) = some (.int v) ∧ 0 < v ∧ v < 2147483648 := by
          intro i
          have h0 := Int.emod_nonneg i (show (5 : Int) ≠ 0 by decide)
          have h5 := Int.emod_lt_of_pos i (show (0 : Int) < 5 by decide)
          have e : i % 5 = 0 ∨ i % 5 = 1 ∨ i % 5 = 2 ∨ i % 5 = 3 ∨ i % 5 = 4 := by omega
          rcases e with e | e | e | e | e <;> rw [e] <;> exact ⟨_, rfl, by decide, by decide⟩
        obtain ⟨v1, a1, b1, c1⟩ := pr t
        obtain ⟨v2, a2, b2, c2⟩ := pr ((t : Int) + 3)
        refine ⟨_, rfl, _, rfl, _, _, rfl, rfl, (by show (0 : Int) < 5; decide), q, _, _, _, rfl, rfl, SqL.of upd_same, a1, ?_⟩
        have d1 := Int.emod_nonneg c (show v1 ≠ 0 by omega)
        have d2 := Int.emod_lt_of_pos c b1
        refine ⟨_, rfl, _, rfl, _, _, rfl, rfl, b1, _, _, rfl, rfl, .inl ⟨by omega, by omega⟩, _, rfl, _, _, rfl, rfl, .inl ⟨by decide, by decide⟩, _, rfl, _, _, rfl, rfl, .inr ⟨by omega, by omega⟩, _, _, rfl, rfl, _, _, rfl, rfl, _, rfl, _, _, rfl, rfl, b1, ?_⟩
        have bd : ∀ (a b : Int), 0 < b → b < 2147483648 → -(2 ^ 64) < a % b ∧ a % b < 2 ^ 64 := fun a b h h' => by
          have q1 := Int.emod_nonneg a (show b ≠ 0 by omega)
          have q2 := Int.emod_lt_of_pos a h
          omega
        refine ⟨_, rfl, _, rfl, _, _, rfl, rfl, _, _, rfl, rfl, .inl (bd _ _ b1 c1), _, rfl, _, rfl, _, _, rfl, rfl, _, _, rfl, rfl, (by show (0 : Int) < 5; decide), q, _, _, _, rfl, rfl, SqL.of upd_same, a2, _, _, rfl, rfl, b2, ?_⟩
        refine ⟨_, rfl, _, rfl, _, _, rfl, rfl, .inl (bd _ _ b2 c2), _, _, rfl, rfl, (by show (0 : Int) < 2147483549; decide), _, _, rfl, rfl, ⟨by decide, by decide⟩, _, rfl, _, _, rfl, rfl, hm0, ?_⟩
        have s4 : Same H2 (upd H3 q _) := s3.trans (same_new hq (.lst [V.int 2147483647, V.int 2147483629, V.int 2147483587, V.int 2147483579, V.int 2147483563]))
        refine k _ (t + 1) _ (Int.emod_nonneg _ (by omega)) (Int.emod_lt_of_pos _ hm0) (by omega) ?_ (x2.trans s4.ext)
        exact Pn.ext (x2.trans s4.ext) (t + 1) (r' := r) h3 h1 h2 h4 (s4 _ _ (s2 _ _ g1))
end
end My

set_option Elab.async false
set_option linter.all false
set_option maxRecDepth 100000
set_option maxHeartbeats 4000000

namespace My
open PySem L2 PyProof.Rows
def spPickL : Sp := fun vs H Q _ => ∃ (p l a : Addr) (xs : List V) (t : Nat), vs = [.ref p, .ref a] ∧ Pen p l t H ∧ t < 1000000000 ∧ H a = some (.lst xs) ∧ 0 < xs.length ∧ xs.length ≤ 1000 ∧
  ∀ (i : Nat) (x : V) (t' : Nat) (H' : Hp), xs[i]? = some x → t' ≤ t + 1 → Pen p l t' H' → Ext p H H' → Q x H'
def spPen (K : PySem.W.Frag) : Sp := fun vs H Q _ => ∃ (a : Addr) (ns : List Int), vs = [.ref a] ∧ SqL K H a (ns.map V.int) ∧ ns.length ≤ 63 ∧ ∀ (p l : Addr) (H' : Hp), Pen p l 0 H' → Same H H' → H p = none → Q (.ref p) H'
theorem Pen.lst_ne {p l a : Addr} {t : Nat} {H : Hp} {xs : List V} (P : Pen p l t H) (h : H a = some (.lst xs)) : a ≠ p := by
  obtain ⟨ns, r, h1, _⟩ := P.ex
  exact ne_of h h1 (by intro z; cases z)
theorem Pen.tup_ne {p l a : Addr} {t : Nat} {H : Hp} {xs : List V} (P : Pen p l t H) (h : H a = some (.tup xs)) : a ≠ p := by
  obtain ⟨ns, r, h1, _⟩ := P.ex
  exact ne_of h h1 (by intro z; cases z)
theorem same_upd {H H2 : Hp} {D : Addr} {o : HO} (s : Same H H2) (h : H D = none) : Same H (upd H2 D o) := fun b u e => by rw [upd_ne (ne_of_none e h)]; exact s _ _ e
theorem tYes_i {σ : L2.St} {H : Hp} {Q : Bool → Hp → Prop} (h : Q true H) : tYes σ H Q := h
section
variable {P : Program} {w : World} {K : PySem.W.Frag} {mg : Str → Option Value} {base : Heap}
theorem ok_pickL (T : Tx mg) (D : Def K mg "_law_pick" s__law_pick ["_law_pen_here", "_law_some"]) (C__law_draw : Cal P w K mg base "_law_draw" ["_law_pen_here", "_law_many"] 1 spDraw) : Cal P w K mg base "_law_pick" ["_law_pen_here", "_law_some"] 2 spPickL := by
  refine wcal_of D sc__law_pick (fun vs H Q E h => ?_) (fun f cdv A outer s H vs Q E hr h => ?_)
  · obtain ⟨p, l, m, t, _, rfl, _⟩ := h; rfl
  obtain ⟨p, l, a, xs, t, rfl, Pn, ht, ha, h0, h1, k⟩ := h
  refine ⟨_, (wpss_one (wps_ret (wpe_ix wix_list (wpv 1) (wpe_cal C__law_draw (hr.mono (by omega)) rfl (wpa_cons (wpv 0) (wpa_cons (wpe_callB wcall_len (by rfl) T.z_len (by decide +kernel) (wpa_cons (wpv 1) wpa_nil)) wpa_nil))) ixp_call))), ?_⟩
  refine ⟨_, rfl, _, rfl, _, rfl, _, _, rfl, .inl ⟨_, SqL.of ha, rfl⟩, p, l, _, t, rfl, Pn, by omega, by omega, ht, fun d t' H' d0 d1 ht' Pn' x => ?_⟩
  have hd : d.toNat < xs.length := by omega
  refine ⟨a, xs, d, xs[d.toNat], rfl, rfl, SqL.of (x _ _ (Pn.lst_ne ha) ha), at_of (j := d.toNat) (by omega) (List.getElem?_eq_getElem hd), ?_⟩
  exact k _ _ t' H' (List.getElem?_eq_getElem hd) ht' Pn' x
theorem ok_pen (T : Tx mg) (D : Def K mg "_law_pen" s__law_pen ["_law_script"]) : Cal P w K mg base "_law_pen" ["_law_script"] 1 (spPen K) := by
  refine wcal_of D sc__law_pen (fun vs H Q E h => ?_) (fun f cdv A outer s H vs Q E hr h => ?_)
  · obtain ⟨a, ns, rfl, _⟩ := h; rfl
  obtain ⟨a, ns, rfl, hS, hl, k⟩ := h
  refine ⟨_, (wpss_one (wps_ret (wpe_disp (wpps_cons wpe_str (wpe_callTy wcall_list_of (by rfl) T.z_list (by decide +kernel) (wpa_cons (wpe_slice wsl_list (wpv 0) wpo_none (wpo_some wpe_int)) wpa_nil)) (wpps_cons wpe_str wpe_int (wpps_cons wpe_str wpe_int wpps_nil))) (by rfl) (by rfl) (fun z => by cases z) (by decide)))), ?_⟩
  intro p hp
  have s1 : Same H (upd H p (.dK [])) := same_new hp _
  refine ⟨_, rfl, _, rfl, a, _, rfl, s1.seq hS, fun q hq => ?_⟩
  refine ⟨q, _, rfl, .inl (SqL.of upd_same), fun l hl' => ?_⟩
  have s2 := same_new hq (.lst (cutV (ns.map V.int) none (some 63)))
  have s3 := same_new hl' (.lst (cutV (ns.map V.int) none (some 63)))
  refine ⟨s3 _ _ (s2 _ _ upd_same), [(.inr "cells", .ref l), (.inr "turn", .int 0), (.inr "rest", .int 0)], rfl, (by show 3 ≤ 15; decide), ?_⟩
  have em : mergeK [] [(.inr "cells", .ref l), (.inr "turn", .int 0), (.inr "rest", .int 0)] = penD l (0 : Nat) 0 := by
    simp [mergeK, putK, penD, k1, k2, k3, k1', k2', k3']
  have nlp : l ≠ p := (ne_of_none (s2 _ _ upd_same) hl').symm
  have ec : cutV (ns.map V.int) none (some 63) = ((ns.drop (HT.sIx (ns.map V.int).length 0 none)).take (HT.sIx (ns.map V.int).length (ns.map V.int).length (some 63) - HT.sIx (ns.map V.int).length 0 none)).map V.int := by
    unfold cutV
    rw [List.map_take, List.map_drop]
  refine k p l _ ⟨_, 0, by rw [upd_same, em], by rw [upd_ne nlp, upd_same, ec], Int.le_refl 0, ?_⟩ (fun b o e => ?_) hp
  · refine Nat.le_trans (Nat.le_trans (List.length_take_le' _ _) ?_) hl
    rw [List.length_drop]
    exact Nat.sub_le _ _
  · rw [upd_ne (ne_of_none e hp)]
    exact s3 _ _ (s2 _ _ (s1 _ _ e))
end
end My

set_option Elab.async false
set_option linter.all false
set_option maxRecDepth 100000
set_option maxHeartbeats 4000000

namespace My
open PySem L2 PyProof.Rows
mutual
/-- a thing: whole numbers, texts, none, tuples of things -/
inductive Tg (H : Hp) : V → PyData → Prop
  | non : Tg H .non .none
  | int (i : Int) : Tg H (.int i) (.int i)
  | str (x : Str) : Tg H (.str x) (.str x)
  | tup {a : Addr} {xs : List V} {ds : List PyData} : H a = some (.tup xs) → TgAll H xs ds → Tg H (.ref a) (.tuple ds)
inductive TgAll (H : Hp) : List V → List PyData → Prop
  | nil : TgAll H [] []
  | cons {v : V} {vs : List V} {d : PyData} {ds : List PyData} : Tg H v d → TgAll H vs ds → TgAll H (v :: vs) (d :: ds)
end
mutual
theorem Tg.ext {H H' : Hp} (e : ∀ b xs, H b = some (.tup xs) → H' b = some (.tup xs)) : ∀ {v : V} {d : PyData}, Tg H v d → Tg H' v d
  | _, _, .non => .non
  | _, _, .int i => .int i
  | _, _, .str x => .str x
  | _, _, .tup h t => .tup (e _ _ h) (TgAll.ext e t)
theorem TgAll.ext {H H' : Hp} (e : ∀ b xs, H b = some (.tup xs) → H' b = some (.tup xs)) : ∀ {vs : List V} {ds : List PyData}, TgAll H vs ds → TgAll H' vs ds
  | _, _, .nil => .nil
  | _, _, .cons a b => .cons (Tg.ext e a) (TgAll.ext e b)
end
mutual
theorem Tg.dp {K : PySem.W.Frag} {H : Hp} : ∀ {v : V} {d : PyData}, Tg H v d → Dp K H v d
  | _, _, .non => .non
  | _, _, .int i => .int i
  | _, _, .str x => .str x
  | _, _, .tup h t => .tup (SqT.of h) (TgAll.dp t)
theorem TgAll.dp {K : PySem.W.Frag} {H : Hp} : ∀ {vs : List V} {ds : List PyData}, TgAll H vs ds → DpAll K H vs ds
  | _, _, .nil => .nil
  | _, _, .cons a b => .cons (Tg.dp a) (TgAll.dp b)
end
theorem TgAll.app {H : Hp} {vs us : List V} {ds es : List PyData} (a : TgAll H vs ds) (b : TgAll H us es) : TgAll H (vs ++ us) (ds ++ es) := by
  induction vs generalizing ds with
  | nil => cases a; exact b
  | cons v r ih => cases a with | cons x y => exact .cons x (ih y)
theorem TgAll.get {H : Hp} : ∀ {vs : List V} {ds : List PyData} {i : Nat} {v : V}, TgAll H vs ds → vs[i]? = some v → ∃ d, ds[i]? = some d ∧ Tg H v d
  | _, _, _, _, .nil, e => by simp at e
  | _, _, 0, _, .cons a _, e => by simp at e; subst e; exact ⟨_, rfl, a⟩
  | _, _, i + 1, _, .cons _ b, e => by
    obtain ⟨d, h1, h2⟩ := TgAll.get b (show _ = some _ by simpa using e)
    exact ⟨d, by simpa using h1, h2⟩
/-- data no deeper than n, all of it comparable -/
def Lt (n : Nat) (d : PyData) : Prop := d.canLay0 = true ∧ d.depth ≤ n
/-- what a deep below n draws -/
def spThing (n : Nat) : Sp := fun vs H Q _ => ∃ (p l : Addr) (m : Int) (t : Nat), vs = [.ref p, .int m] ∧ 0 ≤ m ∧ m < n ∧ Pen p l t H ∧ t + 4 ^ (n + 1) < 1000000000 ∧
  ∀ (v : V) (d : PyData) (t' : Nat) (H' : Hp), Tg H' v d → Lt n d → t' ≤ t + 4 ^ (n + 1) → Pen p l t' H' → Ext p H H' → Q v H'
section
variable {P : Program} {w : World} {K : PySem.W.Frag} {mg : Str → Option Value} {base : Heap}
theorem ok_thing0 (D : Def K mg "_law_thing" s__law_thing ["_law_pen_here", "_law_deep"]) : Cal P w K mg base "_law_thing" ["_law_pen_here", "_law_deep"] 1 (spThing 0) :=
  wcal_of D sc__law_thing (fun vs H Q E h => by obtain ⟨p, l, m, t, rfl, _⟩ := h; rfl) (fun f cdv A outer s H vs Q E hr h => by
    obtain ⟨p, l, m, t, rfl, h1, h2, _⟩ := h
    exact absurd h2 (by omega))
theorem ok_thing {k n : Nat} (T : Tx mg) (D : Def K mg "_law_thing" s__law_thing ["_law_pen_here", "_law_deep"]) (C__law_draw : Cal P w K mg base "_law_draw" ["_law_pen_here", "_law_many"] 1 spDraw) (C_deep : Cal P w K mg base "_law_thing" ["_law_pen_here", "_law_deep"] (k + 1) (spThing n)) : Cal P w K mg base "_law_thing" ["_law_pen_here", "_law_deep"] (k + 2) (spThing (n + 1)) := by
  refine wcal_of D sc__law_thing (fun vs H Q E h => ?_) (fun f cdv A outer s H vs Q E hr h => ?_)
  · obtain ⟨p, l, m, t, rfl, _⟩ := h; rfl
  obtain ⟨p, l, m, t, rfl, m0, hm, P0, ht, k0⟩ := h
  have hu := hu_of hr
  have pow : 4 ^ (n + 1 + 1) = 4 * 4 ^ (n + 1) := Nat.pow_succ'
  have pos : 1 ≤ 4 ^ (n + 1) := Nat.one_le_pow _ _ (by decide)
  have four : 4 ≤ 4 ^ (n + 1) := by rw [Nat.pow_succ']; have := Nat.one_le_pow n 4 (by decide); omega
  refine ⟨_, (wpss_cut (wps_set (i := 2) sc__law_thing.nd rfl (Or.inl rfl) (wpe_lstN (wpa_cons (wpe_cal C__law_draw (hr.mono (by omega)) rfl (wpa_cons (wpv 0) (wpa_cons wpe_int wpa_nil))) (wpa_cons (wpe_op wop_sub wpe_int (wpe_cal C__law_draw (hr.mono (by omega)) rfl (wpa_cons (wpv 0) (wpa_cons wpe_int wpa_nil)))) (wpa_consts (vs := [.str "a", .str "zzzzzzzzzzzz", .non, .int 999999999]) (by decide +kernel)))))) (wpss_cut (wps_set (i := 3) sc__law_thing.nd rfl (Or.inl rfl) (wpe_callTy wcall_tuple_of (by rfl) T.z_tuple (by decide +kernel) (wpa_cons (wpe_lc (own := [("_law_k", 4)]) (g := gName 4) (by rfl) sc__law_thing.nd (wpi_range1 (by rfl) T.z_range (wpa_cons (wpe_op wop_mul (wpe_cal C__law_draw (hr.mono (by omega)) rfl (wpa_cons (wpv 0) (wpa_cons wpe_int wpa_nil))) (wpe_callTy wcall_int1 (by rfl) T.z_int (by decide +kernel) (wpa_cons (wpe_cmpR wop_gt (wpv 1) wpe_int (nomark _)) wpa_nil))) wpa_nil)) (blkOk_by (own := [("_law_k", 4)]) (N := ["_law_pen_here", "_law_deep", "_law_some", "_law_inner", "_law_k"]) (sc := defScope s__law_thing) (by decide +kernel)) (fun _ _ _ _ _ => wpg_name (i := 4) sc__law_thing.nd rfl (Or.inl rfl)) (fun _ _ _ _ _ => wpts_nil) (fun _ _ _ _ _ => (wpe_cal C_deep (hr.mono (by omega)) rfl (wpa_cons (wpv 0) (wpa_cons (wpe_op wop_sub (wpv 1) wpe_int) wpa_nil))))) wpa_nil))) (wpss_one (wps_ret (wpe_ix wix_list (wpe_op wop_cat (wpv 2) (wpe_lstN (wpa_cons (wpv 3) (wpa_cons (wpv 3) wpa_nil)))) (wpe_cal C__law_draw (hr.mono (by omega)) rfl (wpa_cons (wpv 0) (wpa_cons wpe_int wpa_nil))) ixp_call))))), ?_⟩
  -- the first six
  refine ⟨fun σ' H' => ∃ (a : Addr) (vs : List V) (ds : List PyData) (t' : Nat), σ' = [some (.ref p), some (.int m), some (.ref a), none, none] ∧ H' a = some (.lst vs) ∧ vs.length = 6 ∧ TgAll H' vs ds ∧ (∀ d ∈ ds, Lt 0 d) ∧ t' ≤ t + 2 ∧ Pen p l t' H' ∧ Ext p H H', ?_, ?_⟩
  · refine ⟨_, rfl, p, l, _, t, rfl, P0, by decide, by decide, by omega, fun d1 t1 H1 a1 b1 c1 P1 x1 => ?_⟩
    refine ⟨_, rfl, p, l, _, t1, rfl, P1, by decide, by decide, by omega, fun d2 t2 H2 a2 b2 c2 P2 x2 => ?_⟩
    refine ⟨_, _, rfl, rfl, tok1000 (by show 6 ≤ 1000; decide), fun q hq _ => ?_⟩
    refine ⟨q, _, [.int d1, .int (0 - d2), .str "a", .str "zzzzzzzzzzzz", .none, .int 999999999], t2, rfl, upd_same, rfl, .cons (.int _) (.cons (.int _) (.cons (.str _) (.cons (.str _) (.cons .non (.cons (.int _) .nil))))), ?_, by omega, P2.new hq _, x1.trans (x2.trans (same_new hq _).ext)⟩
    intro d md
    simp only [List.mem_cons, List.not_mem_nil, or_false] at md
    rcases md with rfl | rfl | rfl | rfl | rfl | rfl <;> exact ⟨by first | decide +kernel | simp [PyData.canLay0], by simp [PyData.depth]⟩
  rintro _ H1 ⟨a, vs, ds, t1, rfl, ea, lv, tg, lt, c1, P1, x1⟩
  have nap : a ≠ p := P1.lst_ne ea
  refine ⟨fun σ' H' => ∃ (ia : Addr) (us : List V) (es : List PyData) (t' : Nat), σ' = [some (.ref p), some (.int m), some (.ref a), some (.ref ia), none] ∧ H' ia = some (.tup us) ∧ TgAll H' us es ∧ (∀ d ∈ es, Lt n d) ∧ t' ≤ t1 + 1 + 3 * 4 ^ (n + 1) ∧ Pen p l t' H' ∧ Ext p H1 H', ?_, ?_⟩
  · refine ⟨_, rfl, p, l, _, t1, rfl, P1, by decide, by decide, by omega, fun d3 t3 H3 a3 b3 c3 P3 x3 => ?_⟩
    refine ⟨_, rfl, _, _, rfl, rfl, .inr ⟨_, rfl, ?_⟩⟩
    refine ⟨_, _, rfl, rfl, .inl ⟨by omega, by omega⟩, ?_⟩
    obtain ⟨j, hj, j0, j3, jm⟩ : ∃ j : Int, d3 * (if decide (m > 0) = true then 1 else 0) = j ∧ 0 ≤ j ∧ j ≤ 3 ∧ (0 < j → 0 < m) := by
      by_cases c : m > 0
      · exact ⟨d3, by rw [decide_eq_true c, if_pos rfl, Int.mul_one], by omega, by omega, fun _ => c⟩
      · exact ⟨0, by rw [decide_eq_false c, if_neg (by decide), Int.mul_zero], by omega, by omega, fun z => absurd z (by decide)⟩
    refine ⟨j, congrArg (fun z : Int => [V.int z]) hj, by omega, by omega, fun D hD => ?_⟩
    have nDp : D ≠ p := P3.ne hD
    have nDl : D ≠ l := P3.lne hD
    refine lc_range (lo := 0) (n := j.toNat) (fun i H' => ∃ (us : List V) (es : List PyData) (t' : Nat), H' D = some (.lst us) ∧ us.length = i ∧ TgAll H' us es ∧ (∀ d ∈ es, Lt n d) ∧ t' ≤ t3 + i * 4 ^ (n + 1) ∧ Pen p l t' H' ∧ Ext p H3 H') ⟨[], [], t3, upd_same, rfl, .nil, (fun _ m => nomatch m), by omega, P3.new hD _, (same_new hD _).ext⟩ ?_ ?_
    · rintro i HA hi ⟨us, es, tA, eA, lA, tgA, ltA, cA, PA, xA⟩
      have i2 : i ≤ 2 := by omega
      have ib : i * 4 ^ (n + 1) ≤ 2 * 4 ^ (n + 1) := Nat.mul_le_mul_right _ i2
      have i1 : (i + 1) * 4 ^ (n + 1) = i * 4 ^ (n + 1) + 4 ^ (n + 1) := Nat.succ_mul ..
      refine ⟨rfl, tYes_i (iteT ?_)⟩
      refine ⟨_, rfl, _, rfl, _, _, rfl, rfl, p, l, m - 1, tA, rfl, by have := jm (by omega); omega, by omega, PA, by omega, fun v d tB HB tgB ltB cB PB xB => ?_⟩
      have eB := xB _ _ nDp eA
      have kt : ∀ b xs, HB b = some (.tup xs) → upd HB D (.lst (us ++ [v])) b = some (.tup xs) := fun b xs e => by rw [upd_ne (ne_of e eB (by intro z; cases z))]; exact e
      have tgA' : TgAll HB us es := tgA.ext fun b xs e => xB _ _ (PA.tup_ne e) e
      refine ⟨us, eB, small1000 (by omega), us ++ [v], es ++ [d], tB, upd_same, by rw [List.length_append, lA]; rfl, (tgA'.ext kt).app (.cons (tgB.ext kt) .nil), ?_, by omega, PB.put eB nDl _, fun b o nb e => ?_⟩
      · intro e me
        rcases List.mem_append.mp me with me | me
        · exact ltA e me
        · rw [List.mem_singleton.mp me]; exact ltB
      · rw [upd_ne (ne_of_none e hD)]
        exact xB _ _ nb (xA _ _ nb e)
    · rintro HA ⟨us, es, tA, eA, lA, tgA, ltA, cA, PA, xA⟩
      have ib : j.toNat * 4 ^ (n + 1) ≤ 3 * 4 ^ (n + 1) := Nat.mul_le_mul_right _ (by omega)
      refine ⟨D, us, rfl, .inl ⟨SqL.of eA, fun ia hia => ?_⟩⟩
      have sN := same_new hia (.tup us)
      exact ⟨ia, us, es, tA, rfl, upd_same, tgA.ext fun b xs e => sN _ _ e, ltA, by omega, PA.new hia _, x3.trans (xA.trans sN.ext)⟩
  rintro _ H2 ⟨ia, us, es, t2, rfl, ei, tu, lu, c2, P2, x2⟩
  have ea2 := x2 _ _ nap ea
  have tg2 := tg.ext (H' := H2) fun b xs e => x2 _ _ (P1.tup_ne e) e
  have ti2 : Tg H2 (.ref ia) (.tuple es) := .tup ei tu
  refine ⟨_, rfl, _, rfl, _, rfl, tok1000 (by show 2 ≤ 1000; decide), fun q hq _ => ?_⟩
  have s3 := same_new hq (.lst [V.ref ia, V.ref ia])
  have eq := upd_same (H := H2) (a := q) (o := .lst [V.ref ia, V.ref ia])
  generalize upd H2 q (.lst [V.ref ia, V.ref ia]) = H3 at *
  refine ⟨a, q, vs, _, rfl, rfl, s3 _ _ ea2, eq, tok1000 (by rw [lv]; show 8 ≤ 1000; decide), fun r hr1 => ?_⟩
  have s4 := same_new hr1 (.lst (vs ++ [V.ref ia, V.ref ia]))
  have er := upd_same (H := H3) (a := r) (o := .lst (vs ++ [V.ref ia, V.ref ia]))
  generalize upd H3 r (.lst (vs ++ [V.ref ia, V.ref ia])) = H4 at *
  have s24 := s3.trans s4
  have P4 := P2.same s24
  refine ⟨_, rfl, p, l, _, t2, rfl, P4, by decide, by decide, by omega, fun d8 t8 H5 a8 b8 c8 P5 x5 => ?_⟩
  have nrp : r ≠ p := P4.lst_ne er
  have tgall : TgAll H5 (vs ++ [V.ref ia, V.ref ia]) (ds ++ [.tuple es, .tuple es]) := (tg2.app (.cons ti2 (.cons ti2 .nil))).ext fun b xs e => x5 _ _ (P4.tup_ne (s24 _ _ e)) (s24 _ _ e)
  have lvs : (vs ++ [V.ref ia, V.ref ia]).length = 8 := by rw [List.length_append, lv]; rfl
  obtain ⟨j, rfl⟩ : ∃ j : Nat, d8 = j := ⟨d8.toNat, by omega⟩
  have hj : j < (vs ++ [V.ref ia, V.ref ia]).length := by omega
  have hv : (vs ++ [V.ref ia, V.ref ia])[j]? = some (vs ++ [V.ref ia, V.ref ia])[j] := List.getElem?_eq_getElem hj
  obtain ⟨d, hd, td⟩ := tgall.get hv
  refine ⟨r, _, (j : Int), _, rfl, rfl, SqL.of (x5 _ _ nrp er), atI_nat hv, ?_⟩
  have inner : Lt (n + 1) (.tuple es) := by
    have : ∀ es : List PyData, (∀ d ∈ es, Lt n d) → PyData.canLayAll0 es = true ∧ PyData.depthAll es ≤ n := by
      intro es
      induction es with
      | nil => exact fun _ => ⟨by simp [PyData.canLayAll0], by simp [PyData.depthAll]⟩
      | cons d r ih =>
        intro h
        obtain ⟨i1, i2⟩ := ih fun e m => h e (List.mem_cons_of_mem _ m)
        obtain ⟨d1, d2⟩ := h d (List.mem_cons_self ..)
        exact ⟨by simp [PyData.canLayAll0, i1, d1], by simp only [PyData.depthAll]; omega⟩
    obtain ⟨i1, i2⟩ := this es lu
    exact ⟨by simpa [PyData.canLay0] using i1, by simp only [PyData.depth]; omega⟩
  refine k0 _ d t8 H5 td ?_ (by omega) P5 (x1.trans (x2.trans (s24.ext.trans x5)))
  have md := List.mem_of_getElem? hd
  rcases List.mem_append.mp md with md | md
  · exact ⟨(lt d md).1, Nat.le_trans (lt d md).2 (Nat.zero_le _)⟩
  · simp only [List.mem_cons, List.not_mem_nil, or_false, or_self] at md
    rw [md]; exact inner
end
end My

set_option Elab.async false
set_option linter.all false
set_option maxRecDepth 100000
set_option maxHeartbeats 4000000

namespace My
open PySem L2 PyProof.Rows
theorem kcall_list {X : Cx} {K : PySem.W.Frag} (h : Cx.K X = K) : WCall X (.type "list") (fun xs H Q => ∃ p ys, xs = [.ref p] ∧ (SqL K H p ys ∨ SqT K H p ys) ∧ ∀ l, H l = none → Q (.ref l) (upd H l (.lst ys))) := h ▸ wcall_list_of
section
variable {P : Program} {w : World} {K : PySem.W.Frag} {mg : Str → Option Value} {base : Heap} {C C1 : Addr}
end
end My

set_option Elab.async false
set_option linter.all false
set_option maxRecDepth 100000
set_option maxHeartbeats 4000000

namespace My
open PySem L2 PyProof.Rows
/-! ### a disk and where it lies -/
def optV : Option Int → V
  | none => .non
  | some i => .int i
/-- a place, its list's address, what stands in it -/
abbrev DR := Key × Addr × List PyData
structure RowsAt (H : Hp) (ld : Addr) (rs : List DR) : Prop where
  d : H ld = some (.dK (rs.map fun r => (r.1, V.ref r.2.1)))
  l : ∀ r ∈ rs, ∃ vs, H r.2.1 = some (.lst vs) ∧ TgAll H vs r.2.2
  nk : (rs.map (·.1)).Nodup
  nl : (rs.map fun r => r.2.1).Nodup
abbrev diskF (ld : Addr) (fall : Option Int) (n : Int) (down : Bool) : List (Str × V) := [("lists", .ref ld), ("fall_step", optV fall), ("written_rows", .int n), ("has_fallen", .bl down)]
structure DiskAt (C : Addr) (H : Hp) (x ld : Addr) (rs : List DR) (fall : Option Int) (n : Int) (down : Bool) : Prop where
  ex : ∃ dx, H x = some (.ins C dx (diskF ld fall n down))
  rows : RowsAt H ld rs
theorem RowsAt.keep {H H' : Hp} {ld : Addr} {rs : List DR} (h : RowsAt H ld rs) (e : ∀ b o, H b = some o → (b = ld ∨ (∃ r ∈ rs, b = r.2.1) ∨ ∃ xs, o = .tup xs) → H' b = some o) : RowsAt H' ld rs where
  d := e _ _ h.d (.inl rfl)
  l := fun r m => by
    obtain ⟨vs, h1, h2⟩ := h.l r m
    exact ⟨vs, e _ _ h1 (.inr (.inl ⟨r, m, rfl⟩)), h2.ext fun b xs q => e _ _ q (.inr (.inr ⟨xs, rfl⟩))⟩
  nk := h.nk
  nl := h.nl
theorem RowsAt.same {H H' : Hp} {ld : Addr} {rs : List DR} (h : RowsAt H ld rs) (s : Same H H') : RowsAt H' ld rs := h.keep fun b o e _ => s _ _ e
/-- the class Disk and its fields' names -/
structure DT (K : PySem.W.Frag) (C : Addr) : Prop where
  own : OwnC K C
  f1 : NoAttr K C "lists"
  f2 : NoAttr K C "fall_step"
  f3 : NoAttr K C "written_rows"
  f4 : NoAttr K C "has_fallen"
def spSteps (C : Addr) : Sp := fun vs H Q _ => ∃ (x dx ld : Addr) (fall : Option Int) (n : Int) (down : Bool), vs = [.ref x] ∧ H x = some (.ins C dx (diskF ld fall n down)) ∧ Q (.int n) H
def spUp (C : Addr) : Sp := fun vs H Q _ => ∃ (x dx ld : Addr) (fall : Option Int) (n : Int) (down : Bool), vs = [.ref x] ∧ H x = some (.ins C dx (diskF ld fall n down)) ∧ Q (.bl (!down)) H
section
variable {P : Program} {w : World} {K : PySem.W.Frag} {mg : Str → Option Value} {base : Heap} {C : Addr}
theorem ok_steps (W : DT K C) (D : MDef K C "steps" "Disk.steps" s_Disk_steps ["self"]) : MCal P w K mg base C "steps" ["self"] 1 (spSteps C) := by
  refine wmcal_of D sc_Disk_steps (fun vs H Q E h => ?_) (fun f cdv A outer s H vs Q E hr h => ?_)
  · obtain ⟨x, dx, ld, fall, n, down, rfl, _⟩ := h; rfl
  obtain ⟨x, dx, ld, fall, n, down, rfl, hx, k⟩ := h
  refine ⟨_, (wpss_one (wps_ret (wpe_fld (wpv 0) rfl))), ?_⟩
  exact ⟨_, rfl, x, C, dx, _, _, rfl, hx, W.own.cl, W.f3, by rfl, k⟩
theorem ok_up (W : DT K C) (D : MDef K C "is_up" "Disk.is_up" s_Disk_is_up ["self"]) : MCal P w K mg base C "is_up" ["self"] 1 (spUp C) := by
  refine wmcal_of D sc_Disk_is_up (fun vs H Q E h => ?_) (fun f cdv A outer s H vs Q E hr h => ?_)
  · obtain ⟨x, dx, ld, fall, n, down, rfl, _⟩ := h; rfl
  obtain ⟨x, dx, ld, fall, n, down, rfl, hx, k⟩ := h
  refine ⟨_, (wpss_one (wps_ret (wpe_not (wpe_fld (wpv 0) rfl)))), ?_⟩
  exact ⟨_, rfl, x, C, dx, _, _, rfl, hx, W.own.cl, W.f4, by rfl, _, rfl, k⟩
end
end My

set_option Elab.async false
set_option linter.all false
set_option maxRecDepth 100000
set_option maxHeartbeats 4000000

namespace My
open PySem L2 PyProof.Rows
abbrev DV := Key × List PyData
def DR.val (r : DR) : DV := (r.1, r.2.2)
/-- one more row in a place -/
def addV : List DV → Key → PyData → List DV
  | [], k, d => [(k, [d])]
  | r :: rs, k, d => if r.1 = k then (k, r.2 ++ [d]) :: rs else r :: addV rs k d
def spWrite (C C1 : Addr) : Sp := fun vs H Q E => ∃ (x ld : Addr) (rs : List DR) (fall : Option Int) (n : Int) (down : Bool) (k : Key) (v : V) (d : PyData), vs = [.ref x, kV k, v] ∧ DiskAt C H x ld rs fall n down ∧ x ≠ ld ∧ Tg H v d ∧ rs.length ≤ 900 ∧ (∀ r ∈ rs, r.2.2.length ≤ 900) ∧
  (fall ≠ some n → ∀ (rs' : List DR) (H' : Hp), DiskAt C H' x ld rs' fall (n + 1) down → rs'.map DR.val = addV (rs.map DR.val) k d → (∀ b o, H b = some o → b ≠ x → b ≠ ld → (∀ r ∈ rs, b ≠ r.2.1) → H' b = some o) → (∀ r ∈ rs', (∃ r' ∈ rs, r'.2.1 = r.2.1) ∨ H r.2.1 = none) → Q .non H') ∧
  (fall = some n → ∀ dx0 dx, H x = some (.ins C dx0 (diskF ld fall n down)) → H dx = none → E (.ref C1) (some dx) (upd (upd H x (.ins C dx0 (diskF ld fall n true))) dx (XD dx [("step", .int n)])))
theorem addV_hit {B : List DV} {k : Key} {ds : List PyData} (d : PyData) : ∀ {A : List DV}, (∀ r ∈ A, r.1 ≠ k) → addV (A ++ (k, ds) :: B) k d = A ++ (k, ds ++ [d]) :: B
  | [], _ => by rw [List.nil_append, addV, if_pos rfl]; rfl
  | r :: A, h => by rw [List.cons_append, addV, if_neg (h r (List.mem_cons_self ..)), List.cons_append, addV_hit d fun r m => h r (List.mem_cons_of_mem _ m)]
theorem addV_new {k : Key} (d : PyData) : ∀ {rs : List DV}, (∀ r ∈ rs, r.1 ≠ k) → addV rs k d = rs ++ [(k, [d])]
  | [], _ => rfl
  | r :: A, h => by rw [List.cons_append, addV, if_neg (h r (List.mem_cons_self ..)), addV_new d fun r m => h r (List.mem_cons_of_mem _ m)]
section
variable {P : Program} {w : World} {K : PySem.W.Frag} {mg : Str → Option Value} {base : Heap} {C C1 : Addr}
theorem ok_write (T : Tx mg) (W : DT K C) {bm : List Value} (X_Fell : Xs P w K mg base "Fell" C1 "RuntimeError" bm ["step"]) (D : MDef K C "write" "Disk.write" s_Disk_write ["self", "place", "row"]) : MCalX P w K mg base C "write" ["self", "place", "row"] 3 (spWrite C C1) := by
  refine wmcal_ofX D sc_Disk_write (fun vs H Q E h => ?_) (fun f cdv A outer s H vs Q E hr h => ?_)
  · obtain ⟨x, ld, rs, fall, n, down, k, v, d, rfl, _⟩ := h; rfl
  obtain ⟨x, ld, rs, fall, n, down, k, v, d, rfl, da, nxl, tg, lr, ll, kq, ke⟩ := h
  obtain ⟨dx0, hx⟩ := da.ex
  have ra := da.rows
  refine ⟨_, (wpss_cut (wps_if (wpt_cmpR wop_eq (wpe_fld (wpv 0) rfl) (wpe_fld (wpv 0) rfl) (nomark _)) (wpss_cons (wps_fld (wpv 0) wpe_bl rfl) (wpss_one (wps_throw thrX rfl X_Fell.k (hr.mono (by omega)) rfl (wpa_cons (wpe_fld (wpv 0) rfl) wpa_nil)))) wpss_nil) (wpss_cut (wps_expr (wpe_append (wpe_setdefault (wpe_fld (wpv 0) rfl) (wpv 1) (wpe_lstN wpa_nil)) (wpv 2))) (wpss_one (wps_fldaug (wpv 0) wpe_int in_add)))), ?_⟩
  refine ⟨fun σ H' => H = H' ∧ σ = [some (.ref x), some (kV k), some v] ∧ fall ≠ some n, ?_, ?_⟩
  · refine ⟨_, rfl, x, C, dx0, _, _, rfl, hx, W.own.cl, W.f3, by rfl, _, rfl, x, C, dx0, _, _, rfl, hx, W.own.cl, W.f2, by rfl, ?_⟩
    have sc : scal (.int n) (optV fall) = true := by cases fall <;> rfl
    refine ⟨sc, _, rfl, ?_⟩
    refine ite2 (fun c => ?_) (fun c => ⟨rfl, rfl, fun e => c (by rw [e]; exact decide_eq_true rfl)⟩)
    have e : fall = some n := by
      have := of_decide_eq_true c
      cases fall with
      | none => cases this
      | some i => injection this with this; rw [this]
    refine ⟨_, rfl, x, C, dx0, _, rfl, hx, W.own.cl, W.f4, by show 4 < 1000; decide, ?_⟩
    rw [show putF "has_fallen" (.bl true) (diskF ld fall n down) = diskF ld fall n true by rfl]
    have hx2 : upd H x (.ins C dx0 (diskF ld fall n true)) x = some (.ins C dx0 (diskF ld fall n true)) := upd_same
    subst e
    refine ⟨_, rfl, x, C, dx0, _, _, rfl, hx2, W.own.cl, W.f2, by rfl, rfl, fun dx hdx => ?_⟩
    have hd : H dx = none := by
      by_cases z : dx = x
      · rw [z, upd_same] at hdx; cases hdx
      · rwa [upd_ne z] at hdx
    exact ke rfl dx0 dx hx hd
  rintro _ _ ⟨rfl, rfl, nf⟩
  refine ⟨fun σ H' => σ = [some (.ref x), some (kV k), some v] ∧ ∃ rs', H' x = some (.ins C dx0 (diskF ld fall n down)) ∧ RowsAt H' ld rs' ∧ rs'.map DR.val = addV (rs.map DR.val) k d ∧ (∀ b o, H b = some o → b ≠ x → b ≠ ld → (∀ r ∈ rs, b ≠ r.2.1) → H' b = some o) ∧ (∀ r ∈ rs', (∃ r' ∈ rs, r'.2.1 = r.2.1) ∨ H r.2.1 = none), ?_, ?_⟩
  · refine ⟨_, rfl, x, C, dx0, _, _, rfl, hx, W.own.cl, W.f1, by rfl, ?_⟩
    refine ⟨.inr (.inr (.inl ⟨rfl, .inl ⟨_, ra.d⟩⟩)), _, rfl, tok1000 (by show 0 ≤ 1000; decide), fun q hq _ => ?_⟩
    have sq := same_new hq (.lst ([] : List V))
    have ndk : ((rs.map fun r => (r.1, V.ref r.2.1)).map (·.1)).Nodup := by rw [List.map_map]; exact ra.nk
    have hxq := sq _ _ hx
    have nlds : ∀ r ∈ rs, r.2.1 ≠ ld ∧ r.2.1 ≠ x ∧ r.2.1 ≠ q := fun r m => by
      obtain ⟨vs, h1, _⟩ := ra.l r m
      exact ⟨ne_of h1 ra.d (by intro z; cases z), ne_of h1 hx (by intro z; cases z), ne_of_none h1 hq⟩
    refine ⟨ld, _, k, .ref q, rfl, rfl, sq _ _ ra.d, small1000 (by rw [List.length_map]; omega), fun y hy => ?_, fun hn => ?_⟩
    · -- there
      obtain ⟨r0, m0, e0⟩ := List.mem_map.mp (valV_at hy)
      have ek : r0.1 = k := congrArg Prod.fst e0
      have ey : V.ref r0.2.1 = y := congrArg Prod.snd e0
      subst ey
      obtain ⟨A, B, rfl⟩ := List.append_of_mem m0
      obtain ⟨vs, h1, h2⟩ := ra.l r0 m0
      have h1q := sq _ _ h1
      have lv : vs.length ≤ 900 := by
        have := ll r0 m0
        have e : ∀ {vs : List V} {ds : List PyData}, TgAll H vs ds → vs.length = ds.length := by
          intro vs
          induction vs with
          | nil => intro ds t; cases t; rfl
          | cons v r ih => intro ds t; cases t with | cons a b => rw [List.length_cons, List.length_cons, ih b]
        rw [e h2]; exact this
      refine ⟨.inl ⟨rfl, _, SqL.of h1q⟩, _, rfl, r0.2.1, vs, v, rfl, rfl, h1q, small1000 (by omega), ?_⟩
      have nl := ra.nl
      rw [List.map_append, List.map_cons] at nl
      obtain ⟨_, nl2, nl3⟩ := List.nodup_append.mp nl
      have nB : ∀ r ∈ B, r.2.1 ≠ r0.2.1 := fun r m e => (List.nodup_cons.mp nl2).1 (e ▸ List.mem_map.mpr ⟨r, m, rfl⟩)
      have nA : ∀ r ∈ A, r.2.1 ≠ r0.2.1 := fun r m e => nl3 _ (List.mem_map.mpr ⟨r, m, rfl⟩) _ (List.mem_cons_self ..) e
      have nk := ra.nk
      rw [List.map_append, List.map_cons] at nk
      obtain ⟨_, nk2, nk3⟩ := List.nodup_append.mp nk
      have kA : ∀ r ∈ A, r.1 ≠ k := fun r m e => nk3 _ (List.mem_map.mpr ⟨r, m, rfl⟩) _ (List.mem_cons_self ..) (e.trans ek.symm)
      have n0 := nlds r0 m0
      have tt : ∀ b xs, H b = some (.tup xs) → upd (upd H q (.lst [])) r0.2.1 (.lst (vs ++ [v])) b = some (.tup xs) := fun b xs e => by
        rw [upd_ne (ne_of e h1 (by intro z; cases z))]; exact sq _ _ e
      refine ⟨rfl, A ++ (r0.1, r0.2.1, r0.2.2 ++ [d]) :: B, by rw [upd_ne (Ne.symm n0.2.1)]; exact hxq, ⟨?_, ?_, ?_, ?_⟩, ?_, fun b o e b1 b2 b3 => ?_, fun r m => ?_⟩
      · rw [upd_ne (Ne.symm n0.1)]
        have := sq _ _ ra.d
        rw [List.map_append, List.map_cons] at this ⊢
        exact this
      · intro r m
        have old : ∀ r, r ∈ A ∨ r ∈ B → ∃ vs', upd (upd H q (.lst [])) r0.2.1 (.lst (vs ++ [v])) r.2.1 = some (.lst vs') ∧ TgAll (upd (upd H q (.lst [])) r0.2.1 (.lst (vs ++ [v]))) vs' r.2.2 := fun r c => by
          obtain ⟨us, u1, u2⟩ := ra.l r (c.elim (fun c => List.mem_append_left _ c) (fun c => List.mem_append_right _ (List.mem_cons_of_mem _ c)))
          exact ⟨us, by rw [upd_ne (c.elim (nA r) (nB r))]; exact sq _ _ u1, u2.ext tt⟩
        rcases List.mem_append.mp m with m | m
        · exact old r (.inl m)
        · rcases List.mem_cons.mp m with rfl | m
          · exact ⟨vs ++ [v], upd_same, (h2.ext tt).app (.cons (tg.ext tt) .nil)⟩
          · exact old r (.inr m)
      · have := ra.nk; rw [List.map_append, List.map_cons] at this ⊢; exact this
      · have := ra.nl; rw [List.map_append, List.map_cons] at this ⊢; exact this
      · rw [List.map_append, List.map_cons, List.map_append, List.map_cons]
        subst ek
        exact (addV_hit d fun r m => by obtain ⟨r', m', rfl⟩ := List.mem_map.mp m; exact kA r' m').symm
      · rw [upd_ne (b3 r0 m0)]; exact sq _ _ e
      · refine .inl ?_
        rcases List.mem_append.mp m with m | m
        · exact ⟨r, List.mem_append_left _ m, rfl⟩
        · rcases List.mem_cons.mp m with rfl | m
          · exact ⟨r0, m0, rfl⟩
          · exact ⟨r, List.mem_append_right _ (List.mem_cons_of_mem _ m), rfl⟩
    · -- new
      have kn : k ∉ rs.map (·.1) := fun m => by
        obtain ⟨r, mr, e⟩ := List.mem_map.mp m
        have : valV (rs.map fun r => (r.1, V.ref r.2.1)) k = some (.ref r.2.1) := valV_hit ndk (List.mem_map.mpr ⟨r, mr, by rw [← e]⟩)
        rw [hn] at this; cases this
      rw [putK_snoc (by rw [List.map_map]; exact kn)]
      have nql : q ≠ ld := (ne_of_none ra.d hq).symm
      have nqx : q ≠ x := (ne_of_none hx hq).symm
      have eq : upd (upd H q (.lst ([] : List V))) ld (.dK ((rs.map fun r => (r.1, V.ref r.2.1)) ++ [(k, .ref q)])) q = some (.lst []) := by rw [upd_ne nql, upd_same]
      refine ⟨.inl ⟨rfl, _, SqL.of eq⟩, _, rfl, q, [], v, rfl, rfl, eq, small1000 (by decide), ?_⟩
      have tt : ∀ b xs, H b = some (.tup xs) → upd (upd (upd H q (.lst ([] : List V))) ld (.dK ((rs.map fun r => (r.1, V.ref r.2.1)) ++ [(k, .ref q)]))) q (.lst ([] ++ [v])) b = some (.tup xs) := fun b xs e => by
        rw [upd_ne (ne_of_none e hq), upd_ne (ne_of e ra.d (by intro z; cases z)), upd_ne (ne_of_none e hq)]; exact e
      refine ⟨rfl, rs ++ [(k, q, [d])], ?_, ⟨?_, ?_, ?_, ?_⟩, ?_, fun b o e b1 b2 b3 => ?_, fun r m => ?_⟩
      · rw [upd_ne (Ne.symm nqx), upd_ne nxl, upd_ne (Ne.symm nqx)]; exact hx
      · rw [upd_ne (Ne.symm nql), upd_same, List.map_append]; rfl
      · intro r m
        rcases List.mem_append.mp m with m | m
        · obtain ⟨us, u1, u2⟩ := ra.l r m
          obtain ⟨n1, n2, n3⟩ := nlds r m
          exact ⟨us, by rw [upd_ne n3, upd_ne n1, upd_ne n3]; exact u1, u2.ext tt⟩
        · rw [List.mem_singleton.mp m]
          exact ⟨[] ++ [v], upd_same, .cons (tg.ext tt) .nil⟩
      · rw [List.map_append]
        refine List.nodup_append.mpr ⟨ra.nk, List.nodup_cons.mpr ⟨List.not_mem_nil, List.nodup_nil⟩, ?_⟩
        intro a ha b hb ab
        rw [List.mem_singleton.mp hb] at ab
        exact kn (show k ∈ rs.map (·.1) from (show a = k from ab) ▸ ha)
      · rw [List.map_append]
        refine List.nodup_append.mpr ⟨ra.nl, List.nodup_cons.mpr ⟨List.not_mem_nil, List.nodup_nil⟩, ?_⟩
        intro a ha b hb ab
        obtain ⟨r, m, rfl⟩ := List.mem_map.mp ha
        rw [List.mem_singleton.mp hb] at ab
        exact (nlds r m).2.2 ab
      · rw [List.map_append]
        exact (addV_new d fun r m => by
          obtain ⟨r', m', rfl⟩ := List.mem_map.mp m
          exact fun e => kn (List.mem_map.mpr ⟨r', m', e⟩)).symm
      · rw [upd_ne (ne_of_none e hq), upd_ne b2, upd_ne (ne_of_none e hq)]; exact e
      · rcases List.mem_append.mp m with m | m
        · exact .inl ⟨r, m, rfl⟩
        · rw [List.mem_singleton.mp m]; exact .inr hq
  rintro _ H1 ⟨rfl, rs', hx1, ra1, e1, k1, n1⟩
  have nx1 : ∀ {b : Addr} {o : HO}, H1 b = some o → (∀ dx fs, o ≠ .ins C dx fs) → b ≠ x := fun e h z => by
    subst z
    rw [hx1] at e
    exact h _ _ (Option.some.inj e).symm
  refine ⟨_, rfl, x, C, dx0, _, _, rfl, hx1, W.own.cl, W.f3, by rfl, _, _, rfl, rfl, dx0, _, hx1, by show 4 < 1000; decide, ?_⟩
  rw [show putF "written_rows" (.int (n + 1)) (diskF ld fall n down) = diskF ld fall (n + 1) down by rfl]
  refine kq nf rs' _ ⟨⟨dx0, upd_same⟩, ra1.keep fun b o e c => ?_⟩ e1 (fun b o e n2 n3 n4 => by rw [upd_ne n2]; exact k1 b o e n2 n3 n4) n1
  rw [upd_ne]
  · exact e
  · refine nx1 e ?_
    rcases c with rfl | ⟨r, m, rfl⟩ | ⟨xs, rfl⟩
    · rw [ra1.d] at e; cases e; exact fun _ _ z => nomatch z
    · obtain ⟨vs, h1, _⟩ := ra1.l r m
      rw [h1] at e; cases e; exact fun _ _ z => nomatch z
    · exact fun _ _ z => nomatch z
end
end My

set_option Elab.async false
set_option linter.all false
set_option maxRecDepth 100000
set_option maxHeartbeats 4000000

namespace My
open PySem L2 PyProof.Rows
theorem tgAll_len {H : Hp} {vs : List V} {ds : List PyData} (t : TgAll H vs ds) : vs.length = ds.length := by
  induction vs generalizing ds with
  | nil => cases t; rfl
  | cons v r ih => cases t with | cons a b => rw [List.length_cons, List.length_cons, ih b]
theorem tgAll_emp {H : Hp} : ∀ {vs : List V} {ds : List PyData}, TgAll H vs ds → vs.isEmpty = ds.isEmpty
  | _, _, .nil => rfl
  | _, _, .cons _ _ => rfl
def spRows (C : Addr) : Sp := fun vs H Q _ => ∃ (x ld : Addr) (rs : List DR) (fall : Option Int) (n : Int) (down : Bool), vs = [.ref x] ∧ DiskAt C H x ld rs fall n down ∧ x ≠ ld ∧ rs.length ≤ 900 ∧
  ∀ (ld' : Addr) (rs' : List DR) (H' : Hp), Same H H' → H ld' = none → RowsAt H' ld' rs' → rs'.map DR.val = (rs.map DR.val).filter (fun r => !r.2.isEmpty) → (∀ r ∈ rs', H r.2.1 = none) → Q (.ref ld') H'
section
variable {P : Program} {w : World} {K : PySem.W.Frag} {mg : Str → Option Value} {base : Heap} {C C1 : Addr}
theorem ok_rows (T : Tx mg) (W : DT K C) (D : MDef K C "rows" "Disk.rows" s_Disk_rows ["self"]) : MCal P w K mg base C "rows" ["self"] 1 (spRows C) := by
  refine wmcal_of D sc_Disk_rows (fun vs H Q E h => ?_) (fun f cdv A outer s H vs Q E hr h => ?_)
  · obtain ⟨x, ld, rs, fall, n, down, rfl, _⟩ := h; rfl
  obtain ⟨x, ld, rs, fall, n, down, rfl, da, nxl, lr, k⟩ := h
  have hu := hu_of hr
  obtain ⟨dx0, hx⟩ := da.ex
  have ra := da.rows
  refine ⟨_, (wpss_one (wps_ret (wpe_lock (wpe_dc (own := [("place", 1)]) (g := gName 1) (by rfl) sc_Disk_rows.nd (wpi_keys (wkpe_fld (K := K) rfl (wpv 0) (by rfl))) (blkOk_by (own := [("place", 1)]) (N := ["self", "place"]) (sc := defScope s_Disk_rows) (by decide +kernel)) (fun _ _ _ _ _ => wpg_name (i := 1) sc_Disk_rows.nd rfl (Or.inl rfl)) (fun _ _ _ _ _ => (wpts_one (wkpt_truth (K := K) rfl (wpe_dget hu (wkpe_fld (K := K) rfl (wpv 0) (by rfl)) (wpv 1) (fun _ _ => rfl)) (by intro _; rfl)))) (fun _ _ _ _ _ => (wpv 1)) (fun _ _ _ _ _ => (wpe_callTy (kcall_list (K := K) rfl) (by rfl) T.z_list (by decide +kernel) (wpa_cons (wpe_dget hu (wkpe_fld (K := K) rfl (wpv 0) (by rfl)) (wpv 1) (fun _ _ => rfl)) wpa_nil))))))), ?_⟩
  have ndk : ((rs.map fun r => (r.1, V.ref r.2.1)).map (·.1)).Nodup := by rw [List.map_map]; exact ra.nk
  refine ⟨ld, _, ra.d, trivial, fun od => ?_⟩
  have hxL : upd H ld (.frz od (.dK (rs.map fun r => (r.1, V.ref r.2.1)))) x = some (.ins C dx0 (diskF ld fall n down)) := lock_ne hx nxl
  have hk0 : upd H ld (.frz od (.dK (rs.map fun r => (r.1, V.ref r.2.1)))) ld = some (.frz od (.dK (rs.map fun r => (r.1, V.ref r.2.1)))) := upd_same
  refine ⟨_, rfl, x, C, dx0, _, _, rfl, hxL, W.own.cl, W.f1, by rfl, ld, od, rfl, .inl ⟨_, hk0, fun D hD => ?_⟩⟩
  obtain ⟨fD, nD⟩ := free_lock hD
  have wantV : List DV → List DV := fun l => l.filter fun r => !r.2.isEmpty
  refine it_keys (fun i H' => Same (upd H ld (.frz od (.dK (rs.map fun r => (r.1, V.ref r.2.1))))) H' ∧ ∃ rs' : List DR, H' D = some (.dK (rs'.map fun r => (r.1, V.ref r.2.1))) ∧ rs'.map DR.val = ((rs.take i).map DR.val).filter (fun r => !r.2.isEmpty) ∧
    (∀ r ∈ rs', H r.2.1 = none ∧ r.2.1 ≠ ld ∧ r.2.1 ≠ D ∧ ∃ vs, H' r.2.1 = some (.lst vs) ∧ TgAll H vs r.2.2) ∧ (rs'.map fun r => r.2.1).Nodup) ?_ ?_ ?_ ?_
  · exact ⟨same_new hD _, [], upd_same, rfl, (fun _ m => nomatch m), List.nodup_nil⟩
  · exact fun i H' ⟨s1, _⟩ => s1 _ _ hk0
  · rintro i z H1 hz ⟨s1, rs', e1, ev, al, nd⟩
    rw [List.getElem?_map] at hz
    obtain ⟨r, hr1, rfl⟩ := Option.map_eq_some_iff.mp hz
    have mr := List.mem_of_getElem? hr1
    obtain ⟨vs, h1, h2⟩ := ra.l r mr
    have h11 := s1 _ _ (lock_ne (o := od) (u := .dK (rs.map fun r => (r.1, V.ref r.2.1))) h1 (ne_of h1 ra.d (by intro z; cases z)))
    have hv : valV (rs.map fun r => (r.1, V.ref r.2.1)) r.1 = some (.ref r.2.1) := valV_hit ndk (List.mem_map.mpr ⟨r, mr, rfl⟩)
    have dg : ∀ {H2 : Hp}, Same H1 H2 → DGet H2 ld (kV r.1) (some (.ref r.2.1)) := fun s2 => .inl ⟨_, r.1, .inr ⟨od, s2 _ _ (s1 _ _ hk0)⟩, rfl, hv.symm⟩
    have tk : (rs.take (i + 1)).map DR.val = (rs.take i).map DR.val ++ [r.val] := by rw [take_next hr1, List.map_append]; rfl
    refine ⟨rfl, _, rfl, x, C, dx0, _, _, rfl, s1 _ _ hxL, W.own.cl, W.f1, by rfl, _, rfl, ld, _, rfl, dg (Same.refl _), !vs.isEmpty, ?_, ?_⟩
    · exact .inl ⟨vs, SqL.of h11, rfl⟩
    have lrs : rs'.length ≤ rs.length := by
      have := congrArg List.length ev
      rw [List.length_map] at this
      rw [this]
      refine Nat.le_trans (List.length_filter_le ..) ?_
      rw [List.length_map, List.length_take]
      exact Nat.min_le_right ..
    refine ite2 (fun c => ?_) (fun c => ?_)
    · refine ⟨_, rfl, _, rfl, x, C, dx0, _, _, rfl, s1 _ _ hxL, W.own.cl, W.f1, by rfl, _, rfl, ld, _, rfl, dg (Same.refl _), r.2.1, vs, rfl, .inl (SqL.of h11), fun l2 hl2 => ?_⟩
      have s2 := same_new hl2 (.lst vs)
      have kn : r.1 ∉ (rs'.map fun r => (r.1, V.ref r.2.1)).map (·.1) := by
        rw [List.map_map]
        intro m
        have e : rs'.map (·.1) = ((rs.take i).map DR.val |>.filter (fun r => !r.2.isEmpty)).map (·.1) := by rw [← ev, List.map_map]; rfl
        have m : r.1 ∈ rs'.map (·.1) := m
        rw [e] at m
        obtain ⟨w, mw, ew⟩ := List.mem_map.mp m
        obtain ⟨r', mr', rfl⟩ := List.mem_map.mp (List.mem_filter.mp mw).1
        obtain ⟨j, hj⟩ := List.mem_iff_getElem?.mp mr'
        have hji : j < i := by
          have := (List.getElem?_eq_some_iff.mp hj).1
          rw [List.length_take] at this
          omega
        rw [List.getElem?_take_of_lt hji] at hj
        have := nd_ix ra.nk (i := j) (j := i) (x := r.1) (by rw [List.getElem?_map, hj]; exact congrArg some ew) (by rw [List.getElem?_map, hr1]; rfl)
        omega
      refine ⟨_, r.1, rfl, s2 _ _ e1, small1000 (by rw [List.length_map]; omega), ?_⟩
      rw [putK_snoc kn]
      have nl2D : l2 ≠ D := (ne_of_none e1 hl2).symm
      have fl2 : H l2 = none ∧ l2 ≠ ld := free_lock (s1.free hl2)
      refine ⟨same_upd (s1.trans s2) hD, rs' ++ [(r.1, l2, r.2.2)], by rw [upd_same, List.map_append]; rfl, ?_, fun q mq => ?_, ?_⟩
      · rw [List.map_append, ev, tk, List.filter_append]
        congr 1
        have : (!r.2.2.isEmpty) = true := by rw [← tgAll_emp h2]; exact c
        show [(r.1, r.2.2)] = List.filter (fun r : DV => !r.2.isEmpty) [(r.1, r.2.2)]
        rw [List.filter_cons, if_pos this]; rfl
      · rcases List.mem_append.mp mq with mq | mq
        · obtain ⟨a1, a2, a3, us, a4, a5⟩ := al q mq
          exact ⟨a1, a2, a3, us, by rw [upd_ne a3]; exact s2 _ _ a4, a5⟩
        · rw [List.mem_singleton.mp mq]
          exact ⟨fl2.1, fl2.2, nl2D, vs, by rw [upd_ne nl2D]; exact upd_same, h2⟩
      · rw [List.map_append]
        refine List.nodup_append.mpr ⟨nd, List.nodup_cons.mpr ⟨List.not_mem_nil, List.nodup_nil⟩, ?_⟩
        intro a ha b hb ab
        obtain ⟨q, mq, rfl⟩ := List.mem_map.mp ha
        rw [List.mem_singleton.mp hb] at ab
        obtain ⟨_, _, _, us, a4, _⟩ := al q mq
        exact ne_of_none a4 hl2 ab
    · refine ⟨s1, rs', e1, ?_, al, nd⟩
      rw [ev, tk, List.filter_append]
      have : ¬ ((!r.2.2.isEmpty) = true) := by rw [← tgAll_emp h2]; exact c
      show _ = _ ++ List.filter (fun r : DV => !r.2.isEmpty) [(r.1, r.2.2)]
      rw [List.filter_cons, if_neg this, List.filter_nil, List.append_nil]
  · rintro H1 ⟨s1, rs', e1, ev, al, nd⟩
    rw [List.length_map, List.take_length] at ev
    have sl := same_lock ra.d s1
    refine ⟨s1 _ _ hk0, ?_⟩
    refine k D rs' _ sl fD ⟨by rw [upd_ne nD]; exact e1, fun r m => ?_, ?_, nd⟩ ev (fun r m => (al r m).1)
    · obtain ⟨a1, a2, a3, vs, a4, a5⟩ := al r m
      exact ⟨vs, by rw [upd_ne a2]; exact a4, a5.ext fun b xs e => sl _ _ e⟩
    · have : rs'.map (·.1) = ((rs.map DR.val).filter (fun r => !r.2.isEmpty)).map (·.1) := by rw [← ev, List.map_map]; rfl
      rw [this]
      refine List.Nodup.sublist (List.filter_sublist.map _) ?_
      rw [List.map_map]
      exact ra.nk
end
end My

set_option Elab.async false
set_option linter.all false
set_option maxRecDepth 100000
set_option maxHeartbeats 4000000

namespace My
open PySem L2 PyProof.Rows
def spInitD (C : Addr) : Sp := fun vs H Q _ => ∃ (x dx : Addr) (rv : V) (src : List DR) (fall : Option Int), vs = [.ref x, rv, optV fall] ∧ H x = some (.ins C dx []) ∧ ((rv = .non ∧ src = []) ∨ ∃ d, rv = .ref d ∧ RowsAt H d src ∧ d ≠ x) ∧ src.length ≤ 900 ∧
  ∀ (ld : Addr) (rs : List DR) (H' : Hp), (∀ b o, b ≠ x → H b = some o → H' b = some o) → DiskAt C H' x ld rs fall 0 false → rs.map DR.val = src.map DR.val → H ld = none → (∀ r ∈ rs, H r.2.1 = none) → Q .non H'
section
variable {P : Program} {w : World} {K : PySem.W.Frag} {mg : Str → Option Value} {base : Heap} {C C1 : Addr}
theorem wfnD_of {f : Addr} {fd : FuncData} {qual : Str} {st : Stmt} {N ps : List Str} {k : Nat} {sp : Sp} (F : FunD K "__init__" qual st f fd) (S : FnScope N ps (defScope st)) (len : ∀ vs H Q E, sp vs H Q E → vs.length = ps.length)
    (hb : ∀ (cdv : Value) (A : Around) (outer : List Env) (s : Shared) (H : Hp) (vs : List V) (Q : VK) (E : XK), Room k (A.deeper (envOfC qual (defScope st) s.heap.objs.size f cdv)) → sp vs H Q E →
      ∃ t, WSs (cxOf CX0 P w K mg base N qual (defScope st) f cdv A outer s H E).nox (defBody st) t ∧ t { nx := fun _ H' => Q .non H', rt := Q } (start N vs) H) : FnOk P w K mg base CX0 (k + 1) f fd ps sp :=
  F.ok S len (fun cdv A outer s H vs Q E hr h => let ⟨t, h1, h2⟩ := hb cdv A outer s H vs Q E hr h; ⟨t, h1.to, h2⟩)
theorem ok_initD {fI : Addr} {fdI : FuncData} (T : Tx mg) (W : DT K C) (F : FunD K "__init__" "Disk.__init__" s_Disk_init fI fdI) : FnOk P w K mg base CX0 1 fI fdI ["self", "rows", "fall"] (spInitD C) := by
  refine wfnD_of F sc_Disk_init (fun vs H Q E h => ?_) (fun cdv A outer s H vs Q E hr h => ?_)
  · obtain ⟨x, dx, rv, src, fall, rfl, _⟩ := h; rfl
  obtain ⟨x, dx, rv, src, fall, rfl, hx, hrv, lr, k⟩ := h
  have hu := hu_of hr
  refine ⟨_, (wpss_cut (wps_fld (wpv 0) (wpe_ifExp (wpt_cmp (wpc_isN (wpv 1))) wpe_dnewK (wpe_lock (wpe_dc (own := [("place", 3)]) (g := gName 3) (by rfl) sc_Disk_init.nd (wpi_keys (wpv 1)) (blkOk_by (own := [("place", 3)]) (N := ["self", "rows", "fall", "place"]) (sc := defScope s_Disk_init) (by decide +kernel)) (fun _ _ _ _ _ => wpg_name (i := 3) sc_Disk_init.nd rfl (Or.inl rfl)) (fun _ _ _ _ _ => wpts_nil) (fun _ _ _ _ _ => (wpv 3)) (fun _ _ _ _ _ => (wpe_callTy (kcall_list (K := K) rfl) (by rfl) T.z_list (by decide +kernel) (wpa_cons (wpe_dget hu (wpv 1) (wpv 3) (fun _ _ => rfl)) wpa_nil)))))) rfl) (wpss_cons (wps_fld (wpv 0) (wpv 2) rfl) (wpss_cons (wps_fld (wpv 0) wpe_int rfl) (wpss_one (wps_fld (wpv 0) wpe_bl rfl))))), ?_⟩
  -- its lists
  refine ⟨fun σ H' => ∃ ld rs, σ = [some (.ref x), some rv, some (optV fall), none] ∧ (∀ b o, b ≠ x → H b = some o → H' b = some o) ∧ H' x = some (.ins C dx [("lists", .ref ld)]) ∧ H ld = none ∧ RowsAt H' ld rs ∧ rs.map DR.val = src.map DR.val ∧ (∀ r ∈ rs, H r.2.1 = none), ?_, ?_⟩
  · rcases hrv with ⟨rfl, rfl⟩ | ⟨d, rfl, ra, ndx⟩
    · refine ⟨_, rfl, _, rfl, iteT ?_⟩
      intro d0 hd0
      have nx : d0 ≠ x := (ne_of_none hx hd0).symm
      have s0 := same_new hd0 (.dK ([] : List (Key × V)))
      refine ⟨_, rfl, x, C, dx, _, rfl, s0 _ _ hx, W.own.cl, W.f1, by show 0 < 1000; decide, ?_⟩
      refine ⟨d0, [], rfl, fun b o n e => by rw [upd_ne n]; exact s0 _ _ e, upd_same, hd0, ⟨by rw [upd_ne nx]; exact upd_same, (fun _ m => nomatch m), List.nodup_nil, List.nodup_nil⟩, rfl, (fun _ m => nomatch m)⟩
    · refine ⟨_, rfl, _, rfl, iteF ?_⟩
      have ndk : ((src.map fun r => (r.1, V.ref r.2.1)).map (·.1)).Nodup := by rw [List.map_map]; exact ra.nk
      refine ⟨d, _, ra.d, trivial, fun od => ?_⟩
      have hk0 : upd H d (.frz od (.dK (src.map fun r => (r.1, V.ref r.2.1)))) d = some (.frz od (.dK (src.map fun r => (r.1, V.ref r.2.1)))) := upd_same
      refine ⟨_, rfl, d, od, rfl, .inl ⟨_, hk0, fun D hD => ?_⟩⟩
      obtain ⟨fD, nD⟩ := free_lock hD
      refine it_keys (fun i H' => Same (upd H d (.frz od (.dK (src.map fun r => (r.1, V.ref r.2.1))))) H' ∧ ∃ rs' : List DR, H' D = some (.dK (rs'.map fun r => (r.1, V.ref r.2.1))) ∧ rs'.map DR.val = (src.take i).map DR.val ∧
        (∀ r ∈ rs', H r.2.1 = none ∧ r.2.1 ≠ d ∧ r.2.1 ≠ D ∧ ∃ vs, H' r.2.1 = some (.lst vs) ∧ TgAll H vs r.2.2) ∧ (rs'.map fun r => r.2.1).Nodup) ?_ ?_ ?_ ?_
      · exact ⟨same_new hD _, [], upd_same, rfl, (fun _ m => nomatch m), List.nodup_nil⟩
      · exact fun i H' ⟨s1, _⟩ => s1 _ _ hk0
      · rintro i z H1 hz ⟨s1, rs', e1, ev, al, nd⟩
        rw [List.getElem?_map] at hz
        obtain ⟨r, hr1, rfl⟩ := Option.map_eq_some_iff.mp hz
        have mr := List.mem_of_getElem? hr1
        obtain ⟨vs, h1, h2⟩ := ra.l r mr
        have h11 := s1 _ _ (lock_ne (o := od) (u := .dK (src.map fun r => (r.1, V.ref r.2.1))) h1 (ne_of h1 ra.d (by intro z; cases z)))
        have hv : valV (src.map fun r => (r.1, V.ref r.2.1)) r.1 = some (.ref r.2.1) := valV_hit ndk (List.mem_map.mpr ⟨r, mr, rfl⟩)
        have tk : (src.take (i + 1)).map DR.val = (src.take i).map DR.val ++ [r.val] := by rw [take_next hr1, List.map_append]; rfl
        have lrs : rs'.length ≤ src.length := by
          have := congrArg List.length ev
          rw [List.length_map, List.length_map, List.length_take] at this
          omega
        refine ⟨rfl, tYes_i (iteT ?_)⟩
        refine ⟨_, rfl, _, rfl, _, rfl, d, _, rfl, .inl ⟨_, r.1, .inr ⟨od, s1 _ _ hk0⟩, rfl, hv.symm⟩, r.2.1, vs, rfl, .inl (SqL.of h11), fun l2 hl2 => ?_⟩
        have s2 := same_new hl2 (.lst vs)
        have kn : r.1 ∉ (rs'.map fun r => (r.1, V.ref r.2.1)).map (·.1) := by
          rw [List.map_map]
          intro m
          have e : rs'.map (·.1) = ((src.take i).map DR.val).map (·.1) := by rw [← ev, List.map_map]; rfl
          have m : r.1 ∈ rs'.map (·.1) := m
          rw [e] at m
          obtain ⟨w, mw, ew⟩ := List.mem_map.mp m
          obtain ⟨r', mr', rfl⟩ := List.mem_map.mp mw
          obtain ⟨j, hj⟩ := List.mem_iff_getElem?.mp mr'
          have hji : j < i := by
            have := (List.getElem?_eq_some_iff.mp hj).1
            rw [List.length_take] at this
            omega
          rw [List.getElem?_take_of_lt hji] at hj
          have := nd_ix ra.nk (i := j) (j := i) (x := r.1) (by rw [List.getElem?_map, hj]; exact congrArg some ew) (by rw [List.getElem?_map, hr1]; rfl)
          omega
        refine ⟨_, r.1, rfl, s2 _ _ e1, small1000 (by rw [List.length_map]; omega), ?_⟩
        rw [putK_snoc kn]
        have nl2D : l2 ≠ D := (ne_of_none e1 hl2).symm
        have fl2 : H l2 = none ∧ l2 ≠ d := free_lock (s1.free hl2)
        refine ⟨same_upd (s1.trans s2) hD, rs' ++ [(r.1, l2, r.2.2)], by rw [upd_same, List.map_append]; rfl, by rw [List.map_append, ev, tk]; rfl, fun q mq => ?_, ?_⟩
        · rcases List.mem_append.mp mq with mq | mq
          · obtain ⟨a1, a2, a3, us, a4, a5⟩ := al q mq
            exact ⟨a1, a2, a3, us, by rw [upd_ne a3]; exact s2 _ _ a4, a5⟩
          · rw [List.mem_singleton.mp mq]
            exact ⟨fl2.1, fl2.2, nl2D, vs, by rw [upd_ne nl2D]; exact upd_same, h2⟩
        · rw [List.map_append]
          refine List.nodup_append.mpr ⟨nd, List.nodup_cons.mpr ⟨List.not_mem_nil, List.nodup_nil⟩, ?_⟩
          intro a ha b hb ab
          obtain ⟨q, mq, rfl⟩ := List.mem_map.mp ha
          rw [List.mem_singleton.mp hb] at ab
          obtain ⟨_, _, _, us, a4, _⟩ := al q mq
          exact ne_of_none a4 hl2 ab
      · rintro H1 ⟨s1, rs', e1, ev, al, nd⟩
        rw [List.length_map, List.take_length] at ev
        have sl := same_lock ra.d s1
        have nx : D ≠ x := (ne_of_none hx fD).symm
        refine ⟨s1 _ _ hk0, ?_⟩
        refine ⟨_, rfl, x, C, dx, _, rfl, sl _ _ hx, W.own.cl, W.f1, by show 0 < 1000; decide, ?_⟩
        refine ⟨D, rs', rfl, fun b o n e => by rw [upd_ne n]; exact sl _ _ e, upd_same, fD, ⟨by rw [upd_ne nx, upd_ne nD]; exact e1, fun r m => ?_, ?_, nd⟩, ev, fun r m => (al r m).1⟩
        · obtain ⟨a1, a2, a3, vs, a4, a5⟩ := al r m
          exact ⟨vs, by rw [upd_ne (ne_of_none hx a1).symm, upd_ne a2]; exact a4, a5.ext fun b xs e => by rw [upd_ne (ne_of e hx (by intro z; cases z))]; exact sl _ _ e⟩
        · have : rs'.map (·.1) = (src.map DR.val).map (·.1) := by rw [← ev, List.map_map]; rfl
          rw [this, List.map_map]
          exact ra.nk
  rintro _ H1 ⟨ld, rs, rfl, k1, hx1, fl, ra1, ev, al⟩
  refine ⟨_, rfl, _, rfl, x, C, dx, _, rfl, hx1, W.own.cl, W.f2, by show 1 < 1000; decide, ?_⟩
  refine ⟨_, rfl, x, C, dx, _, rfl, upd_same, W.own.cl, W.f3, by show 2 < 1000; decide, ?_⟩
  refine ⟨_, rfl, x, C, dx, _, rfl, upd_same, W.own.cl, W.f4, by show 3 < 1000; decide, ?_⟩
  rw [upd_upd, upd_upd]
  refine k ld rs _ (fun b o n e => by rw [upd_ne n]; exact k1 b o n e) ⟨⟨dx, upd_same⟩, ra1.keep fun b o e c => ?_⟩ ev fl al
  rw [upd_ne]
  · exact e
  · rintro rfl
    rw [hx1] at e
    cases e
    rcases c with rfl | ⟨r, m, rfl⟩ | ⟨xs, z⟩
    · have := ra1.d; rw [hx1] at this; cases this
    · obtain ⟨vs, h1, _⟩ := ra1.l r m
      rw [hx1] at h1; cases h1
    · cases z
end
end My

set_option Elab.async false
set_option linter.all false
set_option maxRecDepth 100000
set_option maxHeartbeats 4000000

namespace My
open PySem L2 PyProof.Rows
theorem lk_ne {k a : Str} {v : V} {l : List (Str × V)} (h : ¬ k = a) : ((a, v) :: l).lookup k = l.lookup k := by
  rw [List.lookup_cons, show (k == a) = false from beq_eq_false_iff_ne.mpr h]
theorem ld_no {ld : Addr} {fall : Option Int} {n : Int} {down : Bool} {m : Str} (h1 : ¬ m = "lists") (h2 : ¬ m = "fall_step") (h3 : ¬ m = "written_rows") (h4 : ¬ m = "has_fallen") : (diskF ld fall n down).lookup m = none :=
  (lk_ne h1).trans ((lk_ne h2).trans ((lk_ne h3).trans ((lk_ne h4).trans rfl)))
/-- an own class of errors without fields -/
structure Xz (K : PySem.W.Frag) (mg : Str → Option Value) (x : Str) (C : Addr) (B : String) (bm : List Value) : Prop where
  m : mg x = some (.ref C)
  c : ∃ N n, XCls K C N B n bm []
def bmR : List Value := [.type "RuntimeError", .type "Exception", .type "BaseException", .type "object"]
def spWrote (C : Addr) : Sp := fun vs H Q _ => ∃ (x ld : Addr) (rs : List DR) (fall : Option Int) (n : Int) (down : Bool) (k : Key) (v : V) (d : PyData), vs = [.ref x, kV k, v] ∧ DiskAt C H x ld rs fall n down ∧ x ≠ ld ∧ Tg H v d ∧ rs.length ≤ 900 ∧ (∀ r ∈ rs, r.2.2.length ≤ 900) ∧
  (fall ≠ some n → ∀ (rs' : List DR) (H' : Hp), DiskAt C H' x ld rs' fall (n + 1) down → rs'.map DR.val = addV (rs.map DR.val) k d → (∀ b o, H b = some o → b ≠ x → b ≠ ld → (∀ r ∈ rs, b ≠ r.2.1) → H' b = some o) → (∀ r ∈ rs', (∃ r' ∈ rs, r'.2.1 = r.2.1) ∨ H r.2.1 = none) → Q .non H') ∧
  (fall = some n → ∀ (H' : Hp), DiskAt C H' x ld rs fall n true → (∀ b o, H b = some o → b ≠ x → H' b = some o) → Q (.int n) H')
section
variable {P : Program} {w : World} {K : PySem.W.Frag} {mg : Str → Option Value} {base : Heap} {C C1 C2 C3 C4 : Addr}
theorem ok_wrote (T : Tx mg) (W : DT K C) (D : Def K mg "_law_wrote" s__law_wrote ["_law_disk", "_law_spot", "_law_thing_here"]) {bm2 bm3 bm4 : List Value} {fl3 : List Str} (X_Fell : Xs P w K mg base "Fell" C1 "RuntimeError" bmR ["step"]) (X_Busy : Xz K mg "Busy" C2 "RuntimeError" bm2) (X_Moving : Xs P w K mg base "Moving" C3 "RuntimeError" bm3 fl3) (X_NoMove : Xz K mg "NoMove" C4 "RuntimeError" bm4)
    (hne : ∀ D ∈ [C2, C3, C4], C1 ≠ D) (MX_Disk_write : MCalX P w K mg base C "write" ["self", "place", "row"] 3 (spWrite C C1)) : Cal P w K mg base "_law_wrote" ["_law_disk", "_law_spot", "_law_thing_here"] 4 (spWrote C) := by
  refine wcal_of D sc__law_wrote (fun vs H Q E h => ?_) (fun f cdv A outer s H vs Q E hr h => ?_)
  · obtain ⟨x, ld, rs, fall, n, down, k, v, d, rfl, _⟩ := h; rfl
  obtain ⟨x, ld, rs, fall, n, down, k, v, d, rfl, da, nxl, tg, lr, ll, kq, ke⟩ := h
  obtain ⟨dx0, hx⟩ := da.ex
  have hu := hu_of hr
  obtain ⟨N0, n0, cl_Fell⟩ := X_Fell.c
  refine ⟨_, (wpss_cons (wps_set (i := 3) sc__law_wrote.nd rfl (Or.inl rfl) wpe_non) (wpss_cut (wps_try (i := 4) rfl rfl rfl X_Fell.m cl_Fell sc__law_wrote.nd rfl rfl (fun _ _ _ => (wpss_one (wps_if (wpt_cmp (wpc_notN (wpe_mcalS MX_Disk_write passTr (hr.mono (by omega)) (wpv 0) (wpa_cons (wpv 1) (wpa_cons (wpv 2) wpa_nil))))) (wpss_one (wps_ret wpe_str)) wpss_nil))) (fun _ => (wpss_one (wps_set (i := 3) sc__law_wrote.nd rfl (Or.inl rfl) (wpv 4))))) (wpss_cons (wps_if (wpt_cmp (wpc_isN (wpv 3))) (wpss_one (wps_ret wpe_non)) wpss_nil) (wpss_one (wps_ret (wpe_ifExp (WW.pt (wpw_and (wpt_val (wpe_callB wcr_isT (by rfl) T.z_isinstance (by decide +kernel) (wpa_cons (wpv 3) (wpa_cons (wpe_gty (T := "RuntimeError") rfl T.z_RuntimeError (by decide +kernel)) wpa_nil)))) (wpw_and1 (wpt_not (wpt_val (wpe_callB wcr_isN (by rfl) T.z_isinstance (by decide +kernel) (wpa_cons (wpv 3) (wpa_cons (wpe_tup (wpa_cons (wpe_gref rfl X_Busy.m) (wpa_cons (wpe_gref rfl X_Moving.m) (wpa_cons (wpe_gref rfl X_NoMove.m) wpa_nil)))) wpa_nil)))))))) (wpe_fldQ (wpv 3) rfl) wpe_str)))))), ?_⟩
  by_cases hf : fall = some n
  · -- it falls
    refine ⟨fun σ' H' => ∃ (e dx : Addr) , σ' = [some (.ref x), some (kV k), some v, some (.ref e), none] ∧ IsQ H' e C1 [("step", .int n)] ∧ H' e = some (XQ e C1 (some dx)) ∧ DiskAt C H' x ld rs fall n true ∧ (∀ b o, H b = some o → b ≠ x → H' b = some o), ?_, ?_⟩
    · refine ⟨rfl, _, rfl, x, dx0, _, rfl, hx, ld_no (by decide +kernel) (by decide +kernel) (by decide +kernel) (by decide +kernel), _, rfl, _, rfl, x, ld, rs, fall, n, down, k, v, d, rfl, da, nxl, tg, lr, ll, fun z => absurd hf z, fun _ dx1 dx hx1 hdx => ⟨rfl, fun e he => ?_⟩⟩
      obtain rfl : dx0 = dx1 := by rw [hx] at hx1; cases hx1; rfl
      have nd : dx ≠ e := ne_of_none upd_same he
      have ndx : dx ≠ x := (ne_of_none hx hdx).symm
      have hex : H e = none ∧ e ≠ x := by
        have h1 : e ≠ dx := Ne.symm nd
        rw [upd_ne h1] at he
        by_cases z : e = x
        · subst z; rw [upd_same] at he; cases he
        · rw [upd_ne z] at he; exact ⟨he, z⟩
      have kp : ∀ b o, H b = some o → b ≠ x → upd (upd (upd H x (.ins C dx0 (diskF ld fall n true))) dx (XD dx [("step", .int n)])) e (XQ e C1 (some dx)) b = some o := fun b o h nb => by
        rw [upd_ne (ne_of_none h hex.1), upd_ne (ne_of_none h hdx), upd_ne nb]; exact h
      refine ⟨_, rfl, e, dx, rfl, ⟨dx, upd_same, by rw [upd_ne nd, upd_same], nd⟩, upd_same, ⟨⟨dx0, by rw [upd_ne (Ne.symm hex.2), upd_ne (Ne.symm ndx), upd_same]⟩, da.rows.keep fun b o h c => kp b o h ?_⟩, kp⟩
      rintro rfl
      rw [hx] at h
      cases h
      rcases c with c | ⟨r, m, c⟩ | ⟨xs, z⟩
      · exact nxl c
      · obtain ⟨vs, h1, _⟩ := da.rows.l r m
        rw [← c, hx] at h1; cases h1
      · cases z
    · rintro _ H1 ⟨e, dx, rfl, iq, e1, da1, k1⟩
      refine ⟨_, rfl, _, rfl, iteF ?_⟩
      refine ⟨_, rfl, e, C1, N0, _, n0, _, _, some dx, "RuntimeError", rfl, e1, cl_Fell, by decide +kernel, _, rfl, ?_⟩
      refine iteT ?_
      refine ⟨_, rfl, tok1000 (by show 3 ≤ 1000; decide), fun a2 ha2 => ?_⟩
      have s3 := same_new ha2 (.tup ([C2, C3, C4].map V.ref))
      obtain ⟨_, _, c1⟩ := X_Busy.c
      obtain ⟨_, _, c2⟩ := X_Moving.c
      obtain ⟨_, _, c3⟩ := X_NoMove.c
      obtain ⟨dxq, q1, q2, q3⟩ := iq.ex
      refine ⟨e, C1, N0, _, n0, _, _, some dx, a2, [C2, C3, C4], rfl, s3 _ _ e1, cl_Fell, upd_same, fun D hD => ⟨hne D hD, ?_⟩, ?_⟩
      · simp at hD
        rcases hD with rfl | rfl | rfl
        · exact ⟨_, _, _, _, _, c1⟩
        · exact ⟨_, _, _, _, _, c2⟩
        · exact ⟨_, _, _, _, _, c3⟩
      · refine ⟨_, rfl, iteT ?_⟩
        refine ⟨_, rfl, e, C1, N0, _, n0, _, _, [("step", .int n)], .int n, rfl, ⟨dxq, s3 _ _ q1, s3 _ _ q2, q3⟩, cl_Fell, by simp, rfl, ?_⟩
        exact ke hf _ ⟨(let ⟨d2, h2⟩ := da1.ex; ⟨d2, s3 _ _ h2⟩), da1.rows.same s3⟩ fun b o h nb => s3 _ _ (k1 b o h nb)
  · -- it doesn't
    refine ⟨fun σ' H' => σ' = [some (.ref x), some (kV k), some v, some .non, none] ∧ ∃ rs', DiskAt C H' x ld rs' fall (n + 1) down ∧ rs'.map DR.val = addV (rs.map DR.val) k d ∧ (∀ b o, H b = some o → b ≠ x → b ≠ ld → (∀ r ∈ rs, b ≠ r.2.1) → H' b = some o) ∧ (∀ r ∈ rs', (∃ r' ∈ rs, r'.2.1 = r.2.1) ∨ H r.2.1 = none), ?_, ?_⟩
    · refine ⟨rfl, _, rfl, x, dx0, _, rfl, hx, ld_no (by decide +kernel) (by decide +kernel) (by decide +kernel) (by decide +kernel), _, rfl, _, rfl, x, ld, rs, fall, n, down, k, v, d, rfl, da, nxl, tg, lr, ll, fun _ rs' H1 da1 e1 k1 n1 => ?_, fun z => absurd z hf⟩
      refine ⟨_, rfl, iteF ?_⟩
      exact ⟨rfl, rs', da1, e1, k1, n1⟩
    · rintro _ H1 ⟨rfl, rs', da1, e1, k1, n1⟩
      refine ⟨_, rfl, _, rfl, iteT ?_⟩
      exact kq hf rs' H1 da1 e1 k1 n1
end
end My

set_option Elab.async false
set_option linter.all false
set_option maxRecDepth 100000
set_option maxHeartbeats 4000000

namespace My
open PySem L2 PyProof.Rows
/-! ### places and their rows, as lists of pairs -/
def getV (l : List DV) (k : Key) : List PyData := ((l.find? fun r => decide (r.1 = k)).map (·.2)).getD []
theorem getV_nil (k : Key) : getV [] k = [] := rfl
theorem getV_pos {r : DV} {l : List DV} {k : Key} (e : r.1 = k) : getV (r :: l) k = r.2 := by simp [getV, List.find?_cons, e]
theorem getV_neg {r : DV} {l : List DV} {k : Key} (e : ¬ r.1 = k) : getV (r :: l) k = getV l k := by simp [getV, List.find?_cons, e]
theorem getV_miss {k : Key} : ∀ {l : List DV}, k ∉ l.map (·.1) → getV l k = []
  | [], _ => rfl
  | r :: l, h => by
    rw [getV_neg (fun e => h (by rw [← e]; exact List.mem_cons_self ..))]
    exact getV_miss fun m => h (List.mem_cons_of_mem _ m)
theorem getV_hit {k : Key} {ds : List PyData} : ∀ {l : List DV}, (l.map (·.1)).Nodup → (k, ds) ∈ l → getV l k = ds
  | r :: l, nd, m => by
    have nd' := List.nodup_cons.mp (show (r.1 :: l.map (·.1)).Nodup from nd)
    rcases List.mem_cons.mp m with rfl | m
    · exact getV_pos rfl
    · rw [getV_neg (fun e => nd'.1 (by rw [e]; exact List.mem_map.mpr ⟨_, m, rfl⟩))]
      exact getV_hit nd'.2 m
theorem addV_keys {k : Key} {d : PyData} : ∀ {l : List DV} {j : Key}, j ∈ (addV l k d).map (·.1) ↔ j ∈ l.map (·.1) ∨ j = k
  | [], j => by simp [addV]
  | r :: l, j => by
    rw [addV]
    by_cases e : r.1 = k
    · rw [if_pos e, List.map_cons, List.map_cons, List.mem_cons, List.mem_cons]
      constructor
      · rintro (h | h)
        · exact .inr h
        · exact .inl (.inr h)
      · rintro ((h | h) | h)
        · exact .inl (h.trans e)
        · exact .inr h
        · exact .inl h
    · rw [if_neg e, List.map_cons, List.map_cons, List.mem_cons, List.mem_cons, addV_keys, or_assoc]
theorem addV_nodup {k : Key} {d : PyData} : ∀ {l : List DV}, (l.map (·.1)).Nodup → ((addV l k d).map (·.1)).Nodup
  | [], _ => by simp [addV]
  | r :: l, nd => by
    have nd' := List.nodup_cons.mp (show (r.1 :: l.map (·.1)).Nodup from nd)
    rw [addV]
    by_cases e : r.1 = k
    · rw [if_pos e, List.map_cons]
      exact List.nodup_cons.mpr ⟨e ▸ nd'.1, nd'.2⟩
    · rw [if_neg e, List.map_cons]
      refine List.nodup_cons.mpr ⟨fun m => ?_, addV_nodup nd'.2⟩
      rcases addV_keys.mp m with m | m
      · exact nd'.1 m
      · exact e m
theorem mem_addV {k : Key} {d : PyData} : ∀ {l : List DV} {r : DV}, (l.map (·.1)).Nodup → (r ∈ addV l k d ↔ (r ∈ l ∧ r.1 ≠ k) ∨ r = (k, getV l k ++ [d]))
  | [], r, _ => by simp [addV, getV_nil]
  | q :: l, r, nd => by
    have nd' := List.nodup_cons.mp (show (q.1 :: l.map (·.1)).Nodup from nd)
    rw [addV]
    by_cases e : q.1 = k
    · rw [if_pos e, getV_pos e, List.mem_cons, List.mem_cons]
      constructor
      · rintro (h | h)
        · exact .inr h
        · exact .inl ⟨.inr h, fun z => nd'.1 (by rw [e, ← z]; exact List.mem_map.mpr ⟨r, h, rfl⟩)⟩
      · rintro (⟨h | h, n⟩ | h)
        · exact absurd (h ▸ e) n
        · exact .inr h
        · exact .inl h
    · rw [if_neg e, getV_neg e, List.mem_cons, List.mem_cons, mem_addV nd'.2]
      constructor
      · rintro (h | h | h)
        · exact .inl ⟨.inl h, h ▸ e⟩
        · exact .inl ⟨.inr h.1, h.2⟩
        · exact .inr h
      · rintro (⟨h | h, n⟩ | h)
        · exact .inl h
        · exact .inr (.inl ⟨h, n⟩)
        · exact .inr (.inr h)
theorem addV_len (k : Key) (d : PyData) : ∀ l : List DV, (addV l k d).length ≤ l.length + 1
  | [] => by simp [addV]
  | r :: l => by
    rw [addV]
    split
    · simp
    · have := addV_len k d l
      simp only [List.length_cons]; omega
theorem addV_long {k : Key} {d : PyData} {n : Nat} : ∀ {l : List DV}, (∀ r ∈ l, r.2.length ≤ n) → ∀ r ∈ addV l k d, r.2.length ≤ n + 1
  | [], _, r, m => by simp [addV] at m; subst m; simp
  | q :: l, h, r, m => by
    rw [addV] at m
    split at m
    · rcases List.mem_cons.mp m with rfl | m
      · have := h q (List.mem_cons_self ..)
        simp only [List.length_append, List.length_cons, List.length_nil]; omega
      · have := h r (List.mem_cons_of_mem _ m); omega
    · rcases List.mem_cons.mp m with rfl | m
      · have := h r (List.mem_cons_self ..); omega
      · exact addV_long (fun r m => h r (List.mem_cons_of_mem _ m)) r m
theorem addV_all {p : PyData → Prop} {k : Key} {d : PyData} (hd : p d) : ∀ {l : List DV}, (∀ r ∈ l, ∀ d ∈ r.2, p d) → ∀ r ∈ addV l k d, ∀ d ∈ r.2, p d
  | [], _, r, m, e, me => by
    simp [addV] at m; subst m
    rw [List.mem_singleton.mp me]; exact hd
  | q :: l, h, r, m, e, me => by
    rw [addV] at m
    split at m
    · rcases List.mem_cons.mp m with rfl | m
      · rcases List.mem_append.mp me with me | me
        · exact h q (List.mem_cons_self ..) e me
        · rw [List.mem_singleton.mp me]; exact hd
      · exact h r (List.mem_cons_of_mem _ m) e me
    · rcases List.mem_cons.mp m with rfl | m
      · exact h r (List.mem_cons_self ..) e me
      · exact addV_all hd (fun r m => h r (List.mem_cons_of_mem _ m)) r m e me
theorem addV_full {k : Key} {d : PyData} {l : List DV} (nd : (l.map (·.1)).Nodup) (h : ∀ r ∈ l, r.2 ≠ []) : ∀ r ∈ addV l k d, r.2 ≠ [] := fun r m => by
  rcases (mem_addV nd).mp m with m | rfl
  · exact h r m.1
  · simp
/-- alike but for places without rows -/
def Eqr (rs ks : List DV) : Prop := ∀ r, (r ∈ rs ∧ r.2 ≠ []) ↔ r ∈ ks
theorem Eqr.get {rs ks : List DV} (h : Eqr rs ks) (n1 : (rs.map (·.1)).Nodup) (n2 : (ks.map (·.1)).Nodup) (k : Key) : getV rs k = getV ks k := by
  by_cases c : k ∈ ks.map (·.1)
  · obtain ⟨r, m, e⟩ := List.mem_map.mp c
    have e' : r.1 = k := e
    subst e'
    rw [getV_hit n2 m, getV_hit n1 ((h r).mpr m).1]
  · rw [getV_miss c]
    by_cases c1 : k ∈ rs.map (·.1)
    · obtain ⟨r, m, e⟩ := List.mem_map.mp c1
      have e' : r.1 = k := e
      subst e'
      rw [getV_hit n1 m]
      by_cases z : r.2 = []
      · exact z
      · exact absurd (List.mem_map.mpr ⟨r, (h r).mp ⟨m, z⟩, rfl⟩) c
    · exact getV_miss c1
theorem Eqr.add {rs ks : List DV} (h : Eqr rs ks) (n1 : (rs.map (·.1)).Nodup) (n2 : (ks.map (·.1)).Nodup) (k : Key) (d : PyData) : Eqr (addV rs k d) (addV ks k d) := fun r => by
  rw [mem_addV n1, mem_addV n2, ← h.get n1 n2 k]
  constructor
  · rintro ⟨(⟨a, b⟩ | a), c⟩
    · exact .inl ⟨(h r).mp ⟨a, c⟩, b⟩
    · exact .inr a
  · rintro (⟨a, b⟩ | a)
    · have := (h r).mpr a
      exact ⟨.inl ⟨this.1, b⟩, this.2⟩
    · exact ⟨.inr a, by rw [a]; simp⟩
theorem Eqr.filt {rs ks : List DV} (h : Eqr rs ks) : Eqr (rs.filter fun r => !r.2.isEmpty) ks := fun r => by
  rw [← h r, List.mem_filter]
  constructor
  · exact fun ⟨⟨a, _⟩, b⟩ => ⟨a, b⟩
  · exact fun ⟨a, b⟩ => ⟨⟨a, by simp [b]⟩, b⟩
theorem nodup_of_keys {l : List DV} (n : (l.map (·.1)).Nodup) : l.Nodup := List.Pairwise.of_map (·.1) (fun a b h e => h (congrArg (·.1) e)) n
theorem Eqr.perm {rs ks : List DV} (h : Eqr rs ks) (f : ∀ r ∈ rs, r.2 ≠ []) (n1 : (rs.map (·.1)).Nodup) (n2 : (ks.map (·.1)).Nodup) : rs.Perm ks :=
  (List.perm_ext_iff_of_nodup (nodup_of_keys n1) (nodup_of_keys n2)).mpr fun r => ⟨fun m => (h r).mp ⟨m, f r m⟩, fun m => ((h r).mpr m).1⟩
/-- the places there are -/
def KP (k : Key) : Prop := (k = .inl 0 ∨ k = .inl 1 ∨ k = .inl 2 ∨ k = .inl 3 ∨ k = .inl 4 ∨ k = .inl 5) ∨ k = .inr "front"
theorem KP.fit {k : Key} (h : KP k) : keyFit k := by
  rcases h with (rfl | rfl | rfl | rfl | rfl | rfl) | rfl <;> first | exact trivial | (show Nat.log2 _ < 1920; decide +kernel)
theorem KP.inj {k j : Key} (h : KP k) (g : KP j) (e : keyT k = keyT j) : k = j := by
  rcases h with (rfl | rfl | rfl | rfl | rfl | rfl) | rfl <;> rcases g with (rfl | rfl | rfl | rfl | rfl | rfl) | rfl <;> first | rfl | exact absurd e (by decide +kernel)
theorem sorted_one {ks js : List Key} (p : ks.Perm js) (h : ∀ k ∈ ks, KP k) (nd : ks.Nodup) (s1 : sortedS (ks.map keyT) = true) (s2 : sortedS (js.map keyT) = true) : ks = js := by
  refine up_uniq (f := fun k => (Sum.inr (keyT k) : Key)) p ?_ ?_ ?_
  · exact List.pairwise_map.mp (show (ks.map keyT).Pairwise _ from up_S s1)
  · exact List.pairwise_map.mp (show (js.map keyT).Pairwise _ from up_S s2)
  · have : ∀ {l : List Key}, (∀ k ∈ l, KP k) → l.Nodup → (l.map fun k => (Sum.inr (keyT k) : Key)).Nodup := by
      intro l
      induction l with
      | nil => exact fun _ _ => List.nodup_nil
      | cons a l ih =>
        intro h nd
        have nd' := List.nodup_cons.mp nd
        refine List.nodup_cons.mpr ⟨fun m => ?_, ih (fun k m => h k (List.mem_cons_of_mem _ m)) nd'.2⟩
        obtain ⟨b, mb, e⟩ := List.mem_map.mp m
        have := (h b (List.mem_cons_of_mem _ mb)).inj (h a (List.mem_cons_self ..)) (Sum.inr.inj e)
        exact nd'.1 (this ▸ mb)
    exact this h nd
/-! ### a place's list put anew -/
def setR : List DR → Key → Addr → List PyData → List DR
  | [], k, q, ds => [(k, q, ds)]
  | r :: rs, k, q, ds => if r.1 = k then (r.1, q, ds) :: rs else r :: setR rs k q ds
theorem setR_val {k : Key} {q : Addr} {d : PyData} : ∀ {rs : List DR}, (setR rs k q (getV (rs.map DR.val) k ++ [d])).map DR.val = addV (rs.map DR.val) k d
  | [] => rfl
  | r :: rs => by
    rw [setR, List.map_cons, addV]
    by_cases e : r.1 = k
    · rw [if_pos e, if_pos (show r.val.1 = k from e), getV_pos (show r.val.1 = k from e), List.map_cons]
      subst e; rfl
    · rw [if_neg e, if_neg (show ¬ r.val.1 = k from e), getV_neg (show ¬ r.val.1 = k from e), List.map_cons, setR_val]
theorem setR_mem {k : Key} {q : Addr} {ds : List PyData} : ∀ {rs : List DR} {r : DR}, r ∈ setR rs k q ds → r ∈ rs ∨ (r.1 = k ∧ r.2 = (q, ds))
  | [], r, m => by rw [setR, List.mem_singleton] at m; subst m; exact .inr ⟨rfl, rfl⟩
  | r0 :: rs, r, m => by
    rw [setR] at m
    by_cases e : r0.1 = k
    · rw [if_pos e] at m
      rcases List.mem_cons.mp m with rfl | m
      · exact .inr ⟨e, rfl⟩
      · exact .inl (List.mem_cons_of_mem _ m)
    · rw [if_neg e] at m
      rcases List.mem_cons.mp m with rfl | m
      · exact .inl (List.mem_cons_self ..)
      · rcases setR_mem m with m | m
        · exact .inl (List.mem_cons_of_mem _ m)
        · exact .inr m
theorem setR_put {k : Key} {q : Addr} {ds : List PyData} : ∀ {rs : List DR}, (rs.map (·.1)).Nodup → putK (rs.map fun r => (r.1, V.ref r.2.1)) k (.ref q) = (setR rs k q ds).map fun r => (r.1, V.ref r.2.1)
  | [], _ => rfl
  | r :: rs, nd => by
    have nd' := List.nodup_cons.mp (show (r.1 :: rs.map (·.1)).Nodup from nd)
    rw [setR]
    by_cases e : r.1 = k
    · rw [if_pos e, putK, List.map_cons, List.any_cons, if_pos (by rw [decide_eq_true (show (r.1, V.ref r.2.1).1 = k from e)]; rfl), List.map_cons, if_pos (show (r.1, V.ref r.2.1).1 = k from e), List.map_cons]
      congr 1
      rw [List.map_map]
      refine List.map_congr_left fun r' m => ?_
      have : ¬ r'.1 = k := fun z => nd'.1 (by rw [e, ← z]; exact List.mem_map.mpr ⟨r', m, rfl⟩)
      exact if_neg this
    · rw [if_neg e]
      have ih := setR_put (k := k) (q := q) (ds := ds) nd'.2
      rw [List.map_cons, List.map_cons, ← ih, putK, putK, List.any_cons, decide_eq_false (show ¬ (r.1, V.ref r.2.1).1 = k from e), Bool.false_or]
      by_cases c : ((rs.map fun r => (r.1, V.ref r.2.1)).any fun kv => decide (kv.1 = k)) = true
      · rw [if_pos c, if_pos c, List.map_cons, if_neg (show ¬ (r.1, V.ref r.2.1).1 = k from e)]
      · rw [if_neg c, if_neg c]; rfl
theorem setR_nl {k : Key} {q : Addr} {ds : List PyData} : ∀ {rs : List DR}, (rs.map fun r => r.2.1).Nodup → (∀ r ∈ rs, r.2.1 ≠ q) → ((setR rs k q ds).map fun r => r.2.1).Nodup
  | [], _, _ => by simp [setR]
  | r :: rs, nd, h => by
    have nd' := List.nodup_cons.mp (show (r.2.1 :: rs.map fun r => r.2.1).Nodup from nd)
    rw [setR]
    by_cases e : r.1 = k
    · rw [if_pos e, List.map_cons]
      refine List.nodup_cons.mpr ⟨fun m => ?_, nd'.2⟩
      obtain ⟨r', m', z⟩ := List.mem_map.mp m
      exact h r' (List.mem_cons_of_mem _ m') z
    · rw [if_neg e, List.map_cons]
      refine List.nodup_cons.mpr ⟨fun m => ?_, setR_nl nd'.2 fun r m => h r (List.mem_cons_of_mem _ m)⟩
      obtain ⟨r', m', z⟩ := List.mem_map.mp m
      rcases setR_mem m' with m' | ⟨_, m'⟩
      · exact nd'.1 (by rw [← z]; exact List.mem_map.mpr ⟨r', m', rfl⟩)
      · rw [m'] at z
        exact h r (List.mem_cons_self ..) z.symm
theorem RowsAt.put {H : Hp} {kd q : Addr} {ks : List DR} {vs : List V} {ds : List PyData} {k : Key} (h : RowsAt H kd ks) (hq : H q = some (.lst vs)) (t : TgAll H vs ds) (n : ∀ r ∈ ks, r.2.1 ≠ q) :
    RowsAt (upd H kd (.dK (putK (ks.map fun r => (r.1, V.ref r.2.1)) k (.ref q)))) kd (setR ks k q ds) where
  d := by rw [upd_same, setR_put h.nk]
  l := fun r m => by
    have tt : ∀ b xs, H b = some (.tup xs) → upd H kd (.dK (putK (ks.map fun r => (r.1, V.ref r.2.1)) k (.ref q))) b = some (.tup xs) := fun b xs e => by
      rw [upd_ne (ne_of e h.d (by intro z; cases z))]; exact e
    rcases setR_mem m with m | ⟨_, m⟩
    · obtain ⟨us, h1, h2⟩ := h.l r m
      exact ⟨us, by rw [upd_ne (ne_of h1 h.d (by intro z; cases z))]; exact h1, h2.ext tt⟩
    · rw [m]
      exact ⟨vs, by rw [upd_ne (ne_of hq h.d (by intro z; cases z))]; exact hq, t.ext tt⟩
  nk := by
    have : (setR ks k q ds).map (·.1) = (putK (ks.map fun r => (r.1, V.ref r.2.1)) k (.ref q)).map (·.1) := by rw [setR_put (ds := ds) h.nk, List.map_map]; rfl
    have n2 : ((setR ks k q (getV (ks.map DR.val) k ++ [PyData.none])).map DR.val).map (·.1) = (setR ks k q ds).map (·.1) := by
      rw [List.map_map]
      have : ∀ rs : List DR, ∀ e1 e2 : List PyData, (setR rs k q e1).map (·.1) = (setR rs k q e2).map (·.1) := by
        intro rs
        induction rs with
        | nil => intro _ _; rfl
        | cons r rs ih =>
          intro e1 e2
          rw [setR, setR]
          by_cases e : r.1 = k
          · rw [if_pos e, if_pos e]; rfl
          · rw [if_neg e, if_neg e, List.map_cons, List.map_cons, ih e1 e2]
      exact this ks _ _
    rw [← n2, setR_val]
    exact addV_nodup (by rw [List.map_map]; exact h.nk)
  nl := setR_nl h.nl n
theorem RowsAt.ext {p l ld : Addr} {t : Nat} {H H' : Hp} {rs : List DR} (h : RowsAt H ld rs) (P : Pen p l t H) (n : ld ≠ p) (e : Ext p H H') : RowsAt H' ld rs := h.keep fun b o hb c => by
  refine e _ _ ?_ hb
  rcases c with rfl | ⟨r, m, rfl⟩ | ⟨xs, rfl⟩
  · exact n
  · obtain ⟨vs, h1, _⟩ := h.l r m
    exact P.lst_ne h1
  · exact P.tup_ne hb
theorem Pen.keep {p l : Addr} {t : Nat} {H H' : Hp} (P : Pen p l t H) (e : ∀ b o, H b = some o → (b = p ∨ b = l) → H' b = some o) : Pen p l t H' := by
  obtain ⟨ns, r, h1, h2, h3⟩ := P.ex
  exact ⟨ns, r, e _ _ h1 (.inl rfl), e _ _ h2 (.inr rfl), h3⟩
/-! ### how long a text may be -/
def Fit (m n : Nat) (d : PyData) : Prop := smallD d = true ∧ wtD d ≤ m ∧ d.depth ≤ n
theorem fitAll {m n : Nat} : ∀ {ds : List PyData}, (∀ d ∈ ds, Fit m n d) → smallAll ds = true ∧ wtAll ds ≤ ds.length * (m + 2) ∧ PyData.depthAll ds ≤ n
  | [], _ => ⟨rfl, Nat.zero_le _, by simp [PyData.depthAll]⟩
  | d :: r, h => by
    obtain ⟨a1, a2, a3⟩ := h d (List.mem_cons_self ..)
    obtain ⟨b1, b2, b3⟩ := fitAll fun e me => h e (List.mem_cons_of_mem _ me)
    refine ⟨by simp [smallAll, a1, b1], ?_, by simp only [PyData.depthAll]; omega⟩
    simp only [wtAll, List.length_cons, Nat.add_mul]
    omega
theorem KP.fitD {k : Key} (h : KP k) : Fit 60 0 (kD k) := by
  rcases h with (rfl | rfl | rfl | rfl | rfl | rfl) | rfl <;> exact ⟨by decide +kernel, by decide +kernel, by simp [kD, PyData.depth]⟩
theorem keys_show {ks : List Key} (h : ∀ k ∈ ks, KP k) (l : ks.length ≤ 70) : (PyData.list (ks.map kD)).showable = true ∧ (PyData.list (ks.map kD)).shown.length ≤ sizeLine ∧ (PyData.list (ks.map kD)).depth ≤ 100 := by
  obtain ⟨b1, b2, b3⟩ := fitAll (ds := ks.map kD) (m := 60) (n := 0) fun d m => by
    obtain ⟨k, mk, rfl⟩ := List.mem_map.mp m
    exact (h k mk).fitD
  rw [List.length_map] at b2
  have sm : smallD (.list (ks.map kD)) = true := by
    simp only [smallD, Bool.and_eq_true, decide_eq_true_eq, List.length_map]
    exact ⟨by omega, b1⟩
  obtain ⟨s1, s2⟩ := show_ok _ sm
  have w : wtD (.list (ks.map kD)) ≤ 5000 := by simp only [wtD]; omega
  exact ⟨s1, Nat.le_trans s2 (Nat.le_trans w (by decide)), by simp only [PyData.depth]; omega⟩
theorem keys_th {H : Hp} : ∀ ks : List Key, ThAll (fun _ => True) H (ks.map kV) (ks.map kD)
  | [] => .nil
  | .inl i :: r => .cons (.int i) (keys_th r)
  | .inr z :: r => .cons (.str z) (keys_th r)
theorem lt_shaped {ds : List PyData} (h : ∀ d ∈ ds, Lt 4 d) : SeqAt.shaped (.list ds) = true := by
  have : ∀ ds : List PyData, (∀ d ∈ ds, Lt 4 d) → PyData.canLayAll0 ds = true ∧ PyData.depthAll ds ≤ 4 := by
    intro ds
    induction ds with
    | nil => exact fun _ => ⟨by simp [PyData.canLayAll0], by simp [PyData.depthAll]⟩
    | cons d r ih =>
      intro h
      obtain ⟨i1, i2⟩ := ih fun e m => h e (List.mem_cons_of_mem _ m)
      obtain ⟨d1, d2⟩ := h d (List.mem_cons_self ..)
      exact ⟨by simp [PyData.canLayAll0, i1, d1], by simp only [PyData.depthAll]; omega⟩
  obtain ⟨i1, i2⟩ := this ds h
  exact Bool.and_eq_true_iff.mpr ⟨by simpa [PyData.canLay0] using i1, decide_eq_true (by simp only [PyData.depth]; omega)⟩
/-! ### what stays through the bouts -/
def Fb (p l kd : Addr) (ks : List DR) (b : Addr) : Prop := b = p ∨ b = l ∨ b = kd ∨ ∃ r ∈ ks, b = r.2.1
def Fd (x ld : Addr) (rs : List DR) (b : Addr) : Prop := b = x ∨ b = ld ∨ ∃ r ∈ rs, b = r.2.1
structure Bs (H : Hp) (p l kd : Addr) (t : Nat) (ks : List DR) (c : Nat) : Prop where
  pn : Pen p l t H
  ra : RowsAt H kd ks
  fu : ∀ r ∈ ks.map DR.val, r.2 ≠ []
  kp : ∀ k ∈ ks.map (·.1), KP k
  ln : ks.length ≤ c
  ll : ∀ r ∈ ks.map DR.val, r.2.length ≤ c
  np : kd ≠ p
  nl : ∀ r ∈ ks, r.2.1 ≠ l
  lt : ∀ r ∈ ks.map DR.val, ∀ d ∈ r.2, Lt 4 d
theorem Bs.keep {H H' : Hp} {p l kd : Addr} {t c : Nat} {ks : List DR} (B : Bs H p l kd t ks c) (e : ∀ b o, H b = some o → (Fb p l kd ks b ∨ ∃ xs, o = .tup xs) → H' b = some o) : Bs H' p l kd t ks c :=
  ⟨B.pn.keep fun b o h z => e b o h (.inl (z.elim .inl fun z => .inr (.inl z))), B.ra.keep fun b o h z => e b o h (z.elim (fun z => .inl (.inr (.inr (.inl z)))) fun z => z.elim (fun z => .inl (.inr (.inr (.inr z)))) .inr), B.fu, B.kp, B.ln, B.ll, B.np, B.nl, B.lt⟩
theorem Bs.same {H H' : Hp} {p l kd : Addr} {t c : Nat} {ks : List DR} (B : Bs H p l kd t ks c) (s : Same H H') : Bs H' p l kd t ks c := B.keep fun b o h _ => s b o h
theorem Bs.ext {H H' : Hp} {p l kd : Addr} {t t' c : Nat} {ks : List DR} (B : Bs H p l kd t ks c) (P' : Pen p l t' H') (x : Ext p H H') : Bs H' p l kd t' ks c :=
  ⟨P', B.ra.ext B.pn B.np x, B.fu, B.kp, B.ln, B.ll, B.np, B.nl, B.lt⟩
theorem Bs.old {H : Hp} {p l kd : Addr} {t c : Nat} {ks : List DR} (B : Bs H p l kd t ks c) {b : Addr} (f : Fb p l kd ks b) : H b ≠ none := by
  obtain ⟨ns, r, h1, h2, _⟩ := B.pn.ex
  rcases f with rfl | rfl | rfl | ⟨r, m, rfl⟩
  · rw [h1]; simp
  · rw [h2]; simp
  · rw [B.ra.d]; simp
  · obtain ⟨vs, h, _⟩ := B.ra.l r m; rw [h]; simp
theorem Bs.mono {H : Hp} {p l kd : Addr} {t c c' : Nat} {ks : List DR} (B : Bs H p l kd t ks c) (h : c ≤ c') : Bs H p l kd t ks c' :=
  ⟨B.pn, B.ra, B.fu, B.kp, Nat.le_trans B.ln h, fun r m => Nat.le_trans (B.ll r m) h, B.np, B.nl, B.lt⟩
theorem DiskAt.keep {C : Addr} {H H' : Hp} {x ld : Addr} {rs : List DR} {fall : Option Int} {n : Int} {down : Bool} (D : DiskAt C H x ld rs fall n down) (e : ∀ b o, H b = some o → (Fd x ld rs b ∨ ∃ xs, o = .tup xs) → H' b = some o) : DiskAt C H' x ld rs fall n down :=
  ⟨let ⟨dx, h⟩ := D.ex; ⟨dx, e _ _ h (.inl (.inl rfl))⟩, D.rows.keep fun b o h z => e b o h (z.elim (fun z => .inl (.inr (.inl z))) fun z => z.elim (fun z => .inl (.inr (.inr z))) .inr)⟩
theorem DiskAt.old {C : Addr} {H : Hp} {x ld : Addr} {rs : List DR} {fall : Option Int} {n : Int} {down : Bool} (D : DiskAt C H x ld rs fall n down) {b : Addr} (f : Fd x ld rs b) : H b ≠ none := by
  rcases f with rfl | rfl | ⟨r, m, rfl⟩
  · obtain ⟨dx, h⟩ := D.ex; rw [h]; simp
  · rw [D.rows.d]; simp
  · obtain ⟨vs, h, _⟩ := D.rows.l r m; rw [h]; simp
/-- a bout's turn: what is known, the disk, apart -/
structure Jt (C : Addr) (H : Hp) (p l kd x ld : Addr) (t : Nat) (ks rs : List DR) (step : Option Int) (n : Int) (down : Bool) (c : Nat) : Prop where
  b : Bs H p l kd t ks c
  d : DiskAt C H x ld rs step n down
  eq : Eqr (rs.map DR.val) (ks.map DR.val)
  rn : rs.length ≤ c + 1
  rl : ∀ r ∈ rs.map DR.val, r.2.length ≤ c
  dn : down = true → step = some n
  ap : ∀ b, Fb p l kd ks b → Fd x ld rs b → False
theorem Jt.keep {C : Addr} {H H' : Hp} {p l kd x ld : Addr} {t c : Nat} {ks rs : List DR} {step : Option Int} {n : Int} {down : Bool} (J : Jt C H p l kd x ld t ks rs step n down c) (e : ∀ b o, H b = some o → (Fb p l kd ks b ∨ Fd x ld rs b ∨ ∃ xs, o = .tup xs) → H' b = some o) : Jt C H' p l kd x ld t ks rs step n down c :=
  ⟨J.b.keep fun b o h z => e b o h (z.elim .inl fun z => .inr (.inr z)), J.d.keep fun b o h z => e b o h (.inr z), J.eq, J.rn, J.rl, J.dn, J.ap⟩
theorem Jt.same {C : Addr} {H H' : Hp} {p l kd x ld : Addr} {t c : Nat} {ks rs : List DR} {step : Option Int} {n : Int} {down : Bool} (J : Jt C H p l kd x ld t ks rs step n down c) (s : Same H H') : Jt C H' p l kd x ld t ks rs step n down c := J.keep fun b o h _ => s b o h
theorem Jt.ext {C : Addr} {H H' : Hp} {p l kd x ld : Addr} {t t' c : Nat} {ks rs : List DR} {step : Option Int} {n : Int} {down : Bool} (J : Jt C H p l kd x ld t ks rs step n down c) (P' : Pen p l t' H') (e : Ext p H H') : Jt C H' p l kd x ld t' ks rs step n down c :=
  ⟨J.b.ext P' e, J.d.keep fun b o h z => e b o (fun q => by
    rcases z with z | ⟨xs, rfl⟩
    · exact J.ap b (.inl q) z
    · exact J.b.pn.tup_ne h q) h, J.eq, J.rn, J.rl, J.dn, J.ap⟩
theorem rows_eq {K : PySem.W.Frag} {H : Hp} {td kd : Addr} {ts ks : List DR} (h1 : RowsAt H td ts) (h2 : RowsAt H kd ks) (p : (ts.map DR.val).Perm (ks.map DR.val)) (lt : ∀ r ∈ ks.map DR.val, ∀ d ∈ r.2, Lt 4 d) : Eqd2 K H 65 (.ref td) (.ref kd) true := by
  refine .dct (n := 64) (e := fun _ => true) (.inl h1.d) (.inl h2.d) (fun k u v m1 m2 => ?_) ?_
  · obtain ⟨r1, n1, e1⟩ := List.mem_map.mp m1
    obtain ⟨r2, n2, e2⟩ := List.mem_map.mp m2
    have a1 : r1.1 = k := congrArg Prod.fst e1
    have a2 : r2.1 = k := congrArg Prod.fst e2
    have b1 : V.ref r1.2.1 = u := congrArg Prod.snd e1
    have b2 : V.ref r2.2.1 = v := congrArg Prod.snd e2
    subst b1 b2
    have v1 : r1.val ∈ ks.map DR.val := p.mem_iff.mp (List.mem_map.mpr ⟨r1, n1, rfl⟩)
    have v2 : r2.val ∈ ks.map DR.val := List.mem_map.mpr ⟨r2, n2, rfl⟩
    have nd : ((ks.map DR.val).map (·.1)).Nodup := by rw [List.map_map]; exact h2.nk
    have e : r1.2.2 = r2.2.2 := (getV_hit nd (show (k, r1.2.2) ∈ _ from a1 ▸ v1)).symm.trans (getV_hit nd (show (k, r2.2.2) ∈ _ from a2 ▸ v2))
    obtain ⟨us, u1, u2⟩ := h1.l r1 n1
    obtain ⟨ws, w1, w2⟩ := h2.l r2 n2
    have sh := lt_shaped (lt _ v2)
    refine .dat (n := 0) (.lst (SqL.of u1) u2.dp) (.lst (SqL.of w1) w2.dp) ?_ sh ?_
    · rw [e]; exact sh
    · rw [e]; exact (SeqAt.eqv_refl _ (SeqAt.canLay_of_shaped sh)).symm
  · have l := p.length_eq
    rw [List.length_map, List.length_map] at l
    rw [List.length_map, List.length_map, l, decide_eq_true rfl, Bool.true_and]
    refine (List.all_eq_true.mpr fun z mz => ?_).symm
    rw [Bool.and_true]
    obtain ⟨r1, n1, rfl⟩ := List.mem_map.mp mz
    refine memK_iff.mpr ?_
    have v1 : r1.val ∈ ks.map DR.val := p.mem_iff.mp (List.mem_map.mpr ⟨r1, n1, rfl⟩)
    obtain ⟨r2, n2, e2⟩ := List.mem_map.mp v1
    rw [List.map_map]
    exact List.mem_map.mpr ⟨r2, n2, show r2.1 = r1.1 from congrArg (fun z : DV => z.1) e2⟩
end My

set_option Elab.async false
set_option linter.all false
set_option maxRecDepth 100000
set_option maxHeartbeats 4000000

namespace My
open PySem L2 PyProof.Rows
abbrev anyA : Addr → Prop := fun _ => True
def spLaw (K : PySem.W.Frag) : Sp := fun vs H Q _ => ∃ (a : Addr) (ns : List Int), vs = [.ref a] ∧ SqL K H a (ns.map V.int) ∧ ns.length ≤ 63 ∧ ∀ H', Q (.bl true) H'
def gRF : List V → List V → List V := fun vs zs => match vs, zs with | [a], [b, c] => [a, b, c] | _, _ => []
def gF : List V → List V → List V := fun vs zs => match vs, zs with | [a], [c] => [a, .non, c] | _, _ => []
theorem eqd_nil {K : PySem.W.Frag} {H : Hp} {a b : Addr} {kvs : List (Key × V)} (h : Rd H a (.dK kvs)) (h' : H b = some (.dK [])) : Eqd K H 1 (.ref a) (.ref b) kvs.isEmpty := by
  refine .dct (e := fun _ => true) h (.inl h') (fun k u v _ m => nomatch m) ?_
  cases kvs <;> rfl
theorem make_disk {C : Addr} {H : Hp} {rv : V} {src : List DR} {fall : Option Int} {Q : Addr → Hp → Prop} (hrv : (rv = .non ∧ src = []) ∨ ∃ d, rv = .ref d ∧ RowsAt H d src) (hl : src.length ≤ 900)
    (k : ∀ (x ld : Addr) (rs : List DR) (H' : Hp), Same H H' → DiskAt C H' x ld rs fall 0 false → rs.map DR.val = src.map DR.val → H x = none → H ld = none → (∀ r ∈ rs, H r.2.1 = none) → Q x H') :
    ∀ x dx, H x = none → H dx = none → dx ≠ x → spInitD C [.ref x, rv, optV fall] (upd (upd H dx (.own x)) x (.ins C dx [])) (fun v H2 => v = .non ∧ Q x H2) E0 := by
  intro x dx hx hdx ne
  have s1 : Same H (upd (upd H dx (.own x)) x (.ins C dx [])) := fun b o e => by rw [upd_ne (ne_of_none e hx), upd_ne (ne_of_none e hdx)]; exact e
  refine ⟨x, dx, rv, src, fall, rfl, upd_same, ?_, hl, fun ld rs H' e da ev fl al => ⟨rfl, k x ld rs H' (fun b o q => e b o (ne_of_none q hx) (s1 _ _ q)) da ev hx (s1.free fl) fun r m => s1.free (al r m)⟩⟩
  rcases hrv with h | ⟨d, rfl, ra⟩
  · exact .inl h
  · exact .inr ⟨d, rfl, ra.same s1, ne_of_none ra.d hx⟩
abbrev σL (sc p kd : Addr) (o3 o4 o5 o6 o7 o8 o9 o10 o11 o12 : Option V) : L2.St := [some (.ref sc), some (.ref p), some (.ref kd), o3, o4, o5, o6, o7, o8, o9, o10, o11, o12]
section
variable {P : Program} {w : World} {K : PySem.W.Frag} {mg : Str → Option Value} {base : Heap} {C : Addr}
theorem ok_law {f0 : Addr} {fd0 : FuncData} (T : Tx mg) (W : DT K C) (D : Fun K "law" "law" s_law f0 fd0) (C__law_pen : Cal P w K mg base "_law_pen" ["_law_script"] 1 (spPen K)) (C__law_draw : Cal P w K mg base "_law_draw" ["_law_pen_here", "_law_many"] 1 spDraw) (C_pickL : Cal P w K mg base "_law_pick" ["_law_pen_here", "_law_some"] 2 spPickL)
    (C_thing : Cal P w K mg base "_law_thing" ["_law_pen_here", "_law_deep"] 5 (spThing 4)) (C__law_wrote : Cal P w K mg base "_law_wrote" ["_law_disk", "_law_spot", "_law_thing_here"] 4 (spWrote C)) (M_Disk_steps : MCal P w K mg base C "steps" ["self"] 1 (spSteps C)) (M_Disk_is_up : MCal P w K mg base C "is_up" ["self"] 1 (spUp C)) (M_Disk_rows : MCal P w K mg base C "rows" ["self"] 1 (spRows C))
    (NKrf_Disk : NCalK P w K mg base "Disk" C ["self", "rows", "fall"] ["rows", "fall"] gRF 1 (spInitD C)) (NKf_Disk : NCalK P w K mg base "Disk" C ["self", "rows", "fall"] ["fall"] gF 1 (spInitD C)) :
    FnOk P w K mg base CX0 6 f0 fd0 ["_law_script"] (spLaw K) := by
  refine wfn_of D sc_law (fun vs H Q E h => ?_) (fun cdv A outer s H vs Q E hr h => ?_)
  · obtain ⟨a, ns, rfl, _⟩ := h; rfl
  obtain ⟨sc, ns, rfl, hS, hl, k⟩ := h
  have hu := hu_of hr
  refine ⟨_, (wpss_cut (wps_set (i := 1) sc_law.nd rfl (Or.inl rfl) (wpe_cal C__law_pen (hr.mono (by omega)) rfl (wpa_cons (wpv 0) wpa_nil))) (wpss_cons (wps_set (i := 2) sc_law.nd rfl (Or.inr rfl) wpe_dnewK) (wpss_cut (wps_for PassesOwn.never rfl (wpi_range1 (by rfl) T.z_range (wpa_cons wpe_int wpa_nil)) (wpg_name (i := 3) sc_law.nd rfl (Or.inl rfl)) (wpss_cut (wps_set (i := 4) sc_law.nd rfl (Or.inl rfl) (wpe_callTy (wcall_dictP rfl) (by rfl) T.z_dict (by decide +kernel) (wpa_cons (wpe_lock (wpe_lc (own := [("_law_spot", 5)]) (g := gName 5) (by rfl) sc_law.nd (wpi_keys (wpv 2)) (blkOk_by (own := [("_law_spot", 5)]) (N := ["_law_script", "_law_pen_here", "_law_known", "_law_bout", "_law_handed", "_law_spot", "_law_step", "_law_disk", "_law_passed", "_law_down", "_law_turn", "_law_thing_here", "_law_told"]) (sc := defScope s_law) (by decide +kernel)) (fun _ _ _ _ _ => wpg_name (i := 5) sc_law.nd rfl (Or.inl rfl)) (fun _ _ _ _ _ => wpts_nil) (fun _ _ _ _ _ => (wpe_tup (wpa_cons (wpv 5) (wpa_cons (wpe_callTy (kcall_list (K := K) rfl) (by rfl) T.z_list (by decide +kernel) (wpa_cons (wpe_dget hu (wpv 2) (wpv 5) (fun _ _ => rfl)) wpa_nil)) wpa_nil)))))) wpa_nil))) (wpss_cut (wps_if (wpt_cmpR wop_eq (wpe_cal C__law_draw (hr.mono (by omega)) rfl (wpa_cons (wpv 1) (wpa_cons wpe_int wpa_nil))) wpe_int (nomark _)) (wpss_one (wps_expr (wpe_setdefault (wpv 4) wpe_int (wpe_lstN wpa_nil)))) wpss_nil) (wpss_cut (wps_set (i := 6) sc_law.nd rfl (Or.inl rfl) (wpe_ix wix_list (wpe_lstN (wpa_cons wpe_non (wpa_cons wpe_int (wpa_cons (wpe_cal C__law_draw (hr.mono (by omega)) rfl (wpa_cons (wpv 1) (wpa_cons wpe_int wpa_nil))) (wpa_cons wpe_int wpa_nil))))) (wpe_cal C__law_draw (hr.mono (by omega)) rfl (wpa_cons (wpv 1) (wpa_cons wpe_int wpa_nil))) ixp_call)) (wpss_cut (wps_set (i := 7) sc_law.nd rfl (Or.inl rfl) (wpe_ifExp (WW.pt (wpw_or (wpt_cmpR wop_gt (wpv 3) wpe_int (nomark _)) (wpw_or1 (wpt_cmpR wop_eq (wpe_cal C__law_draw (hr.mono (by omega)) rfl (wpa_cons (wpv 1) (wpa_cons wpe_int wpa_nil))) wpe_int (nomark _))))) (wpe_ncalK NKrf_Disk (hr.mono (by omega)) rfl (wpk_cons (wpv 4) (wpk_cons (wpv 6) wpk_nil))) (wpe_ncalK NKf_Disk (hr.mono (by omega)) rfl (wpk_cons (wpv 6) wpk_nil)))) (wpss_cut (wps_if (wpt_cmpR (wop_neE hr.units) (wpv 4) wpe_dnewK (nomark _)) (wpss_one (wps_expr (wpe_append (wpe_dget hu (wpv 4) (wpe_ix wix_list (wpe_sortedDK (by rfl) (by rfl) T.z_sorted (by decide +kernel) (by rfl) T.z_str (by decide +kernel) (wpv 4)) wpe_int ixp_int) (fun _ _ => rfl)) wpe_str))) wpss_nil) (wpss_cut (wps_dput hu (wpv 4) wpe_str (wpe_lstN (wpa_cons wpe_str wpa_nil)) rfl) (wpss_cut (wps_asg (wpe_tup (wpa_consts (vs := [.int 0, .bl false]) (by decide +kernel))) (wpg_tup (by rfl) (wpgs_cons (wpg_name (i := 8) sc_law.nd rfl (Or.inl rfl)) (wpgs_cons (wpg_name (i := 9) sc_law.nd rfl (Or.inl rfl)) wpgs_nil)))) (wpss_cut (wps_for PassesOwn.never rfl (wpi_range1 (by rfl) T.z_range (wpa_cons (wpe_cal C__law_draw (hr.mono (by omega)) rfl (wpa_cons (wpv 1) (wpa_cons wpe_int wpa_nil))) wpa_nil)) (wpg_name (i := 10) sc_law.nd rfl (Or.inl rfl)) (wpss_cut (wps_par (i := 5) (j := 11) rfl sc_law.nd rfl rfl (by decide) rfl rfl (wpa_cons (wpe_cal C_pickL (hr.mono (by omega)) rfl (wpa_cons (wpv 1) (wpa_cons (wpe_lstN (wpa_consts (vs := [.int 0, .int 1, .int 2, .int 3, .int 4, .int 5, .str "front", .str "front"]) (by decide +kernel))) wpa_nil))) (wpa_cons (wpe_cal C_thing (hr.mono (by omega)) rfl (wpa_cons (wpv 1) (wpa_cons wpe_int wpa_nil))) wpa_nil)) (by rfl)) (wpss_cut (wps_set (i := 9) sc_law.nd rfl (Or.inl rfl) (wpe_or (wpv 9) (wpe_one (wpe_cmpR wop_eq (wpv 8) (wpv 6) (nomark _))))) (wpss_cut (wps_if (wpt_cmpR wop_ne (wpe_cal C__law_wrote (hr.mono (by omega)) rfl (wpa_cons (wpv 7) (wpa_cons (wpv 5) (wpa_cons (wpv 11) wpa_nil)))) (wpe_ifExp (wpt_val (wpv 9)) (wpv 6) wpe_non) (nomark _)) (wpss_one (wps_ret wpe_bl)) wpss_nil) (wpss_cut (wps_if (wpt_not (wpt_val (wpv 9))) (wpss_cons (wps_dput hu (wpv 2) (wpv 5) (wpe_op wop_cat (wpe_dget2 hu (wpv 2) (wpv 5) (wpe_lstN wpa_nil) ⟨rfl, rfl, rfl, rfl⟩) (wpe_lstN (wpa_cons (wpv 11) wpa_nil))) rfl) (wpss_one (wps_set (i := 8) sc_law.nd rfl (Or.inl rfl) (wpe_op wop_add (wpv 8) wpe_int)))) wpss_nil) (wpss_one (wps_if (wpt_cmpR (wop_neD hr.units) (wpe_tup (wpa_cons (wpe_mcal0 M_Disk_steps (hr.mono (by omega)) (wpv 7)) (wpa_cons (wpe_mcal0 M_Disk_is_up (hr.mono (by omega)) (wpv 7)) wpa_nil))) (wpe_tup (wpa_cons (wpv 8) (wpa_cons (wpe_not (wpv 9)) wpa_nil))) (nomark _)) (wpss_one (wps_ret wpe_bl)) wpss_nil))))))) (wpss_cut (wps_set (i := 12) sc_law.nd rfl (Or.inl rfl) (wpe_mcal0 M_Disk_rows (hr.mono (by omega)) (wpv 7))) (wpss_cut (wps_if (WW.pt (wpw_or (wpt_cmpR (wop_neE2 (u140 hr)) (wpv 12) (wpv 2) (nomark _)) (wpw_or1 (wpt_cmpR wop_ne (wpe_callB (wcr_repr hr anyA) (by rfl) T.z_repr (by decide +kernel) (wpa_cons (wpe_sortedDK (by rfl) (by rfl) T.z_sorted (by decide +kernel) (by rfl) T.z_str (by decide +kernel) (wpv 12)) wpa_nil)) (wpe_callB (wcr_repr hr anyA) (by rfl) T.z_repr (by decide +kernel) (wpa_cons (wpe_sortedDK (by rfl) (by rfl) T.z_sorted (by decide +kernel) (by rfl) T.z_str (by decide +kernel) (wpv 2)) wpa_nil)) (nomark _))))) (wpss_one (wps_ret wpe_bl)) wpss_nil) (wpss_cut (wps_lock (wps_for PassesOwn.never rfl (wpi_keys (wpv 12)) (wpg_name (i := 5) sc_law.nd rfl (Or.inl rfl)) (wpss_one (wps_expr (wpe_append (wpe_dget hu (wpv 12) (wpv 5) (fun _ _ => rfl)) wpe_str))))) (wpss_cut (wps_expr (wpe_dclear (wpv 12))) (wpss_one (wps_if (wpt_cmpR (wop_neE2 (u140 hr)) (wpe_mcal0 M_Disk_rows (hr.mono (by omega)) (wpv 7)) (wpv 2) (nomark _)) (wpss_one (wps_ret wpe_bl)) wpss_nil))))))))))))))) (wpss_one (wps_ret wpe_bl))))), ?_⟩
  -- the pen
  refine ⟨fun σ H' => ∃ p l : Addr, σ = [some (.ref sc), some (.ref p), none, none, none, none, none, none, none, none, none, none, none] ∧ Pen p l 0 H', ?_, ?_⟩
  · exact ⟨_, rfl, sc, ns, rfl, hS, hl, fun p l H1 P1 s1 _ => ⟨p, l, rfl, P1⟩⟩
  rintro _ H1 ⟨p, l, rfl, P1⟩
  intro kd hkd
  have P2 := P1.new hkd (.dK ([] : List (Key × V)))
  have B2 : Bs (upd H1 kd (.dK ([] : List (Key × V)))) p l kd 0 [] 0 := ⟨P2, ⟨upd_same, (fun _ m => nomatch m), List.nodup_nil, List.nodup_nil⟩, (fun _ m => nomatch m), (fun _ m => nomatch m), Nat.le_refl _, (fun _ m => nomatch m), P1.ne hkd, (fun _ m => nomatch m), (fun _ m => nomatch m)⟩
  generalize upd H1 kd (.dK ([] : List (Key × V))) = H2 at *
  refine ⟨fun _ _ => True, ?_, fun σ9 H9 _ => k _⟩
  refine ⟨3, rfl, by decide, by decide, for_range (lo := 0) (n := 3) (fun i σ' H' => (∃ o3 o4 o5 o6 o7 o8 o9 o10 o11 o12, σ' = σL sc p kd o3 o4 o5 o6 o7 o8 o9 o10 o11 o12) ∧ ∃ t c ks, Bs H' p l kd t ks c ∧ t ≤ 40000 * i ∧ c = 16 * i ∧ (i = 0 → ks = [])) ⟨⟨_, _, _, _, _, _, _, _, _, _, rfl⟩, 0, 0, [], B2, by omega, rfl, fun _ => rfl⟩ ?_ ?_⟩
  rotate_left
  · exact fun _ _ _ => trivial
  rintro bout _ H3 hi ⟨⟨o3, o4, o5, o6, o7, o8, o9, o10, o11, o12, rfl⟩, t3, c, ks, B3, ht3, hc, hks⟩
  have ra := B3.ra
  have kl := B3.ln
  -- handed
  refine ⟨fun σ H' => ∃ (hd : Addr) (hs : List DR), σ = σL sc p kd (some (.int (0 + bout))) (some (.ref hd)) o5 o6 o7 o8 o9 o10 o11 o12 ∧ Same H3 H' ∧ H3 hd = none ∧ RowsAt H' hd hs ∧ hs.map DR.val = ks.map DR.val ∧ (∀ r ∈ hs, H3 r.2.1 = none), ?_, ?_⟩
  · refine ⟨kd, _, ra.d, trivial, fun od => ?_⟩
    have ndk : ((ks.map fun r => (r.1, V.ref r.2.1)).map (·.1)).Nodup := by rw [List.map_map]; exact ra.nk
    have hk0 : upd H3 kd (.frz od (.dK (ks.map fun r => (r.1, V.ref r.2.1)))) kd = some (.frz od (.dK (ks.map fun r => (r.1, V.ref r.2.1)))) := upd_same
    refine ⟨_, rfl, kd, od, rfl, .inl ⟨_, hk0, fun D hD => ?_⟩⟩
    obtain ⟨fD, nD⟩ := free_lock hD
    refine it_keys (fun i H' => Same (upd H3 kd (.frz od (.dK (ks.map fun r => (r.1, V.ref r.2.1))))) H' ∧ ∃ (ps : List Addr) (hs : List DR), H' D = some (.lst (ps.map V.ref)) ∧ hs.map DR.val = (ks.take i).map DR.val ∧ (hs.map fun r => r.2.1).Nodup ∧
      Paired (fun p (r : DR) => (p ≠ D ∧ p ≠ kd) ∧ (H3 r.2.1 = none ∧ r.2.1 ≠ kd ∧ r.2.1 ≠ D) ∧ H' p = some (.tup [kV r.1, .ref r.2.1]) ∧ ∃ vs, H' r.2.1 = some (.lst vs) ∧ TgAll H3 vs r.2.2) ps hs) ?_ ?_ ?_ ?_
    · exact ⟨same_new hD _, [], [], upd_same, rfl, List.nodup_nil, .nil⟩
    · exact fun i H' ⟨s1, _⟩ => s1 _ _ hk0
    · rintro i z H4 hz ⟨s1, ps, hs, e1, ev, nd, hp⟩
      rw [List.getElem?_map] at hz
      obtain ⟨r, hr1, rfl⟩ := Option.map_eq_some_iff.mp hz
      have mr := List.mem_of_getElem? hr1
      obtain ⟨vs, h1, h2⟩ := ra.l r mr
      have h11 := s1 _ _ (lock_ne (o := od) (u := .dK (ks.map fun r => (r.1, V.ref r.2.1))) h1 (ne_of h1 ra.d (by intro z; cases z)))
      have hv : valV (ks.map fun r => (r.1, V.ref r.2.1)) r.1 = some (.ref r.2.1) := valV_hit ndk (List.mem_map.mpr ⟨r, mr, rfl⟩)
      refine ⟨rfl, tYes_i (iteT ?_)⟩
      refine ⟨_, rfl, _, rfl, _, rfl, kd, _, rfl, .inl ⟨_, r.1, .inr ⟨od, s1 _ _ hk0⟩, rfl, hv.symm⟩, r.2.1, vs, rfl, .inl (SqL.of h11), fun l2 hl2 => ?_⟩
      have s2 := same_new hl2 (.lst vs)
      refine ⟨tok1000 (by show 2 ≤ 1000; decide), fun q hq => ?_⟩
      have s3 := same_new hq (.tup [kV r.1, V.ref l2])
      have s23 := s2.trans s3
      have el := s3 _ _ (upd_same (H := H4) (a := l2) (o := .lst vs))
      have eq := upd_same (H := upd H4 l2 (.lst vs)) (a := q) (o := .tup [kV r.1, V.ref l2])
      have fq := s2.free hq
      generalize upd (upd H4 l2 (.lst vs)) q (.tup [kV r.1, V.ref l2]) = H5 at *
      have nw : ∀ {b : Addr}, H4 b = none → b ≠ D ∧ b ≠ kd := fun h => ⟨(ne_of_none e1 h).symm, (ne_of_none (s1 _ _ hk0) h).symm⟩
      have lps : ps.length ≤ 100 := by
        have := congrArg List.length ev
        rw [List.length_map, List.length_map, List.length_take] at this
        rw [Paired.length hp, this]; omega
      refine ⟨_, s23 _ _ e1, small1000 (by rw [List.length_map]; omega), same_upd (s1.trans s23) hD, ps ++ [q], hs ++ [(r.1, l2, r.2.2)], by rw [upd_same, List.map_append]; rfl, ?_, ?_, ?_⟩
      · rw [List.map_append, ev, take_next hr1, List.map_append]; rfl
      · rw [List.map_append]
        refine List.nodup_append.mpr ⟨nd, List.nodup_cons.mpr ⟨List.not_mem_nil, List.nodup_nil⟩, ?_⟩
        intro a ha b hb ab
        obtain ⟨r', mr', rfl⟩ := List.mem_map.mp ha
        rw [List.mem_singleton.mp hb] at ab
        obtain ⟨p', _, h'⟩ := pr_mem2 hp mr'
        obtain ⟨us, h6, _⟩ := h'.2.2.2
        exact ne_of_none h6 hl2 ab
      · refine Paired.snoc (Paired.mapP hp fun p r' ⟨n1, n2, a1, us, a2, a3⟩ => ⟨n1, n2, ?_, us, ?_, a3⟩) ⟨nw fq, ⟨(free_lock (s1.free hl2)).1, (nw hl2).2, (nw hl2).1⟩, ?_, vs, ?_, h2⟩
        · rw [upd_ne n1.1]; exact s23 _ _ a1
        · rw [upd_ne n2.2.2]; exact s23 _ _ a2
        · rw [upd_ne (nw fq).1]; exact eq
        · rw [upd_ne (nw hl2).1]; exact el
    · rintro H4 ⟨s1, ps, hs, e1, ev, nd, hp⟩
      rw [List.length_map, List.take_length] at ev
      have sl := same_lock ra.d s1
      have keys : ((hs.map fun r => (r.1, V.ref r.2.1)).map (·.1)).Nodup := by
        have : (hs.map fun r => (r.1, V.ref r.2.1)).map (·.1) = (hs.map DR.val).map (·.1) := by rw [List.map_map, List.map_map]; rfl
        rw [this, ev, List.map_map]; exact ra.nk
      refine ⟨s1 _ _ hk0, D, ps, hs.map fun r => (r.1, V.ref r.2.1), rfl, SqL.of (by rw [upd_ne nD]; exact e1), ?_, fun hd hhd => ?_⟩
      · have : ∀ {ps : List Addr} {hs : List DR} {Rr : Addr → DR → Prop}, Paired Rr ps hs → (∀ p r, Rr p r → SqT K (upd H4 kd (.dK (ks.map fun r => (r.1, V.ref r.2.1)))) p [kV r.1, .ref r.2.1]) → Paired (fun p (kv : Key × V) => SqT K (upd H4 kd (.dK (ks.map fun r => (r.1, V.ref r.2.1)))) p [kV kv.1, kv.2]) ps (hs.map fun r => (r.1, V.ref r.2.1)) := by
          intro ps hs Rr h hh
          induction h with
          | nil => exact .nil
          | cons a _ ih => exact .cons (hh _ _ a) ih
        exact this hp fun p r h => SqT.of (by rw [upd_ne h.1.2]; exact h.2.2.1)
      rw [merge_nil keys]
      have s5 := same_new hhd (.dK (hs.map fun r => (r.1, V.ref r.2.1)))
      refine ⟨hd, hs, rfl, sl.trans s5, sl.free hhd, ⟨upd_same, fun r mr => ?_, ?_, nd⟩, ev, fun r mr => ?_⟩
      · obtain ⟨p', _, h⟩ := pr_mem2 hp mr
        obtain ⟨us, h6, h7⟩ := h.2.2.2
        exact ⟨us, s5 _ _ (by rw [upd_ne h.2.1.2.1]; exact h6), h7.ext fun b xs e => s5 _ _ (sl _ _ e)⟩
      · have : hs.map (·.1) = (hs.map fun r => (r.1, V.ref r.2.1)).map (·.1) := by rw [List.map_map]; rfl
        rw [this]; exact keys
      · obtain ⟨p', _, h⟩ := pr_mem2 hp mr
        exact h.2.1.1
  rintro _ H4 ⟨hd, hs, rfl, s4, fhd, ra4, ev4, fh4⟩
  have B4 := B3.same s4
  have lhs : hs.length = ks.length := by have := congrArg List.length ev4; rw [List.length_map, List.length_map] at this; exact this
  have e4 : Eqr (hs.map DR.val) (ks.map DR.val) := by
    rw [ev4]
    exact fun r => ⟨fun h => h.1, fun h => ⟨h, B3.fu r h⟩⟩
  -- a place without rows
  refine ⟨fun σ H' => ∃ (t : Nat) (hs : List DR), σ = σL sc p kd (some (.int (0 + bout))) (some (.ref hd)) o5 o6 o7 o8 o9 o10 o11 o12 ∧ Bs H' p l kd t ks c ∧ t ≤ t3 + 1 ∧ Ext p H3 H' ∧ RowsAt H' hd hs ∧ Eqr (hs.map DR.val) (ks.map DR.val) ∧ hs.length ≤ c + 1 ∧ (∀ r ∈ hs.map DR.val, r.2.length ≤ c) ∧ (∀ k ∈ hs.map (·.1), KP k) ∧ (∀ r ∈ hs, H3 r.2.1 = none), ?_, ?_⟩
  · have kp4 : ∀ k ∈ hs.map (·.1), KP k := by
      have : hs.map (·.1) = ks.map (·.1) := by
        have := congrArg (List.map (·.1)) ev4
        rw [List.map_map, List.map_map] at this; exact this
      rw [this]; exact B3.kp
    have np : hd ≠ p := B3.pn.ne fhd
    refine ⟨_, rfl, p, l, _, t3, rfl, B4.pn, by decide, by decide, by omega, fun d t5 H5 d0 d1 c5 P5 x5 => ?_⟩
    have B5 := B4.ext P5 x5
    have ra5 := ra4.ext B4.pn np x5
    have x35 : Ext p H3 H5 := s4.ext.trans x5
    refine ⟨rfl, _, rfl, ite2 (fun c0 => ?_) (fun c0 => ?_)⟩
    · refine ⟨_, rfl, .inr (.inr (.inl ⟨rfl, .inl ⟨_, ra5.d⟩⟩)), tok1000 (by show 0 ≤ 1000; decide), fun q hq _ => ?_⟩
      have s6 := same_new hq (.lst ([] : List V))
      have eq := upd_same (H := H5) (a := q) (o := .lst ([] : List V))
      have fq : H3 q = none := by
        by_cases z : q = p
        · subst z
          obtain ⟨ns, r, h1, _⟩ := P5.ex
          rw [h1] at hq; cases hq
        · cases h : H3 q with
          | none => rfl
          | some o => rw [x35 _ _ z h] at hq; cases hq
      generalize upd H5 q (.lst ([] : List V)) = H6 at *
      have ra6 := ra5.same s6
      have B6 := B5.same s6
      refine ⟨hd, _, .inl 5, .ref q, rfl, rfl, ra6.d, small1000 (by rw [List.length_map, lhs]; omega), fun y hy => ?_, fun hn => ?_⟩
      · exact ⟨t5, hs, rfl, B6, c5, x35.trans s6.ext, ra6, e4, by rw [lhs]; omega, by rw [ev4]; exact B4.ll, kp4, fh4⟩
      · have kn : (Sum.inl 5 : Key) ∉ hs.map (·.1) := by
          have := valV_not hn
          rw [List.map_map] at this; exact this
        rw [putK_snoc (by rw [List.map_map]; exact kn)]
        have nqh : q ≠ hd := ne_of eq ra6.d (by intro z; cases z)
        have rs7 : RowsAt (upd H6 hd (.dK ((hs.map fun r => (r.1, V.ref r.2.1)) ++ [(.inl 5, .ref q)]))) hd (hs ++ [(.inl 5, q, [])]) := by
          have tt : ∀ b xs, H6 b = some (.tup xs) → upd H6 hd (.dK ((hs.map fun r => (r.1, V.ref r.2.1)) ++ [(.inl 5, .ref q)])) b = some (.tup xs) := fun b xs e => by
            rw [upd_ne (ne_of e ra6.d (by intro z; cases z))]; exact e
          refine ⟨by rw [upd_same, List.map_append]; rfl, fun r m => ?_, ?_, ?_⟩
          · rcases List.mem_append.mp m with m | m
            · obtain ⟨us, u1, u2⟩ := ra6.l r m
              exact ⟨us, by rw [upd_ne (ne_of u1 ra6.d (by intro z; cases z))]; exact u1, u2.ext tt⟩
            · rw [List.mem_singleton.mp m]
              exact ⟨[], by rw [upd_ne nqh]; exact eq, .nil⟩
          · rw [List.map_append]
            refine List.nodup_append.mpr ⟨ra6.nk, List.nodup_cons.mpr ⟨List.not_mem_nil, List.nodup_nil⟩, ?_⟩
            intro a ha b hb ab
            rw [List.mem_singleton.mp hb] at ab
            exact kn (show (Sum.inl 5 : Key) ∈ hs.map (·.1) from (show a = Sum.inl 5 from ab) ▸ ha)
          · rw [List.map_append]
            refine List.nodup_append.mpr ⟨ra6.nl, List.nodup_cons.mpr ⟨List.not_mem_nil, List.nodup_nil⟩, ?_⟩
            intro a ha b hb ab
            obtain ⟨r, m, rfl⟩ := List.mem_map.mp ha
            rw [List.mem_singleton.mp hb] at ab
            obtain ⟨us, u1, _⟩ := ra5.l r m
            exact ne_of_none u1 hq ab
        have nh : ∀ b, Fb p l kd ks b → b ≠ hd := fun b f e => B3.old f (e ▸ fhd)
        refine ⟨t5, hs ++ [(.inl 5, q, [])], rfl, B6.keep fun b o h z => ?_, c5, fun b o nb h => ?_, rs7, ?_, by rw [List.length_append, lhs]; simp only [List.length_cons, List.length_nil]; omega, ?_, ?_, ?_⟩
        · rw [upd_ne]
          · exact h
          · rcases z with z | ⟨xs, rfl⟩
            · exact nh b z
            · exact ne_of h ra6.d (by intro z; cases z)
        · rw [upd_ne (ne_of_none h fhd)]; exact s6 _ _ (x35 _ _ nb h)
        · intro r
          rw [List.map_append, List.mem_append]
          constructor
          · rintro ⟨m | m, n⟩
            · exact (e4 r).mp ⟨m, n⟩
            · rw [List.mem_singleton.mp m] at n; exact absurd rfl n
          · exact fun m => ⟨.inl ((e4 r).mpr m).1, ((e4 r).mpr m).2⟩
        · intro r m
          rw [List.map_append] at m
          rcases List.mem_append.mp m with m | m
          · rw [ev4] at m; exact B4.ll r m
          · rw [List.mem_singleton.mp m]; exact Nat.zero_le _
        · intro k' m
          rw [List.map_append] at m
          rcases List.mem_append.mp m with m | m
          · exact kp4 k' m
          · rw [List.mem_singleton.mp m]; exact .inl (.inr (.inr (.inr (.inr (.inr rfl)))))
        · intro r m
          rcases List.mem_append.mp m with m | m
          · exact fh4 r m
          · rw [List.mem_singleton.mp m]; exact fq
    · exact ⟨t5, hs, rfl, B5, c5, x35, ra5, e4, by rw [lhs]; omega, by rw [ev4]; exact B4.ll, kp4, fh4⟩
  rintro _ H5 ⟨t5, hs, rfl, B5, ht5, x5, ra5, e5, ln5, ll5, kp5, fh5⟩
  -- the step
  refine ⟨fun σ H' => ∃ (t : Nat) (step : Option Int), σ = σL sc p kd (some (.int (0 + bout))) (some (.ref hd)) o5 (some (optV step)) o7 o8 o9 o10 o11 o12 ∧ Bs H' p l kd t ks c ∧ t ≤ t3 + 3 ∧ Ext p H3 H' ∧ RowsAt H' hd hs, ?_, ?_⟩
  · have np : hd ≠ p := B3.pn.ne fhd
    refine ⟨_, rfl, p, l, _, t5, rfl, B5.pn, by decide, by decide, by omega, fun d t6 H6 d0 d1 c6 P6 x6 => ?_⟩
    have B6 := B5.ext P6 x6
    have ra6 := ra5.ext B5.pn np x6
    refine ⟨tok1000 (by show 4 ≤ 1000; decide), fun q hq _ => ?_⟩
    have s7 := same_new hq (.lst [V.non, V.int 0, V.int d, V.int 40])
    have eq := upd_same (H := H6) (a := q) (o := .lst [V.non, V.int 0, V.int d, V.int 40])
    generalize upd H6 q (.lst [V.non, V.int 0, V.int d, V.int 40]) = H7 at *
    have B7 := B6.same s7
    refine ⟨_, rfl, p, l, _, t6, rfl, B7.pn, by decide, by decide, by omega, fun e t8 H8 e0 e1 c8 P8 x8 => ?_⟩
    have eq8 := x8 _ _ (B7.pn.lst_ne eq) eq
    obtain ⟨j, rfl⟩ : ∃ j : Nat, e = j := ⟨e.toNat, by omega⟩
    obtain ⟨step, hv⟩ : ∃ step : Option Int, ([V.non, V.int 0, V.int d, V.int 40] : List V)[j]? = some (optV step) := by
      have hj : j = 0 ∨ j = 1 ∨ j = 2 ∨ j = 3 := by omega
      rcases hj with rfl | rfl | rfl | rfl
      · exact ⟨none, rfl⟩
      · exact ⟨some 0, rfl⟩
      · exact ⟨some d, rfl⟩
      · exact ⟨some 40, rfl⟩
    refine ⟨q, _, (j : Int), _, rfl, rfl, SqL.of eq8, atI_nat hv, ?_⟩
    exact ⟨t8, step, rfl, B7.ext P8 x8, by omega, x5.trans (x6.trans (s7.ext.trans x8)), (ra6.same s7).ext B7.pn np x8⟩
  rintro _ H6 ⟨t6, step, rfl, B6, ht6, x6, ra6⟩
  have np : hd ≠ p := B3.pn.ne fhd
  -- the disk
  refine ⟨fun σ H' => ∃ (t : Nat) (x ld : Addr) (rs : List DR), σ = σL sc p kd (some (.int (0 + bout))) (some (.ref hd)) o5 (some (optV step)) (some (.ref x)) o8 o9 o10 o11 o12 ∧ Jt C H' p l kd x ld t ks rs step 0 false c ∧ t ≤ t3 + 4 ∧ RowsAt H' hd hs ∧ (∀ b, Fd x ld rs b → b ≠ hd ∧ ∀ r ∈ hs, b ≠ r.2.1), ?_, ?_⟩
  · have done : ∀ {t7 : Nat} {H7 H8 : Hp} {x ld : Addr} {rs src : List DR}, Bs H7 p l kd t7 ks c → t7 ≤ t3 + 4 → RowsAt H7 hd hs → Same H7 H8 → DiskAt C H8 x ld rs step 0 false → rs.map DR.val = src.map DR.val → Eqr (src.map DR.val) (ks.map DR.val) → src.length ≤ c + 1 → (∀ r ∈ src.map DR.val, r.2.length ≤ c) → H7 x = none → H7 ld = none → (∀ r ∈ rs, H7 r.2.1 = none) →
        ∃ (t : Nat) (x' ld : Addr) (rs : List DR), σL sc p kd (some (.int (0 + bout))) (some (.ref hd)) o5 (some (optV step)) (some (.ref x)) o8 o9 o10 o11 o12 = σL sc p kd (some (.int (0 + bout))) (some (.ref hd)) o5 (some (optV step)) (some (.ref x')) o8 o9 o10 o11 o12 ∧ Jt C H8 p l kd x' ld t ks rs step 0 false c ∧ t ≤ t3 + 4 ∧ RowsAt H8 hd hs ∧ (∀ b, Fd x' ld rs b → b ≠ hd ∧ ∀ r ∈ hs, b ≠ r.2.1) := by
      intro t7 H7 H8 x ld rs src B7 ht7 ra7 s8 da ev eq ls ll fx fl fr
      have ff : ∀ b, Fd x ld rs b → H7 b = none := by
        rintro b (rfl | rfl | ⟨r, m, rfl⟩)
        · exact fx
        · exact fl
        · exact fr r m
      have lrs : rs.length = src.length := by have := congrArg List.length ev; rw [List.length_map, List.length_map] at this; exact this
      refine ⟨t7, x, ld, rs, rfl, ⟨B7.same s8, da, by rw [ev]; exact eq, by omega, by rw [ev]; exact ll, (fun z => nomatch z), fun b f g => B7.old f (ff b g)⟩, ht7, ra7.same s8, fun b f => ⟨fun e => ?_, fun r m e => ?_⟩⟩
      · have := ff b f; rw [e, ra7.d] at this; cases this
      · obtain ⟨us, u1, _⟩ := ra7.l r m
        have := ff b f; rw [e, u1] at this; cases this
    refine ⟨_, rfl, _, _, rfl, rfl, _, rfl, ?_⟩
    have src5 : (∀ r ∈ hs.map DR.val, r.2.length ≤ c) := ll5
    refine ite2 (fun c1 => iteT ?_) (fun c1 => ?_)
    · refine ⟨_, rfl, _, rfl, make_disk (src := hs) (fall := step) (.inr ⟨hd, rfl, ra6⟩) (by omega) fun x ld rs H7 s7 da ev fx fl fr => ?_⟩
      exact done B6 (by omega) ra6 s7 da ev e5 ln5 ll5 fx fl fr
    · have b0 : bout = 0 := by
        by_cases z : bout = 0
        · exact z
        · exact absurd (decide_eq_true (show (0 : Int) + bout > 0 by omega)) c1
      refine ⟨_, rfl, p, l, _, t6, rfl, B6.pn, by decide, by decide, by omega, fun d t7 H7 d0 d1 c7 P7 x7 => ?_⟩
      have B7 := B6.ext P7 x7
      have ra7 := ra6.ext B6.pn np x7
      refine ⟨rfl, _, rfl, ite2 (fun c2 => ?_) (fun c2 => ?_)⟩
      · refine ⟨_, rfl, _, rfl, make_disk (src := hs) (fall := step) (.inr ⟨hd, rfl, ra7⟩) (by omega) fun x ld rs H8 s8 da ev fx fl fr => ?_⟩
        exact done B7 (by omega) ra7 s8 da ev e5 ln5 ll5 fx fl fr
      · refine ⟨_, rfl, make_disk (src := []) (fall := step) (.inl ⟨rfl, rfl⟩) (by decide) fun x ld rs H8 s8 da ev fx fl fr => ?_⟩
        have := hks b0
        subst this
        exact done (src := []) B7 (by omega) ra7 s8 da ev (fun r => ⟨(fun z => nomatch z.1), (fun z => nomatch z)⟩) (Nat.zero_le _) (fun _ m => nomatch m) fx fl fr
  rintro _ H7 ⟨t7, x, ld, rs, rfl, J7, ht7, ra7, ap7⟩
  -- more in a list that was handed in
  refine ⟨fun σ H' => ∃ (kvs : List (Key × V)), σ = σL sc p kd (some (.int (0 + bout))) (some (.ref hd)) o5 (some (optV step)) (some (.ref x)) o8 o9 o10 o11 o12 ∧ Jt C H' p l kd x ld t7 ks rs step 0 false c ∧ H' hd = some (.dK kvs) ∧ kvs.length ≤ c + 1, ?_, ?_⟩
  · refine ⟨_, rfl, fun q hq => ?_⟩
    have s8 := same_new hq (.dK ([] : List (Key × V)))
    refine ⟨1, hd, q, _, rfl, rfl, eqd_nil (.inl (s8 _ _ ra7.d)) upd_same, by decide, _, rfl, ?_⟩
    have J8 := J7.same s8
    have ra8 := ra7.same s8
    have k8 : ∀ b, Fb p l kd ks b → b ≠ hd ∧ ∀ r ∈ hs, b ≠ r.2.1 := fun b f => ⟨fun e => B3.old f (e ▸ fhd), fun r m e => B3.old f (e ▸ fh5 r m)⟩
    generalize upd H7 q (.dK ([] : List (Key × V))) = H8 at *
    have lhd : (hs.map fun r => (r.1, V.ref r.2.1)).length ≤ c + 1 := by rw [List.length_map]; exact ln5
    refine ite2 (fun c1 => ?_) (fun c1 => ⟨_, rfl, J8, ra8.d, lhd⟩)
    refine ⟨_, rfl, _, rfl, hd, _, rfl, .inl ra8.d, by omega, fun z m => ?_, fun sk q2 pm so hq2 _ => ?_⟩
    · obtain ⟨r, mr, rfl⟩ := List.mem_map.mp m
      exact (kp5 r.1 (List.mem_map.mpr ⟨r, mr, rfl⟩)).fit
    have s9 := same_new hq2 (.lst (sk.map kV))
    have eq2 := upd_same (H := H8) (a := q2) (o := .lst (sk.map kV))
    have J9 := J8.same s9
    have ra9 := ra8.same s9
    generalize upd H8 q2 (.lst (sk.map kV)) = H9 at *
    obtain ⟨k0, sk', rfl⟩ : ∃ k0 sk', sk = k0 :: sk' := by
      cases sk with
      | nil =>
        have := pm.length_eq
        rw [List.length_map, List.length_map] at this
        cases hs with
        | nil => exact absurd c1 (by decide)
        | cons a b => cases this
      | cons a b => exact ⟨a, b, rfl⟩
    have mk0 := pm.mem_iff.mp (List.mem_cons_self (a := k0) (l := sk'))
    rw [List.map_map] at mk0
    obtain ⟨r, mr, er⟩ := List.mem_map.mp mk0
    have er' : r.1 = k0 := er
    subst er'
    have ndk : ((hs.map fun r => (r.1, V.ref r.2.1)).map (·.1)).Nodup := by rw [List.map_map]; exact ra9.nk
    have hv : valV (hs.map fun r => (r.1, V.ref r.2.1)) r.1 = some (.ref r.2.1) := valV_hit ndk (List.mem_map.mpr ⟨r, mr, rfl⟩)
    obtain ⟨vs, h1, h2⟩ := ra9.l r mr
    have lv : vs.length ≤ c := by rw [tgAll_len h2]; exact ll5 r.val (List.mem_map.mpr ⟨r, mr, rfl⟩)
    refine ⟨q2, _, ((0 : Nat) : Int), _, rfl, rfl, SqL.of eq2, atI_nat (show ((r.1 :: sk').map kV)[0]? = some (kV r.1) from rfl), ?_⟩
    refine ⟨hd, _, rfl, .inl ⟨_, r.1, .inl ra9.d, rfl, hv.symm⟩, .inl ⟨rfl, _, SqL.of h1⟩, r.2.1, vs, _, rfl, rfl, h1, small1000 (by omega), ?_⟩
    refine ⟨_, rfl, J9.keep fun b o h z => ?_, ?_, lhd⟩
    · rw [upd_ne]
      · exact h
      · rcases z with z | z | ⟨xs, rfl⟩
        · exact (k8 b z).2 r mr
        · exact (ap7 b z).2 r mr
        · exact ne_of h h1 (by intro z; cases z)
    · rw [upd_ne (ne_of ra9.d h1 (by intro z; cases z))]; exact ra9.d
  rintro _ H8 ⟨kvs, rfl, J8, eh8, lk8⟩
  have k8 : ∀ b, Fb p l kd ks b → b ≠ hd := fun b f e => B3.old f (e ▸ fhd)
  refine ⟨fun σ H' => σ = σL sc p kd (some (.int (0 + bout))) (some (.ref hd)) o5 (some (optV step)) (some (.ref x)) o8 o9 o10 o11 o12 ∧ Jt C H' p l kd x ld t7 ks rs step 0 false c, ?_, ?_⟩
  · refine ⟨tok1000 (by show 1 ≤ 1000; decide), fun q hq _ => ?_⟩
    have s9 := same_new hq (.lst [V.str "more"])
    refine ⟨_, rfl, hd, _, rfl, DPut.k (k := Sum.inr "front") (s9 _ _ eh8) (small1000 (by omega)), ?_⟩
    refine ⟨rfl, (J8.same s9).keep fun b o h z => ?_⟩
    rw [upd_ne]
    · exact h
    · rcases z with z | z | ⟨xs, rfl⟩
      · exact k8 b z
      · exact (ap7 b z).1
      · exact ne_of h (s9 _ _ eh8) (by intro z; cases z)
  rintro _ H9 ⟨rfl, J9⟩
  -- nothing has passed
  refine ⟨fun σ H' => σ = σL sc p kd (some (.int (0 + bout))) (some (.ref hd)) o5 (some (optV step)) (some (.ref x)) (some (.int 0)) (some (.bl false)) o10 o11 o12 ∧ Jt C H' p l kd x ld t7 ks rs step 0 false c, ?_, ?_⟩
  · refine ⟨tok1000 (by show 2 ≤ 1000; decide), fun q hq => ?_⟩
    exact ⟨q, _, rfl, SqT.of upd_same, rfl, _, _, rfl, _, _, rfl, rfl, rfl, J9.same (same_new hq _)⟩
  rintro _ H10 ⟨rfl, J10⟩
  -- the turns
  refine ⟨fun σ H' => ∃ (o5 o10 o11 : Option V) (n : Int) (ks rs : List DR) (t : Nat) (down : Bool), σ = σL sc p kd (some (.int (0 + bout))) (some (.ref hd)) o5 (some (optV step)) (some (.ref x)) (some (.int n)) (some (.bl down)) o10 o11 o12 ∧ Jt C H' p l kd x ld t ks rs step n down (c + 16) ∧ t ≤ t3 + 20000, ?_, ?_⟩
  · refine ⟨_, rfl, p, l, _, t7, rfl, J10.b.pn, by decide, by decide, by omega, fun m t11 H11 m0 m1 c11 P11 x11 => ?_⟩
    have J11 := J10.ext P11 x11
    refine ⟨m, rfl, by omega, by omega, for_range (lo := 0) (n := m.toNat) (fun j σ' H' => ∃ (o5 o10 o11 : Option V) (n : Int) (ks rs : List DR) (t : Nat) (down : Bool), σ' = σL sc p kd (some (.int (0 + bout))) (some (.ref hd)) o5 (some (optV step)) (some (.ref x)) (some (.int n)) (some (.bl down)) o10 o11 o12 ∧ Jt C H' p l kd x ld t ks rs step n down (c + j) ∧ t ≤ t3 + 5 + 1100 * j)
      ⟨o5, o10, o11, 0, ks, rs, t11, false, rfl, J11, by omega⟩ ?_ ?_⟩
    rotate_left
    · rintro _ H12 ⟨o5, o10, o11, n, ks, rs, t, down, rfl, J, ht⟩
      exact ⟨o5, o10, o11, n, ks, rs, t, down, rfl, ⟨J.b.mono (by omega), J.d, J.eq, by have := J.rn; omega, fun r m => Nat.le_trans (J.rl r m) (by omega), J.dn, J.ap⟩, by omega⟩
    rintro j _ H12 hj ⟨o5, o10, o11, n, ks, rs, t12, down, rfl, J12, ht12⟩
    have hj16 : j < 16 := by omega
    -- a place and a thing
    refine ⟨fun σ H' => ∃ (o10 : Option V) (k : Key) (v : V) (d : PyData) (t : Nat), σ = σL sc p kd (some (.int (0 + bout))) (some (.ref hd)) (some (kV k)) (some (optV step)) (some (.ref x)) (some (.int n)) (some (.bl down)) o10 (some v) o12 ∧ KP k ∧ Tg H' v d ∧ Lt 4 d ∧ Jt C H' p l kd x ld t ks rs step n down (c + j) ∧ t ≤ t3 + 5 + 1100 * (j + 1), ?_, ?_⟩
    · refine ⟨_, rfl, tok1000 (by show 8 ≤ 1000; decide), fun q hq _ => ?_⟩
      have s13 := same_new hq (.lst [V.int 0, V.int 1, V.int 2, V.int 3, V.int 4, V.int 5, V.str "front", V.str "front"])
      have J13 := J12.same s13
      have eq := upd_same (H := H12) (a := q) (o := .lst [V.int 0, V.int 1, V.int 2, V.int 3, V.int 4, V.int 5, V.str "front", V.str "front"])
      generalize upd H12 q (.lst [V.int 0, V.int 1, V.int 2, V.int 3, V.int 4, V.int 5, V.str "front", V.str "front"]) = H13 at *
      refine ⟨p, l, q, _, t12, rfl, J13.b.pn, by omega, eq, by decide, by decide, fun i y t14 H14 ey c14 P14 x14 => ?_⟩
      obtain ⟨k, kp, rfl⟩ : ∃ k : Key, KP k ∧ kV k = y := by
        have hi8 : i < 8 := (List.getElem?_eq_some_iff.mp ey).1
        have hc8 : i = 0 ∨ i = 1 ∨ i = 2 ∨ i = 3 ∨ i = 4 ∨ i = 5 ∨ i = 6 ∨ i = 7 := by omega
        rcases hc8 with rfl | rfl | rfl | rfl | rfl | rfl | rfl | rfl
        · exact ⟨.inl 0, .inl (.inl rfl), Option.some.inj ey⟩
        · exact ⟨.inl 1, .inl (.inr (.inl rfl)), Option.some.inj ey⟩
        · exact ⟨.inl 2, .inl (.inr (.inr (.inl rfl))), Option.some.inj ey⟩
        · exact ⟨.inl 3, .inl (.inr (.inr (.inr (.inl rfl)))), Option.some.inj ey⟩
        · exact ⟨.inl 4, .inl (.inr (.inr (.inr (.inr (.inl rfl))))), Option.some.inj ey⟩
        · exact ⟨.inl 5, .inl (.inr (.inr (.inr (.inr (.inr rfl))))), Option.some.inj ey⟩
        · exact ⟨.inr "front", .inr rfl, Option.some.inj ey⟩
        · exact ⟨.inr "front", .inr rfl, Option.some.inj ey⟩
      have J14 := J13.ext P14 x14
      refine ⟨_, rfl, p, l, 3, t14, rfl, by decide, by decide, P14, by show t14 + 1024 < _; omega, fun v d t15 H15 tg lt c15 P15 x15 => ?_⟩
      have c15' : t15 ≤ t14 + 1024 := c15
      exact ⟨_, _, rfl, _, k, v, d, t15, rfl, kp, tg, lt, J14.ext P15 x15, by omega⟩
    rintro _ H15 ⟨o10, k, v, d, t15, rfl, kp, tg, lt, J15, ht15⟩
    -- down now
    refine ⟨fun σ H' => σ = σL sc p kd (some (.int (0 + bout))) (some (.ref hd)) (some (kV k)) (some (optV step)) (some (.ref x)) (some (.int n)) (some (.bl (decide (step = some n)))) o10 (some v) o12 ∧ H15 = H', ?_, ?_⟩
    · refine ⟨_, rfl, down, rfl, ?_⟩
      refine ite2 (fun c1 => ?_) (fun c1 => ?_)
      · rw [show down = true from c1, decide_eq_true (J15.dn c1)]
        exact ⟨rfl, rfl⟩
      · have sc : scal (.int n) (optV step) = true := by cases step <;> rfl
        refine ⟨_, rfl, _, rfl, sc, ?_⟩
        have e : decide (V.int n = optV step) = decide (step = some n) := by
          cases step with
          | none => rfl
          | some i => exact decide_eq_decide.mpr ⟨fun z => by injection z with z; rw [z], fun z => by injection z with z; rw [z]; rfl⟩
        rw [e]
        exact ⟨rfl, rfl⟩
    rintro _ _ ⟨rfl, rfl⟩
    -- written
    refine ⟨fun σ H' => σ = σL sc p kd (some (.int (0 + bout))) (some (.ref hd)) (some (kV k)) (some (optV step)) (some (.ref x)) (some (.int n)) (some (.bl (decide (step = some n)))) o10 (some v) o12 ∧ ∃ rs', ((step = some n ∧ rs' = rs ∧ Jt C H' p l kd x ld t15 ks rs step n true (c + j)) ∨
      (step ≠ some n ∧ DiskAt C H' x ld rs' step (n + 1) false ∧ Bs H' p l kd t15 ks (c + j) ∧ rs'.map DR.val = addV (rs.map DR.val) k d ∧ Tg H' v d ∧ ∀ b, Fb p l kd ks b → Fd x ld rs' b → False)), ?_, ?_⟩
    · have hxl : x ≠ ld := by
        obtain ⟨dx, h⟩ := J15.d.ex
        exact ne_of h J15.d.rows.d (by intro z; cases z)
      refine ⟨_, rfl, _, rfl, _, rfl, x, ld, rs, step, n, down, k, v, d, rfl, J15.d, hxl, tg, by have := J15.rn; omega, fun r m => Nat.le_trans (J15.rl r.val (List.mem_map.mpr ⟨r, m, rfl⟩)) (by omega), fun nf rs' H16 da ev kp16 fr => ?_, fun yf H16 da kp16 => ?_⟩
      · have hd0 : down = false := by
          cases hdn : down
          · rfl
          · exact absurd (J15.dn hdn) nf
        subst hd0
        rw [decide_eq_false nf]
        refine ⟨_, rfl, _, rfl, iteF ?_⟩
        refine ⟨rfl, _, rfl, iteF ?_⟩
        have tt : ∀ b xs, H15 b = some (.tup xs) → H16 b = some (.tup xs) := fun b xs e => kp16 b _ e (by obtain ⟨dx, h⟩ := J15.d.ex; exact ne_of e h (by intro z; cases z)) (ne_of e J15.d.rows.d (by intro z; cases z)) fun r m => by
          obtain ⟨us, u1, _⟩ := J15.d.rows.l r m
          exact ne_of e u1 (by intro z; cases z)
        refine ⟨rfl, rs', .inr ⟨nf, da, J15.b.keep fun b o h z => ?_, ev, tg.ext tt, fun b f g => ?_⟩⟩
        · rcases z with z | ⟨xs, rfl⟩
          · have q := J15.ap b z
            exact kp16 b o h (fun e => q (.inl e)) (fun e => q (.inr (.inl e))) fun r m e => q (.inr (.inr ⟨r, m, e⟩))
          · exact tt b xs h
        · have q := J15.ap b f
          rcases g with rfl | rfl | ⟨r, m, rfl⟩
          · exact q (.inl rfl)
          · exact q (.inr (.inl rfl))
          · rcases fr r m with ⟨r', m', e⟩ | e
            · exact q (.inr (.inr ⟨r', m', e.symm⟩))
            · exact J15.b.old f e
      · rw [decide_eq_true yf]
        refine ⟨_, rfl, _, rfl, iteT ?_⟩
        have es : optV step = V.int n := by rw [yf]; rfl
        rw [es]
        refine ⟨_, rfl, rfl, _, rfl, ?_⟩
        refine ite2 (fun c1 => absurd c1 (by simp)) (fun c1 => ?_)
        refine ⟨rfl, rs, .inl ⟨yf, rfl, J15.b.keep fun b o h z => kp16 b o h fun e => ?_, da, J15.eq, J15.rn, J15.rl, fun _ => yf, J15.ap⟩⟩
        rcases z with z | ⟨xs, rfl⟩
        · exact J15.ap b z (.inl e)
        · obtain ⟨dx, h2⟩ := J15.d.ex
          exact ne_of h h2 (by intro z; cases z) e
    rintro _ H16 ⟨rfl, rs', h16⟩
    -- known
    refine ⟨fun σ H' => ∃ (n' : Int) (ks' rs' : List DR) (dn : Bool), σ = σL sc p kd (some (.int (0 + bout))) (some (.ref hd)) (some (kV k)) (some (optV step)) (some (.ref x)) (some (.int n')) (some (.bl dn)) o10 (some v) o12 ∧ Jt C H' p l kd x ld t15 ks' rs' step n' dn (c + (j + 1)), ?_, ?_⟩
    · rcases h16 with ⟨yf, rfl, J16⟩ | ⟨nf, d16, B16, ev, tg16, ap16⟩
      · rw [decide_eq_true yf]
        refine ⟨_, rfl, _, rfl, iteF ?_⟩
        exact ⟨n, ks, rs', true, rfl, ⟨J16.b.mono (by omega), J16.d, J16.eq, by have := J16.rn; omega, fun r m => Nat.le_trans (J16.rl r m) (by omega), J16.dn, J16.ap⟩⟩
      · rw [decide_eq_false nf]
        refine ⟨_, rfl, _, rfl, iteT ?_⟩
        refine ⟨_, rfl, _, rfl, .inl ⟨_, .inl B16.ra.d⟩, _, rfl, tok1000 (by show 0 ≤ 1000; decide), fun q0 hq0 _ => ?_⟩
        have s17 := same_new hq0 (.lst ([] : List V))
        have eq0 := upd_same (H := H16) (a := q0) (o := .lst ([] : List V))
        have B17 := B16.same s17
        have d17 : DiskAt C _ x ld rs' step (n + 1) false := d16.keep fun b o h _ => s17 b o h
        have tg17 := tg16.ext fun b xs e => s17 b _ e
        generalize upd H16 q0 (.lst ([] : List V)) = H17 at *
        have ndk : ((ks.map fun r => (r.1, V.ref r.2.1)).map (·.1)).Nodup := by rw [List.map_map]; exact B17.ra.nk
        have ndv : ((ks.map DR.val).map (·.1)).Nodup := by rw [List.map_map]; exact B17.ra.nk
        obtain ⟨a, vs, ea, el, tv⟩ : ∃ a vs, (valV (ks.map fun r => (r.1, V.ref r.2.1)) k).getD (.ref q0) = .ref a ∧ H17 a = some (.lst vs) ∧ TgAll H17 vs (getV (ks.map DR.val) k) := by
          cases ev : valV (ks.map fun r => (r.1, V.ref r.2.1)) k with
          | none =>
            refine ⟨q0, [], rfl, eq0, ?_⟩
            rw [getV_miss]
            · exact .nil
            · have := valV_not ev
              rw [List.map_map] at this ⊢; exact this
          | some y =>
            obtain ⟨r0, m0, e0⟩ := List.mem_map.mp (valV_at ev)
            have ek : r0.1 = k := congrArg Prod.fst e0
            have ey : V.ref r0.2.1 = y := congrArg Prod.snd e0
            subst ey
            subst ek
            obtain ⟨vs, h1, h2⟩ := B17.ra.l r0 m0
            refine ⟨r0.2.1, vs, rfl, h1, ?_⟩
            rw [getV_hit ndv (show (r0.1, r0.2.2) ∈ ks.map DR.val from List.mem_map.mpr ⟨r0, m0, rfl⟩)]
            exact h2
        refine ⟨_, .inl ⟨_, k, .inl B17.ra.d, rfl, rfl⟩, ?_⟩
        show _
        rw [ea]
        refine ⟨_, rfl, tok1000 (by show 1 ≤ 1000; decide), fun q1 hq1 _ => ?_⟩
        have s18 := same_new hq1 (.lst [v])
        have eq1 := upd_same (H := H17) (a := q1) (o := .lst [v])
        generalize upd H17 q1 (.lst [v]) = H18 at *
        have lvs : vs.length ≤ 100 := by
          rw [tgAll_len tv]
          by_cases m : k ∈ (ks.map DR.val).map (·.1)
          · obtain ⟨r, mr, e⟩ := List.mem_map.mp m
            have e' : r.1 = k := e
            subst e'
            rw [getV_hit ndv mr]
            have := B17.ll r mr
            omega
          · rw [getV_miss m]; exact Nat.zero_le _
        refine ⟨a, q1, vs, _, rfl, rfl, s18 _ _ el, eq1, tok1000 (by show vs.length + 1 ≤ 1000; omega), fun q2 hq2 => ?_⟩
        have s19 := same_new hq2 (.lst (vs ++ [v]))
        have eq2 := upd_same (H := H18) (a := q2) (o := .lst (vs ++ [v]))
        have f2 : H17 q2 = none := s18.free hq2
        have s1719 := s18.trans s19
        generalize upd H18 q2 (.lst (vs ++ [v])) = H19 at *
        have B19 := B17.same s1719
        have d19 : DiskAt C H19 x ld rs' step (n + 1) false := d17.keep fun b o h _ => s1719 b o h
        have nq : ∀ r ∈ ks, r.2.1 ≠ q2 := fun r m e => B17.old (.inr (.inr (.inr ⟨r, m, e.symm⟩))) f2
        have t19 : TgAll H19 (vs ++ [v]) (getV (ks.map DR.val) k ++ [d]) := (tv.app (.cons tg17 .nil)).ext fun b xs e => s1719 b _ e
        have lks := B17.ln
        refine ⟨_, rfl, _, rfl, kd, _, rfl, DPut.k (k := k) B19.ra.d (small1000 (by rw [List.length_map]; omega)), ?_⟩
        refine ⟨_, rfl, _, _, rfl, rfl, ?_⟩
        have ra20 := B19.ra.put (k := k) eq2 t19 nq
        have vs20 := setR_val (k := k) (q := q2) (d := d) (rs := ks)
        have nf : ∀ b, Fb p l kd ks b → b ≠ q2 := fun b f e => B17.old f (e ▸ f2)
        have nd2 : ∀ b, Fd x ld rs' b → b ≠ q2 := fun b f e => d17.old f (e ▸ f2)
        have k20 : ∀ b o, H19 b = some o → b ≠ kd → upd H19 kd (.dK (putK (ks.map fun r => (r.1, V.ref r.2.1)) k (.ref q2))) b = some o := fun b o h n => by rw [upd_ne n]; exact h
        have nlk : l ≠ kd := by
          obtain ⟨ns, r, _, h2, _⟩ := B19.pn.ex
          exact ne_of h2 B19.ra.d (by intro z; cases z)
        refine ⟨n + 1, setR ks k q2 (getV (ks.map DR.val) k ++ [d]), rs', false, rfl, ⟨⟨B19.pn.keep fun b o h z => k20 b o h ?_, ra20, ?_, ?_, ?_, ?_, B19.np, ?_, ?_⟩, d19.keep fun b o h z => k20 b o h ?_, ?_, ?_, ?_, (fun z => nomatch z), fun b f g => ?_⟩⟩
        · rcases z with rfl | rfl
          · exact Ne.symm B19.np
          · exact nlk
        · rw [vs20]; exact addV_full ndv B19.fu
        · intro k' m
          have : k' ∈ ((setR ks k q2 (getV (ks.map DR.val) k ++ [d])).map DR.val).map (·.1) := by rw [List.map_map]; exact m
          rw [vs20] at this
          rcases addV_keys.mp this with m | rfl
          · rw [List.map_map] at m; exact B19.kp k' m
          · exact kp
        · have := congrArg List.length vs20
          rw [List.length_map] at this
          have l2 := addV_len k d (ks.map DR.val)
          rw [List.length_map] at l2
          omega
        · rw [vs20]; exact addV_long B19.ll
        · intro r m
          rcases setR_mem m with m | ⟨_, m⟩
          · exact B19.nl r m
          · rw [m]; exact fun e => nf l (.inr (.inl rfl)) e.symm
        · rw [vs20]; exact addV_all lt B19.lt
        · rcases z with z | ⟨xs, rfl⟩
          · exact fun e => ap16 b (.inr (.inr (.inl e))) z
          · exact ne_of h B19.ra.d (by intro z; cases z)
        · rw [ev, vs20]
          exact J15.eq.add (by rw [List.map_map]; exact J15.d.rows.nk) ndv k d
        · have := congrArg List.length ev
          rw [List.length_map] at this
          have l2 := addV_len k d (rs.map DR.val)
          rw [List.length_map] at l2
          have := J15.rn
          omega
        · rw [ev]; exact addV_long J15.rl
        · rcases f with f | f | f | ⟨r, m, f⟩
          · exact ap16 b (.inl f) g
          · exact ap16 b (.inr (.inl f)) g
          · exact ap16 b (.inr (.inr (.inl f))) g
          · rcases setR_mem m with m | ⟨_, m⟩
            · exact ap16 b (.inr (.inr (.inr ⟨r, m, f⟩))) g
            · rw [m] at f; exact nd2 b g f
    rintro _ H17 ⟨n', ks', rs'', dn, rfl, J17⟩
    -- told
    have hxl : x ≠ ld := by
      obtain ⟨dx, h⟩ := J17.d.ex
      exact ne_of h J17.d.rows.d (by intro z; cases z)
    obtain ⟨dx, hx⟩ := J17.d.ex
    refine ⟨_, rfl, x, dx, _, rfl, hx, ld_no (by decide +kernel) (by decide +kernel) (by decide +kernel) (by decide +kernel), x, dx, ld, step, n', dn, rfl, hx, _, rfl, x, dx, _, rfl, hx, ld_no (by decide +kernel) (by decide +kernel) (by decide +kernel) (by decide +kernel), x, dx, ld, step, n', dn, rfl, hx, tok1000 (by show 2 ≤ 1000; decide), fun q1 hq1 => ?_⟩
    have s18 := same_new hq1 (.tup [V.int n', V.bl (!dn)])
    have eq1 := upd_same (H := H17) (a := q1) (o := .tup [V.int n', V.bl (!dn)])
    generalize upd H17 q1 (.tup [V.int n', V.bl (!dn)]) = H18 at *
    refine ⟨_, rfl, _, rfl, _, rfl, tok1000 (by show 2 ≤ 1000; decide), fun q2 hq2 => ?_⟩
    have s19 := same_new hq2 (.tup [V.int n', V.bl (!dn)])
    have sh : SeqAt.shaped (.tuple [.int n', .bool (!dn)]) = true := by simp [SeqAt.shaped, PyData.canLay0, PyData.canLayAll0, PyData.depth, PyData.depthAll]
    refine ⟨.tuple [.int n', .bool (!dn)], .tuple [.int n', .bool (!dn)], .tup (SqT.of (s19 _ _ eq1)) (.cons (.int _) (.cons (.bl _) .nil)), .tup (SqT.of upd_same) (.cons (.int _) (.cons (.bl _) .nil)), sh, sh, _, rfl, ?_⟩
    rw [SeqAt.eqv_refl _ (SeqAt.canLay_of_shaped sh)]
    refine iteF ?_
    exact ⟨_, _, _, n', ks', rs'', t15, dn, rfl, J17.same (s18.trans s19), ht15⟩
  rintro _ H11 ⟨o5, o10, o11, n, ks, rs, t11, down, rfl, J11, ht11⟩
  have hxl : x ≠ ld := by
    obtain ⟨dx, h⟩ := J11.d.ex
    exact ne_of h J11.d.rows.d (by intro z; cases z)
  have lrs := J11.rn
  have lks := J11.b.ln
  -- its rows
  have rows : ∀ {H H' : Hp} {td : Addr} {ts : List DR}, Jt C H p l kd x ld t11 ks rs step n down (c + 16) → Same H H' → RowsAt H' td ts → ts.map DR.val = (rs.map DR.val).filter (fun r => !r.2.isEmpty) → Eqd2 K H' 65 (.ref td) (.ref kd) true ∧ (ts.map (·.1)).Perm (ks.map (·.1)) := by
    intro H H' td ts J s rt ev
    have nd2 : ((ks.map DR.val).map (·.1)).Nodup := by rw [List.map_map]; exact J.b.ra.nk
    have pm : (ts.map DR.val).Perm (ks.map DR.val) := by
      refine Eqr.perm ?_ ?_ ?_ nd2
      · rw [ev]; exact J.eq.filt
      · intro r m
        rw [ev] at m
        have := (List.mem_filter.mp m).2
        intro z
        rw [z] at this
        exact absurd this (by decide)
      · rw [List.map_map]; exact rt.nk
    have pk := pm.map (·.1)
    rw [List.map_map, List.map_map] at pk
    exact ⟨rows_eq rt (J.b.ra.same s) pm J.b.lt, pk⟩
  refine ⟨fun σ H' => ∃ (td : Addr) (ts : List DR), σ = σL sc p kd (some (.int (0 + bout))) (some (.ref hd)) o5 (some (optV step)) (some (.ref x)) (some (.int n)) (some (.bl down)) o10 o11 (some (.ref td)) ∧ Same H11 H' ∧ H11 td = none ∧ RowsAt H' td ts ∧ ts.map DR.val = (rs.map DR.val).filter (fun r => !r.2.isEmpty) ∧ (∀ r ∈ ts, H11 r.2.1 = none), ?_, ?_⟩
  · obtain ⟨dx, hx⟩ := J11.d.ex
    refine ⟨_, rfl, x, dx, _, rfl, hx, ld_no (by decide +kernel) (by decide +kernel) (by decide +kernel) (by decide +kernel), x, ld, rs, step, n, down, rfl, J11.d, hxl, by omega, fun td ts H12 s12 ft rt ev fr => ?_⟩
    exact ⟨td, ts, rfl, s12, ft, rt, ev, fr⟩
  rintro _ H12 ⟨td, ts, rfl, s12, ftd, rt12, evt, frt⟩
  have J12 := J11.same s12
  refine ⟨fun σ H' => σ = σL sc p kd (some (.int (0 + bout))) (some (.ref hd)) o5 (some (optV step)) (some (.ref x)) (some (.int n)) (some (.bl down)) o10 o11 (some (.ref td)) ∧ Same H12 H', ?_, ?_⟩
  · refine ⟨_, rfl, _, rfl, 65, td, kd, true, rfl, rfl, (rows J11 s12 rt12 evt).1, by decide, _, rfl, iteF ?_⟩
    have pk := (rows J11 s12 rt12 evt).2
    have lts := pk.length_eq
    rw [List.length_map, List.length_map] at lts
    have kpt : ∀ k ∈ ts.map (·.1), KP k := fun k m => J11.b.kp k (pk.mem_iff.mp m)
    refine ⟨_, rfl, td, _, rfl, .inl rt12.d, by rw [List.length_map]; omega, fun z m => ?_, fun sk q pm so hq nq => ?_⟩
    · obtain ⟨r, mr, rfl⟩ := List.mem_map.mp m
      exact (kpt r.1 (List.mem_map.mpr ⟨r, mr, rfl⟩)).fit
    have s13 := same_new hq (.lst (sk.map kV))
    have eq := upd_same (H := H12) (a := q) (o := .lst (sk.map kV))
    generalize upd H12 q (.lst (sk.map kV)) = H13 at *
    rw [List.map_map] at pm
    have kps : ∀ k ∈ sk, KP k := fun k m => kpt k (pm.mem_iff.mp m)
    have lsk : sk.length ≤ 64 := by rw [pm.length_eq, List.length_map]; omega
    obtain ⟨w1, w2, w3⟩ := keys_show kps (by omega)
    refine ⟨_, .list (sk.map kD), rfl, .lst trivial nq eq (keys_th sk), w1, w2, w3, ?_⟩
    have J13 := J12.same s13
    refine ⟨_, rfl, kd, _, rfl, .inl J13.b.ra.d, by rw [List.length_map]; omega, fun z m => ?_, fun sk2 q2 pm2 so2 hq2 nq2 => ?_⟩
    · obtain ⟨r, mr, rfl⟩ := List.mem_map.mp m
      exact (J11.b.kp r.1 (List.mem_map.mpr ⟨r, mr, rfl⟩)).fit
    have s14 := same_new hq2 (.lst (sk2.map kV))
    have eq2 := upd_same (H := H13) (a := q2) (o := .lst (sk2.map kV))
    generalize upd H13 q2 (.lst (sk2.map kV)) = H14 at *
    rw [List.map_map] at pm2
    obtain rfl : sk = sk2 := sorted_one (pm.trans (pk.trans pm2.symm)) kps (pm.nodup_iff.mpr rt12.nk) so so2
    refine ⟨_, .list (sk.map kD), rfl, .lst trivial nq2 eq2 (keys_th sk), w1, w2, w3, ?_⟩
    refine ⟨rfl, _, rfl, ite2 (fun c1 => absurd c1 (by simp)) (fun _ => ⟨rfl, s13.trans s14⟩)⟩
  rintro _ H13 ⟨rfl, s13⟩
  have J13 := J12.same s13
  have rt13 := rt12.same s13
  have ktd : ∀ b, (Fb p l kd ks b ∨ Fd x ld rs b) → b ≠ td ∧ ∀ r ∈ ts, b ≠ r.2.1 := fun b f => by
    have e : H11 b ≠ none := f.elim (fun f => J11.b.old f) fun f => J11.d.old f
    exact ⟨fun z => e (z ▸ ftd), fun r m z => e (z ▸ frt r m)⟩
  refine ⟨fun σ H' => ∃ o5, σ = σL sc p kd (some (.int (0 + bout))) (some (.ref hd)) o5 (some (optV step)) (some (.ref x)) (some (.int n)) (some (.bl down)) o10 o11 (some (.ref td)) ∧ (∀ b o, H13 b = some o → (∀ r ∈ ts, b ≠ r.2.1) → H' b = some o), ?_, ?_⟩
  · refine ⟨td, _, rt13.d, trivial, fun od => ?_⟩
    have hk0 : upd H13 td (.frz od (.dK (ts.map fun r => (r.1, V.ref r.2.1)))) td = some (.frz od (.dK (ts.map fun r => (r.1, V.ref r.2.1)))) := upd_same
    have ndk : ((ts.map fun r => (r.1, V.ref r.2.1)).map (·.1)).Nodup := by rw [List.map_map]; exact rt13.nk
    have ntd : ∀ r ∈ ts, td ≠ r.2.1 := fun r m => by
      obtain ⟨us, u1, _⟩ := rt13.l r m
      exact ne_of rt13.d u1 (by intro z; cases z)
    refine ⟨_, rfl, td, od, rfl, .inl ⟨_, hk0, fo_keys (fun i σ' H' => (∃ o5, σ' = σL sc p kd (some (.int (0 + bout))) (some (.ref hd)) o5 (some (optV step)) (some (.ref x)) (some (.int n)) (some (.bl down)) o10 o11 (some (.ref td))) ∧ (∀ b o, upd H13 td (.frz od (.dK (ts.map fun r => (r.1, V.ref r.2.1)))) b = some o → (∀ r ∈ ts, b ≠ r.2.1) → H' b = some o) ∧ ∀ r ∈ ts, ∃ vs, H' r.2.1 = some (.lst vs) ∧ vs.length ≤ c + 16 + i) ?_ ?_ ?_ ?_⟩⟩
    · refine ⟨⟨_, rfl⟩, fun b o h _ => h, fun r m => ?_⟩
      obtain ⟨us, u1, u2⟩ := rt13.l r m
      refine ⟨us, by rw [upd_ne (Ne.symm (ntd r m))]; exact u1, ?_⟩
      rw [tgAll_len u2]
      have m1 : r.val ∈ (rs.map DR.val).filter (fun r => !r.2.isEmpty) := evt ▸ List.mem_map.mpr ⟨r, m, rfl⟩
      exact J11.rl _ (List.mem_filter.mp m1).1
    · exact fun i σ' H' ⟨_, k1, _⟩ => k1 _ _ hk0 ntd
    · rintro i z _ H14 hz ⟨⟨o5, rfl⟩, k1, l1⟩
      rw [List.getElem?_map] at hz
      obtain ⟨r, hr1, rfl⟩ := Option.map_eq_some_iff.mp hz
      have mr := List.mem_of_getElem? hr1
      obtain ⟨vs, h1, lv⟩ := l1 r mr
      have hv : valV (ts.map fun r => (r.1, V.ref r.2.1)) r.1 = some (.ref r.2.1) := valV_hit ndk (List.mem_map.mpr ⟨r, mr, rfl⟩)
      have li : i < ts.length := (List.getElem?_eq_some_iff.mp hr1).1
      have lts : ts.length ≤ rs.length := by
        have := congrArg List.length evt
        rw [List.length_map] at this
        rw [this]
        refine Nat.le_trans (List.length_filter_le ..) ?_
        rw [List.length_map]
        exact Nat.le_refl _
      refine ⟨_, rfl, _, rfl, td, _, rfl, .inl ⟨_, r.1, .inr ⟨od, k1 _ _ hk0 ntd⟩, rfl, hv.symm⟩, .inl ⟨rfl, _, SqL.of h1⟩, r.2.1, vs, _, rfl, rfl, h1, small1000 (by omega), ?_⟩
      refine ⟨⟨_, rfl⟩, fun b o h n => ?_, fun r' m' => ?_⟩
      · rw [upd_ne (n r mr)]; exact k1 b o h n
      · by_cases e : r'.2.1 = r.2.1
        · rw [e, upd_same]
          exact ⟨_, rfl, by rw [List.length_append]; show vs.length + 1 ≤ _; omega⟩
        · obtain ⟨us, u1, u2⟩ := l1 r' m'
          exact ⟨us, by rw [upd_ne e]; exact u1, by omega⟩
    · rintro _ H14 ⟨⟨o5, rfl⟩, k1, l1⟩
      refine ⟨k1 _ _ hk0 ntd, o5, rfl, fun b o h n => ?_⟩
      by_cases e : b = td
      · subst e
        rw [rt13.d] at h
        cases h
        exact upd_same
      · rw [upd_ne e]
        exact k1 b o (by rw [upd_ne e]; exact h) n
  rintro _ H14 ⟨o5, rfl, k14⟩
  have kp14 : ∀ b o, H13 b = some o → (Fb p l kd ks b ∨ Fd x ld rs b ∨ ∃ xs, o = .tup xs) → H14 b = some o := fun b o h z => k14 b o h fun r m => by
    rcases z with z | z | ⟨xs, rfl⟩
    · exact (ktd b (.inl z)).2 r m
    · exact (ktd b (.inr z)).2 r m
    · obtain ⟨us, u1, _⟩ := rt13.l r m
      exact ne_of h u1 (by intro z; cases z)
  have J14 := J13.keep kp14
  have etd : H14 td = some (.dK (ts.map fun r => (r.1, V.ref r.2.1))) := k14 _ _ rt13.d fun r m => by
    obtain ⟨us, u1, _⟩ := rt13.l r m
    exact ne_of rt13.d u1 (by intro z; cases z)
  refine ⟨fun σ H' => σ = σL sc p kd (some (.int (0 + bout))) (some (.ref hd)) o5 (some (optV step)) (some (.ref x)) (some (.int n)) (some (.bl down)) o10 o11 (some (.ref td)) ∧ Jt C H' p l kd x ld t11 ks rs step n down (c + 16), ?_, ?_⟩
  · refine ⟨_, rfl, .inr (.inr (.inl ⟨rfl, .inl ⟨_, etd⟩⟩)), td, _, rfl, rfl, etd, rfl, J14.keep fun b o h z => ?_⟩
    rw [upd_ne]
    · exact h
    · rcases z with z | z | ⟨xs, rfl⟩
      · exact (ktd b (.inl z)).1
      · exact (ktd b (.inr z)).1
      · exact ne_of h etd (by intro z; cases z)
  rintro _ H15 ⟨rfl, J15⟩
  obtain ⟨dx, hx⟩ := J15.d.ex
  refine ⟨_, rfl, x, dx, _, rfl, hx, ld_no (by decide +kernel) (by decide +kernel) (by decide +kernel) (by decide +kernel), x, ld, rs, step, n, down, rfl, J15.d, hxl, by omega, fun td ts H16 s16 ft rt ev fr => ?_⟩
  refine ⟨_, rfl, 65, td, kd, true, rfl, rfl, (rows J15 s16 rt ev).1, by decide, _, rfl, iteF ?_⟩
  exact ⟨⟨_, _, _, _, _, _, _, _, _, _, rfl⟩, t11, c + 16, ks, J15.b.same s16, by omega, by omega, fun z => absurd z (by omega)⟩
end
end My

set_option Elab.async false
set_option linter.all false
set_option maxRecDepth 100000
set_option maxHeartbeats 4000000

namespace My
open PySem L2 PyProof.Rows
theorem ns_some {K : PySem.W.Frag} {h : Heap} {N : Addr} {mg : Str → Option Value} {n : Str} {v : Value} (X : K.In h) (G : h.Ns N mg) (e : PySem.W.nsIn K N n = some (some v)) : mg n = some v := by
  obtain ⟨o, es, ep, ho, hd, _, hf⟩ := G
  unfold PySem.W.nsIn at e
  split at e
  · rename_i c d es' n' sl q
    have := X _ _ q
    rw [ho] at this
    cases this
    cases hd
    split at e
    · rename_i en he
      cases e
      rw [← hf]
      unfold nsFind findBy
      rw [← Array.find?_toList, he]
      rfl
    · split at e <;> cases e
  · cases e
def gRFv : List Value → List Value → List Value := fun us ws => match us, ws with | [a], [b, c] => [a, b, c] | _, _ => []
def gFv : List Value → List Value → List Value := fun us ws => match us, ws with | [a], [c] => [a, .none, c] | _, _ => []
theorem kb_rf {K : PySem.W.Frag} {fd : FuncData} (h : ∀ a b c : Value, bindArgs fd ⟨[a], [("rows", b), ("fall", c)]⟩ = (pure [("self", a), ("rows", b), ("fall", c)] : Sem (List (Str × Value)))) : KBinds K fd ["self", "rows", "fall"] ["rows", "fall"] gRFv gRF where
  to := fun s us ws _ hl => match us, ws, hl with
    | [a], [b, c], _ => .of_eq (h a b c)
    | [], _, hl => by cases hl
    | [_], [], hl => by cases hl
    | [_], [_], hl => by cases hl
    | [_], _ :: _ :: _ :: _, hl => by cases hl
    | _ :: _ :: _, _, hl => by cases hl
  rel := fun {vs us zs ws} r1 r2 => by
    cases r1 with
    | nil => exact .nil
    | cons a r1 =>
      cases r1 with
      | cons _ _ => exact .nil
      | nil =>
        cases r2 with
        | nil => exact .nil
        | cons b r2 =>
          cases r2 with
          | nil => exact .nil
          | cons c r2 =>
            cases r2 with
            | nil => exact .cons a (.cons b (.cons c .nil))
            | cons _ _ => exact .nil
theorem bind_f {M : Model} {A : Around} {E : Value → Shared → Prop} {Q : List (Str × Value) → Shared → Prop} {s : Shared} {fd : FuncData} {d : Addr} {m : Str → Option Value} {a c : Value} (h1 : fd.params.posonlyargs.map (·.arg) = []) (h2 : fd.params.args.map (·.arg) = (["self"] : List Str)) (h3 : fd.params.kwonlyargs.map (·.arg) = (["rows", "fall"] : List Str))
   (h4 : fd.params.vararg = none) (h5 : fd.params.kwarg = none) (h6 : fd.defaults = .none) (h7 : fd.kwdefaults = .ref d) (G : s.heap.Ns d m) (hm : m "rows" = some .none) (hq : Q [("self", a), ("rows", .none), ("fall", c)] s) : wpAny M A (bindArgs fd ⟨[a], [("fall", c)]⟩) Q E s := by
  have e1 : (["self"] : List Str).contains "fall" = false := by decide +kernel
  have e2 : (["rows", "fall"] : List Str).contains "fall" = true := by decide +kernel
  have n1 : (("fall" : Str) == "self") = false := by decide +kernel
  have n2 : (("rows" : Str) == "self") = false := by decide +kernel
  have n3 : (("rows" : Str) == "fall") = false := by decide +kernel
  have n4 : (("self" : Str) == "fall") = false := by decide +kernel
  have n5 : (("self" : Str) == "rows") = false := by decide +kernel
  have n6 : (("fall" : Str) == "rows") = false := by decide +kernel
  have r1 : ∀ x : Str, (x == x) = true := fun x => beq_self_eq_true x
  unfold bindArgs
  simp only [h1, h2, h3, h4, h5, h6, h7, List.nil_append, List.length_cons, List.length_nil, List.zip_cons_cons, List.zip_nil_right, List.forIn_cons, List.forIn_nil, e1, e2, Bool.false_or, if_true, List.lookup_cons, List.lookup_nil, n1, n2, n3, n4, n5, n6, r1, Option.isSome_none, Bool.false_eq_true, if_false, List.cons_append]
  refine wpAny_bind (wpAny_bind (wpAny_pure (wpAny_pure ?_)))
  dsimp only
  have es : seqItems? Value.none = pure none := rfl
  rw [es]
  refine wpAny_bind (wpAny_pure ?_)
  have d1 : (decide (0 + 1 > 0 + 1) && true) = false := by decide
  simp only [Option.getD_none, List.toList_toArray, List.length_nil, List.drop_nil, Nat.sub_zero, List.take_succ_cons, List.take_zero, List.zip_nil_right, List.forIn_nil, List.filter_cons, List.filter_nil, List.lookup_cons, List.lookup_nil, n1, n2, n3, n4, n5, n6, r1, Option.isNone_some, Option.isNone_none, Bool.false_eq_true, if_false, if_true, List.isEmpty_nil, Bool.not_true, d1, List.nil_append, List.cons_append]
  refine wpAny_bind (wpAny_pure ?_)
  refine wpAny_bind ?_
  simp only [List.lookup_cons, List.lookup_nil, n1, n2, n3, n4, n5, n6, r1, Option.isNone_some, Option.isNone_none, Bool.false_eq_true, if_false, if_true]
  refine wpAny_bind (wpAny_bind (wpAny_nsGet G ?_))
  rw [hm]
  refine wpAny_pure ?_
  dsimp only
  simp only [List.lookup_cons, List.lookup_nil, n1, n2, n3, n4, n5, n6, r1, Option.isNone_some, Option.isNone_none, Bool.false_eq_true, if_false, if_true, List.nil_append, List.cons_append]
  refine wpAny_bind (wpAny_pure ?_)
  dsimp only
  refine wpAny_pure ?_
  simp only [List.isEmpty_nil, Bool.not_true, Bool.false_eq_true, if_false]
  simp only [List.filterMap_cons, List.filterMap_nil, List.lookup_cons, List.lookup_nil, n1, n2, n3, n4, n5, n6, r1, Option.map_some, List.nil_append, List.cons_append]
  exact wpAny_pure hq
theorem kb_f {K : PySem.W.Frag} {fd : FuncData} {d : Addr} (ok : PySem.W.nsOkIn K d = true) (hr : PySem.W.nsIn K d "rows" = some (some .none)) (h1 : fd.params.posonlyargs.map (·.arg) = []) (h2 : fd.params.args.map (·.arg) = (["self"] : List Str)) (h3 : fd.params.kwonlyargs.map (·.arg) = (["rows", "fall"] : List Str)) (h4 : fd.params.vararg = none) (h5 : fd.params.kwarg = none) (h6 : fd.defaults = .none) (h7 : fd.kwdefaults = .ref d) : KBinds K fd ["self", "rows", "fall"] ["fall"] gFv gF where
  to := fun s us ws hK hl => match us, ws, hl with
    | [a], [c], _ => fun M A E Q hq => bind_f h1 h2 h3 h4 h5 h6 h7 (Heap.Ns.of_isNs (PySem.W.isNs_of_in hK ok)) (ns_some hK (Heap.Ns.of_isNs (PySem.W.isNs_of_in hK ok)) hr) hq
    | [], _, hl => by cases hl
    | [_], [], hl => by cases hl
    | [_], _ :: _ :: _, hl => by cases hl
    | _ :: _ :: _, _, hl => by cases hl
  rel := fun {vs us zs ws} r1 r2 => by
    cases r1 with
    | nil => exact .nil
    | cons a r1 =>
      cases r1 with
      | cons _ _ => exact .nil
      | nil =>
        cases r2 with
        | nil => exact .nil
        | cons b r2 =>
          cases r2 with
          | nil => exact .cons a (.cons rfl (.cons b .nil))
          | cons _ _ => exact .nil
def xOk (K : PySem.W.Frag) (N : Addr) (fl : List Str) : Bool := PySem.W.nsOkIn K N && ((["__setattr__", "__getattribute__", "__getattr__", "__class__"] : List Str) ++ fl).all fun n => PySem.W.nsIn K N n == some none
theorem xcls_of {K : PySem.W.Frag} {C N : Addr} {B newId : String} {bm : List Value} {fl : List Str} (l : ∃ nm q bs sn sub ab col dd k0 k1 k2 k3 k5, K.lookup C = some (excClassObj nm q C N bs bm true sn sub ab col dd k0 k1 k2 k3 k5 newId))
    (o : xOk K N fl = true) (xb : ∃ Bn inN bmN, XB B Bn newId inN bm bmN) (nr : ∀ D, bm.contains (.ref D) = false) (lb : ∀ n ∈ fl, typeLookup (.type B) n = pure none) (kp : PySem.W.keepIn K (.ref C) = true) : XCls K C N B newId bm fl := by
  unfold xOk at o
  rw [Bool.and_eq_true, List.all_eq_true] at o
  have h : ∀ n ∈ (["__setattr__", "__getattribute__", "__getattr__", "__class__"] : List Str) ++ fl, PySem.W.nsIn K N n = some none := fun n hn => beq_iff_eq.mp (o.2 n hn)
  exact ⟨l, o.1, h _ (by simp), h _ (by simp), h _ (by simp), h _ (by simp), fun n hn => h n (List.mem_append_right _ hn), xb, nr, lb, kp⟩
theorem nr_RuntimeError (D : Addr) : ([.type "RuntimeError", .type "Exception", .type "BaseException", .type "object"] : List Value).contains (.ref D) = false := rfl
theorem lb0 : ∀ n ∈ (["step"] : List Str), typeLookup (.type "RuntimeError") n = pure none := by
  intro n hn
  rw [List.mem_singleton.mp hn, typeLookup_type, builtinLookup_eq_fast]; kernel_rfl
theorem lb1 : ∀ n ∈ ([] : List Str), typeLookup (.type "RuntimeError") n = pure none := by
  intro n hn
  cases hn
theorem lb2 : ∀ n ∈ (["slot"] : List Str), typeLookup (.type "RuntimeError") n = pure none := by
  intro n hn
  rw [List.mem_singleton.mp hn, typeLookup_type, builtinLookup_eq_fast]; kernel_rfl
theorem lb3 : ∀ n ∈ ([] : List Str), typeLookup (.type "RuntimeError") n = pure none := by
  intro n hn
  cases hn

theorem all_mk {l : PySem.W.OpenLaw} {w : World} {K : PySem.W.Frag} {h : Heap} {mg : Str → Option Value} {fa f0 f1 f2 f3 f4 f5 : Addr} (X : K.In h) (G : h.Ns mainGlobals mg) (hfa : mg "law" = some (.ref fa))
    {od0 an0 : Option Addr} {sl0 : Array (Option Value)} {oc0 kV0 dc0 pm0 cd0 ct0 : Value}
    (a0 : PySem.W.nsIn K mainGlobals "_law_pen" = some (some (.ref f0))) (l0 : K.lookup f0 = some ⟨oc0, od0, .func (PySem.W.fnOf "_law_pen" "_law_pen" (defArgs s__law_pen) (defBody s__law_pen) (defScope s__law_pen) .none kV0 dc0 pm0 an0 cd0 ct0), sl0⟩) (c0 : PySem.W.codeIn K cd0 "_law_pen" = true) (k0 : PySem.W.keepIn K (.ref f0) = true)
    {od1 an1 : Option Addr} {sl1 : Array (Option Value)} {oc1 kV1 dc1 pm1 cd1 ct1 : Value}
    (a1 : PySem.W.nsIn K mainGlobals "_law_draw" = some (some (.ref f1))) (l1 : K.lookup f1 = some ⟨oc1, od1, .func (PySem.W.fnOf "_law_draw" "_law_draw" (defArgs s__law_draw) (defBody s__law_draw) (defScope s__law_draw) .none kV1 dc1 pm1 an1 cd1 ct1), sl1⟩) (c1 : PySem.W.codeIn K cd1 "_law_draw" = true) (k1 : PySem.W.keepIn K (.ref f1) = true)
    {od2 an2 : Option Addr} {sl2 : Array (Option Value)} {oc2 kV2 dc2 pm2 cd2 ct2 : Value}
    (a2 : PySem.W.nsIn K mainGlobals "_law_pick" = some (some (.ref f2))) (l2 : K.lookup f2 = some ⟨oc2, od2, .func (PySem.W.fnOf "_law_pick" "_law_pick" (defArgs s__law_pick) (defBody s__law_pick) (defScope s__law_pick) .none kV2 dc2 pm2 an2 cd2 ct2), sl2⟩) (c2 : PySem.W.codeIn K cd2 "_law_pick" = true) (k2 : PySem.W.keepIn K (.ref f2) = true)
    {od3 an3 : Option Addr} {sl3 : Array (Option Value)} {oc3 kV3 dc3 pm3 cd3 ct3 : Value}
    (a3 : PySem.W.nsIn K mainGlobals "_law_thing" = some (some (.ref f3))) (l3 : K.lookup f3 = some ⟨oc3, od3, .func (PySem.W.fnOf "_law_thing" "_law_thing" (defArgs s__law_thing) (defBody s__law_thing) (defScope s__law_thing) .none kV3 dc3 pm3 an3 cd3 ct3), sl3⟩) (c3 : PySem.W.codeIn K cd3 "_law_thing" = true) (k3 : PySem.W.keepIn K (.ref f3) = true)
    {od4 an4 : Option Addr} {sl4 : Array (Option Value)} {oc4 kV4 dc4 pm4 cd4 ct4 : Value}
    (a4 : PySem.W.nsIn K mainGlobals "_law_wrote" = some (some (.ref f4))) (l4 : K.lookup f4 = some ⟨oc4, od4, .func (PySem.W.fnOf "_law_wrote" "_law_wrote" (defArgs s__law_wrote) (defBody s__law_wrote) (defScope s__law_wrote) .none kV4 dc4 pm4 an4 cd4 ct4), sl4⟩) (c4 : PySem.W.codeIn K cd4 "_law_wrote" = true) (k4 : PySem.W.keepIn K (.ref f4) = true)
    {od5 an5 : Option Addr} {sl5 : Array (Option Value)} {oc5 kV5 dc5 pm5 cd5 ct5 : Value}
    (a5 : PySem.W.nsIn K mainGlobals "law" = some (some (.ref f5))) (l5 : K.lookup f5 = some ⟨oc5, od5, .func (PySem.W.fnOf "law" "law" (defArgs s_law) (defBody s_law) (defScope s_law) .none kV5 dc5 pm5 an5 cd5 ct5), sl5⟩) (c5 : PySem.W.codeIn K cd5 "law" = true) (k5 : PySem.W.keepIn K (.ref f5) = true)
    {C_Disk : Addr} (cm_Disk : PySem.W.nsIn K mainGlobals "Disk" = some (some (.ref C_Disk)))
    (pg_Disk : PySem.W.plainGet K C_Disk Str.empty = true)
    (hd_Disk : PySem.W.hasDictIn K C_Disk = true)
    (po_Disk : PySem.W.plainOver K C_Disk = true)
    (sa_Disk : PySem.W.findIn K (.ref C_Disk) "__setattr__" = some (some (.builtin "object.__setattr__")))
    (mk_Disk : PySem.W.makesIn K C_Disk = true)
    (kc_Disk : PySem.W.keepIn K (.ref C_Disk) = true)
    (ha_Disk : PySem.W.findIn K (.ref C_Disk) "__class__" = some (some (.builtin "object.__class__")))
    (hn_Disk : PySem.W.specialIn K (.builtin "object.__class__") "__get__" = some (some (.builtin "getset_descriptor.__get__")))
    (ht_Disk : PySem.W.takesIn K (.builtin "object.__class__") = some true)
    (hm_Disk : PySem.W.mroIn K C_Disk (.type "object") = some true)
    (f_fall_step_Disk : PySem.W.findIn K (.ref C_Disk) "fall_step" = some none)
    (f_has_fallen_Disk : PySem.W.findIn K (.ref C_Disk) "has_fallen" = some none)
    (f_lists_Disk : PySem.W.findIn K (.ref C_Disk) "lists" = some none)
    (f_written_rows_Disk : PySem.W.findIn K (.ref C_Disk) "written_rows" = some none)
    {mf_Disk_init : Addr} {mod_Disk_init man_Disk_init : Option Addr} {msl_Disk_init : Array (Option Value)} {mkd_Disk_init : Addr} {moc_Disk_init mdc_Disk_init mpm_Disk_init mcd_Disk_init mct_Disk_init : Value}
    (ma_Disk_init : PySem.W.findIn K (.ref C_Disk) "__init__" = some (some (.ref mf_Disk_init))) (mi_Disk_init : PySem.W.isFn K (.ref mf_Disk_init) = true) (ml_Disk_init : K.lookup mf_Disk_init = some ⟨moc_Disk_init, mod_Disk_init, .func (PySem.W.fnOf "__init__" "Disk.__init__" (defArgs s_Disk_init) (defBody s_Disk_init) (defScope s_Disk_init) .none (.ref mkd_Disk_init) mdc_Disk_init mpm_Disk_init man_Disk_init mcd_Disk_init mct_Disk_init), msl_Disk_init⟩) (mc_Disk_init : PySem.W.codeIn K mcd_Disk_init "Disk.__init__" = true) (mk_Disk_init : PySem.W.keepIn K (.ref mf_Disk_init) = true)
    (mo_Disk_init : PySem.W.nsOkIn K mkd_Disk_init = true) (mv0_Disk_init : PySem.W.nsIn K mkd_Disk_init "rows" = some (some .none)) (mv1_Disk_init : PySem.W.nsIn K mkd_Disk_init "fall" = some (some .none))
    {mf_Disk_write : Addr} {mod_Disk_write man_Disk_write : Option Addr} {msl_Disk_write : Array (Option Value)} {moc_Disk_write mkV_Disk_write mdc_Disk_write mpm_Disk_write mcd_Disk_write mct_Disk_write : Value}
    (ma_Disk_write : PySem.W.findIn K (.ref C_Disk) "write" = some (some (.ref mf_Disk_write))) (mi_Disk_write : PySem.W.isFn K (.ref mf_Disk_write) = true) (ml_Disk_write : K.lookup mf_Disk_write = some ⟨moc_Disk_write, mod_Disk_write, .func (PySem.W.fnOf "write" "Disk.write" (defArgs s_Disk_write) (defBody s_Disk_write) (defScope s_Disk_write) .none mkV_Disk_write mdc_Disk_write mpm_Disk_write man_Disk_write mcd_Disk_write mct_Disk_write), msl_Disk_write⟩) (mc_Disk_write : PySem.W.codeIn K mcd_Disk_write "Disk.write" = true) (mk_Disk_write : PySem.W.keepIn K (.ref mf_Disk_write) = true)
    {mf_Disk_rows : Addr} {mod_Disk_rows man_Disk_rows : Option Addr} {msl_Disk_rows : Array (Option Value)} {moc_Disk_rows mkV_Disk_rows mdc_Disk_rows mpm_Disk_rows mcd_Disk_rows mct_Disk_rows : Value}
    (ma_Disk_rows : PySem.W.findIn K (.ref C_Disk) "rows" = some (some (.ref mf_Disk_rows))) (mi_Disk_rows : PySem.W.isFn K (.ref mf_Disk_rows) = true) (ml_Disk_rows : K.lookup mf_Disk_rows = some ⟨moc_Disk_rows, mod_Disk_rows, .func (PySem.W.fnOf "rows" "Disk.rows" (defArgs s_Disk_rows) (defBody s_Disk_rows) (defScope s_Disk_rows) .none mkV_Disk_rows mdc_Disk_rows mpm_Disk_rows man_Disk_rows mcd_Disk_rows mct_Disk_rows), msl_Disk_rows⟩) (mc_Disk_rows : PySem.W.codeIn K mcd_Disk_rows "Disk.rows" = true) (mk_Disk_rows : PySem.W.keepIn K (.ref mf_Disk_rows) = true)
    {mf_Disk_steps : Addr} {mod_Disk_steps man_Disk_steps : Option Addr} {msl_Disk_steps : Array (Option Value)} {moc_Disk_steps mkV_Disk_steps mdc_Disk_steps mpm_Disk_steps mcd_Disk_steps mct_Disk_steps : Value}
    (ma_Disk_steps : PySem.W.findIn K (.ref C_Disk) "steps" = some (some (.ref mf_Disk_steps))) (mi_Disk_steps : PySem.W.isFn K (.ref mf_Disk_steps) = true) (ml_Disk_steps : K.lookup mf_Disk_steps = some ⟨moc_Disk_steps, mod_Disk_steps, .func (PySem.W.fnOf "steps" "Disk.steps" (defArgs s_Disk_steps) (defBody s_Disk_steps) (defScope s_Disk_steps) .none mkV_Disk_steps mdc_Disk_steps mpm_Disk_steps man_Disk_steps mcd_Disk_steps mct_Disk_steps), msl_Disk_steps⟩) (mc_Disk_steps : PySem.W.codeIn K mcd_Disk_steps "Disk.steps" = true) (mk_Disk_steps : PySem.W.keepIn K (.ref mf_Disk_steps) = true)
    {mf_Disk_is_up : Addr} {mod_Disk_is_up man_Disk_is_up : Option Addr} {msl_Disk_is_up : Array (Option Value)} {moc_Disk_is_up mkV_Disk_is_up mdc_Disk_is_up mpm_Disk_is_up mcd_Disk_is_up mct_Disk_is_up : Value}
    (ma_Disk_is_up : PySem.W.findIn K (.ref C_Disk) "is_up" = some (some (.ref mf_Disk_is_up))) (mi_Disk_is_up : PySem.W.isFn K (.ref mf_Disk_is_up) = true) (ml_Disk_is_up : K.lookup mf_Disk_is_up = some ⟨moc_Disk_is_up, mod_Disk_is_up, .func (PySem.W.fnOf "is_up" "Disk.is_up" (defArgs s_Disk_is_up) (defBody s_Disk_is_up) (defScope s_Disk_is_up) .none mkV_Disk_is_up mdc_Disk_is_up mpm_Disk_is_up man_Disk_is_up mcd_Disk_is_up mct_Disk_is_up), msl_Disk_is_up⟩) (mc_Disk_is_up : PySem.W.codeIn K mcd_Disk_is_up "Disk.is_up" = true) (mk_Disk_is_up : PySem.W.keepIn K (.ref mf_Disk_is_up) = true)
    (z_len : PySem.W.nsIn K mainGlobals "len" = some none)
    (z_abs : PySem.W.nsIn K mainGlobals "abs" = some none)
    (z_isinstance : PySem.W.nsIn K mainGlobals "isinstance" = some none)
    (z_int : PySem.W.nsIn K mainGlobals "int" = some none)
    (z_bool : PySem.W.nsIn K mainGlobals "bool" = some none)
    (z_str : PySem.W.nsIn K mainGlobals "str" = some none)
    (z_list : PySem.W.nsIn K mainGlobals "list" = some none)
    (z_dict : PySem.W.nsIn K mainGlobals "dict" = some none)
    (z_tuple : PySem.W.nsIn K mainGlobals "tuple" = some none)
    (z_sorted : PySem.W.nsIn K mainGlobals "sorted" = some none)
    (z_KeyError : PySem.W.nsIn K mainGlobals "KeyError" = some none)
    (z_min : PySem.W.nsIn K mainGlobals "min" = some none)
    (z_repr : PySem.W.nsIn K mainGlobals "repr" = some none)
    (z_range : PySem.W.nsIn K mainGlobals "range" = some none)
    (z_RuntimeError : PySem.W.nsIn K mainGlobals "RuntimeError" = some none)
    {C0 N0 : Addr} {nm0 qn0 : Str} {bs0 sub0 : List Value} {sn0 : List Str} {ab0 : Bool} {col0 : Option Bool} {dd0 : Option Addr} {x0_0 x1_0 x2_0 x3_0 x5_0 : Option Value}
    (ca0 : PySem.W.nsIn K mainGlobals "Fell" = some (some (.ref C0))) (cl0 : K.lookup C0 = some (excClassObj nm0 qn0 C0 N0 bs0 [.type "RuntimeError", .type "Exception", .type "BaseException", .type "object"] true sn0 sub0 ab0 col0 dd0 x0_0 x1_0 x2_0 x3_0 x5_0 "RuntimeError.__new__")) (co0 : xOk K N0 ["step"] = true) (ck0 : PySem.W.keepIn K (.ref C0) = true)
    {I0 : Addr} {iod0 ian0 : Option Addr} {isl0 : Array (Option Value)} {ikV0 idc0 ipm0 icd0 ict0 : Value}
    (ci0 : PySem.W.nsIn K N0 "__init__" = some (some (.ref I0))) (il0 : K.lookup I0 = some ⟨.type "function", iod0, .func (PySem.W.fnOf "__init__" "Fell.__init__" (defArgs s_Fell) (defBody s_Fell) (defScope s_Fell) .none ikV0 idc0 ipm0 ian0 icd0 ict0), isl0⟩) (ic0 : PySem.W.codeIn K icd0 "Fell.__init__" = true) (ik0 : PySem.W.keepIn K (.ref I0) = true)
    {C1 N1 : Addr} {nm1 qn1 : Str} {bs1 sub1 : List Value} {sn1 : List Str} {ab1 : Bool} {col1 : Option Bool} {dd1 : Option Addr} {x0_1 x1_1 x2_1 x3_1 x5_1 : Option Value}
    (ca1 : PySem.W.nsIn K mainGlobals "Busy" = some (some (.ref C1))) (cl1 : K.lookup C1 = some (excClassObj nm1 qn1 C1 N1 bs1 [.type "RuntimeError", .type "Exception", .type "BaseException", .type "object"] true sn1 sub1 ab1 col1 dd1 x0_1 x1_1 x2_1 x3_1 x5_1 "RuntimeError.__new__")) (co1 : xOk K N1 [] = true) (ck1 : PySem.W.keepIn K (.ref C1) = true)
    (ci1 : PySem.W.nsIn K N1 "__init__" = some none)
    {C2 N2 : Addr} {nm2 qn2 : Str} {bs2 sub2 : List Value} {sn2 : List Str} {ab2 : Bool} {col2 : Option Bool} {dd2 : Option Addr} {x0_2 x1_2 x2_2 x3_2 x5_2 : Option Value}
    (ca2 : PySem.W.nsIn K mainGlobals "Moving" = some (some (.ref C2))) (cl2 : K.lookup C2 = some (excClassObj nm2 qn2 C2 N2 bs2 [.type "RuntimeError", .type "Exception", .type "BaseException", .type "object"] true sn2 sub2 ab2 col2 dd2 x0_2 x1_2 x2_2 x3_2 x5_2 "RuntimeError.__new__")) (co2 : xOk K N2 ["slot"] = true) (ck2 : PySem.W.keepIn K (.ref C2) = true)
    {I2 : Addr} {iod2 ian2 : Option Addr} {isl2 : Array (Option Value)} {ikV2 idc2 ipm2 icd2 ict2 : Value}
    (ci2 : PySem.W.nsIn K N2 "__init__" = some (some (.ref I2))) (il2 : K.lookup I2 = some ⟨.type "function", iod2, .func (PySem.W.fnOf "__init__" "Moving.__init__" (defArgs s_Moving) (defBody s_Moving) (defScope s_Moving) .none ikV2 idc2 ipm2 ian2 icd2 ict2), isl2⟩) (ic2 : PySem.W.codeIn K icd2 "Moving.__init__" = true) (ik2 : PySem.W.keepIn K (.ref I2) = true)
    {C3 N3 : Addr} {nm3 qn3 : Str} {bs3 sub3 : List Value} {sn3 : List Str} {ab3 : Bool} {col3 : Option Bool} {dd3 : Option Addr} {x0_3 x1_3 x2_3 x3_3 x5_3 : Option Value}
    (ca3 : PySem.W.nsIn K mainGlobals "NoMove" = some (some (.ref C3))) (cl3 : K.lookup C3 = some (excClassObj nm3 qn3 C3 N3 bs3 [.type "RuntimeError", .type "Exception", .type "BaseException", .type "object"] true sn3 sub3 ab3 col3 dd3 x0_3 x1_3 x2_3 x3_3 x5_3 "RuntimeError.__new__")) (co3 : xOk K N3 [] = true) (ck3 : PySem.W.keepIn K (.ref C3) = true)
    (ci3 : PySem.W.nsIn K N3 "__init__" = some none)
    (cne : [C0, C1, C2, C3].Nodup)
    : ∃ fd : FuncData, (∀ (s : Shared) (v : Value), BindsTo s fd ⟨[v], []⟩ [("_law_script", v)]) ∧ ∀ base : Heap, K.In base → base.Ns mainGlobals mg → FnOk l.prog w K mg base CX0 6 fa fd ["_law_script"] (spLaw K) := by
  have e := hfa.symm.trans (PySem.W.mg_of X G a5)
  cases e
  have T : Tx mg := ⟨PySem.W.mg_none_of X G z_len, PySem.W.mg_none_of X G z_abs, PySem.W.mg_none_of X G z_isinstance, PySem.W.mg_none_of X G z_int, PySem.W.mg_none_of X G z_bool, PySem.W.mg_none_of X G z_str, PySem.W.mg_none_of X G z_list, PySem.W.mg_none_of X G z_dict, PySem.W.mg_none_of X G z_tuple, PySem.W.mg_none_of X G z_sorted, PySem.W.mg_none_of X G z_KeyError, PySem.W.mg_none_of X G z_min, PySem.W.mg_none_of X G z_repr, PySem.W.mg_none_of X G z_range, PySem.W.mg_none_of X G z_RuntimeError⟩
  have F0 := fun_mk (st := s__law_pen) l0 c0 k0
  have D__law_pen : Def K mg "_law_pen" s__law_pen ["_law_script"] := ⟨_, _, F0, F0.binds (ps := ["_law_script"]) (fun _ _ _ _ _ _ us hl => match us, hl with | [_], _ => rfl), PySem.W.mg_of X G a0⟩
  have F1 := fun_mk (st := s__law_draw) l1 c1 k1
  have D__law_draw : Def K mg "_law_draw" s__law_draw ["_law_pen_here", "_law_many"] := ⟨_, _, F1, F1.binds (ps := ["_law_pen_here", "_law_many"]) (fun _ _ _ _ _ _ us hl => match us, hl with | [_, _], _ => rfl), PySem.W.mg_of X G a1⟩
  have F2 := fun_mk (st := s__law_pick) l2 c2 k2
  have D__law_pick : Def K mg "_law_pick" s__law_pick ["_law_pen_here", "_law_some"] := ⟨_, _, F2, F2.binds (ps := ["_law_pen_here", "_law_some"]) (fun _ _ _ _ _ _ us hl => match us, hl with | [_, _], _ => rfl), PySem.W.mg_of X G a2⟩
  have F3 := fun_mk (st := s__law_thing) l3 c3 k3
  have D__law_thing : Def K mg "_law_thing" s__law_thing ["_law_pen_here", "_law_deep"] := ⟨_, _, F3, F3.binds (ps := ["_law_pen_here", "_law_deep"]) (fun _ _ _ _ _ _ us hl => match us, hl with | [_, _], _ => rfl), PySem.W.mg_of X G a3⟩
  have F4 := fun_mk (st := s__law_wrote) l4 c4 k4
  have D__law_wrote : Def K mg "_law_wrote" s__law_wrote ["_law_disk", "_law_spot", "_law_thing_here"] := ⟨_, _, F4, F4.binds (ps := ["_law_disk", "_law_spot", "_law_thing_here"]) (fun _ _ _ _ _ _ us hl => match us, hl with | [_, _, _], _ => rfl), PySem.W.mg_of X G a4⟩
  have F5 := fun_mk (st := s_law) l5 c5 k5
  have D_law : Def K mg "law" s_law ["_law_script"] := ⟨_, _, F5, F5.binds (ps := ["_law_script"]) (fun _ _ _ _ _ _ us hl => match us, hl with | [_], _ => rfl), PySem.W.mg_of X G a5⟩
  have L_Disk : Cls K C_Disk := ⟨pg_Disk, hd_Disk, po_Disk, sa_Disk⟩
  have O_Disk : OwnC K C_Disk := ⟨L_Disk, ha_Disk, hn_Disk, ht_Disk, hm_Disk⟩
  have M_Disk : mg "Disk" = some (.ref C_Disk) := PySem.W.mg_of X G cm_Disk
  have MF_Disk_init := funD_mk (st := s_Disk_init) ml_Disk_init mc_Disk_init mk_Disk_init
  have MF_Disk_write := funD_mk (st := s_Disk_write) ml_Disk_write mc_Disk_write mk_Disk_write
  have D_Disk_write : MDef K C_Disk "write" "Disk.write" s_Disk_write ["self", "place", "row"] := ⟨_, _, L_Disk, ⟨ma_Disk_write, mi_Disk_write, mk_Disk_write⟩, MF_Disk_write, Binds.all (fun us hl => match us, hl with | [_, _, _], _ => rfl)⟩
  have MF_Disk_rows := funD_mk (st := s_Disk_rows) ml_Disk_rows mc_Disk_rows mk_Disk_rows
  have D_Disk_rows : MDef K C_Disk "rows" "Disk.rows" s_Disk_rows ["self"] := ⟨_, _, L_Disk, ⟨ma_Disk_rows, mi_Disk_rows, mk_Disk_rows⟩, MF_Disk_rows, Binds.all (fun us hl => match us, hl with | [_], _ => rfl)⟩
  have MF_Disk_steps := funD_mk (st := s_Disk_steps) ml_Disk_steps mc_Disk_steps mk_Disk_steps
  have D_Disk_steps : MDef K C_Disk "steps" "Disk.steps" s_Disk_steps ["self"] := ⟨_, _, L_Disk, ⟨ma_Disk_steps, mi_Disk_steps, mk_Disk_steps⟩, MF_Disk_steps, Binds.all (fun us hl => match us, hl with | [_], _ => rfl)⟩
  have MF_Disk_is_up := funD_mk (st := s_Disk_is_up) ml_Disk_is_up mc_Disk_is_up mk_Disk_is_up
  have D_Disk_is_up : MDef K C_Disk "is_up" "Disk.is_up" s_Disk_is_up ["self"] := ⟨_, _, L_Disk, ⟨ma_Disk_is_up, mi_Disk_is_up, mk_Disk_is_up⟩, MF_Disk_is_up, Binds.all (fun us hl => match us, hl with | [_], _ => rfl)⟩
  have xc0 : XCls K C0 N0 "RuntimeError" "RuntimeError.__new__" [.type "RuntimeError", .type "Exception", .type "BaseException", .type "object"] ["step"] := xcls_of ⟨_, _, _, _, _, _, _, _, _, _, _, _, _, cl0⟩ co0 ⟨_, _, _, XF.xb_RuntimeError⟩ nr_RuntimeError lb0 ck0
  have FI0 := fun_mk (st := s_Fell) il0 ic0 ik0
  have xc1 : XCls K C1 N1 "RuntimeError" "RuntimeError.__new__" [.type "RuntimeError", .type "Exception", .type "BaseException", .type "object"] [] := xcls_of ⟨_, _, _, _, _, _, _, _, _, _, _, _, _, cl1⟩ co1 ⟨_, _, _, XF.xb_RuntimeError⟩ nr_RuntimeError lb1 ck1
  have X_Busy : Xz K mg "Busy" C1 "RuntimeError" [.type "RuntimeError", .type "Exception", .type "BaseException", .type "object"] := ⟨PySem.W.mg_of X G ca1, N1, _, xc1⟩
  have xc2 : XCls K C2 N2 "RuntimeError" "RuntimeError.__new__" [.type "RuntimeError", .type "Exception", .type "BaseException", .type "object"] ["slot"] := xcls_of ⟨_, _, _, _, _, _, _, _, _, _, _, _, _, cl2⟩ co2 ⟨_, _, _, XF.xb_RuntimeError⟩ nr_RuntimeError lb2 ck2
  have FI2 := fun_mk (st := s_Moving) il2 ic2 ik2
  have xc3 : XCls K C3 N3 "RuntimeError" "RuntimeError.__new__" [.type "RuntimeError", .type "Exception", .type "BaseException", .type "object"] [] := xcls_of ⟨_, _, _, _, _, _, _, _, _, _, _, _, _, cl3⟩ co3 ⟨_, _, _, XF.xb_RuntimeError⟩ nr_RuntimeError lb3 ck3
  have X_NoMove : Xz K mg "NoMove" C3 "RuntimeError" [.type "RuntimeError", .type "Exception", .type "BaseException", .type "object"] := ⟨PySem.W.mg_of X G ca3, N3, _, xc3⟩
  refine ⟨PySem.W.fnOf "law" "law" (defArgs s_law) (defBody s_law) (defScope s_law) .none kV5 dc5 pm5 an5 cd5 ct5, fun s v => .of_eq rfl, fun base _ _ => ?_⟩
  have X_Fell : Xs l.prog w K mg base "Fell" C0 "RuntimeError" [.type "RuntimeError", .type "Exception", .type "BaseException", .type "object"] ["step"] := ⟨PySem.W.mg_of X G ca0, ⟨N0, _, xc0⟩, ⟨I0, _, N0, _, _, _, _, PySem.W.mg_of X G ca0, xc0, ci0, il0, rfl, ini1 FI0 sc_Fell rfl xc0, FI0.binds (ps := (["self", "step"] : List Str)) (fun _ _ _ _ _ _ us hl => match us, hl with | [_, _], _ => rfl), fun s e ws hl => match ws, hl with | [_], _ => .of_eq rfl⟩⟩
  have X_Moving : Xs l.prog w K mg base "Moving" C2 "RuntimeError" [.type "RuntimeError", .type "Exception", .type "BaseException", .type "object"] ["slot"] := ⟨PySem.W.mg_of X G ca2, ⟨N2, _, xc2⟩, ⟨I2, _, N2, _, _, _, _, PySem.W.mg_of X G ca2, xc2, ci2, il2, rfl, ini1 FI2 sc_Moving rfl xc2, FI2.binds (ps := (["self", "slot"] : List Str)) (fun _ _ _ _ _ _ us hl => match us, hl with | [_, _], _ => rfl), fun s e ws hl => match ws, hl with | [_], _ => .of_eq rfl⟩⟩
  have W : DT K C_Disk := ⟨O_Disk, f_lists_Disk, f_fall_step_Disk, f_written_rows_Disk, f_has_fallen_Disk⟩
  have A1 := ok_draw (P := l.prog) (w := w) (base := base) T D__law_draw
  have A2 := ok_pickL (P := l.prog) (w := w) (base := base) T D__law_pick A1
  have A4 := ok_pen (P := l.prog) (w := w) (base := base) T D__law_pen
  have I0 := ok_initD (P := l.prog) (w := w) (base := base) T W MF_Disk_init
  have NRF : NCalK l.prog w K mg base "Disk" C_Disk ["self", "rows", "fall"] ["rows", "fall"] gRF 1 (spInitD C_Disk) := ⟨_, _, gRFv, M_Disk, ⟨mk_Disk, ma_Disk_init, mi_Disk_init, kc_Disk⟩, I0, kb_rf fun a b c => rfl⟩
  have NF : NCalK l.prog w K mg base "Disk" C_Disk ["self", "rows", "fall"] ["fall"] gF 1 (spInitD C_Disk) := ⟨_, _, gFv, M_Disk, ⟨mk_Disk, ma_Disk_init, mi_Disk_init, kc_Disk⟩, I0, kb_f mo_Disk_init mv0_Disk_init rfl rfl rfl rfl rfl rfl rfl⟩
  have M1 := ok_write (P := l.prog) (w := w) (base := base) T W X_Fell D_Disk_write
  have M2 := ok_rows (P := l.prog) (w := w) (base := base) T W D_Disk_rows
  have M3 := ok_steps (P := l.prog) (w := w) (mg := mg) (base := base) W D_Disk_steps
  have M4 := ok_up (P := l.prog) (w := w) (mg := mg) (base := base) W D_Disk_is_up
  have H0 := ok_thing0 (P := l.prog) (w := w) (base := base) D__law_thing
  have H1 := ok_thing (P := l.prog) (w := w) (base := base) T D__law_thing A1 H0
  have H2 := ok_thing (P := l.prog) (w := w) (base := base) T D__law_thing A1 H1
  have H3 := ok_thing (P := l.prog) (w := w) (base := base) T D__law_thing A1 H2
  have H4 := ok_thing (P := l.prog) (w := w) (base := base) T D__law_thing A1 H3
  have L1 := ok_wrote (P := l.prog) (w := w) (base := base) T W D__law_wrote X_Fell X_Busy X_Moving X_NoMove (fun D m e => (List.nodup_cons.mp cne).1 (e ▸ m)) M1
  exact ok_law T W F5 A4 A1 A2 H4 L1 M3 M4 M2 NRF NF

end My
theorem My.walk {l : PySem.W.OpenLaw} {q : PySem.Program} {loose : List PySem.Str} {XP : (PySem.Str → Option PySem.Value) → PySem.Heap → Prop} {YP : PySem.World → PySem.Heap → Prop} {d : PySem.DefRec} {K : PySem.Params → PySem.W.Frag} (hn : l.most = some 63) (hdf : d.params.defaults = [])
    (hY : ∀ (w : PySem.World) (h : PySem.Heap), YP w h → (K w.params).In h)
    (F : ∀ (w : PySem.World) (mg : PySem.Str → Option PySem.Value) (fa : PySem.Addr) (h : PySem.Heap), (K w.params).In h → h.Ns PySem.mainGlobals mg → mg d.name = some (.ref fa) →
      ∃ fd : PySem.FuncData, (∀ (s : PySem.Shared) (u : PySem.Value), PySem.BindsTo s fd ⟨[u], []⟩ [("_law_script", u)]) ∧ ∀ base : PySem.Heap, (K w.params).In base → base.Ns PySem.mainGlobals mg → L2.FnOk l.prog w (K w.params) mg base L2.CX0 6 fa fd ["_law_script"] (My.spLaw (K w.params))) :
    PySem.W.WalkO q loose XP YP l.row.toRowW d [] (fun f vs => PySem.call f vs) :=
  L2.walk_of (n := 63) (k := 6) (x := "_law_script") (CX := fun _ => L2.CX0) (sp := fun w => My.spLaw (K w.params)) hn (by decide) hdf ⟨rfl, by decide, by decide, rfl⟩ hY F (fun _ _ a ns hl _ hS => ⟨a, ns, rfl, hS, hl, fun _ => rfl⟩) fun _ _ _ _ _ z => z
open PySem PySem.W PyProof.Rows
set_option maxRecDepth 100000 in
set_option maxHeartbeats 0 in
theorem PySem.Challenge.cw_websplit_k63_disks_that_fall_holds : PySem.Challenge.rw_websplit_k63_disks_that_fall.Holds := by
  w_on; o_law; k_head; (case hw => w_witness2)
  k_fill
  refine My.walk (l := PySem.Challenge.rw_websplit_k63_disks_that_fall) rfl rfl (fun w h Y => PySem.W.kIn_of Y) ?F
  case F =>
    intro w mg fa h KX G hmg
    refine' My.all_mk KX G hmg ?ya0 ?yl0 ?yc0 ?yk0 ?ya1 ?yl1 ?yc1 ?yk1 ?ya2 ?yl2 ?yc2 ?yk2 ?ya3 ?yl3 ?yc3 ?yk3 ?ya4 ?yl4 ?yc4 ?yk4 ?ya5 ?yl5 ?yc5 ?yk5 ?ycm_Disk ?ypg_Disk ?yhd_Disk ?ypo_Disk ?ysa_Disk ?ymk_Disk ?ykc_Disk ?yha_Disk ?yhn_Disk ?yht_Disk ?yhm_Disk ?yf_fall_step_Disk ?yf_has_fallen_Disk ?yf_lists_Disk ?yf_written_rows_Disk ?yma_Disk_init ?ymi_Disk_init ?yml_Disk_init ?ymc_Disk_init ?ymk_Disk_init ?ymo_Disk_init ?ymv0_Disk_init ?ymv1_Disk_init ?yma_Disk_write ?ymi_Disk_write ?yml_Disk_write ?ymc_Disk_write ?ymk_Disk_write ?yma_Disk_rows ?ymi_Disk_rows ?yml_Disk_rows ?ymc_Disk_rows ?ymk_Disk_rows ?yma_Disk_steps ?ymi_Disk_steps ?yml_Disk_steps ?ymc_Disk_steps ?ymk_Disk_steps ?yma_Disk_is_up ?ymi_Disk_is_up ?yml_Disk_is_up ?ymc_Disk_is_up ?ymk_Disk_is_up ?yz_len ?yz_abs ?yz_isinstance ?yz_int ?yz_bool ?yz_str ?yz_list ?yz_dict ?yz_tuple ?yz_sorted ?yz_KeyError ?yz_min ?yz_repr ?yz_range ?yz_RuntimeError ?yca0 ?ycl0 ?yco0 ?yck0 ?yci0 ?yil0 ?yic0 ?yik0 ?yca1 ?ycl1 ?yco1 ?yck1 ?yci1 ?yca2 ?ycl2 ?yco2 ?yck2 ?yci2 ?yil2 ?yic2 ?yik2 ?yca3 ?ycl3 ?yco3 ?yck3 ?yci3 ?ycne
    (case ya0 => k_is)
    (case yl0 => k_is)
    (case yc0 => k_is)
    (case yk0 => k_is)
    (case ya1 => k_is)
    (case yl1 => k_is)
    (case yc1 => k_is)
    (case yk1 => k_is)
    (case ya2 => k_is)
    (case yl2 => k_is)
    (case yc2 => k_is)
    (case yk2 => k_is)
    (case ya3 => k_is)
    (case yl3 => k_is)
    (case yc3 => k_is)
    (case yk3 => k_is)
    (case ya4 => k_is)
    (case yl4 => k_is)
    (case yc4 => k_is)
    (case yk4 => k_is)
    (case ya5 => k_is)
    (case yl5 => k_is)
    (case yc5 => k_is)
    (case yk5 => k_is)
    (case ycm_Disk => k_is)
    (case ypg_Disk => k_is)
    (case yhd_Disk => k_is)
    (case ypo_Disk => k_is)
    (case ysa_Disk => k_is)
    (case ymk_Disk => k_is)
    (case ykc_Disk => k_is)
    (case yha_Disk => k_is)
    (case yhn_Disk => k_is)
    (case yht_Disk => k_is)
    (case yhm_Disk => k_is)
    (case yf_fall_step_Disk => k_is)
    (case yf_has_fallen_Disk => k_is)
    (case yf_lists_Disk => k_is)
    (case yf_written_rows_Disk => k_is)
    (case yma_Disk_init => k_is)
    (case ymi_Disk_init => k_is)
    (case yml_Disk_init => k_is)
    (case ymc_Disk_init => k_is)
    (case ymk_Disk_init => k_is)
    (case ymo_Disk_init => kernel_rfl)
    (case ymv0_Disk_init => k_is)
    (case ymv1_Disk_init => k_is)
    (case yma_Disk_write => k_is)
    (case ymi_Disk_write => k_is)
    (case yml_Disk_write => k_is)
    (case ymc_Disk_write => k_is)
    (case ymk_Disk_write => k_is)
    (case yma_Disk_rows => k_is)
    (case ymi_Disk_rows => k_is)
    (case yml_Disk_rows => k_is)
    (case ymc_Disk_rows => k_is)
    (case ymk_Disk_rows => k_is)
    (case yma_Disk_steps => k_is)
    (case ymi_Disk_steps => k_is)
    (case yml_Disk_steps => k_is)
    (case ymc_Disk_steps => k_is)
    (case ymk_Disk_steps => k_is)
    (case yma_Disk_is_up => k_is)
    (case ymi_Disk_is_up => k_is)
    (case yml_Disk_is_up => k_is)
    (case ymc_Disk_is_up => k_is)
    (case ymk_Disk_is_up => k_is)
    (case yz_len => k_is)
    (case yz_abs => k_is)
    (case yz_isinstance => k_is)
    (case yz_int => k_is)
    (case yz_bool => k_is)
    (case yz_str => k_is)
    (case yz_list => k_is)
    (case yz_dict => k_is)
    (case yz_tuple => k_is)
    (case yz_sorted => k_is)
    (case yz_KeyError => k_is)
    (case yz_min => k_is)
    (case yz_repr => k_is)
    (case yz_range => k_is)
    (case yz_RuntimeError => k_is)
    (case yca0 => k_is)
    (case ycl0 => k_is)
    (case yco0 => kernel_rfl)
    (case yck0 => k_is)
    (case yci0 => k_is)
    (case yil0 => k_is)
    (case yic0 => k_is)
    (case yik0 => k_is)
    (case yca1 => k_is)
    (case ycl1 => k_is)
    (case yco1 => kernel_rfl)
    (case yck1 => k_is)
    (case yci1 => k_is)
    (case yca2 => k_is)
    (case ycl2 => k_is)
    (case yco2 => kernel_rfl)
    (case yck2 => k_is)
    (case yci2 => k_is)
    (case yil2 => k_is)
    (case yic2 => k_is)
    (case yik2 => k_is)
    (case yca3 => k_is)
    (case ycl3 => k_is)
    (case yco3 => kernel_rfl)
    (case yck3 => k_is)
    (case yci3 => k_is)
    (case ycne => decide)


import PyProof.Rows.All
import Wide.All
import OpenK.AllK
import Wide.FinOn
import PyProof.EqAt
import PyProof.EqKinds
import PyProof.TupleCall
import KE.BitLaws
import Open.SpecLaws
import KE.OsHead
import KE.OsGo
import PySem.Challenge.RW_planbeam_s01_answers

set_option Elab.async false
set_option linter.all false
set_option maxRecDepth 100000

section

set_option Elab.async false
set_option linter.all false
set_option maxRecDepth 100000
/-! THE HAND LAYER, for ints, bools, texts, own classes, lists, tuples, dicts, comprehensions, walks over dicts, enumerate, zip, reversed, texts, calls, loops. Paste it whole ahead of your own text; what your proof does not reach may be deleted. -/
namespace L2
open PySem PySem.Spec PyProof.Rows

/-- a key: an int or a str -/
abbrev Key := Sum Int Str
def keyIs : Key → Value → Bool
  | .inl k, v => Value.isInt k v
  | .inr x, v => Value.isStrOf x v
def keyH (w : World) : Key → Int
  | .inl k => hashInt k
  | .inr x => hashStr w x
theorem keyIs_shape : ∀ {k : Key} {v : Value}, keyIs k v = true → (∃ i t, k = Sum.inl i ∧ v = Value.int i t) ∨ (∃ x t, k = Sum.inr x ∧ v = Value.str x t)
  | .inl i, v, h => by
    obtain ⟨t, e⟩ := Value.isInt_shape (k := i) (v := v) h
    exact .inl ⟨i, t, rfl, e⟩
  | .inr x, v, h => by
    obtain ⟨t, e⟩ := Value.isStrOf_shape (x := x) (v := v) h
    exact .inr ⟨x, t, rfl, e⟩
theorem keyIs_int (i : Int) (t : Tok) : keyIs (.inl i) (.int i t) = true := by simp [keyIs, Value.isInt]
theorem keyIs_str (x : Str) (t : Tok) : keyIs (.inr x) (.str x t) = true := by simp [keyIs, Value.isStrOf]
theorem key_ll (a b : Int) : decide ((Sum.inl a : Key) = Sum.inl b) = (a == b) := by
  by_cases e : a = b
  · subst e; simp
  · have h : ¬ (Sum.inl a : Key) = Sum.inl b := fun q => e (Sum.inl.inj q)
    rw [decide_eq_false h]
    exact (beq_eq_false_iff_ne.mpr e).symm
theorem key_rr (a b : Str) : decide ((Sum.inr a : Key) = Sum.inr b) = decide (a = b) := by
  by_cases e : a = b
  · subst e; simp
  · have h : ¬ (Sum.inr a : Key) = Sum.inr b := fun q => e (Sum.inr.inj q)
    rw [decide_eq_false h, decide_eq_false e]
theorem key_lr (a : Int) (b : Str) : decide ((Sum.inl a : Key) = Sum.inr b) = false := decide_eq_false (fun q => nomatch q)
theorem key_rl (a : Str) (b : Int) : decide ((Sum.inr a : Key) = Sum.inl b) = false := decide_eq_false (fun q => nomatch q)

def mixKind (prog : Program) (w : World) : PySem.KeyKind prog w Key where
  is := keyIs
  hash := keyH w
  inj := fun v a b ha hb => by
    rcases keyIs_shape ha with ⟨i, t, rfl, rfl⟩ | ⟨x, t, rfl, rfl⟩
    · rcases keyIs_shape hb with ⟨j, u, rfl, e⟩ | ⟨y, u, rfl, e⟩
      · injection e with e1 _; rw [e1]
      · exact nomatch e
    · rcases keyIs_shape hb with ⟨j, u, rfl, e⟩ | ⟨y, u, rfl, e⟩
      · exact nomatch e
      · injection e with e1 _; rw [e1]
  byValue := fun k v h => by
    rcases keyIs_shape h with ⟨i, t, rfl, rfl⟩ | ⟨x, t, rfl, rfl⟩ <;> rfl
  pyHash := fun hv h => by
    rcases keyIs_shape hv with ⟨i, t, rfl, rfl⟩ | ⟨x, t, rfl, rfl⟩
    · exact wpAny_pyHash_int h
    · exact wpAny_pyHash_str h
  eqBool := fun hu hv h => by
    rcases keyIs_shape hu with ⟨i, t, rfl, rfl⟩ | ⟨x, t, rfl, rfl⟩
    · rcases keyIs_shape hv with ⟨j, u, rfl, rfl⟩ | ⟨y, u, rfl, rfl⟩
      · rw [key_ll] at h; exact wpAny_eqBool_int h
      · rw [key_lr] at h; exact SeqAt.EqAt.int_str i t y u _ _ _ _ h
    · rcases keyIs_shape hv with ⟨j, u, rfl, rfl⟩ | ⟨y, u, rfl, rfl⟩
      · rw [key_rl] at h; exact SeqAt.EqAt.str_int x t j u _ _ _ _ h
      · rw [key_rr] at h; exact wpAny_eqBool_str h
  «strs» := fun k x t v h => by
    rcases keyIs_shape h with ⟨i, u, rfl, e⟩ | ⟨y, u, rfl, e⟩
    · exact nomatch e
    · injection e with e1 _
      subst e1
      cases v <;> rfl

theorem mixKind_is (prog : Program) (w : World) (k : Key) (v : Value) : (mixKind prog w).is k v = keyIs k v := rfl
theorem mixKind_int (prog : Program) (w : World) (i : Int) (t : Tok) : (mixKind prog w).is (.inl i) (.int i t) = true := keyIs_int i t
theorem mixKind_str (prog : Program) (w : World) (x : Str) (t : Tok) : (mixKind prog w).is (.inr x) (.str x t) = true := keyIs_str x t
end L2

namespace L2
open PySem PySem.Spec PyProof.Rows

/-- a value, without the heap -/
inductive V where
  | non | bl (b : Bool) | int (i : Int) | str (x : Str) | byt (b : Array UInt8) | flt (b : UInt64) | ref (a : Addr) | ty (n : String)
  deriving DecidableEq

def RelV : V → Value → Prop
  | .non, u => u = Value.none
  | .bl b, u => u = Value.bool b
  | .int i, u => ∃ t, u = Value.int i t
  | .str x, u => ∃ t, u = Value.str x t
  | .byt b, u => ∃ t, u = Value.bytes b t
  | .flt b, u => ∃ t, u = Value.float b t
  | .ref a, u => u = Value.ref a
  | .ty n, u => u = Value.type n

abbrev Vals : List V → List Value → Prop := Paired RelV
theorem Vals.length {xs : List V} {us : List Value} (r : Vals xs us) : xs.length = us.length := Paired.length r
theorem Vals.get : ∀ {xs : List V} {us : List Value} {i : Nat} {x : V}, Vals xs us → xs[i]? = some x → ∃ u, us[i]? = some u ∧ RelV x u
  | _, _, _, _, .nil, e => by simp at e
  | _, _, 0, _, .cons r _, e => by simp at e; subst e; exact ⟨_, rfl, r⟩
  | _, _, i + 1, x, .cons _ t, e => by
    obtain ⟨u, h1, h2⟩ := Vals.get (i := i) (x := x) t (by simpa using e)
    exact ⟨u, by simpa using h1, h2⟩
theorem Vals.set {x : V} {u : Value} (r : RelV x u) : ∀ {xs : List V} {us : List Value} (i : Nat), Vals xs us → Vals (xs.set i x) (us.set i u)
  | _, _, _, .nil => .nil
  | _, _, 0, .cons _ t => .cons r t
  | _, _, i + 1, .cons q t => .cons q (Vals.set r i t)
theorem Vals.append : ∀ {xs ys : List V} {us ws : List Value}, Vals xs us → Vals ys ws → Vals (xs ++ ys) (us ++ ws)
  | _, _, _, _, .nil, s => s
  | _, _, _, _, .cons r t, s => .cons r (Vals.append t s)
theorem Vals.take : ∀ {xs : List V} {us : List Value} (n : Nat), Vals xs us → Vals (xs.take n) (us.take n)
  | _, _, 0, _ => .nil
  | _, _, _ + 1, .nil => .nil
  | _, _, n + 1, .cons r t => .cons r (Vals.take n t)
theorem Vals.drop : ∀ {xs : List V} {us : List Value} (n : Nat), Vals xs us → Vals (xs.drop n) (us.drop n)
  | _, _, 0, r => r
  | _, _, _ + 1, .nil => .nil
  | _, _, n + 1, .cons _ t => Vals.drop n t
theorem Vals.none_of : ∀ {xs : List V} {us : List Value} {i : Nat}, Vals xs us → xs[i]? = none → us[i]? = none := fun {xs us i} r e => by
  have h1 := r.length
  have h2 : xs.length ≤ i := List.getElem?_eq_none_iff.mp e
  exact List.getElem?_eq_none_iff.mpr (by omega)

def RelO : Option V → Option Value → Prop
  | some v, some u => RelV v u
  | none, none => True
  | _, _ => False
def KV {κ : Type} : List (κ × V) → List (κ × Value) → Prop := Paired fun (p : κ × V) (q : κ × Value) => p.1 = q.1 ∧ RelV p.2 q.2

/-- a key of a dict (00_mix): an int or a text -/
def kV : Key → V
  | .inl i => .int i
  | .inr x => .str x

/-- what stands at a tracked address -/
inductive HO where
  /-- a list -/
  | lst (xs : List V)
  /-- a tuple (never changes) -/
  | tup (xs : List V)
  /-- a dict whose keys are ints and texts; one whose keys are tuples of ints and texts (the empty one is both) -/
  | dK (kvs : List (Key × V)) | dT (kvs : List (List Key × V))
  /-- a set of ints: its members, its size -/
  | set (S : Int → Bool) (n : Nat)
  /-- an instance of the class at C, its dict at dx, its attributes -/
  | ins (C dx : Addr) (fs : List (Str × V))
  /-- the dict of the instance at x -/
  | own (x : Addr)
  /-- the dict of an exception -/
  | xd (fs : List (Str × V))
  /-- a bound method, f of x -/
  | met (f x : Addr)
  /-- a range object lo, lo + 1, .. below hi -/
  | rng (lo hi : Int)
  /-- a thing that is known to the object (the script; a dict while a loop walks it): read, never written while it is so -/
  | frz (o : Obj) (u : HO)
  /-- a code object's table -/
  | tbl (ps : Array Value)
  /-- any other thing, by what is true of its one object (a def of one's own: SetO a S n := HO.ext fun h => ..) -/
  | ext (φ : Heap → Prop)

abbrev Hp := Addr → Option HO
def upd (H : Hp) (a : Addr) (o : HO) : Hp := fun b => if b = a then some o else H b
theorem upd_same {H : Hp} {a : Addr} {o : HO} : upd H a o a = some o := by unfold upd; rw [if_pos rfl]
theorem upd_ne {H : Hp} {a b : Addr} {o : HO} (h : b ≠ a) : upd H a o b = H b := by unfold upd; rw [if_neg h]
theorem upd_upd {H : Hp} {a : Addr} {o u : HO} : upd (upd H a o) a u = upd H a u := by
  funext b; unfold upd; split <;> rfl
/-- two objects of different content stand apart -/
theorem ne_of {H : Hp} {a b : Addr} {o u : HO} (h : H a = some o) (h' : H b = some u) (d : o ≠ u) : a ≠ b := by
  intro e; subst e; rw [h] at h'; exact d (Option.some.inj h')
theorem ne_of_none {H : Hp} {a b : Addr} {o : HO} (h : H a = some o) (h' : H b = none) : a ≠ b := by
  intro e; subst e; rw [h] at h'; cases h'

section
variable (P : Program) (w : World)
def ObjOk (H : Hp) (h : Heap) (a : Addr) : HO → Prop
  | .lst xs => xs.length ≤ sizeLine ∧ ∃ (its : List Value) (n : Nat), Vals xs its ∧ h.get? a = some { cls := .type "list", data := .seq its.toArray n }
  | .tup xs => xs.length ≤ sizeLine ∧ ∃ its : List Value, Vals xs its ∧ IsTup h a its.toArray
  | .dK kvs => kvs.length ≤ sizeLine ∧ (a == sysModules) = false ∧ ∃ vs, KV kvs vs ∧ h.DictOf (mixKind P w) a vs
  | .dT kvs => kvs.length ≤ sizeLine ∧ (a == sysModules) = false ∧ ∃ xs : List (List Key × Addr × Value),
      Paired (fun (p : List Key × V) (q : List Key × Addr × Value) => p.1 = q.1 ∧ H q.2.1 = some (.tup (p.1.map kV)) ∧ RelV p.2 q.2.2) kvs xs ∧
      ∃ o es ep, h.get? a = some o ∧ o.ExactDict ∧ o.data = .dict es ep ∧ es.toList = xs.map (entryOfKey (tupleKind (mixKind P w))) ∧ (xs.map (·.1)).Nodup
  | .set S n => h.SetOf (intKind P w) a S n
  | .ins C dx fs => H dx = some (.own a) ∧ fs.length ≤ 1000 ∧ dx ≠ a ∧ h.get? a = some (PySem.W.instObj C dx) ∧
      ∃ mA, h.Ns1 dx mA ∧ (∀ f, RelO (fs.lookup f) (mA f)) ∧ PySem.Within mA (fs.map (·.1))
  | .own _ => ∃ o, h.get? a = some o
  | .xd fs => ∃ mA, h.Ns1 a mA ∧ ∀ f, RelO (fs.lookup f) (mA f)
  | .rng lo hi => ∃ t u v, h.get? a = some { cls := .type "range", data := .fields #[.int lo t, .int hi u, .int 1 v] }
  | .frz o u => h.get? a = some o ∧ ObjOk H h a u
  | .tbl ps => h.get? a = some { cls := .none, data := .fields ps }
  | .met f x => h.get? a = some (PySem.W.methodObj (.ref f) (.ref x))
  | .ext φ => φ h ∧ (∃ o, h.get? a = some o) ∧ ∀ h1 h2 : Heap, φ h1 → (∀ o, h1.get? a = some o → h2.get? a = some o) → φ h2
/-- the abstract heap is held -/
def HOk (H : Hp) (h : Heap) : Prop := ∀ a o, H a = some o → ObjOk P w H h a o
end

section
variable {P : Program} {w : World} {H H' : Hp} {h h' : Heap} {a : Addr} {o : HO}
theorem ObjOk.lt (x : ObjOk P w H h a o) : a < h.objs.size := by
  cases o with
  | lst xs => obtain ⟨_, _, _, _, e⟩ := x; exact Heap.lt_size e
  | tup xs => obtain ⟨_, _, _, p⟩ := x; exact p.lt
  | dK kvs => obtain ⟨_, _, _, _, o, _, _, e, _⟩ := x; exact Heap.lt_size e
  | dT kvs => obtain ⟨_, _, _, _, o, _, _, e, _⟩ := x; exact Heap.lt_size e
  | set S n => obtain ⟨o, _, _, _, e, _⟩ := x; exact Heap.lt_size e
  | ins C dx fs => obtain ⟨_, _, _, e, _⟩ := x; exact Heap.lt_size e
  | own y => obtain ⟨_, e⟩ := x; exact Heap.lt_size e
  | xd fs => obtain ⟨_, ⟨_, _, _, e, _⟩, _⟩ := x; exact Heap.lt_size e
  | rng lo hi => obtain ⟨_, _, _, e⟩ := x; exact Heap.lt_size e
  | frz ob u => obtain ⟨e, _⟩ := x; exact Heap.lt_size e
  | tbl ps => exact Heap.lt_size (show h.get? a = some _ from x)
  | met f y => exact Heap.lt_size (show h.get? a = some _ from x)
  | ext φ => obtain ⟨_, ⟨_, e⟩, _⟩ := x; exact Heap.lt_size e
theorem Paired.mapP {α β : Type} {F G : α → β → Prop} : ∀ {l₁ : List α} {l₂ : List β}, Paired F l₁ l₂ → (∀ a b, F a b → G a b) → Paired G l₁ l₂
  | _, _, .nil, _ => .nil
  | _, _, .cons r t, f => .cons (f _ _ r) (Paired.mapP t f)
theorem Paired.imp' {α β : Type} {F G : α → β → Prop} (f : ∀ a b, F a b → G a b) {l₁ : List α} {l₂ : List β} (r : Paired F l₁ l₂) : Paired G l₁ l₂ := Paired.mapP r f
/-- what an object's description leans on: its own object, its own dict, the tuples -/
theorem ObjOk.stay (x : ObjOk P w H h a o) (k : ∀ b u, (b = a ∨ H b = some (.own a)) → h.get? b = some u → h'.get? b = some u)
    (ho : ∀ b, H b = some (.own a) → H' b = some (.own a)) (ht : ∀ b xs, H b = some (.tup xs) → H' b = some (.tup xs)) : ObjOk P w H' h' a o := by
  induction o with
  | lst xs => obtain ⟨z, its, n, r, e⟩ := x; exact ⟨z, its, n, r, k _ _ (.inl rfl) e⟩
  | tup xs => obtain ⟨z, its, r, ob, e, c⟩ := x; exact ⟨z, its, r, ob, k _ _ (.inl rfl) e, c⟩
  | dK kvs => obtain ⟨z, y, vs, r, ob, es, ep, e, c⟩ := x; exact ⟨z, y, vs, r, ob, es, ep, k _ _ (.inl rfl) e, c⟩
  | dT kvs =>
    obtain ⟨z, y, xs, r, ob, es, ep, e, c⟩ := x
    exact ⟨z, y, xs, Paired.mapP r fun p q z => ⟨z.1, ht _ _ z.2.1, z.2.2⟩, ob, es, ep, k _ _ (.inl rfl) e, c⟩
  | set S n => obtain ⟨ob, es, ep, t, e, c⟩ := x; exact ⟨ob, es, ep, t, k _ _ (.inl rfl) e, c⟩
  | ins C dx fs =>
    obtain ⟨d, z, ne, e, mA, ⟨od, es, ep, e2, c⟩, r⟩ := x
    exact ⟨ho _ d, z, ne, k _ _ (.inl rfl) e, mA, ⟨od, es, ep, k _ _ (.inr d) e2, c⟩, r⟩
  | own y => obtain ⟨ob, e⟩ := x; exact ⟨ob, k _ _ (.inl rfl) e⟩
  | xd fs => obtain ⟨mA, ⟨od, es, ep, e, c⟩, r⟩ := x; exact ⟨mA, ⟨od, es, ep, k _ _ (.inl rfl) e, c⟩, r⟩
  | rng lo hi => obtain ⟨t, u, v, e⟩ := x; exact ⟨t, u, v, k _ _ (.inl rfl) e⟩
  | frz ob u ih => obtain ⟨e, q⟩ := x; exact ⟨k _ _ (.inl rfl) e, ih q⟩
  | tbl ps =>
    have e : h.get? a = some { cls := .none, data := .fields ps } := x
    show h'.get? a = some { cls := .none, data := .fields ps }
    exact k a _ (.inl rfl) e
  | met f y =>
    have e : h.get? a = some (PySem.W.methodObj (.ref f) (.ref y)) := x
    show h'.get? a = some (PySem.W.methodObj (.ref f) (.ref y))
    exact k a _ (.inl rfl) e
  | ext φ => obtain ⟨p, ⟨o, e⟩, st⟩ := x; exact ⟨st _ _ p fun o q => k _ _ (.inl rfl) q, ⟨o, k _ _ (.inl rfl) e⟩, st⟩
theorem HOk.lt (x : HOk P w H h) (e : H a = some o) : a < h.objs.size := (x a o e).lt
theorem HOk.fresh (x : HOk P w H h) (e : h.objs.size ≤ a) : H a = none := by
  cases q : H a with
  | none => rfl
  | some u => exact absurd (Nat.lt_of_lt_of_le (x.lt q) e) (Nat.lt_irrefl _)
/-- every object of the heap is kept -/
theorem HOk.kept (x : HOk P w H h) (k : ∀ b u, h.get? b = some u → h'.get? b = some u) : HOk P w H h' := fun a o e =>
  (x a o e).stay (fun b u _ q => k b u q) (fun _ q => q) fun _ _ q => q
/-- a new object is laid and tracked -/
theorem HOk.laid (x : HOk P w H h) (k : ∀ b u, h.get? b = some u → h'.get? b = some u) (hp : h.objs.size ≤ a) (new : ObjOk P w (upd H a o) h' a o) : HOk P w (upd H a o) h' := fun b u e => by
  have hn := x.fresh hp
  by_cases hb : b = a
  · subst hb; rw [upd_same] at e; cases e; exact new
  · rw [upd_ne hb] at e
    exact (x b u e).stay (fun c v _ q => k c v q) (fun c q => by rw [upd_ne (ne_of_none q hn)]; exact q) fun c xs q => by rw [upd_ne (ne_of_none q hn)]; exact q
end

/-- what may be read as u: it is u, or a known u -/
def Rd (H : Hp) (a : Addr) (u : HO) : Prop := H a = some u ∨ ∃ o, H a = some (.frz o u)
theorem Rd.of {H : Hp} {a : Addr} {u : HO} (h : H a = some u) : Rd H a u := .inl h
theorem Rd.ok {P : Program} {w : World} {H : Hp} {h : Heap} {a : Addr} {u : HO} (r : Rd H a u) (x : HOk P w H h) : ObjOk P w H h a u := by
  rcases r with r | ⟨o, r⟩
  · exact x a u r
  · obtain ⟨_, q⟩ := x a _ r
    exact q
/-- what may be written -/
def Mut : Option HO → Prop
  | some (.lst _) => True
  | some (.dK _) => True
  | some (.dT _) => True
  | some (.set _ _) => True
  | some (.ins _ _ _) => True
  | some (.ext _) => True
  | _ => False
section
variable {P : Program} {w : World} {H : Hp} {h h' : Heap} {x e : Addr} {o' : HO}
/-- the object at e is changed: x itself, or the dict of the instance x -/
theorem HOk.write (ok : HOk P w H h) (mu : Mut (H x)) (he : e = x ∨ H e = some (.own x)) (k : ∀ b u, b ≠ e → h.get? b = some u → h'.get? b = some u) (heo : ∃ u, h'.get? e = some u)
    (new : ObjOk P w (upd H x o') h' x o') : HOk P w (upd H x o') h' := fun b u q => by
  have nown : ∀ c y, H c = some (.own y) → c ≠ x := fun c y r z => by subst z; rw [r] at mu; exact mu
  have ntup : ∀ c xs, H c = some (.tup xs) → c ≠ x := fun c xs r z => by subst z; rw [r] at mu; exact mu
  by_cases hb : b = x
  · subst hb; rw [upd_same] at q; cases q; exact new
  · rw [upd_ne hb] at q
    by_cases hbe : b = e
    · have q' : H b = some (.own x) := by
        rcases he with z | z
        · exact absurd (hbe.trans z) hb
        · rw [hbe]; exact z
      rw [q] at q'; cases q'
      obtain ⟨v, hv⟩ := heo
      exact ⟨v, by rw [hbe]; exact hv⟩
    · refine (ok b u q).stay (fun c v hc r => k c v ?_ r) (fun c r => by rw [upd_ne (nown c b r)]; exact r) fun c xs r => by rw [upd_ne (ntup c xs r)]; exact r
      rcases hc with rfl | hc
      · exact hbe
      · rintro rfl
        rcases he with z | z
        · exact nown c b hc z
        · rw [hc] at z; cases z; exact hb rfl
end

/-! ### kept unless tracked; of the frames at fs (the callers') the slots may change (an exception that passes writes there); of the records at ex (iterators) nothing is said -/
structure Un (fs ex : List Addr) (H H' : Hp) (h h' : Heap) : Prop where
  keep : ∀ b o, h.get? b = some o → H b = none → b ∉ fs → b ∉ ex → h'.get? b = some o
  slot : ∀ b o, h.get? b = some o → H b = none → b ∈ fs → b ∉ ex → ∃ sl, h'.get? b = some { o with slots := sl }
  free : ∀ b o, h.get? b = some o → H b = none → b ∉ ex → H' b = none
  there : ∀ b o, h.get? b = some o → b ∉ ex → ∃ o', h'.get? b = some o'
  tups : ∀ b xs, H b = some (.tup xs) → H' b = some (.tup xs)
  frzs : ∀ b o u, H b = some (.frz o u) → H' b = some (.frz o u)
  tbls : ∀ b ps, H b = some (.tbl ps) → ∃ more, H' b = some (.tbl (ps ++ more))
section
variable {fs fs' ex ex' : List Addr} {H H1 H2 : Hp} {h h1 h2 h' : Heap} {a x e : Addr} {o : HO}
theorem Un.any (u : Un fs ex H H1 h h1) {b : Addr} {ob : Obj} (q : h.get? b = some ob) (n : H b = none) (hx : b ∉ ex) : ∃ sl, h1.get? b = some { ob with slots := sl } := by
  by_cases hb : b ∈ fs
  · exact u.slot b ob q n hb hx
  · exact ⟨ob.slots, u.keep b ob q n hb hx⟩
theorem Un.trans (a : Un fs ex H H1 h h1) (b : Un fs ex H1 H2 h1 h2) : Un fs ex H H2 h h2 where
  keep := fun c ob q n hc hx => b.keep c ob (a.keep c ob q n hc hx) (a.free c ob q n hx) hc hx
  slot := fun c ob q n hc hx => by
    obtain ⟨sl, e1⟩ := a.slot c ob q n hc hx
    obtain ⟨sl', e2⟩ := b.slot c _ e1 (a.free c ob q n hx) hc hx
    exact ⟨sl', e2⟩
  free := fun c ob q n hx => by
    obtain ⟨o', e1⟩ := a.there c ob q hx
    exact b.free c o' e1 (a.free c ob q n hx) hx
  there := fun c ob q hx => by
    obtain ⟨o', e1⟩ := a.there c ob q hx
    exact b.there c o' e1 hx
  tups := fun c xs q => b.tups c xs (a.tups c xs q)
  frzs := fun c ob xs q => b.frzs c ob xs (a.frzs c ob xs q)
  tbls := fun c ps q => by
    obtain ⟨m1, e1⟩ := a.tbls c ps q
    obtain ⟨m2, e2⟩ := b.tbls c _ e1
    exact ⟨m1 ++ m2, by rw [e2, Array.append_assoc]⟩
theorem Un.kept (k : ∀ b u, h.get? b = some u → h'.get? b = some u) : Un fs ex H H h h' :=
  ⟨fun b ob q _ _ _ => k b ob q, fun b ob q _ _ _ => ⟨ob.slots, k b ob q⟩, fun _ _ _ n _ => n, fun b ob q _ => ⟨ob, k b ob q⟩, fun _ _ q => q, fun _ _ _ q => q, fun _ ps q => ⟨#[], by rw [q]; simp⟩⟩
theorem Un.refl : Un fs ex H H h h := Un.kept fun _ _ q => q
theorem Un.laid (k : ∀ b u, h.get? b = some u → h'.get? b = some u) (hp : h.objs.size ≤ a) (hn : H a = none) : Un fs ex H (upd H a o) h h' where
  keep := fun b u q _ _ _ => k b u q
  slot := fun b u q _ _ _ => ⟨u.slots, k b u q⟩
  free := fun b u q n _ => by rw [upd_ne (Nat.ne_of_lt (Nat.lt_of_lt_of_le (Heap.lt_size q) hp))]; exact n
  there := fun b u q _ => ⟨u, k b u q⟩
  tups := fun b xs q => by rw [upd_ne (ne_of_none q hn)]; exact q
  frzs := fun b u xs q => by rw [upd_ne (ne_of_none q hn)]; exact q
  tbls := fun b ps q => ⟨#[], by rw [upd_ne (ne_of_none q hn), q]; simp⟩
theorem Un.write (mu : Mut (H x)) (he : e = x ∨ H e = some (.own x)) (k : ∀ b u, b ≠ e → h.get? b = some u → h'.get? b = some u) (heo : ∃ u, h'.get? e = some u) : Un fs ex H (upd H x o) h h' := by
  have hx : ∀ b, H b = none → b ≠ x := fun b n z => by subst z; rw [n] at mu; exact mu
  have hb : ∀ b, H b = none → b ≠ e := fun b n z => by
    subst z
    rcases he with r | r
    · exact hx b n r
    · rw [n] at r; cases r
  have hm : ∀ b u, H b = some u → ¬ Mut (some u) → b ≠ x := fun b u q nm z => by subst z; rw [q] at mu; exact nm mu
  refine ⟨fun b u q n _ _ => k b u (hb b n) q, fun b u q n _ _ => ⟨u.slots, k b u (hb b n) q⟩, fun b u q n _ => by rw [upd_ne (hx b n)]; exact n, fun b u q _ => ?_,
    fun b xs q => by rw [upd_ne (hm b _ q fun z => z)]; exact q, fun b u xs q => by rw [upd_ne (hm b _ q fun z => z)]; exact q, fun b ps q => ⟨#[], by rw [upd_ne (hm b _ q fun z => z), q]; simp⟩⟩
  by_cases hbe : b = e
  · subst hbe; exact heo
  · exact ⟨u, k b u hbe q⟩
theorem Un.mono (u : Un fs ex H H1 h h1) (hs : ∀ b ∈ fs, b ∈ fs') (hx : ∀ b ∈ ex, b ∈ ex') : Un fs' ex' H H1 h h1 :=
  ⟨fun b ob q n hb he => u.keep b ob q n (fun z => hb (hs b z)) fun z => he (hx b z), fun _ _ q n _ he => u.any q n fun z => he (hx _ z), fun b ob q n he => u.free b ob q n fun z => he (hx b z), fun b ob q he => u.there b ob q fun z => he (hx b z), u.tups, u.frzs, u.tbls⟩
end

/-! ### the heap without what is tracked -/
def trk (h : Heap) (H : Hp) : List Addr := (List.range h.objs.size).filter fun a => (H a).isSome
def hidT (h : Heap) (H : Hp) : Heap := PySem.W.hideAll h (trk h H)
theorem hidT_size (h : Heap) (H : Hp) : (hidT h H).objs.size = h.objs.size := PySem.W.hideAll_size _ _
theorem hidT_get {h : Heap} {H : Hp} {b : Addr} {o : Obj} (e : h.get? b = some o) (n : H b = none) : (hidT h H).get? b = some o :=
  PySem.W.hideAll_get _ e fun hm => by
    have q : (H b).isSome = true := (List.mem_filter.mp hm).2
    rw [n] at q; simp at q
theorem of_hidT {h : Heap} {H : Hp} {b : Addr} {o : Obj} (e : (hidT h H).get? b = some o) : h.get? b = some o ∧ H b = none := by
  have e' : h.get? b = some o := PySem.W.of_hideAll (trk h H) e
  refine ⟨e', ?_⟩
  cases q : H b with
  | none => rfl
  | some x =>
    have hm : b ∈ trk h H := List.mem_filter.mpr ⟨List.mem_range.mpr (Heap.lt_size e'), by simp [q]⟩
    have z : (hidT h H).get? b = none := PySem.W.hideAll_none (trk h H) hm
    rw [z] at e; cases e

/-! ### OpenK's ledger, filled with every new object but one -/
def allNews (g h : Heap) (L : Addr) : List (Addr × Obj) := (List.range h.objs.size).filterMap fun a => if a = L ∨ (g.get? a).isSome = true then none else (h.get? a).map fun o => (a, o)
theorem mem_allNews {g h : Heap} {L a : Addr} {o : Obj} (h1 : a ≠ L) (h2 : g.get? a = none) (h3 : h.get? a = some o) : (a, o) ∈ allNews g h L :=
  List.mem_filterMap.mpr ⟨a, List.mem_range.mpr (Heap.lt_size h3), by simp [h1, h2, h3]⟩
theorem of_mem_allNews {g h : Heap} {L : Addr} {p : Addr × Obj} (hp : p ∈ allNews g h L) : p.1 ≠ L ∧ g.get? p.1 = none ∧ h.get? p.1 = some p.2 := by
  obtain ⟨b, _, e⟩ := List.mem_filterMap.mp hp
  split at e
  · cases e
  · rename_i hn
    cases q : h.get? b with
    | none => rw [q] at e; simp at e
    | some u =>
      rw [q] at e
      simp only [Option.map_some, Option.some.injEq] at e
      subst e
      refine ⟨fun z => hn (.inl z), ?_, q⟩
      show g.get? b = none
      cases r : g.get? b with
      | none => rfl
      | some v => exact (hn (.inr (by simp [r]))).elim
def rest (g h : Heap) (L d : Addr) : List (Addr × Obj) := (allNews g h L).filter fun p => decide (p.1 ≠ d)
theorem rest_ne {g h : Heap} {L d : Addr} : ∀ p ∈ rest g h L d, p.1 ≠ d := fun p hp => of_decide_eq_true (List.mem_filter.mp hp).2
theorem mem_rest {g h : Heap} {L d a : Addr} {o : Obj} (h1 : a ≠ L) (h2 : g.get? a = none) (h3 : h.get? a = some o) (h4 : a ≠ d) : (a, o) ∈ rest g h L d :=
  List.mem_filter.mpr ⟨mem_allNews h1 h2 h3, decide_eq_true h4⟩
theorem news_all {g h : Heap} {L : Addr} : News g L h (allNews g h L) := fun p hp => let ⟨a, b, c⟩ := of_mem_allNews hp; ⟨c, a, b⟩
theorem news_at {g h : Heap} {L d : Addr} {o : Obj} (h1 : d ≠ L) (h2 : g.get? d = none) (h3 : h.get? d = some o) : News g L h ((d, o) :: rest g h L d) := fun p hp => by
  rcases List.mem_cons.mp hp with rfl | hp
  · exact ⟨h3, h1, h2⟩
  · exact news_all p (List.mem_filter.mp hp).1
/-- behind a rule that changed d alone: all else but the frame is kept -/
theorem kept_of_news {g h h' : Heap} {L d : Addr} {m : Str → Option Value} (k : ∀ b o, g.get? b = some o → h.get? b = some o) (F : Fr g L h' m) (N : News g L h' (rest g h L d)) :
    ∀ b o, b ≠ L → b ≠ d → h.get? b = some o → h'.get? b = some o := fun b o h1 h2 e => by
  cases q : g.get? b with
  | some u =>
    have := k b u q
    rw [e] at this; cases this
    exact F.keep b _ q
  | none => exact (N (b, o) (mem_rest h1 q e h2)).1
end L2

namespace L2
open PySem PySem.Spec PyProof.Rows

/-- the module's facts, over the base: the heap at the law's entry without what is tracked there -/
structure Mod (K : PySem.W.Frag) (mg : Str → Option Value) (base : Heap) : Prop where
  kin : K.In base
  glob : base.Ns mainGlobals mg
  blt : ∃ mb, base.Ns builtinsNs mb ∧ ∀ x : Str, x ≠ "__name__" → mb x = bootBuiltins x
  nolimit : base.NoLimit
  seer : base.NoSeer
  digits : base.NoDigits

/-- the context: a def's body (or a comprehension's block) running. base: fixed through the whole law; s₀, H₀: the entry; outer: the frames whose slots others may change (a def's callers); stack: all frames that run;
   ex: iterators that were made ahead of the entry and are walked here (a comprehension's); fn: the names whose cells were made at the entry (a def: all; a comprehension's block: its own); calm: not within an except suite; pn: pins that every state bears; xe: what is wanted of an exception that leaves the code -/
structure Cx where
  prog : Program
  w : World
  K : PySem.W.Frag
  mg : Str → Option Value
  base : Heap
  A : Around
  N : List Str
  s_0 : Shared
  H_0 : Hp
  env : Env
  outer : List Env
  stack : List Env
  ex : List Addr
  fn : Str → Bool
  calm : Bool
  pn : List (Addr × Obj)
  xe : Value → Shared → Prop
/-- the callers' frames -/
def frs (l : List Env) : List Addr := l.filterMap (·.frame)
abbrev Cx.fs (X : Cx) : List Addr := frs X.outer

def Vis (sc : Scope) (x : Str) : Prop := sc.names.lookup x = some .local ∨ sc.names.lookup x = some .cell ∨ sc.names.lookup x = some .free
def Loc (sc : Scope) (x : Str) : Prop := sc.names.lookup x = some .local ∨ sc.names.lookup x = some .cell
def Look (env : Env) (h : Heap) (m : Str → Option Value) (x : Str) (u : Value) : Prop :=
  (env.kindOf x = some .local ∧ m x = some u) ∨ ((env.kindOf x = some .cell ∨ env.kindOf x = some .free) ∧ ∃ c, env.cells.lookup x = some c ∧ h.IsCell c (some u))

structure Cx.Ok (X : Cx) : Prop where
  mod : Mod X.K X.mg X.base
  kind : X.env.scope.kind = .function
  glob : X.env.globals = mainGlobals
  blt : X.env.builtins = builtinsNs
  above : X.s_0.heap.objs.size ≤ X.env.locals
  inj : ∀ x y c, X.env.cells.lookup x = some c → X.env.cells.lookup y = some c → x = y
  has : ∀ x, (X.env.kindOf x = some .cell ∨ X.env.kindOf x = some .free) → ∃ c, X.env.cells.lookup x = some c
  cab : ∀ x c, X.fn x = true → X.env.cells.lookup x = some c → X.s_0.heap.objs.size ≤ c
  hd : X.calm = true → X.A.handled = none
  frames : X.A.frames = some X.stack
  stk : X.stack = X.outer ∨ (X.stack = X.env :: X.outer ∧ X.env.frame = some X.env.locals)
  exf : ∀ b ∈ X.ex, b ≠ X.env.locals ∧ ∀ x c, X.env.cells.lookup x = some c → c ≠ b
  bs : ∀ b o, X.base.get? b = some o → X.s_0.heap.get? b = some o ∧ X.H_0 b = none
  bsz : X.base.objs.size ≤ X.s_0.heap.objs.size
  noex : ∀ b o, X.base.get? b = some o → b ∉ X.ex
  exfs : ∀ b ∈ X.ex, b ∉ X.fs
  funs : X.s_0.heap.FunFrames X.base X.outer
  frf : ∀ b ∈ X.fs, X.H_0 b = none

structure Inv (X : Cx) (pins : List (Addr × Obj)) (σ : List (Option V)) (H : Hp) (s : Shared) : Prop where
  ok : X.Ok
  os : s.os = X.s_0.os
  bare : AllBare s.gens
  base : Un X.fs X.ex X.H_0 H X.s_0.heap s.heap
  loc : ∃ m, s.heap.Ns X.env.locals m ∧ ∀ (i : Nat) (x : Str) (v : V), X.N[i]? = some x → σ[i]? = some (some v) → Vis X.env.scope x → ∃ u, RelV v u ∧ Look X.env s.heap m x u
  cell : ∀ x c, X.env.cells.lookup x = some c → ∃ v, s.heap.IsCell c v
  free : H X.env.locals = none
  freeC : ∀ x c, X.env.cells.lookup x = some c → H c = none
  pin : ∀ p ∈ X.pn ++ pins, s.heap.get? p.1 = some p.2 ∧ H p.1 = none ∧ p.1 ≠ X.env.locals ∧ p.1 ∉ X.fs ∧ ∀ v, p.2.data ≠ .cell v
  hok : HOk X.prog X.w H s.heap
  len : σ.length = X.N.length

section
variable {X : Cx} {pins : List (Addr × Obj)} {σ : List (Option V)} {H H' : Hp} {s : Shared} {h' : Heap}

theorem Cx.Ok.nofr (ok : X.Ok) {b : Addr} {o : Obj} (e : X.base.get? b = some o) : b ∉ X.fs := fun hb => by
  have := (ok.funs.mem hb).1
  rw [e] at this; cases this
theorem Inv.bs (I : Inv X pins σ H s) : ∀ b o, X.base.get? b = some o → s.heap.get? b = some o ∧ H b = none := fun b o e =>
  ⟨I.base.keep b o (I.ok.bs b o e).1 (I.ok.bs b o e).2 (I.ok.nofr e) (I.ok.noex b o e), I.base.free b o (I.ok.bs b o e).1 (I.ok.bs b o e).2 (I.ok.noex b o e)⟩
theorem Inv.bk (I : Inv X pins σ H s) : ∀ b o, X.base.get? b = some o → s.heap.get? b = some o := fun b o e => (I.bs b o e).1
theorem Inv.mod (I : Inv X pins σ H s) : Mod X.K X.mg X.base := I.ok.mod
theorem Inv.kIn (I : Inv X pins σ H s) : X.K.In s.heap := I.ok.mod.kin.keeps I.bk
theorem Inv.nolimit (I : Inv X pins σ H s) : s.heap.NoLimit := I.ok.mod.nolimit.keeps I.bk
/-- the frame over the base: for OpenK's rules (K.In X.base is I.mod.kin) -/
theorem Inv.fr (I : Inv X pins σ H s) : ∃ m, Fr X.base X.env.locals s.heap m :=
  let ⟨m, hn, _⟩ := I.loc
  ⟨m, hn, I.bk, Nat.le_trans I.ok.bsz I.ok.above⟩
theorem Inv.lt (I : Inv X pins σ H s) : X.env.locals < s.heap.objs.size := let ⟨_, hn, _⟩ := I.loc; hn.lt
theorem Inv.sz (I : Inv X pins σ H s) : X.s_0.heap.objs.size ≤ s.heap.objs.size := Nat.le_trans I.ok.above (Nat.le_of_lt I.lt)
theorem Inv.nofs (I : Inv X pins σ H s) {a : Addr} (h : s.heap.objs.size ≤ a) : a ∉ X.fs := fun hb => by
  obtain ⟨_, o, ho, _⟩ := I.ok.funs.mem hb
  exact absurd (Nat.lt_of_lt_of_le (Heap.lt_size ho) (Nat.le_trans I.sz h)) (Nat.lt_irrefl _)
theorem Inv.cne (I : Inv X pins σ H s) : ∀ x c, X.env.cells.lookup x = some c → c ≠ X.env.locals := fun x c e z => by
  obtain ⟨v, o, ho, hd⟩ := I.cell x c e
  obtain ⟨m, ⟨o', es, ep, ho', hd', _⟩, _⟩ := I.loc
  rw [z, ho'] at ho; cases ho; rw [hd'] at hd; cases hd
theorem Inv.funs (I : Inv X pins σ H s) : s.heap.FunFrames X.base X.outer := by
  have all : ∀ (l : List Env), (∀ b ∈ frs l, b ∈ X.fs) → X.s_0.heap.FunFrames X.base l → s.heap.FunFrames X.base l := by
    intro l
    induction l with
    | nil => intro _ _; trivial
    | cons env r ih =>
      intro hs hl
      obtain ⟨hk, ⟨L, o, hf, hn, ho, hd⟩, hr⟩ := hl
      have hL : L ∈ X.fs := hs L (by unfold frs; rw [List.filterMap_cons, hf]; exact List.mem_cons_self)
      obtain ⟨sl, e⟩ := I.base.slot L o ho (I.ok.frf L hL) hL fun z => I.ok.exfs L z hL
      exact ⟨hk, ⟨L, _, hf, hn, e, hd⟩, ih (fun b hb => hs b (by unfold frs; rw [List.filterMap_cons, hf]; exact List.mem_cons_of_mem _ hb)) hr⟩
  exact all X.outer (fun _ hb => hb) I.ok.funs

/-- the frames that run, for a call -/
theorem Inv.stack (I : Inv X pins σ H s) : s.heap.FunFrames X.base X.stack := by
  rcases I.ok.stk with e | ⟨e, hf⟩
  · rw [e]; exact I.funs
  · rw [e]
    obtain ⟨m, hn, _⟩ := I.loc
    refine .cons (by rw [I.ok.kind]; decide) hf hn ?_ I.funs
    exact Heap.get?_none_of_le (Nat.le_trans I.ok.bsz I.ok.above)
theorem Inv.stkSub (I : Inv X pins σ H s) : ∀ b ∈ frs X.stack, b ∈ X.env.locals :: X.fs := fun b hb => by
  rcases I.ok.stk with e | ⟨e, hf⟩
  · rw [e] at hb; exact List.mem_cons_of_mem _ hb
  · rw [e] at hb
    unfold frs at hb
    rw [List.filterMap_cons, hf] at hb
    exact hb
theorem Inv.stkFree (I : Inv X pins σ H s) : ∀ b ∈ frs X.stack, H b = none := fun b hb => by
  rcases List.mem_cons.mp (I.stkSub b hb) with e | hb
  · rw [e]; exact I.free
  · obtain ⟨_, o, ho, _⟩ := I.ok.funs.mem hb
    exact I.base.free b o ho (I.ok.frf b hb) fun z => I.ok.exfs b z hb

/-- THE STEP: the untracked objects but the frame and the records at ch are kept (the callers' frames up to slots), the frame's map is kept, the new abstract heap is held -/
theorem Inv.step {g' : Array GenState} {t' : Nat} {d' : Drawn} {ch : List Addr} (I : Inv X pins σ H s)
    (hch : ∀ b ∈ ch, (b ∈ X.ex ∨ X.s_0.heap.objs.size ≤ b) ∧ b ≠ X.env.locals ∧ (∀ x c, X.env.cells.lookup x = some c → c ≠ b) ∧ ∀ p ∈ X.pn ++ pins, p.1 ≠ b)
    (keep : ∀ b o, b ≠ X.env.locals → b ∉ X.fs → b ∉ ch → s.heap.get? b = some o → H b = none → h'.get? b = some o)
    (slot : ∀ b o, b ≠ X.env.locals → b ∈ X.fs → b ∉ ch → s.heap.get? b = some o → H b = none → ∃ sl, h'.get? b = some { o with slots := sl }) (free : ∀ b o, b ∉ ch → s.heap.get? b = some o → H b = none → H' b = none)
    (there : ∀ b o, b ∉ ch → s.heap.get? b = some o → ∃ o', h'.get? b = some o')
    (tups : ∀ b xs, H b = some (.tup xs) → H' b = some (.tup xs)) (frzs : ∀ b o u, H b = some (.frz o u) → H' b = some (.frz o u)) (tbls : ∀ b ps, H b = some (.tbl ps) → ∃ more, H' b = some (.tbl (ps ++ more)))
    (ns : ∀ m, s.heap.Ns X.env.locals m → h'.Ns X.env.locals m) (hok : HOk X.prog X.w H' h') (hg : AllBare g') :
    Inv X pins σ H' { s with heap := h', gens := g', drawn := d', toks := t' } := by
  have neL : ∀ b o, X.s_0.heap.get? b = some o → b ≠ X.env.locals := fun b o e => Nat.ne_of_lt (Nat.lt_of_lt_of_le (Heap.lt_size e) I.ok.above)
  have neC : ∀ b o, X.s_0.heap.get? b = some o → b ∉ X.ex → b ∉ ch := fun b o e hx hb => by
    rcases (hch b hb).1 with z | z
    · exact hx z
    · exact absurd (Nat.lt_of_lt_of_le (Heap.lt_size e) z) (Nat.lt_irrefl _)
  have cellK : ∀ x c, X.env.cells.lookup x = some c → ∀ v, s.heap.IsCell c v → h'.IsCell c v := fun x c e v ⟨o, ho, hd⟩ => by
    have nch : c ∉ ch := fun z => (hch c z).2.2.1 x c e rfl
    by_cases hc : c ∈ X.fs
    · obtain ⟨sl, q⟩ := slot c o (I.cne x c e) hc nch ho (I.freeC x c e)
      exact ⟨_, q, hd⟩
    · exact ⟨o, keep c o (I.cne x c e) hc nch ho (I.freeC x c e), hd⟩
  refine ⟨I.ok, I.os, hg, ⟨fun b o e n hb hx => ?_, fun b o e n hb hx => ?_, fun b o e n hx => ?_, fun b o e hx => ?_, fun b xs e => tups b xs (I.base.tups b xs e), fun b o xs e => frzs b o xs (I.base.frzs b o xs e), fun b ps e => ?_⟩, ?_, fun x c e => ?_, ?_, fun x c e => ?_, fun p hp => ?_, hok, I.len⟩
  · exact keep b o (neL b o e) hb (neC b o e hx) (I.base.keep b o e n hb hx) (I.base.free b o e n hx)
  · obtain ⟨sl, e1⟩ := I.base.slot b o e n hb hx
    obtain ⟨sl', e2⟩ := slot b _ (neL b o e) hb (neC b o e hx) e1 (I.base.free b o e n hx)
    exact ⟨sl', e2⟩
  · obtain ⟨o', e1⟩ := I.base.there b o e hx
    exact free b o' (neC b o e hx) e1 (I.base.free b o e n hx)
  · obtain ⟨o', e1⟩ := I.base.there b o e hx
    exact there b o' (neC b o e hx) e1
  · obtain ⟨m1, e1⟩ := I.base.tbls b ps e
    obtain ⟨m2, e2⟩ := tbls b _ e1
    exact ⟨m1 ++ m2, by rw [e2, Array.append_assoc]⟩
  · obtain ⟨m, hn, hl⟩ := I.loc
    refine ⟨m, ns m hn, fun i x v e1 e2 e3 => ?_⟩
    obtain ⟨u, r, l⟩ := hl i x v e1 e2 e3
    refine ⟨u, r, ?_⟩
    rcases l with l | ⟨k, c, e, z⟩
    · exact .inl l
    · exact .inr ⟨k, c, e, cellK x c e _ z⟩
  · obtain ⟨v, z⟩ := I.cell x c e
    exact ⟨v, cellK x c e v z⟩
  · obtain ⟨m, ⟨o, _, _, ho, _⟩, _⟩ := I.loc
    exact free _ o (fun z => (hch _ z).2.1 rfl) ho I.free
  · obtain ⟨v, o, ho, hd⟩ := I.cell x c e
    exact free c o (fun z => (hch c z).2.2.1 x c e rfl) ho (I.freeC x c e)
  · obtain ⟨e, n, ne, nf, d⟩ := I.pin p hp
    have nch : p.1 ∉ ch := fun z => (hch p.1 z).2.2.2 p hp rfl
    exact ⟨keep p.1 p.2 ne nf nch e n, free p.1 p.2 nch e n, ne, nf, d⟩
/-- .. where the frame's own object is kept too -/
theorem Inv.un {t' : Nat} (I : Inv X pins σ H s) (u : Un X.fs [] H H' s.heap h') (hok : HOk X.prog X.w H' h') : Inv X pins σ H' { s with heap := h', toks := t' } := by
  obtain ⟨m, ⟨o, es, ep, ho, r⟩, _⟩ := id I.loc
  obtain ⟨sl, hL⟩ := u.any ho I.free (by simp)
  exact I.step (g' := s.gens) (d' := s.drawn) (ch := []) (fun _ z => nomatch z) (fun b o _ hb _ e n => u.keep b o e n hb (by simp)) (fun b o _ hb _ e n => u.slot b o e n hb (by simp)) (fun b o _ e n => u.free b o e n (by simp)) (fun b o _ e => u.there b o e (by simp)) u.tups u.frzs u.tbls (fun m' hm => by
    obtain ⟨o', es', ep', ho', r'⟩ := hm
    rw [ho] at ho'; cases ho'
    exact ⟨_, es', ep', hL, r'⟩) hok I.bare
/-- behind a call (or a comprehension's block): the slots of this frame may have changed too, the records at ch may have turned -/
theorem Inv.call {g' : Array GenState} {t' : Nat} {d' : Drawn} {ch : List Addr} (I : Inv X pins σ H s) (u : Un (frs X.stack) ch H H' s.heap h') (hok : HOk X.prog X.w H' h') (hg : AllBare g')
    (hch : ∀ b ∈ ch, (b ∈ X.ex ∨ X.s_0.heap.objs.size ≤ b) ∧ b ≠ X.env.locals ∧ (∀ x c, X.env.cells.lookup x = some c → c ≠ b) ∧ ∀ p ∈ X.pn ++ pins, p.1 ≠ b) :
    Inv X pins σ H' { s with heap := h', gens := g', drawn := d', toks := t' } := by
  obtain ⟨m, ⟨o, es, ep, ho, r⟩, _⟩ := id I.loc
  obtain ⟨sl, hL⟩ := u.any ho I.free fun z => (hch _ z).2.1 rfl
  exact I.step (ch := ch) hch (fun b o hL hb hc e n => u.keep b o e n (fun z => (List.mem_cons.mp (I.stkSub b z)).elim hL hb) hc) (fun b o _ _ hc e n => u.any e n hc) (fun b o hc e n => u.free b o e n hc) (fun b o hc e => u.there b o e hc) u.tups u.frzs u.tbls (fun m' hm => by
    obtain ⟨o', es', ep', ho', r'⟩ := hm
    rw [ho] at ho'; cases ho'
    exact ⟨_, es', ep', hL, r'⟩) hok hg
/-- an untracked record of ours (an iterator) has turned -/
theorem Inv.turned {t' : Nat} {it : Addr} (I : Inv X pins σ H s) (k : ∀ b o, b ≠ it → s.heap.get? b = some o → h'.get? b = some o) (hn : H it = none) (hL : it ≠ X.env.locals)
    (h1 : it ∈ X.ex ∨ X.s_0.heap.objs.size ≤ it) (h2 : ∀ x c, X.env.cells.lookup x = some c → c ≠ it) (h3 : ∀ p ∈ X.pn ++ pins, p.1 ≠ it) : Inv X pins σ H { s with heap := h', toks := t' } := by
  have nit : ∀ b u, H b = some u → b ≠ it := fun b u e z => by rw [z, hn] at e; cases e
  refine I.step (g' := s.gens) (d' := s.drawn) (ch := [it]) (fun b hb => ?_) (fun b o _ _ hc e _ => k b o (fun z => hc (by simp [z])) e) (fun b o _ _ hc e _ => ⟨o.slots, k b o (fun z => hc (by simp [z])) e⟩) (fun _ _ _ _ n => n)
    (fun b o hc e => ⟨o, k b o (fun z => hc (by simp [z])) e⟩) (fun _ _ e => e) (fun _ _ _ e => e) (fun b ps e => ⟨#[], by rw [e]; simp⟩) (fun m hm => ?_) (fun b u e => ?_) I.bare
  · have e : b = it := by simpa using hb
    subst e
    exact ⟨h1, hL, h2, h3⟩
  · obtain ⟨o, es, ep, ho, r⟩ := hm
    exact ⟨o, es, ep, k _ o (Ne.symm hL) ho, r⟩
  · refine (I.hok b u e).stay (fun c v hc q => k c v ?_ q) (fun _ q => q) fun _ _ q => q
    rcases hc with z | z
    · rw [z]; exact nit b u e
    · exact nit c _ z
theorem Inv.tok (I : Inv X pins σ H s) (t : Nat) : Inv X pins σ H { s with toks := t } := I.un (h' := s.heap) (t' := t) Un.refl I.hok
/-- all objects kept -/
theorem Inv.kept {t' : Nat} (I : Inv X pins σ H s) (k : ∀ b u, s.heap.get? b = some u → h'.get? b = some u) : Inv X pins σ H { s with heap := h', toks := t' } := I.un (Un.kept k) (I.hok.kept k)
/-- a new object laid and tracked -/
theorem Inv.laid {a : Addr} {o : HO} {t' : Nat} (I : Inv X pins σ H s) (k : ∀ b u, s.heap.get? b = some u → h'.get? b = some u) (hp : s.heap.objs.size ≤ a) (new : ObjOk X.prog X.w (upd H a o) h' a o) :
    Inv X pins σ (upd H a o) { s with heap := h', toks := t' } := I.un (Un.laid k hp (I.hok.fresh hp)) (I.hok.laid k hp new)
/-- an object written -/
theorem Inv.write {x e : Addr} {o : HO} {t' : Nat} (I : Inv X pins σ H s) (mu : Mut (H x)) (he : e = x ∨ H e = some (.own x)) (k : ∀ b u, b ≠ e → s.heap.get? b = some u → h'.get? b = some u) (heo : ∃ u, h'.get? e = some u)
    (new : ObjOk X.prog X.w (upd H x o) h' x o) : Inv X pins σ (upd H x o) { s with heap := h', toks := t' } := I.un (Un.write mu he k heo) (I.hok.write mu he k heo new)
/-- forgetting slots, pins -/
theorem Inv.weak {σ' : List (Option V)} (I : Inv X pins σ H s) (hl : σ'.length = σ.length) (w : ∀ (i : Nat) v, σ'[i]? = some (some v) → σ[i]? = some (some v)) : Inv X pins σ' H s :=
  ⟨I.ok, I.os, I.bare, I.base, let ⟨m, hn, hl'⟩ := I.loc; ⟨m, hn, fun i x v e1 e2 e3 => hl' i x v e1 (w i v e2) e3⟩, I.cell, I.free, I.freeC, I.pin, I.hok, hl.trans I.len⟩
theorem Inv.pins_of {pins' : List (Addr × Obj)} (I : Inv X pins σ H s) (h : ∀ p ∈ pins', s.heap.get? p.1 = some p.2 ∧ H p.1 = none ∧ p.1 ≠ X.env.locals ∧ p.1 ∉ X.fs ∧ ∀ v, p.2.data ≠ .cell v) : Inv X pins' σ H s :=
  ⟨I.ok, I.os, I.bare, I.base, I.loc, I.cell, I.free, I.freeC, fun p hp => (List.mem_append.mp hp).elim (fun z => I.pin p (List.mem_append_left _ z)) (h p), I.hok, I.len⟩

theorem nodup_ix {N : List Str} (hN : N.Nodup) {i j : Nat} {x : Str} (a : N[i]? = some x) (b : N[j]? = some x) : i = j := by
  obtain ⟨h1, e1⟩ := List.getElem?_eq_some_iff.mp a
  obtain ⟨h2, e2⟩ := List.getElem?_eq_some_iff.mp b
  exact (List.getElem_inj hN).mp (e1.trans e2.symm)

/-- a name is stored; what changed -/
theorem store_ok2 {M : Model} {A : Around} {E : Value → Shared → Prop} {i : Nat} {x : Str} {v : V} {u : Value} {Q : Unit → Shared → Prop} (I : Inv X pins σ H s) (hN : X.N.Nodup) (hi : X.N[i]? = some x) (hx : Loc X.env.scope x) (r : RelV v u)
    (h : ∀ s', Inv X pins (σ.set i (some v)) H s' → (∃ a, Heap.SameBut a s.heap s'.heap ∧ (a = X.env.locals ∨ X.env.cells.lookup x = some a)) → Q () s') (hf : X.fn x = true ∨ X.env.scope.names.lookup x = some .local := by first | exact .inl rfl | exact .inr rfl | assumption) : wpAny M A (storeName X.env x u) Q E s := by
  obtain ⟨m, hn, hl⟩ := id I.loc
  have hcls : (X.env.scope.kind == .class || (X.env.scope.kind == .module && X.env.locals != X.env.globals)) = false := by rw [I.ok.kind]; rfl
  have hiσ : i < σ.length := by rw [I.len]; exact (List.getElem?_eq_some_iff.mp hi).1
  have cne := I.cne
  have tracked : ∀ {a : Addr} {h' : Heap}, (∃ o, s.heap.get? a = some o ∧ H a = none) → Heap.SameBut a s.heap h' → HOk X.prog X.w H h' := fun {a h'} ha hs b ob e => by
    obtain ⟨_, _, hfree⟩ := ha
    refine (I.hok b ob e).stay (fun c w' hc q => (hs.2 c ?_).trans q) (fun _ q => q) fun _ _ q => q
    rintro rfl
    rcases hc with rfl | hc
    · rw [hfree] at e; cases e
    · rw [hfree] at hc; cases hc
  rcases hx with hk | hk
  · refine wpAny_storeName_local hk hn (fun h' hn' hs => ?_) hcls
    obtain ⟨oL, _, _, hoL, _⟩ := id hn
    refine h _ ⟨I.ok, I.os, I.bare, ⟨fun b o e n hb hx => ?_, fun b o e n hb hx => ?_, I.base.free, fun b o e hx => ?_, I.base.tups, I.base.frzs, I.base.tbls⟩, ⟨_, hn', fun j y v' e1 e2 e3 => ?_⟩, fun y c e => ?_, I.free, I.freeC, fun p hp => ?_, tracked ⟨oL, hoL, I.free⟩ hs, by simpa using I.len⟩ ⟨_, hs, .inl rfl⟩
    · exact (hs.2 b (Nat.ne_of_lt (Nat.lt_of_lt_of_le (Heap.lt_size e) I.ok.above))).trans (I.base.keep b o e n hb hx)
    · obtain ⟨sl, e1⟩ := I.base.slot b o e n hb hx
      exact ⟨sl, (hs.2 b (Nat.ne_of_lt (Nat.lt_of_lt_of_le (Heap.lt_size e) I.ok.above))).trans e1⟩
    · obtain ⟨o', e1⟩ := I.base.there b o e hx
      exact ⟨o', (hs.2 b (Nat.ne_of_lt (Nat.lt_of_lt_of_le (Heap.lt_size e) I.ok.above))).trans e1⟩
    · by_cases hj : j = i
      · subst hj
        rw [hi] at e1; cases e1
        rw [List.getElem?_set_self hiσ] at e2
        cases e2
        exact ⟨u, r, .inl ⟨hk, by simp⟩⟩
      · rw [List.getElem?_set_ne (Ne.symm hj)] at e2
        obtain ⟨u', r', q⟩ := hl j y v' e1 e2 e3
        refine ⟨u', r', ?_⟩
        rcases q with ⟨k, e⟩ | ⟨k, c, e, z⟩
        · refine .inl ⟨k, ?_⟩
          have : y ≠ x := fun e => hj (nodup_ix hN e1 (e ▸ hi))
          simp [this, e]
        · exact .inr ⟨k, c, e, z.sameBut hs (cne y c e)⟩
    · obtain ⟨w', z⟩ := I.cell y c e
      exact ⟨w', z.sameBut hs (cne y c e)⟩
    · obtain ⟨e, n, ne, nf, d⟩ := I.pin p hp
      exact ⟨(hs.2 p.1 ne).trans e, n, ne, nf, d⟩
  · have hfn : X.fn x = true := by
      rcases hf with z | z
      · exact z
      · rw [z] at hk; cases hk
    obtain ⟨c, hc⟩ := I.ok.has x (.inl hk)
    obtain ⟨w', z⟩ := I.cell x c hc
    refine wpAny_storeName_cell I.ok.kind hk hc z (fun h' hc' hs => ?_)
    obtain ⟨oc, hoc, hocd⟩ := id z
    refine h { s with heap := h' } ⟨I.ok, I.os, I.bare, ⟨fun b o e n hb hx => ?_, fun b o e n hb hx => ?_, I.base.free, fun b o e hx => ?_, I.base.tups, I.base.frzs, I.base.tbls⟩, ⟨m, hn.sameBut hs (Ne.symm (cne x c hc)), fun j y v' e1 e2 e3 => ?_⟩, fun y c' e => ?_, I.free, I.freeC, fun p hp => ?_, tracked ⟨oc, hoc, I.freeC x c hc⟩ hs, by simpa using I.len⟩ ⟨c, hs, .inr hc⟩
    · exact (hs.2 b (Nat.ne_of_lt (Nat.lt_of_lt_of_le (Heap.lt_size e) (I.ok.cab x c hfn hc)))).trans (I.base.keep b o e n hb hx)
    · obtain ⟨sl, e1⟩ := I.base.slot b o e n hb hx
      exact ⟨sl, (hs.2 b (Nat.ne_of_lt (Nat.lt_of_lt_of_le (Heap.lt_size e) (I.ok.cab x c hfn hc)))).trans e1⟩
    · obtain ⟨o', e1⟩ := I.base.there b o e hx
      exact ⟨o', (hs.2 b (Nat.ne_of_lt (Nat.lt_of_lt_of_le (Heap.lt_size e) (I.ok.cab x c hfn hc)))).trans e1⟩
    · by_cases hj : j = i
      · subst hj
        rw [hi] at e1; cases e1
        rw [List.getElem?_set_self hiσ] at e2
        cases e2
        exact ⟨u, r, .inr ⟨.inl hk, c, hc, hc'⟩⟩
      · rw [List.getElem?_set_ne (Ne.symm hj)] at e2
        obtain ⟨u', r', q⟩ := hl j y v' e1 e2 e3
        refine ⟨u', r', ?_⟩
        rcases q with q | ⟨k, c', e, z'⟩
        · exact .inl q
        · refine .inr ⟨k, c', e, z'.sameBut hs ?_⟩
          rintro rfl
          exact hj (nodup_ix hN e1 (I.ok.inj _ _ _ e hc ▸ hi))
    · by_cases hcc : c' = c
      · subst hcc; exact ⟨_, hc'⟩
      · obtain ⟨w2, z2⟩ := I.cell y c' e
        exact ⟨w2, z2.sameBut hs hcc⟩
    · obtain ⟨e, n, ne, nf, d⟩ := I.pin p hp
      refine ⟨(hs.2 p.1 ?_).trans e, n, ne, nf, d⟩
      intro q
      rw [q, hoc] at e
      have q' : oc = p.2 := Option.some.inj e
      exact d w' (by rw [← q']; exact hocd)
theorem store_ok {M : Model} {A : Around} {E : Value → Shared → Prop} {i : Nat} {x : Str} {v : V} {u : Value} {Q : Unit → Shared → Prop} (I : Inv X pins σ H s) (hN : X.N.Nodup) (hi : X.N[i]? = some x) (hx : Loc X.env.scope x) (r : RelV v u)
    (h : ∀ s', Inv X pins (σ.set i (some v)) H s' → Q () s') (hf : X.fn x = true ∨ X.env.scope.names.lookup x = some .local := by first | exact .inl rfl | exact .inr rfl | assumption) : wpAny M A (storeName X.env x u) Q E s :=
  store_ok2 I hN hi hx r (fun s' I' _ => h s' I') hf
/-- behind a call or a block, the state as it is -/
theorem Inv.call' {s' : Shared} {ch : List Addr} (I : Inv X pins σ H s) (ho : s'.os = s.os) (u : Un (frs X.stack) ch H H' s.heap s'.heap) (hok : HOk X.prog X.w H' s'.heap) (hg : AllBare s'.gens)
    (hch : ∀ b ∈ ch, (b ∈ X.ex ∨ X.s_0.heap.objs.size ≤ b) ∧ b ≠ X.env.locals ∧ (∀ x c, X.env.cells.lookup x = some c → c ≠ b) ∧ ∀ p ∈ X.pn ++ pins, p.1 ≠ b) : Inv X pins σ H' s' := by
  obtain ⟨h', g', d', t', o'⟩ := s'
  have e : o' = s.os := ho
  subst e
  exact I.call (g' := g') (t' := t') (d' := d') u hok hg hch
end

/-! ### the judgements -/
/-- an exception: its class, its own dict's address (where it has one), the abstract heap behind it -/
abbrev XK := Value → Option Addr → Hp → Prop
abbrev St := List (Option V)
abbrev VK := V → Hp → Prop
/-- an expression's reading; a test's; an argument list's -/
abbrev TE := St → Hp → VK → Prop
abbrev TT := St → Hp → (Bool → Hp → Prop) → Prop
abbrev TA := St → Hp → (List V → Hp → Prop) → Prop
/-- what is wanted behind a statement -/
structure Ends where
  nx : St → Hp → Prop
  rt : VK
  bk : St → Hp → Prop := fun _ _ => False
  ct : St → Hp → Prop := fun _ _ => False
abbrev TS := Ends → St → Hp → Prop

def EP (X : Cx) (pins : List (Addr × Obj)) (σ : St) (Q : VK) (u : Value) (s' : Shared) : Prop := ∃ v H', Inv X pins σ H' s' ∧ RelV v u ∧ Q v H'
def TP (X : Cx) (pins : List (Addr × Obj)) (σ : St) (Q : Bool → Hp → Prop) (b : Bool) (s' : Shared) : Prop := ∃ H', Inv X pins σ H' s' ∧ Q b H'
def AP (X : Cx) (pins : List (Addr × Obj)) (σ : St) (Q : List V → Hp → Prop) (us : List Value) (s' : Shared) : Prop := ∃ vs H', Inv X pins σ H' s' ∧ Vals vs us ∧ Q vs H'
def SP (X : Cx) (pins : List (Addr × Obj)) (D : Ends) (f : Flow) (s' : Shared) : Prop :=
  match f with
  | .next => ∃ σ' H', Inv X pins σ' H' s' ∧ D.nx σ' H'
  | .brk => ∃ σ' H', Inv X pins σ' H' s' ∧ D.bk σ' H'
  | .cont => ∃ σ' H', Inv X pins σ' H' s' ∧ D.ct σ' H'
  | .ret u => ∃ v σ' H', Inv X pins σ' H' s' ∧ RelV v u ∧ D.rt v H'

def PE (X : Cx) (e : Expr) (t : TE) : Prop :=
  ∀ (pins : List (Addr × Obj)) (s : Shared) (σ : St) (H : Hp) (Q : VK), Inv X pins σ H s → t σ H Q → wpAny (model X.prog X.w) X.A (eval e X.env) (EP X pins σ Q) X.xe s
def PT (X : Cx) (e : Expr) (t : TT) : Prop :=
  ∀ (pins : List (Addr × Obj)) (s : Shared) (σ : St) (H : Hp) (Q : Bool → Hp → Prop), Inv X pins σ H s → t σ H Q → wpAny (model X.prog X.w) X.A (isTrue e X.env (eval e X.env)) (TP X pins σ Q) X.xe s
/-- a test whatever its 'whole' is (and, or) -/
def PW (X : Cx) (e : Expr) (t : TT) : Prop :=
  ∀ (whole : Sem Value) (pins : List (Addr × Obj)) (s : Shared) (σ : St) (H : Hp) (Q : Bool → Hp → Prop), Inv X pins σ H s → t σ H Q → wpAny (model X.prog X.w) X.A (isTrue e X.env whole) (TP X pins σ Q) X.xe s
theorem PW.pt {X : Cx} {e : Expr} {t : TT} (h : PW X e t) : PT X e t := h _
/-- an argument list (no star), from the left -/
def PA (X : Cx) (es : List Expr) (t : TA) : Prop :=
  ∀ (pos : Pos) (pins : List (Addr × Obj)) (s : Shared) (σ : St) (H : Hp) (Q : List V → Hp → Prop), Inv X pins σ H s → t σ H Q → wpAny (model X.prog X.w) X.A (spliced (backTo pos (starEach es X.env))) (AP X pins σ Q) X.xe s
def PS (X : Cx) (st : Stmt) (t : TS) : Prop :=
  ∀ (pins : List (Addr × Obj)) (s : Shared) (σ : St) (H : Hp) (D : Ends), Inv X pins σ H s → t D σ H → wpAny (model X.prog X.w) X.A (exec st X.env) (SP X pins D) X.xe s
def PSs (X : Cx) (st : List Stmt) (t : TS) : Prop :=
  ∀ (pins : List (Addr × Obj)) (s : Shared) (σ : St) (H : Hp) (D : Ends), Inv X pins σ H s → t D σ H → wpAny (model X.prog X.w) X.A (execs st X.env) (SP X pins D) X.xe s
/-- weaken the end -/
theorem thn {α : Type} {t : Sem α} {Q Q' : α → Shared → Prop} {M : Model} {A : Around} {E : Value → Shared → Prop} {s : Shared} (h : wpAny M A t Q E s) (hQ : ∀ a s, Q a s → Q' a s) : wpAny M A t Q' E s := wpAny_mono h hQ fun _ _ x => x
end L2

namespace L2
open PySem PySem.Spec PyProof.Rows
section
variable {X : Cx}

/-- two expressions in a row -/
theorem bin {a b : Expr} {ta tb : TE} (ha : PE X a ta) (hb : PE X b tb) {pins : List (Addr × Obj)} {s : Shared} {σ : St} {H : Hp} {R : V → V → Hp → Prop} (I : Inv X pins σ H s) (h : ta σ H fun x H1 => tb σ H1 fun y H2 => R x y H2)
    {α : Type} {Q : α → Shared → Prop} {f : Value → Value → Sem α}
    (hf : ∀ v u s2 x y H2, Inv X pins σ H2 s2 → RelV x v → RelV y u → R x y H2 → wpAny (model X.prog X.w) X.A (f v u) Q X.xe s2) :
    wpAny (model X.prog X.w) X.A (eval a X.env) (fun v s₁ => wpAny (model X.prog X.w) X.A (eval b X.env) (fun u s₂ => wpAny (model X.prog X.w) X.A (f v u) Q X.xe s₂) X.xe s₁) X.xe s := by
  refine thn (ha pins s σ H _ I h) fun v s1 ⟨x, H1, I1, r1, q1⟩ => ?_
  refine thn (hb pins s1 σ H1 _ I1 q1) fun u s2 ⟨y, H2, I2, r2, q2⟩ => ?_
  exact hf v u s2 x y H2 I2 r1 r2 q2

/-! ### names and constants -/
def tVar (i : Nat) : TE := fun σ H Q => ∃ v, σ[i]? = some (some v) ∧ Q v H
def tC (v : V) : TE := fun _ H Q => Q v H
theorem pe_var {i : Nat} {x : Str} {pos : Pos} (hN : X.N[i]? = some x) (hv : Vis X.env.scope x) (hd : (x == ("__debug__" : Str)) = false := by decide) (hcd : (x == ("__classdict__" : Str)) = false := by decide) : PE X (.Name x pos) (tVar i) := by
  intro pins s σ H Q I h
  obtain ⟨v, e, h⟩ := h
  obtain ⟨m, hn, hl⟩ := I.loc
  obtain ⟨u, r, l⟩ := hl i x v hN e hv
  have fin : EP X pins σ Q u s := ⟨v, H, I, r, h⟩
  rcases l with ⟨hk, hm⟩ | ⟨hk, c, hc, hcell⟩
  · exact wpAny_Name (wpAny_loadName_local I.ok.kind hk hn hm fin) hd
  · rcases hk with hk | hk
    · exact wpAny_Name (wpAny_loadName_cell I.ok.kind hk hc hcell fin) hd
    · exact wpAny_Name (wpAny_loadName_free I.ok.kind hk hc hcell fin hcd) hd
theorem pe_int {i j pos} : PE X (.Constant (.int i) j pos) (tC (.int i)) := fun _ _ _ H _ I h => wpAny_Constant_int ⟨.int i, H, I.tok _, ⟨_, rfl⟩, h⟩
theorem pe_bl {b j pos} : PE X (.Constant (.bool b) j pos) (tC (.bl b)) := fun _ _ _ H _ I h => Constant_bool ⟨.bl b, H, I, rfl, h⟩
theorem pe_non {j pos} : PE X (.Constant .none j pos) (tC .non) := fun _ _ _ H _ I h => Constant_none ⟨.non, H, I, rfl, h⟩
theorem pe_str {x j pos} : PE X (.Constant (.str x) j pos) (tC (.str x)) := fun _ _ _ H _ I h => Calls.Constant_str ⟨.str x, H, I.tok _, ⟨_, rfl⟩, h⟩

/-- a global name of the def -/
def Gl (X : Cx) (x : Str) : Prop := X.env.kindOf x = some .globalImplicit
theorem ld_glob {E : Value → Shared → Prop} {pins : List (Addr × Obj)} {s : Shared} {σ : St} {H : Hp} {x : Str} {u : Value} {pos : Pos} {Q : Value → Shared → Prop} (I : Inv X pins σ H s) (hg : Gl X x) (hm : X.mg x = some u) (h : Q u s)
    (hd : (x == ("__debug__" : Str)) = false := by decide) : wpAny (model X.prog X.w) X.A (eval (.Name x pos) X.env) Q E s :=
  Calls.Name_function_global I.ok.kind hg (Calls.loadGlobal_global (by rw [I.ok.glob]; exact I.mod.glob.keeps I.bk) hm h) hd
theorem ld_blt {E : Value → Shared → Prop} {pins : List (Addr × Obj)} {s : Shared} {σ : St} {H : Hp} {x : Str} {u : Value} {pos : Pos} {Q : Value → Shared → Prop} (I : Inv X pins σ H s) (hg : Gl X x) (hm : X.mg x = none) (hv : bootBuiltins x = some u) (h : Q u s)
    (hn : x ≠ "__name__" := by decide) (hd : (x == ("__debug__" : Str)) = false := by decide) : wpAny (model X.prog X.w) X.A (eval (.Name x pos) X.env) Q E s := by
  obtain ⟨mb, h1, h2⟩ := I.mod.blt
  exact Calls.Name_function_global I.ok.kind hg (Calls.loadGlobal_builtin (by rw [I.ok.glob]; exact I.mod.glob.keeps I.bk) hm (by rw [I.ok.blt]; exact h1.keeps I.bk) ((h2 x hn).trans hv) h) hd
/-- a module's constant, a class, a function, as a value -/
theorem pe_glob {x : Str} {v : V} {u : Value} {pos : Pos} (hg : Gl X x) (hm : X.mg x = some u) (r : RelV v u) (hd : (x == ("__debug__" : Str)) = false := by decide) : PE X (.Name x pos) (tC v) :=
  fun _ _ _ H _ I h => ld_glob I hg hm ⟨v, H, I, r, h⟩ hd
theorem pe_bltn {x : Str} {v : V} {u : Value} {pos : Pos} (hg : Gl X x) (hm : X.mg x = none) (hv : bootBuiltins x = some u) (r : RelV v u) (hn : x ≠ "__name__" := by decide) (hd : (x == ("__debug__" : Str)) = false := by decide) : PE X (.Name x pos) (tC v) :=
  fun _ _ _ H _ I h => ld_blt I hg hm hv ⟨v, H, I, r, h⟩ hn hd

/-! ### arithmetic -/
/-- two ints -/
def t2I (ta tb : TE) (k : Int → Int → Hp → Prop) : St → Hp → Prop := fun σ H => ta σ H fun x H1 => tb σ H1 fun y H2 => ∃ i j, x = .int i ∧ y = .int j ∧ k i j H2
def tAdd (ta tb : TE) : TE := fun σ H Q => t2I ta tb (fun i j H2 => Q (.int (i + j)) H2) σ H
def tSub (ta tb : TE) : TE := fun σ H Q => t2I ta tb (fun i j H2 => Q (.int (i - j)) H2) σ H
/-- the left factor below 2^64 -/
def tMul (ta tb : TE) : TE := fun σ H Q => t2I ta tb (fun i j H2 => (-(2 ^ 64) < i ∧ i < 2 ^ 64) ∧ Q (.int (i * j)) H2) σ H
variable {a b : Expr} {ta tb : TE} {pos : Pos}
theorem pe_add (ha : PE X a ta) (hb : PE X b tb) : PE X (.BinOp a .Add b pos) (tAdd ta tb) := by
  intro pins s σ H Q I h
  refine wpAny_BinOp (bin ha hb I h fun v u s2 x y H2 I2 rx ry q => ?_)
  obtain ⟨i, j, rfl, rfl, q⟩ := q
  obtain ⟨t, rfl⟩ := rx
  obtain ⟨t', rfl⟩ := ry
  exact add_int ⟨.int _, H2, I2.tok _, ⟨_, rfl⟩, q⟩
theorem pe_sub (ha : PE X a ta) (hb : PE X b tb) : PE X (.BinOp a .Sub b pos) (tSub ta tb) := by
  intro pins s σ H Q I h
  refine wpAny_BinOp (bin ha hb I h fun v u s2 x y H2 I2 rx ry q => ?_)
  obtain ⟨i, j, rfl, rfl, q⟩ := q
  obtain ⟨t, rfl⟩ := rx
  obtain ⟨t', rfl⟩ := ry
  exact sub_int ⟨.int _, H2, I2.tok _, ⟨_, rfl⟩, q⟩
theorem pe_mul (ha : PE X a ta) (hb : PE X b tb) : PE X (.BinOp a .Mult b pos) (tMul ta tb) := by
  intro pins s σ H Q I h
  refine wpAny_BinOp (bin ha hb I h fun v u s2 x y H2 I2 rx ry q => ?_)
  obtain ⟨i, j, rfl, rfl, ⟨q1, q2⟩, q⟩ := q
  obtain ⟨t, rfl⟩ := rx
  obtain ⟨t', rfl⟩ := ry
  exact mul_int ⟨.int _, H2, I2.tok _, ⟨_, rfl⟩, q⟩ (.of_left (intBits_le_64 q1 q2))

/-! ### comparisons -/
def PC (X : Cx) (op : CmpOp) (a b : Expr) (t : TE) : Prop :=
  ∀ (pins : List (Addr × Obj)) (s : Shared) (σ : St) (H : Hp) (Q : VK), Inv X pins σ H s → t σ H Q →
    wpAny (model X.prog X.w) X.A (eval a X.env) (fun v s₁ => wpAny (model X.prog X.w) X.A (eval b X.env) (fun u s₂ => wpAny (model X.prog X.w) X.A (compareOp op v u) (EP X pins σ Q) X.xe s₂) X.xe s₁) X.xe s
theorem nobehind (b : Expr) {op : CmpOp} (h : op ≠ .In) (h2 : op ≠ .NotIn) : behindInMarks op b = false := by
  have e1 : (op == CmpOp.In) = false := by cases op <;> first | rfl | exact absurd rfl h
  have e2 : (op == CmpOp.NotIn) = false := by cases op <;> first | rfl | exact absurd rfl h2
  cases b <;> simp [behindInMarks, e1, e2]
def tCmp (p : Int → Int → Bool) (ta tb : TE) : TE := fun σ H Q => t2I ta tb (fun i j H2 => Q (.bl (p i j)) H2) σ H
abbrev tLt : TE → TE → TE := tCmp fun i j => decide (i < j)
abbrev tLe : TE → TE → TE := tCmp fun i j => decide (i ≤ j)
abbrev tGt : TE → TE → TE := tCmp fun i j => decide (j < i)
abbrev tGe : TE → TE → TE := tCmp fun i j => decide (j ≤ i)
abbrev tEqI : TE → TE → TE := tCmp fun i j => decide (i = j)
abbrev tNeI : TE → TE → TE := tCmp fun i j => !decide (i = j)
/-- a comparison of two ints, by its rule -/
theorem pc_int {op : CmpOp} {p : Int → Int → Bool} (ha : PE X a ta) (hb : PE X b tb)
    (rule : ∀ (i j : Int) (t u : Tok) (Q : Value → Shared → Prop) (s : Shared), Q (.bool (p i j)) s → wpAny (model X.prog X.w) X.A (compareOp op (.int i t) (.int j u)) Q X.xe s) : PC X op a b (tCmp p ta tb) := by
  intro pins s σ H Q I h
  refine bin ha hb I h fun v u s2 x y H2 I2 rx ry q => ?_
  obtain ⟨i, j, rfl, rfl, q⟩ := q
  obtain ⟨t, rfl⟩ := rx
  obtain ⟨t', rfl⟩ := ry
  exact rule i j t t' _ s2 ⟨.bl _, H2, I2, rfl, q⟩
theorem pc_lt (ha : PE X a ta) (hb : PE X b tb) : PC X .Lt a b (tLt ta tb) := pc_int ha hb fun _ _ _ _ _ _ h => lt_int h
theorem pc_le (ha : PE X a ta) (hb : PE X b tb) : PC X .LtE a b (tLe ta tb) := pc_int ha hb fun _ _ _ _ _ _ h => le_int h
theorem pc_gt (ha : PE X a ta) (hb : PE X b tb) : PC X .Gt a b (tGt ta tb) := pc_int ha hb fun _ _ _ _ _ _ h => gt_int h
theorem pc_ge (ha : PE X a ta) (hb : PE X b tb) : PC X .GtE a b (tGe ta tb) := pc_int ha hb fun _ _ _ _ _ _ h => ge_int h
theorem pc_eqI (ha : PE X a ta) (hb : PE X b tb) : PC X .Eq a b (tEqI ta tb) := pc_int ha hb fun _ _ _ _ _ _ h => eq_int (by rw [Bool.beq_eq_decide_eq]; exact h)
theorem pc_neI (ha : PE X a ta) (hb : PE X b tb) : PC X .NotEq a b (tNeI ta tb) := pc_int ha hb fun _ _ _ _ _ _ h => ne_int (by rw [bne, Bool.beq_eq_decide_eq]; exact h)
/-- is None -/
def tIsN (ta : TE) : TE := fun σ H Q => ta σ H fun x H1 => Q (.bl (decide (x = .non))) H1
def tNotN (ta : TE) : TE := fun σ H Q => ta σ H fun x H1 => Q (.bl (!decide (x = .non))) H1
theorem RelV.none_iff {x : V} {v : Value} (r : RelV x v) : (v == Value.none) = decide (x = .non) := by
  cases x with
  | non => cases r; rfl
  | bl _ => cases r; rfl
  | int _ => obtain ⟨t, rfl⟩ := r; rfl
  | str _ => obtain ⟨t, rfl⟩ := r; rfl
  | byt _ => obtain ⟨t, rfl⟩ := r; rfl
  | flt _ => obtain ⟨t, rfl⟩ := r; rfl
  | ref _ => cases r; rfl
  | ty _ => cases r; rfl
theorem pc_isN {j pos'} (ha : PE X a ta) : PC X .Is a (.Constant .none j pos') (tIsN ta) := by
  intro pins s σ H Q I h
  refine thn (ha pins s σ H _ I h) fun v s1 ⟨x, H1, I1, r1, q1⟩ => ?_
  exact Constant_none (is_none_gen ⟨.bl _, H1, I1, by rw [r1.none_iff]; rfl, q1⟩)
theorem pc_notN {j pos'} (ha : PE X a ta) : PC X .IsNot a (.Constant .none j pos') (tNotN ta) := by
  intro pins s σ H Q I h
  refine thn (ha pins s σ H _ I h) fun v s1 ⟨x, H1, I1, r1, q1⟩ => ?_
  exact Constant_none (isnot_none_gen ⟨.bl _, H1, I1, by rw [r1.none_iff]; rfl, q1⟩)
/-- a comparison as a value, as a test -/
def tB (t : TE) : TT := fun σ H Q => t σ H fun x H1 => ∃ c, x = .bl c ∧ Q c H1
theorem pe_cmp {op : CmpOp} {t : TE} (h : PC X op a b t) (h1 : behindInMarks op b = false := by first | exact nobehind _ (by decide) (by decide) | rfl) : PE X (.Compare a [op] [b] pos) t := fun pins s σ H Q I hw => wpAny_Compare1 (h pins s σ H Q I hw) h1
theorem pt_cmp {op : CmpOp} {t : TE} (h : PC X op a b t) (h1 : behindInMarks op b = false := by first | exact nobehind _ (by decide) (by decide) | rfl) : PT X (.Compare a [op] [b] pos) (tB t) := by
  intro pins s σ H Q I hw
  refine wpAny_isTrue_Compare1 (thn (h pins s σ H _ I hw) fun v s1 h1 => thn h1 fun u s2 h2 => thn h2 fun c s3 ⟨x, H1, I1, r1, q1⟩ => ?_) h1
  obtain ⟨d, rfl, q⟩ := q1
  cases r1
  exact wpAny_truthy_bool ⟨H1, I1, q⟩
/-- an expression whose value is a bool, as a test -/
theorem pt_val {e : Expr} {t : TE} (h : PE X e t) (he : ∀ whole, isTrue e X.env whole = (do let v ← whole; standAt e.pos; holding [v] (truthy v)) := by intro _; rfl) : PT X e (tB t) := by
  intro pins s σ H Q I hw
  refine isTrue_plain (thn (h pins s σ H _ I hw) fun v s1 ⟨x, H1, I1, r1, q1⟩ => ?_) (he _)
  obtain ⟨d, rfl, q⟩ := q1
  cases r1
  exact wpAny_truthy_bool ⟨H1, I1, q⟩

/-! ### and, or, not -/
variable {tA tB' : TT} {rest : List Expr}
def tAnd (t u : TT) : TT := fun σ H Q => t σ H fun c H1 => if c = true then u σ H1 Q else Q false H1
def tOr (t u : TT) : TT := fun σ H Q => t σ H fun c H1 => if c = true then Q true H1 else u σ H1 Q
def tNot (t : TT) : TT := fun σ H Q => t σ H fun c H1 => Q (!c) H1
theorem pw_and1 (ha : PT X a tA) : PW X (.BoolOp .And [a] pos) tA := by
  intro wh pins s σ H Q I h
  refine isTrue_and (thn (ha pins s σ H Q I h) fun c s1 e => ?_)
  cases c with
  | true => exact isTrue_and_nil e
  | false => exact e
theorem pw_or1 (ha : PT X a tA) : PW X (.BoolOp .Or [a] pos) tA := by
  intro wh pins s σ H Q I h
  refine isTrue_or (thn (ha pins s σ H Q I h) fun c s1 e => ?_)
  cases c with
  | false => exact isTrue_or_nil e
  | true => exact e
theorem pw_and (ha : PT X a tA) (hb : PW X (.BoolOp .And (b :: rest) pos) tB') : PW X (.BoolOp .And (a :: b :: rest) pos) (tAnd tA tB') := by
  intro wh pins s σ H Q I h
  refine isTrue_and (thn (ha pins s σ H _ I h) fun c s1 ⟨H1, I1, q1⟩ => ?_)
  cases c with
  | true => exact hb wh pins s1 σ H1 Q I1 q1
  | false => exact ⟨H1, I1, q1⟩
theorem pw_or (ha : PT X a tA) (hb : PW X (.BoolOp .Or (b :: rest) pos) tB') : PW X (.BoolOp .Or (a :: b :: rest) pos) (tOr tA tB') := by
  intro wh pins s σ H Q I h
  refine isTrue_or (thn (ha pins s σ H _ I h) fun c s1 ⟨H1, I1, q1⟩ => ?_)
  cases c with
  | true => exact ⟨H1, I1, q1⟩
  | false => exact hb wh pins s1 σ H1 Q I1 q1
theorem pt_not (ha : PT X a tA) : PT X (.UnaryOp .Not a pos) (tNot tA) := by
  intro pins s σ H Q I h
  exact isTrue_not (ha pins s σ H (fun c H1 => Q (!c) H1) I h)
/-- .. as values (bools) -/
def tAndV (ta tb : TE) : TE := fun σ H Q => ta σ H fun x H1 => ∃ c, x = .bl c ∧ if c = true then tb σ H1 Q else Q (.bl false) H1
def tOrV (ta tb : TE) : TE := fun σ H Q => ta σ H fun x H1 => ∃ c, x = .bl c ∧ if c = true then Q (.bl true) H1 else tb σ H1 Q
def tNotV (ta : TE) : TE := fun σ H Q => ta σ H fun x H1 => ∃ c, x = .bl c ∧ Q (.bl (!c)) H1
theorem pe_one {op} {t : TE} (h : PE X a t) : PE X (.BoolOp op [a] pos) t := fun pins s σ H Q I hw => BoolOp_one (h pins s σ H Q I hw)
theorem pe_and (ha : PE X a ta) (hb : PE X (.BoolOp .And (b :: rest) pos) tb) : PE X (.BoolOp .And (a :: b :: rest) pos) (tAndV ta tb) := by
  intro pins s σ H Q I h
  refine BoolOp_and (thn (ha pins s σ H _ I h) fun v s1 ⟨x, H1, I1, r1, q1⟩ => ?_)
  obtain ⟨c, rfl, q1⟩ := q1
  cases r1
  refine wpAny_truthy_bool ?_
  cases c with
  | true => exact hb pins s1 σ H1 Q I1 q1
  | false => exact ⟨.bl false, H1, I1, rfl, q1⟩
theorem pe_or (ha : PE X a ta) (hb : PE X (.BoolOp .Or (b :: rest) pos) tb) : PE X (.BoolOp .Or (a :: b :: rest) pos) (tOrV ta tb) := by
  intro pins s σ H Q I h
  refine BoolOp_or (thn (ha pins s σ H _ I h) fun v s1 ⟨x, H1, I1, r1, q1⟩ => ?_)
  obtain ⟨c, rfl, q1⟩ := q1
  cases r1
  refine wpAny_truthy_bool ?_
  cases c with
  | false => exact hb pins s1 σ H1 Q I1 q1
  | true => exact ⟨.bl true, H1, I1, rfl, q1⟩
theorem pe_not (ha : PE X a ta) : PE X (.UnaryOp .Not a pos) (tNotV ta) := by
  intro pins s σ H Q I h
  refine UnaryOp_ (thn (ha pins s σ H _ I h) fun v s1 ⟨x, H1, I1, r1, q1⟩ => ?_)
  obtain ⟨c, rfl, q1⟩ := q1
  cases r1
  exact not_of (wpAny_truthy_bool ⟨.bl (!c), H1, I1, rfl, q1⟩)
/-- a if t else b -/
def tIf (t : TT) (ta tb : TE) : TE := fun σ H Q => t σ H fun c H1 => if c = true then ta σ H1 Q else tb σ H1 Q
theorem pe_ifExp {c : Expr} (hc : PT X c tA) (ha : PE X a ta) (hb : PE X b tb) : PE X (.IfExp c a b pos) (tIf tA ta tb) := by
  intro pins s σ H Q I h
  refine wpAny_IfExp (thn (hc pins s σ H _ I h) fun d s1 ⟨H1, I1, q1⟩ => ?_)
  cases d with
  | true => exact ha pins s1 σ H1 Q I1 q1
  | false => exact hb pins s1 σ H1 Q I1 q1
end
end L2

namespace L2
open PySem PySem.Spec PyProof.Rows

/-! ### a list, a tuple that is read: tracked, frozen, or an object of the module -/
def SqL (K : PySem.W.Frag) (H : Hp) (a : Addr) (xs : List V) : Prop :=
  Rd H a (.lst xs) ∨
    ∃ (o : Obj) (its : Array Value) (n : Nat), K.lookup a = some o ∧ o.cls = .type "list" ∧ o.dict = none ∧ o.data = .seq its n ∧ its.size ≤ sizeLine ∧ Vals xs its.toList
def SqT (K : PySem.W.Frag) (H : Hp) (a : Addr) (xs : List V) : Prop :=
  Rd H a (.tup xs) ∨
    ∃ (o : Obj) (its : Array Value) (n : Nat), K.lookup a = some o ∧ o.cls = .type "tuple" ∧ o.data = .seq its n ∧ its.size ≤ sizeLine ∧ Vals xs its.toList
def absV : Value → Option V
  | .none => some .non
  | .bool b => some (.bl b)
  | .int i _ => some (.int i)
  | .str x _ => some (.str x)
  | .bytes b _ => some (.byt b)
  | .float b _ => some (.flt b)
  | .ref a => some (.ref a)
  | .type n => some (.ty n)
  | _ => none
theorem RelV.abs {x : V} {u : Value} (r : RelV x u) : absV u = some x := by
  cases x with
  | non => cases r; rfl
  | bl _ => cases r; rfl
  | int _ => obtain ⟨t, rfl⟩ := r; rfl
  | str _ => obtain ⟨t, rfl⟩ := r; rfl
  | byt _ => obtain ⟨t, rfl⟩ := r; rfl
  | flt _ => obtain ⟨t, rfl⟩ := r; rfl
  | ref _ => cases r; rfl
  | ty _ => cases r; rfl
theorem RelV.inj {x y : V} {u : Value} (r : RelV x u) (q : RelV y u) : x = y := Option.some.inj (r.abs.symm.trans q.abs)
theorem Vals.inj : ∀ {xs ys : List V} {us : List Value}, Vals xs us → Vals ys us → xs = ys
  | _, _, _, .nil, .nil => rfl
  | _, _, _, .cons r t, .cons r' t' => by rw [r.inj r', Vals.inj t t']
section
variable {X : Cx} {pins : List (Addr × Obj)} {σ : St} {H : Hp} {s : Shared} {a : Addr} {xs ys : List V}
theorem SqL.of {K : PySem.W.Frag} (h : H a = some (.lst xs)) : SqL K H a xs := .inl (.inl h)
theorem SqT.of {K : PySem.W.Frag} (h : H a = some (.tup xs)) : SqT K H a xs := .inl (.inl h)
theorem Inv.list (I : Inv X pins σ H s) (h : SqL X.K H a xs) : ∃ its : List Value, Vals xs its ∧ PlainL s.heap a its.toArray ∧ xs.length ≤ sizeLine := by
  rcases h with h | ⟨o, its, n, hk, hc, hd, hs, hz, r⟩
  · obtain ⟨z, its, n, r, e⟩ := h.ok I.hok
    exact ⟨its, r, ⟨_, n, e, rfl, rfl, rfl⟩, z⟩
  · refine ⟨its.toList, r, ⟨o, n, I.kIn a o hk, hc, hd, by simpa using hs⟩, ?_⟩
    have e := r.length
    simp only [Array.length_toList] at e
    omega
theorem Inv.tuple (I : Inv X pins σ H s) (h : SqT X.K H a xs) : ∃ its : List Value, Vals xs its ∧ IsTup s.heap a its.toArray ∧ xs.length ≤ sizeLine := by
  rcases h with h | ⟨o, its, n, hk, hc, hs, hz, r⟩
  · obtain ⟨z, its, r, p⟩ := h.ok I.hok
    exact ⟨its, r, p, z⟩
  · refine ⟨its.toList, r, ⟨o, I.kIn a o hk, hc, n, by simpa using hs⟩, ?_⟩
    have e := r.length
    simp only [Array.length_toList] at e
    omega
theorem Inv.list_inj (I : Inv X pins σ H s) (h : SqL X.K H a xs) (h' : SqL X.K H a ys) : xs = ys := by
  obtain ⟨its, r, ⟨o, n, e, _, _, d⟩, _⟩ := I.list h
  obtain ⟨its', r', ⟨o', n', e', _, _, d'⟩, _⟩ := I.list h'
  rw [e] at e'; cases e'
  rw [d] at d'
  injection d' with d1 _
  have : its = its' := by simpa using congrArg Array.toList d1
  subst this
  exact r.inj r'
theorem Inv.tuple_inj (I : Inv X pins σ H s) (h : SqT X.K H a xs) (h' : SqT X.K H a ys) : xs = ys := by
  obtain ⟨its, r, ⟨o, e, _, n, d⟩, _⟩ := I.tuple h
  obtain ⟨its', r', ⟨o', e', _, n', d'⟩, _⟩ := I.tuple h'
  rw [e] at e'; cases e'
  rw [d] at d'
  injection d' with d1 _
  have : its = its' := by simpa using congrArg Array.toList d1
  subst this
  exact r.inj r'
end

/-! ### another wish about exceptions -/
abbrev Cx.wish (X : Cx) (E : Value → Shared → Prop) : Cx := { X with xe := E }
/-- no exception leaves -/
abbrev Cx.nox (X : Cx) : Cx := X.wish fun _ _ => False
theorem Cx.Ok.wish {X : Cx} (ok : X.Ok) (E : Value → Shared → Prop) : (X.wish E).Ok :=
  ⟨ok.mod, ok.kind, ok.glob, ok.blt, ok.above, ok.inj, ok.has, ok.cab, ok.hd, ok.frames, ok.stk, ok.exf, ok.bs, ok.bsz, ok.noex, ok.exfs, ok.funs, ok.frf⟩
theorem Cx.Ok.unwish {X : Cx} {E : Value → Shared → Prop} (ok : (X.wish E).Ok) : X.Ok :=
  ⟨ok.mod, ok.kind, ok.glob, ok.blt, ok.above, ok.inj, ok.has, ok.cab, ok.hd, ok.frames, ok.stk, ok.exf, ok.bs, ok.bsz, ok.noex, ok.exfs, ok.funs, ok.frf⟩
section
variable {X : Cx} {pins : List (Addr × Obj)} {σ : St} {H : Hp} {s : Shared} {E : Value → Shared → Prop}
theorem Inv.wish (I : Inv X pins σ H s) (E : Value → Shared → Prop) : Inv (X.wish E) pins σ H s := ⟨I.ok.wish E, I.os, I.bare, I.base, I.loc, I.cell, I.free, I.freeC, I.pin, I.hok, I.len⟩
theorem Inv.unwish (I : Inv (X.wish E) pins σ H s) : Inv X pins σ H s := ⟨I.ok.unwish, I.os, I.bare, I.base, I.loc, I.cell, I.free, I.freeC, I.pin, I.hok, I.len⟩
theorem SP.unwish {D : Ends} {f : Flow} {s' : Shared} (h : SP (X.wish E) pins D f s') : SP X pins D f s' := by
  cases f with
  | next => obtain ⟨σ', H', I, q⟩ := h; exact ⟨σ', H', I.unwish, q⟩
  | brk => obtain ⟨σ', H', I, q⟩ := h; exact ⟨σ', H', I.unwish, q⟩
  | cont => obtain ⟨σ', H', I, q⟩ := h; exact ⟨σ', H', I.unwish, q⟩
  | ret u => obtain ⟨v, σ', H', I, r, q⟩ := h; exact ⟨v, σ', H', I.unwish, r, q⟩
theorem PE.nox {e : Expr} {t : TE} (h : PE X.nox e t) : PE X e t := fun pins s σ H Q I hw =>
  wpAny_mono (h pins s σ H Q (I.wish _) hw) (fun _ _ ⟨v, H', I', r, q⟩ => ⟨v, H', I'.unwish, r, q⟩) fun _ _ z => False.elim z
theorem PT.nox {e : Expr} {t : TT} (h : PT X.nox e t) : PT X e t := fun pins s σ H Q I hw =>
  wpAny_mono (h pins s σ H Q (I.wish _) hw) (fun _ _ ⟨H', I', q⟩ => ⟨H', I'.unwish, q⟩) fun _ _ z => False.elim z
theorem PSs.nox {st : List Stmt} {t : TS} (h : PSs X.nox st t) : PSs X st t := fun pins s σ H D I hw =>
  wpAny_mono (h pins s σ H D (I.wish _) hw) (fun _ _ q => q.unwish) fun _ _ z => False.elim z
end

/-! ### blocks and small statements -/
section
variable {X : Cx} {st : Stmt} {rest : List Stmt} {t u : TS} {e : Expr} {te : TE} {pos : Pos}
def tNext : TS := fun D σ H => D.nx σ H
def tSeq (t u : TS) : TS := fun D σ H => t { D with nx := u D } σ H
theorem pss_nil : PSs X [] tNext := fun _ _ σ H _ I h => wpAny_execs_nil ⟨σ, H, I, h⟩
theorem pss_cons (h1 : PS X st t) (h2 : PSs X rest u) : PSs X (st :: rest) (tSeq t u) := by
  intro pins s σ H D I h
  refine wpAny_execs_cons (thn (h1 pins s σ H { D with nx := u D } I h) fun f s1 q => ?_)
  cases f with
  | next =>
    obtain ⟨σ', H', I', q⟩ := q
    exact h2 pins s1 σ' H' D I' q
  | ret v => exact q
  | brk => exact q
  | cont => exact q
theorem pss_one (h1 : PS X st t) : PSs X [st] t := by
  intro pins s σ H D I h
  refine wpAny_execs_cons (thn (h1 pins s σ H D I h) fun f s1 q => ?_)
  cases f with
  | next => exact wpAny_execs_nil q
  | ret v => exact q
  | brk => exact q
  | cont => exact q
def tBreak : TS := fun D σ H => D.bk σ H
def tCont : TS := fun D σ H => D.ct σ H
theorem ps_pass : PS X (.Pass pos) tNext := fun _ _ σ H _ I h => wpAny_Pass ⟨σ, H, I, h⟩
theorem ps_break : PS X (.Break pos) tBreak := fun _ _ σ H _ I h => wpAny_Break ⟨σ, H, I, h⟩
theorem ps_continue : PS X (.Continue pos) tCont := fun _ _ σ H _ I h => wpAny_Continue ⟨σ, H, I, h⟩
/-- in a def's body nothing is shown -/
theorem Inv.quiet {pins : List (Addr × Obj)} {σ : St} {H : Hp} {s : Shared} (I : Inv X pins σ H s) : interactive X.env = false := by simp [interactive, I.ok.kind]
/-- a docstring -/
theorem ps_doc {x j pos pos'} : PS X (.Expr (.Constant (.str x) j pos) pos') tNext := fun _ s σ H _ I h => wpAny_Expr (Calls.Constant_str (show SP X _ _ .next { s with toks := s.toks + 1 } from ⟨σ, H, I.tok _, h⟩)) I.quiet
/-- an expression whose value is dropped -/
def tDrop (te : TE) : TS := fun D σ H => te σ H fun _ H1 => D.nx σ H1
theorem ps_expr (he : PE X e te) (hs : swapsWith e none pos.line X.env = pure false := by rfl) : PS X (.Expr e pos) (tDrop te) := by
  intro pins s σ H D I h
  exact wpAny_Expr_any (thn (he pins s σ H _ I h) fun v s1 ⟨x, H1, I1, r1, q1⟩ => ⟨σ, H1, I1, q1⟩) I.quiet hs
def tRet (te : TE) : TS := fun D σ H => te σ H D.rt
theorem ps_ret (he : PE X e te) : PS X (.Return (some e) pos) (tRet te) := by
  intro pins s σ H D I h
  exact wpAny_Return_some (thn (he pins s σ H _ I h) fun v s1 ⟨x, H1, I1, r1, q1⟩ => ⟨x, σ, H1, I1, r1, q1⟩)
def tRetN : TS := fun D _ H => D.rt .non H
theorem ps_retN : PS X (.Return none pos) tRetN := fun _ _ σ H _ I h => wpAny_Return_none ⟨.non, σ, H, I, rfl, h⟩
def tIfS (c : TT) (t u : TS) : TS := fun D σ H => c σ H fun b H1 => if b = true then t D σ H1 else u D σ H1
theorem ps_if {c : Expr} {a b : List Stmt} {tc : TT} (hc : PT X c tc) (ha : PSs X a t) (hb : PSs X b u) : PS X (.If c a b pos) (tIfS tc t u) := by
  intro pins s σ H D I h
  refine wpAny_If (thn (hc pins s σ H _ I h) fun d s1 ⟨H1, I1, q1⟩ => ?_)
  cases d with
  | true => exact ha pins s1 σ H1 D I1 q1
  | false => exact hb pins s1 σ H1 D I1 q1
/-- code that the proof never comes to -/
def tNever : TS := fun _ _ _ => False
theorem ps_never : PS X st tNever := fun _ _ _ _ _ _ h => h.elim
theorem pss_never {sts : List Stmt} : PSs X sts tNever := fun _ _ _ _ _ _ h => h.elim
end

/-! ### targets -/
abbrev TG := V → St → Hp → (St → Hp → Prop) → Prop
abbrev TGs := List V → St → Hp → (St → Hp → Prop) → Prop
def PG (X : Cx) (target : Expr) (t : TG) : Prop :=
  ∀ (pins : List (Addr × Obj)) (s : Shared) (σ : St) (H : Hp) (v : V) (u : Value) (Q : St → Hp → Prop), Inv X pins σ H s → RelV v u → t v σ H Q →
    wpAny (model X.prog X.w) X.A (assign target X.env u) (fun _ s' => ∃ σ' H', Inv X pins σ' H' s' ∧ Q σ' H') X.xe s
/-- several targets, one after another -/
def PGs (X : Cx) (ts : List Expr) (t : TGs) : Prop :=
  ∀ (pins : List (Addr × Obj)) (s : Shared) (σ : St) (H : Hp) (vs : List V) (us : List Value) (Q : St → Hp → Prop), Inv X pins σ H s → Vals vs us → t vs σ H Q →
    wpAny (model X.prog X.w) X.A (assignInOrder ((assignEach ts X.env).map (·.2)) us) (fun _ s' => ∃ σ' H', Inv X pins σ' H' s' ∧ Q σ' H') X.xe s
/-- o[i] = v, by values -/
abbrev TSet := V → V → V → Hp → (Hp → Prop) → Prop
def PSet (X : Cx) (t : TSet) : Prop :=
  ∀ (pins : List (Addr × Obj)) (s : Shared) (σ : St) (H : Hp) (o i v : V) (ov iv u : Value) (Q : Hp → Prop), Inv X pins σ H s → RelV o ov → RelV i iv → RelV v u → t o i v H Q →
    wpAny (model X.prog X.w) X.A (setItem ov iv u) (fun _ s' => ∃ H', Inv X pins σ H' s' ∧ Q H') X.xe s
/-- a op= b, by values -/
abbrev TIp := V → V → Hp → VK → Prop
def PIp (X : Cx) (op : Operator) (t : TIp) : Prop :=
  ∀ (pins : List (Addr × Obj)) (s : Shared) (σ : St) (H : Hp) (x y : V) (v u : Value) (Q : VK), Inv X pins σ H s → RelV x v → RelV y u → t x y H Q →
    wpAny (model X.prog X.w) X.A (inplaceOp op v u) (EP X pins σ Q) X.xe s
section
variable {X : Cx} {pos : Pos}
def gName (i : Nat) : TG := fun v σ H Q => Q (σ.set i (some v)) H
theorem pg_name {i : Nat} {x : Str} (hN : X.N.Nodup) (hi : X.N[i]? = some x) (hx : Loc X.env.scope x) (hf : X.fn x = true ∨ X.env.scope.names.lookup x = some .local := by first | exact .inl rfl | exact .inr rfl | assumption) : PG X (.Name x pos) (gName i) := by
  intro pins s σ H v u Q I r h
  exact wpAny_assign_Name (store_ok I hN hi hx r (fun s' I' => ⟨_, H, I', h⟩) hf)
def gNil : TGs := fun vs σ H Q => vs = [] ∧ Q σ H
def gCons (t : TG) (u : TGs) : TGs := fun vs σ H Q => ∃ v r, vs = v :: r ∧ t v σ H fun σ' H' => u r σ' H' Q
theorem pgs_nil : PGs X [] gNil := by
  intro pins s σ H vs us Q I r h
  obtain ⟨e, h⟩ := h
  subst e
  cases r
  exact assignInOrder_nil ⟨σ, H, I, h⟩
theorem pgs_cons {e : Expr} {es : List Expr} {t : TG} {u : TGs} (h1 : PG X e t) (h2 : PGs X es u)
    (hs : (assignEach (e :: es) X.env).map (·.2) = assign e X.env :: (assignEach es X.env).map (·.2) := by rfl) : PGs X (e :: es) (gCons t u) := by
  intro pins s σ H vs us Q I r h
  obtain ⟨v, vr, e1, h⟩ := h
  subst e1
  cases r with
  | cons r rr =>
    rw [hs]
    refine assignInOrder_cons (thn (h1 pins s σ H _ _ _ I r h) fun _ s1 ⟨σ1, H1, I1, q1⟩ => ?_)
    exact h2 pins s1 σ1 H1 _ _ Q I1 rr q1
/-- (a, b, ..) = a tuple of that length -/
def gTup (K : PySem.W.Frag) (n : Nat) (t : TGs) : TG := fun v σ H Q => ∃ a xs, v = .ref a ∧ SqT K H a xs ∧ xs.length = n ∧ t xs σ H Q
theorem pg_tup {es : List Expr} {k : Nat} {t : TGs} {n : Nat} (hc : X.calm = true) (h : PGs X es t)
    (hn : (assignEach es X.env).length = n := by rfl) (hst : (assignEach es X.env).findIdx? (·.1) = none := by rfl) : PG X (.Tuple es k pos) (gTup X.K n t) := by
  intro pins s σ H v u Q I r hw
  obtain ⟨a, xs, e1, hq, hl, hw⟩ := hw
  subst e1
  cases r
  obtain ⟨its, rv, ht, hz⟩ := I.tuple hq
  refine assign_Tuple_tuple (I.ok.hd hc) ht (by simp [hn, ← hl, rv.length]) hst fun h' hx => ?_
  have I1 : Inv X pins σ H { s with heap := h' } := I.kept (t' := s.toks) fun b o e => hx b o (Nat.ne_of_lt (Heap.lt_size e)) e
  exact h pins _ σ H xs _ Q I1 (by simpa using rv) hw
/-- o[i] = .. -/
def gSub (to ti : TE) (t : TSet) : TG := fun v σ H Q => to σ H fun o H1 => ti σ H1 fun i H2 => t o i v H2 fun H3 => Q σ H3
theorem pg_sub {o i : Expr} {to ti : TE} {t : TSet} (ho : PE X o to) (hi : PE X i ti) (hs : PSet X t)
    (ha : ∀ v, assign (.Subscript o i pos) X.env v = (do
      let ov ← holding [v] (eval o X.env)
      let iv ← holding [v, ov] (eval i X.env)
      standAt pos
      holding [v, ov, iv] (setItem ov iv v)
      release [v, ov, iv] []) := by intro _; rfl) : PG X (.Subscript o i pos) (gSub to ti t) := by
  intro pins s σ H v u Q I r h
  rw [ha]
  refine wpAny_bind (wpAny_holding (thn (ho pins s σ H _ I h) fun ov s1 ⟨x, H1, I1, r1, q1⟩ => ?_))
  refine wpAny_bind (wpAny_holding (thn (hi pins s1 σ H1 _ I1 q1) fun iv s2 ⟨y, H2, I2, r2, q2⟩ => ?_))
  refine wpAny_bind (wpAny_standAt (wpAny_bind (wpAny_holding (thn (hs pins s2 σ H2 x y v ov iv u _ I2 r1 r2 r q2) fun _ s3 ⟨H3, I3, q3⟩ => ?_))))
  exact wpAny_release ⟨σ, H3, I3, q3⟩
/-- target = value -/
def tAsg (te : TE) (g : TG) : TS := fun D σ H => te σ H fun x H1 => g x σ H1 D.nx
theorem ps_asg {tg e : Expr} {te : TE} {g : TG} (he : PE X e te) (hg : PG X tg g) (hs : swapsWithSole [tg] e pos.line X.env = pure false := by rfl) (hw : swappedStores [tg] e X.env = pure none := by rfl)
    (h1 : (assignEach [tg] X.env).map (·.2) = [assign tg X.env] := by rfl) : PS X (.Assign [tg] e pos) (tAsg te g) := by
  intro pins s σ H D I h
  refine wpAny_Assign_stores (thn (he pins s σ H _ I h) fun v s1 ⟨x, H1, I1, r1, q1⟩ => ?_) hs hw
  rw [h1]
  exact thn (hg pins s1 σ H1 x v _ I1 r1 q1) fun _ s2 q => q
/-- name = value -/
theorem ps_set {i : Nat} {x : Str} {e : Expr} {te : TE} {pos' : Pos} (hN : X.N.Nodup) (hi : X.N[i]? = some x) (hx : Loc X.env.scope x) (he : PE X e te) (hs : swapsWith e (some (.Name x pos')) pos.line X.env = pure false := by rfl) (hf : X.fn x = true ∨ X.env.scope.names.lookup x = some .local := by first | exact .inl rfl | exact .inr rfl | assumption) :
    PS X (.Assign [.Name x pos'] e pos) (tAsg te (gName i)) := by
  intro pins s σ H D I h
  refine wpAny_Assign_Name (thn (he pins s σ H _ I h) fun v s1 ⟨y, H1, I1, r1, q1⟩ => ?_) hs
  exact store_ok I1 hN hi hx r1 (fun s2 I2 => ⟨_, H1, I2, q1⟩) hf
/-- a, b = x, y with plain local names: stored from the right; the pair itself is not tracked (the opening rows as in PyProof/Rows/TupAssign.lean:23) -/
def tPar (i j : Nat) (ta : TA) : TS := fun D σ H => ta σ H fun vs H1 => ∃ v w, vs = [v, w] ∧ D.nx ((σ.set i (some v)).set j (some w)) H1
theorem ps_par {i j : Nat} {x y : Str} {a b : Expr} {ta : TA} {px py pt : Pos} {kt k2 pt2} (hc : X.calm = true) (hN : X.N.Nodup) (hi : X.N[i]? = some x) (hj : X.N[j]? = some y) (hij : i ≠ j)
    (hx : X.env.scope.names.lookup x = some .local) (hy : X.env.scope.names.lookup y = some .local) (ha : PA X [a, b] ta)
    (hw : swappedStores [.Tuple [.Name x px, .Name y py] kt pt] (.Tuple [a, b] k2 pt2) X.env = pure (some [x, y]))
    (hs : swapsWithSole [.Tuple [.Name x px, .Name y py] kt pt] (.Tuple [a, b] k2 pt2) pos.line X.env = pure false := by rfl) :
    PS X (.Assign [.Tuple [.Name x px, .Name y py] kt pt] (.Tuple [a, b] k2 pt2) pos) (tPar i j ta) := by
  intro pins s σ H D I h
  rw [exec_Assign_arm]
  refine wpAny_bind (wpAny_standAt ?_)
  rw [hs]
  refine wpAny_bind (wpAny_pure ?_)
  rw [if_neg (by decide)]
  refine wpAny_bind (Tuple_ (thn (ha _ pins s σ H _ I h) fun us s1 ⟨vs, H1, I1, r1, q1⟩ => ?_))
  obtain ⟨v, w, e1, q1⟩ := q1
  subst e1
  obtain ⟨u1, u2, rfl, rv, rw'⟩ : ∃ u1 u2, us = [u1, u2] ∧ RelV v u1 ∧ RelV w u2 := by
    cases r1 with
    | cons p q =>
      cases q with
      | cons p' q' =>
        cases q'
        exact ⟨_, _, rfl, p, p'⟩
  refine wpAny_newObj_type ?_ (by show 2 ≤ sizeLine; decide)
  have I2 : Inv X pins σ H1 { s1 with heap := s1.heap.push { cls := .type "tuple", data := .seq [u1, u2].toArray } } := I1.kept (t' := s1.toks) fun b o e => Heap.get?_push_of_some _ e
  rw [hw]
  refine wpAny_bind (wpAny_pure ?_)
  show wpAny (model X.prog X.w) X.A (do rule "assign.swapped-stores"; let items ← unpackItems (.ref s1.heap.objs.size) 2 none; assignInOrder [fun v => bindName X.env y v, fun v => bindName X.env x v] items.reverse; pure Flow.next) _ _ _
  refine wpAny_bind (wpAny_rule (wpAny_bind (unpackItems_tuple (items := #[u1, u2]) (I.ok.hd hc) (IsTup.new s1.heap _) fun h' hx' => ?_)))
  have I3 := I2.kept (h' := h') (t' := s1.toks) fun b o e => hx' b o (Nat.ne_of_lt (Heap.lt_size e)) e
  show wpAny _ _ (assignInOrder [fun v => bindName X.env y v, fun v => bindName X.env x v] [u2, u1] >>= fun _ => pure Flow.next) _ _ _
  refine wpAny_bind (assignInOrder_cons (wpAny_bindName (store_ok I3 hN hj (.inl hy) rw' (fun s2 I4 => ?_) (.inr hy))))
  refine assignInOrder_cons (wpAny_bindName (store_ok I4 hN hi (.inl hx) rv (fun s3 I5 => assignInOrder_nil (wpAny_pure ?_)) (.inr hx)))
  rw [List.set_comm _ _ (Ne.symm hij)] at I5
  exact ⟨_, H1, I5, q1⟩
/-- name op= e -/
def tAug (i : Nat) (te : TE) (ti : TIp) : TS := fun D σ H => ∃ x, σ[i]? = some (some x) ∧ te σ H fun y H1 => ti x y H1 fun z H2 => D.nx (σ.set i (some z)) H2
theorem ps_aug {i : Nat} {x : Str} {e : Expr} {te : TE} {op : Operator} {ti : TIp} {pos' : Pos} (hN : X.N.Nodup) (hi : X.N[i]? = some x) (hx : Loc X.env.scope x) (he : PE X e te) (ho : PIp X op ti) (hf : X.fn x = true ∨ X.env.scope.names.lookup x = some .local := by first | exact .inl rfl | exact .inr rfl | assumption) :
    PS X (.AugAssign (.Name x pos') op e pos) (tAug i te ti) := by
  intro pins s σ H D I h
  obtain ⟨v, e1, h⟩ := h
  obtain ⟨m, hn, hl⟩ := I.loc
  have vis : Vis X.env.scope x := by rcases hx with k | k; exact .inl k; exact .inr (.inl k)
  obtain ⟨u, r, l⟩ := hl i x v hi e1 vis
  refine wpAny_AugAssign_Name ?_
  have go : wpAny (model X.prog X.w) X.A (eval e X.env) (fun w s₂ => wpAny (model X.prog X.w) X.A (inplaceOp op u w) (fun r s₃ => wpAny (model X.prog X.w) X.A (storeName X.env x r) (fun _ => SP X pins D .next) X.xe s₃) X.xe s₂) X.xe s := by
    refine thn (he pins s σ H _ I h) fun w s1 ⟨y, H1, I1, r1, q1⟩ => ?_
    refine thn (ho pins s1 σ H1 v y u w _ I1 r r1 q1) fun z s2 ⟨zv, H2, I2, r2, q2⟩ => ?_
    exact store_ok I2 hN hi hx r2 (fun s3 I3 => ⟨_, H2, I3, q2⟩) hf
  rcases l with ⟨hk, hm⟩ | ⟨hk, c, hc, hcell⟩
  · exact wpAny_loadName_local I.ok.kind hk hn hm go
  · rcases hk with hk | hk
    · exact wpAny_loadName_cell I.ok.kind hk hc hcell go
    · rcases hx with k | k
      · have : X.env.scope.names.lookup x = some .free := hk
        rw [k] at this; cases this
      · have : X.env.scope.names.lookup x = some .free := hk
        rw [k] at this; cases this
/-- o[i] op= e -/
def tAugS (to ti te : TE) (tget : V → V → Hp → VK → Prop) (tip : TIp) (tset : TSet) : TS := fun D σ H => to σ H fun o H1 => ti σ H1 fun i H2 => tget o i H2 fun x H3 => te σ H3 fun y H4 => tip x y H4 fun z H5 => tset o i z H5 fun H6 => D.nx σ H6
/-- o[i], by values -/
def PGet (X : Cx) (t : V → V → Hp → VK → Prop) : Prop :=
  ∀ (pins : List (Addr × Obj)) (s : Shared) (σ : St) (H : Hp) (o i : V) (ov iv : Value) (Q : VK), Inv X pins σ H s → RelV o ov → RelV i iv → t o i H Q →
    wpAny (model X.prog X.w) X.A (getItem ov iv) (EP X pins σ Q) X.xe s
theorem ps_augS {o i e : Expr} {to ti te : TE} {tget : V → V → Hp → VK → Prop} {tip : TIp} {tset : TSet} {op : Operator} {tpos : Pos} (ho : PE X o to) (hi : PE X i ti) (hg : PGet X tget) (he : PE X e te) (hp : PIp X op tip) (hs : PSet X tset)
    (ha : ∀ ov iv new, augStore i ov iv new = (do holding [new, ov, iv] (setItem ov iv new); release [new, ov, iv] []; pure .next) := by intros; rfl) : PS X (.AugAssign (.Subscript o i tpos) op e pos) (tAugS to ti te tget tip tset) := by
  intro pins s σ H D I h
  refine wpAny_AugAssign_SubscriptAny (thn (ho pins s σ H _ I h) fun ov s1 ⟨x1, H1, I1, r1, q1⟩ => ?_) ha
  refine thn (hi pins s1 σ H1 _ I1 q1) fun iv s2 ⟨x2, H2, I2, r2, q2⟩ => ?_
  refine thn (hg pins s2 σ H2 x1 x2 ov iv _ I2 r1 r2 q2) fun old s3 ⟨x3, H3, I3, r3, q3⟩ => ?_
  refine thn (he pins s3 σ H3 _ I3 q3) fun v s4 ⟨x4, H4, I4, r4, q4⟩ => ?_
  refine thn (hp pins s4 σ H4 x3 x4 old v _ I4 r3 r4 q4) fun new s5 ⟨x5, H5, I5, r5, q5⟩ => ?_
  exact thn (hs pins s5 σ H5 x1 x2 x5 ov iv new _ I5 r1 r2 r5 q5) fun _ s6 ⟨H6, I6, q6⟩ => ⟨σ, H6, I6, q6⟩
/-- ints -/
def ipI (f : Int → Int → Int) : TIp := fun x y H Q => ∃ i j, x = .int i ∧ y = .int j ∧ Q (.int (f i j)) H
theorem ip_add : PIp X .Add (ipI fun i j => i + j) := by
  intro pins s σ H x y v u Q I r1 r2 h
  obtain ⟨i, j, e1, e2, q⟩ := h
  subst e1; subst e2
  obtain ⟨t, rfl⟩ := r1
  obtain ⟨t', rfl⟩ := r2
  exact iadd_int ⟨.int _, H, I.tok _, ⟨_, rfl⟩, q⟩
theorem ip_sub : PIp X .Sub (ipI fun i j => i - j) := by
  intro pins s σ H x y v u Q I r1 r2 h
  obtain ⟨i, j, e1, e2, q⟩ := h
  subst e1; subst e2
  obtain ⟨t, rfl⟩ := r1
  obtain ⟨t', rfl⟩ := r2
  exact isub_int ⟨.int _, H, I.tok _, ⟨_, rfl⟩, q⟩
end

/-! ### while -/
section
variable {X : Cx} {pos : Pos}
/-- the invariant W with its measure -/
def tWhile (c : TT) (tb : TS) : TS := fun D σ H => ∃ W : Nat → St → Hp → Prop, (∃ m, W m σ H) ∧ ∀ m σ H, W m σ H →
  c σ H fun b H1 => if b = true then ∃ N : St → Hp → Prop, (∀ σ' H', N σ' H' → ∃ m', m' < m ∧ W m' σ' H') ∧ tb { D with nx := N, ct := N, bk := D.nx } σ H1 else D.nx σ H1
theorem ps_while {c : Expr} {body : List Stmt} {tc : TT} {tb : TS} (hp : PassesOwn (model X.prog X.w) X.A X.env X.xe) (hc : PT X c tc) (hb : PSs X body tb) : PS X (.While c body [] pos) (tWhile tc tb) := by
  intro pins s σ H D I h
  obtain ⟨W, ⟨m0, w0⟩, turn⟩ := h
  refine wpAny_While (codeAny_whileLoop (fun n s' => ∃ σ' H', Inv X pins σ' H' s' ∧ W n σ' H') ?_ m0 ⟨σ, H, I, w0⟩)
  rintro n s1 ⟨σ1, H1, I1, w1⟩
  refine wpAny_passesOwn hp (thn (hc pins s1 σ1 H1 _ I1 (turn n σ1 H1 w1)) fun b s2 ⟨H2, I2, q2⟩ => ?_)
  cases b with
  | true =>
    obtain ⟨N, hN, q2⟩ := q2
    rw [if_pos rfl]
    refine wpAny_passesOwn hp (thn (hb pins s2 σ1 H2 _ I2 q2) fun f s3 q3 => ?_)
    cases f with
    | next =>
      obtain ⟨σ3, H3, I3, n3⟩ := q3
      obtain ⟨m', hm, w3⟩ := hN σ3 H3 n3
      exact ⟨m', hm, σ3, H3, I3, w3⟩
    | cont =>
      obtain ⟨σ3, H3, I3, n3⟩ := q3
      obtain ⟨m', hm, w3⟩ := hN σ3 H3 n3
      exact ⟨m', hm, σ3, H3, I3, w3⟩
    | brk => exact q3
    | ret v => exact q3
  | false =>
    rw [if_neg Bool.false_ne_true]
    exact wpAny_execs_nil ⟨σ1, H2, I2, q2⟩
end

/-! ### what a loop or a comprehension walks -/
/-- at turn i: it yields x (the heap may grow), or it stops -/
structure It where
  go : Nat → Hp → Prop
  yld : Nat → Hp → V → Hp → Prop
  stop : Nat → Hp → Prop
/-- the iterator's own objects may turn: they are not the frame's, not pinned, younger than the entry (or a comprehension's own) -/
def FpOk (X : Cx) (pins : List (Addr × Obj)) (H : Hp) (b : Addr) : Prop :=
  H b = none ∧ b ≠ X.env.locals ∧ b ∉ X.fs ∧ (b ∈ X.ex ∨ X.s_0.heap.objs.size ≤ b) ∧ (∀ x c, X.env.cells.lookup x = some c → c ≠ b) ∧ ∀ p ∈ X.pn ++ pins, p.1 ≠ b
theorem Inv.fpOk {X : Cx} {pins : List (Addr × Obj)} {σ : St} {H H' : Hp} {s : Shared} {b : Addr} (I : Inv X pins σ H s) (hb : s.heap.objs.size ≤ b) (hn : H' b = none) : FpOk X pins H' b := by
  refine ⟨hn, Nat.ne_of_gt (Nat.lt_of_lt_of_le I.lt hb), I.nofs hb, .inr (Nat.le_trans I.sz hb), fun x c e z => ?_, fun p hp z => ?_⟩
  · obtain ⟨v, q⟩ := I.cell x c e
    exact absurd (Nat.lt_of_lt_of_le q.lt (by rw [z]; exact hb)) (Nat.lt_irrefl _)
  · exact absurd (Nat.lt_of_lt_of_le (Heap.lt_size (I.pin p hp).1) (by rw [z]; exact hb)) (Nat.lt_irrefl _)
structure Turn (P : Program) (w : World) (K : PySem.W.Frag) (tg : Expr) (J : It) (fp : List Addr) (it : Addr) (tn : Nat → Heap → Prop) : Prop where
  mem : it ∈ fp
  obj : ∀ i h, tn i h → ∀ b ∈ fp, ∃ o, h.get? b = some o ∧ ∀ v, o.data ≠ .cell v
  keep : ∀ i h h', tn i h → (∀ b ∈ fp, ∀ o, h.get? b = some o → h'.get? b = some o) → tn i h'
  item : ∀ (X : Cx), X.prog = P → X.w = w → X.K = K → X.calm = true → ∀ (i : Nat) (pins : List (Addr × Obj)) (s : Shared) (σ : St) (H : Hp) (E : Value → Shared → Prop), Inv X pins σ H s → (∀ b ∈ fp, FpOk X pins H b) → tn i s.heap → J.go i H →
    wpAny (model P w) X.A (pyNext (.ref it)) (fun r s1 => ∃ u, r = some u ∧
      wpAny (model P w) X.A (letOwnedTupleGo tg (.ref it) u) (fun _ s2 => ∃ x H', Inv X pins σ H' s2 ∧ RelV x u ∧ J.yld i H x H' ∧ tn (i + 1) s2.heap ∧ ∀ b ∈ fp, H' b = none) E s1) E s
  done : ∀ (X : Cx), X.prog = P → X.w = w → X.K = K → X.calm = true → ∀ (i : Nat) (pins : List (Addr × Obj)) (s : Shared) (σ : St) (H : Hp) (E : Value → Shared → Prop), Inv X pins σ H s → (∀ b ∈ fp, FpOk X pins H b) → tn i s.heap → J.stop i H →
    wpAny (model P w) X.A (pyNext (.ref it)) (fun r s1 => r = none ∧ Inv X pins σ H s1) E s
  self : ∀ (A : Around) (i : Nat) (s : Shared) (Q : Value → Shared → Prop) (E : Value → Shared → Prop), tn i s.heap → Q (.ref it) s → wpAny (model P w) A (pyIter (.ref it)) Q E s
abbrev TI := St → Hp → (It → Hp → Prop) → Prop
/-- an iterator has come -/
def PIE (X : Cx) (pins : List (Addr × Obj)) (σ : St) (tg : Expr) (R : It → Hp → Prop) (itv : Value) (s2 : Shared) : Prop :=
  ∃ (it : Addr) (fp : List Addr) (tn : Nat → Heap → Prop) (J : It) (H' : Hp), itv = .ref it ∧ Inv X pins σ H' s2 ∧ Turn X.prog X.w X.K tg J fp it tn ∧ tn 0 s2.heap ∧ (∀ b ∈ fp, FpOk X pins H' b) ∧ R J H'
def PI (X : Cx) (tg iter : Expr) (wi : TI) : Prop :=
  ∀ (pins : List (Addr × Obj)) (s : Shared) (σ : St) (H : Hp) (R : It → Hp → Prop), Inv X pins σ H s → wi σ H R →
    wpAny (model X.prog X.w) X.A (eval iter X.env) (fun v s1 => wpAny (model X.prog X.w) X.A (pyIter v) (PIE X pins σ tg R) X.xe s1) X.xe s

/-- the step ahead of the store is nothing for an iterator that keeps no tuple -/
theorem go_of {M : Model} {A : Around} {E : Value → Shared → Prop} {s : Shared} {tg : Expr} {it : Addr} {u : Value} {o : Obj} {n : String} {vs : Array Value} {Q : Unit → Shared → Prop} (ho : s.heap.get? it = some o) (hc : o.cls = .type n) (hd : o.data = .fields vs)
    (hn : ["enumerate", "zip", "dict_itemiterator", "dict_reverseitemiterator", "odict_iterator", "itertools.zip_longest", "itertools.pairwise"].contains n = false) (hQ : Q () s) : wpAny M A (letOwnedTupleGo tg (.ref it) u) Q E s := by
  unfold letOwnedTupleGo
  cases tg <;> first
    | exact wpAny_pure hQ
    | (cases u <;> first
        | exact wpAny_pure hQ
        | (refine wpAny_bind (wpAny_load ho ?_)
           rw [hc, hd]
           show wpAny M A (if (["enumerate", "zip", "dict_itemiterator", "dict_reverseitemiterator", "odict_iterator", "itertools.zip_longest", "itertools.pairwise"].contains n && vs[0]? == some (rawInt _)) = true then _ else _) Q E s
           rw [if_neg (by intro h; rw [hn, Bool.false_and] at h; cases h)]
           exact wpAny_pure hQ))

/-- the list at a, as it stands at each turn (a loop may append to it) -/
def Itl (K : PySem.W.Frag) (a : Addr) : It :=
  ⟨fun i H => ∃ xs x, SqL K H a xs ∧ xs[i]? = some x, fun i H x H' => H' = H ∧ ∀ xs, SqL K H a xs → xs[i]? = some x, fun i H => ∃ xs, SqL K H a xs ∧ xs.length ≤ i⟩
def Itt (K : PySem.W.Frag) (a : Addr) : It :=
  ⟨fun i H => ∃ xs x, SqT K H a xs ∧ xs[i]? = some x, fun i H x H' => H' = H ∧ ∀ xs, SqT K H a xs → xs[i]? = some x, fun i H => ∃ xs, SqT K H a xs ∧ xs.length ≤ i⟩
/-- lo, lo + 1, .. (n of them) -/
def Itr (lo : Int) (n : Nat) : It := ⟨fun i _ => i < n, fun i H x H' => H' = H ∧ x = .int (lo + i), fun i _ => n ≤ i⟩
theorem turn_list {P : Program} {w : World} {K : PySem.W.Frag} {tg : Expr} (a it : Addr) : Turn P w K tg (Itl K a) [it] it (fun i h => h.IsListIter it a i) where
  mem := by simp
  obj := fun i h st b hb => by
    have e : b = it := by simpa using hb
    subst e
    obtain ⟨o, e, c, d⟩ := st
    exact ⟨o, e, fun v z => by rw [d] at z; cases z⟩
  keep := fun i h h' st k => st.at fun o e => k it (by simp) o e
  item := by
    intro X hP hw hK hc i pins s σ H E I hf st hg
    subst hP hw hK
    obtain ⟨xs, x, hq, hx⟩ := hg
    obtain ⟨its, rv, p, hz⟩ := I.list hq
    obtain ⟨u, hu, ru⟩ := rv.get hx
    obtain ⟨f0, f1, f2, f3, f4, f5⟩ := hf it (by simp)
    refine wpAny_pyNext_list_item st p.isList (x := u) (by simpa using hu) fun h' st' sb => ?_
    have I1 : Inv X pins σ H { s with heap := h' } := I.turned (t' := s.toks) (fun b o hb e => (sb.2 b hb).trans e) f0 f1 f3 f4 f5
    obtain ⟨o, e, c, d⟩ := id st'
    exact ⟨u, rfl, go_of (s := { s with heap := h' }) e c d (by decide) ⟨x, H, I1, ru, ⟨rfl, fun ys hy => by rw [I.list_inj hy hq]; exact hx⟩, st', fun b hb => (hf b hb).1⟩⟩
  done := by
    intro X hP hw hK hc i pins s σ H E I hf st hg
    subst hP hw hK
    obtain ⟨xs, hq, hx⟩ := hg
    obtain ⟨its, rv, p, hz⟩ := I.list hq
    obtain ⟨f0, f1, f2, f3, f4, f5⟩ := hf it (by simp)
    have hl := rv.length
    exact wpAny_pyNext_list_end (I.ok.hd hc) st p.isList (by simp; omega) fun h' eb => ⟨rfl, I.turned (t' := s.toks) (fun b o hb e => eb b o hb e) f0 f1 f3 f4 f5⟩
  self := fun _ _ _ _ _ st h => wpAny_pyIter_listiter st h
theorem turn_tuple {P : Program} {w : World} {K : PySem.W.Frag} {tg : Expr} (a it : Addr) : Turn P w K tg (Itt K a) [it] it (fun i h => h.IsTupleIter it a i) where
  mem := by simp
  obj := fun i h st b hb => by
    have e : b = it := by simpa using hb
    subst e
    obtain ⟨o, e, c, d⟩ := st
    exact ⟨o, e, fun v z => by rw [d] at z; cases z⟩
  keep := fun i h h' st k => st.at fun o e => k it (by simp) o e
  item := by
    intro X hP hw hK hc i pins s σ H E I hf st hg
    subst hP hw hK
    obtain ⟨xs, x, hq, hx⟩ := hg
    obtain ⟨its, rv, p, hz⟩ := I.tuple hq
    obtain ⟨u, hu, ru⟩ := rv.get hx
    obtain ⟨f0, f1, f2, f3, f4, f5⟩ := hf it (by simp)
    refine wpAny_pyNext_tuple_item st (show s.heap.IsTuple a its.toArray from p) (x := u) (by simpa using hu) fun h' st' sb => ?_
    have I1 : Inv X pins σ H { s with heap := h' } := I.turned (t' := s.toks) (fun b o hb e => (sb.2 b hb).trans e) f0 f1 f3 f4 f5
    obtain ⟨o, e, c, d⟩ := id st'
    exact ⟨u, rfl, go_of (s := { s with heap := h' }) e c d (by decide) ⟨x, H, I1, ru, ⟨rfl, fun ys hy => by rw [I.tuple_inj hy hq]; exact hx⟩, st', fun b hb => (hf b hb).1⟩⟩
  done := by
    intro X hP hw hK hc i pins s σ H E I hf st hg
    subst hP hw hK
    obtain ⟨xs, hq, hx⟩ := hg
    obtain ⟨its, rv, p, hz⟩ := I.tuple hq
    obtain ⟨f0, f1, f2, f3, f4, f5⟩ := hf it (by simp)
    have hl := rv.length
    exact wpAny_pyNext_tuple_end (I.ok.hd hc) st (show s.heap.IsTuple a its.toArray from p) (by simp; omega) fun h' eb => ⟨rfl, I.turned (t' := s.toks) (fun b o hb e => eb b o hb e) f0 f1 f3 f4 f5⟩
  self := fun _ _ _ _ _ st h => wpAny_pyIter_tupleiter st h
theorem turn_range {P : Program} {w : World} {K : PySem.W.Frag} {tg : Expr} (it : Addr) (lo : Int) (n : Nat) : Turn P w K tg (Itr lo n) [it] it (fun i h => IsRangeIter h it (lo + (i : Nat) * 1) ((n : Int) - (i : Nat)) 1) where
  mem := by simp
  obj := fun i h st b hb => by
    have e : b = it := by simpa using hb
    subst e
    exact ⟨_, st, fun v z => by
      have z' : Data.fields _ = Data.cell v := z
      cases z'⟩
  keep := fun i h h' st k => k it (by simp) _ st
  item := by
    intro X hP hw hK hc i pins s σ H E I hf st hg
    subst hP hw hK
    obtain ⟨f0, f1, f2, f3, f4, f5⟩ := hf it (by simp)
    have W := Walks.range (prog := X.prog) (w := X.w) (I.ok.hd hc) it lo 1 n
    refine W.item i s _ _ hg st fun v h' tk hv st' kk => ?_
    obtain ⟨t, rfl⟩ := hv
    have I1 : Inv X pins σ H { s with heap := h', toks := tk } := I.turned (fun b o hb e => kk b o (by simpa using hb) e) f0 f1 f3 f4 f5
    refine ⟨_, rfl, go_of (s := { s with heap := h', toks := tk }) (n := "range_iterator") st' rfl rfl (by decide) ⟨.int (lo + i), H, I1, ⟨t, ?_⟩, ⟨rfl, rfl⟩, st', fun b hb => (hf b hb).1⟩⟩
    rw [Int.mul_one]
  done := by
    intro X hP hw hK hc i pins s σ H E I hf st hg
    subst hP hw hK
    obtain ⟨f0, f1, f2, f3, f4, f5⟩ := hf it (by simp)
    exact wpAny_pyNext_range_end (I.ok.hd hc) st (by have : n ≤ i := hg; omega) fun h' eb => ⟨rfl, I.turned (t' := s.toks) (fun b o hb e => eb b o hb e) f0 f1 f3 f4 f5⟩
  self := fun _ _ _ _ _ st h => wpAny_pyIter_rangeiter st h
end L2

namespace L2
open PySem PySem.Spec PyProof.Rows
section
variable {X : Cx} {tg : Expr}
def iList (K : PySem.W.Frag) (tl : TE) : TI := fun σ H R => tl σ H fun x H1 => ∃ a, x = .ref a ∧ (∃ xs, SqL K H1 a xs) ∧ R (Itl K a) H1
def iTup (K : PySem.W.Frag) (tl : TE) : TI := fun σ H R => tl σ H fun x H1 => ∃ a, x = .ref a ∧ (∃ xs, SqT K H1 a xs) ∧ R (Itt K a) H1
theorem pi_list {l : Expr} {tl : TE} (hl : PE X l tl) : PI X tg l (iList X.K tl) := by
  intro pins s σ H R I h
  refine thn (hl pins s σ H _ I h) fun v s1 ⟨x, H1, I1, r1, q1⟩ => ?_
  obtain ⟨a, e, ⟨xs, hq⟩, q⟩ := q1
  subst e
  cases r1
  obtain ⟨its, rv, p, hz⟩ := I1.list hq
  refine wpAny_pyIter_list p.isList ?_
  refine ⟨s1.heap.objs.size, [s1.heap.objs.size], _, _, H1, rfl, I1.kept (t' := s1.toks) fun b o e => Heap.get?_push_of_some _ e, turn_list a _, ⟨_, Heap.get?_push_size _ rfl, rfl, rfl⟩, fun b hb => ?_, q⟩
  have e : b = s1.heap.objs.size := by simpa using hb
  subst e
  exact I1.fpOk (Nat.le_refl _) (I1.hok.fresh (Nat.le_refl _))
theorem pi_tup {l : Expr} {tl : TE} (hl : PE X l tl) : PI X tg l (iTup X.K tl) := by
  intro pins s σ H R I h
  refine thn (hl pins s σ H _ I h) fun v s1 ⟨x, H1, I1, r1, q1⟩ => ?_
  obtain ⟨a, e, ⟨xs, hq⟩, q⟩ := q1
  subst e
  cases r1
  obtain ⟨its, rv, p, hz⟩ := I1.tuple hq
  refine wpAny_pyIter_tuple (show s1.heap.IsTuple a its.toArray from p) ?_
  refine ⟨s1.heap.objs.size, [s1.heap.objs.size], _, _, H1, rfl, I1.kept (t' := s1.toks) fun b o e => Heap.get?_push_of_some _ e, turn_tuple a _, ⟨_, Heap.get?_push_size _ rfl, rfl, rfl⟩, fun b hb => ?_, q⟩
  have e : b = s1.heap.objs.size := by simpa using hb
  subst e
  exact I1.fpOk (Nat.le_refl _) (I1.hok.fresh (Nat.le_refl _))
/-- a range object just made, walked -/
theorem range_it {pins : List (Addr × Obj)} {σ : St} {H : Hp} {s : Shared} {R : It → Hp → Prop} {E : Value → Shared → Prop} {lo hi : Int} {t u v : Tok} {tk : Nat} (I : Inv X pins σ H s) (h1 : -(2 ^ 62) ≤ lo) (h2 : lo < 2 ^ 62) (h3 : -(2 ^ 62) ≤ hi) (h4 : hi < 2 ^ 62)
    (q : R (Itr lo (hi - lo).toNat) H) : wpAny (model X.prog X.w) X.A (pyIter (.ref s.heap.objs.size)) (PIE X pins σ tg R) E { s with heap := s.heap.push { cls := .type "range", data := .fields #[.int lo t, .int hi u, .int 1 v] }, toks := tk } := by
  refine wpAny_pyIter_range (IsRange.new ..) (small_one h1 h2 h3 h4) ?_
  have I1 : Inv X pins σ H { s with heap := s.heap.push { cls := .type "range", data := .fields #[.int lo t, .int hi u, .int 1 v] }, toks := tk } := I.kept fun b o e => Heap.get?_push_of_some _ e
  refine ⟨(s.heap.push { cls := .type "range", data := .fields #[.int lo t, .int hi u, .int 1 v] }).objs.size, [(s.heap.push { cls := .type "range", data := .fields #[.int lo t, .int hi u, .int 1 v] }).objs.size], _, _, H, rfl,
    I1.kept (t' := tk) fun b o e => Heap.get?_push_of_some _ e, turn_range _ lo (hi - lo).toNat, ?_, fun b hb => ?_, q⟩
  · have e1 : lo + ((0 : Nat) : Int) * 1 = lo := by simp
    have e2 : (((hi - lo).toNat : Nat) : Int) - ((0 : Nat) : Int) = Builtin.Range.rangeSize lo hi 1 := by rw [rangeSize_one]; split <;> omega
    show IsRangeIter _ _ (lo + ((0 : Nat) : Int) * 1) ((((hi - lo).toNat : Nat) : Int) - ((0 : Nat) : Int)) 1
    rw [e1, e2]
    exact Heap.get?_push_size _ rfl
  · have e : b = (s.heap.push { cls := .type "range", data := .fields #[.int lo t, .int hi u, .int 1 v] }).objs.size := by simpa using hb
    subst e
    exact I1.fpOk (Nat.le_refl _) (I1.hok.fresh (Nat.le_refl _))
def iRng1 (ta : TA) : TI := fun σ H R => ta σ H fun vs H1 => ∃ j : Int, vs = [.int j] ∧ -(2 ^ 62) ≤ j ∧ j < 2 ^ 62 ∧ R (Itr 0 j.toNat) H1
def iRng2 (ta : TA) : TI := fun σ H R => ta σ H fun vs H1 => ∃ i j : Int, vs = [.int i, .int j] ∧ (-(2 ^ 62) ≤ i ∧ i < 2 ^ 62 ∧ -(2 ^ 62) ≤ j ∧ j < 2 ^ 62) ∧ R (Itr i (j - i).toNat) H1
theorem pi_range1 {a : Expr} {ta : TA} {p pos : Pos} (hg : Gl X "range") (hm : X.mg "range" = none) (ha : PA X [a] ta) (hs : starEach [a] X.env = [(false, eval a X.env)] := by rfl) : PI X tg (.Call (.Name "range" p) [a] [] pos) (iRng1 ta) := by
  intro pins s σ H R I h
  refine Call_ (ld_blt I hg hm boot_range (PyProof.Rows.callWith_type1 (thn (ha pos pins s σ H _ I h) fun us s1 ⟨vs, H1, I1, r1, q1⟩ => ?_) hs rfl))
  obtain ⟨j, e, q1, q2, q⟩ := q1
  subst e
  cases r1 with
  | cons r rr =>
    cases rr
    obtain ⟨t, rfl⟩ := r
    exact call_range_1 (range_it I1 (by omega) (by omega) q1 q2 (by simpa using q))
theorem pi_range2 {a b : Expr} {ta : TA} {p pos : Pos} (hg : Gl X "range") (hm : X.mg "range" = none) (ha : PA X [a, b] ta) (hs : starEach [a, b] X.env = [(false, eval a X.env), (false, eval b X.env)] := by rfl) (hs2 : starEach [b] X.env = [(false, eval b X.env)] := by rfl) :
    PI X tg (.Call (.Name "range" p) [a, b] [] pos) (iRng2 ta) := by
  intro pins s σ H R I h
  refine Call_ (ld_blt I hg hm boot_range (PyProof.Rows.callWith_type1 (thn (ha pos pins s σ H _ I h) fun us s1 ⟨vs, H1, I1, r1, q1⟩ => ?_) (by rw [hs, hs2]) (by rw [hs2]; rfl)))
  obtain ⟨i, j, e, ⟨q1, q2, q3, q4⟩, q⟩ := q1
  subst e
  cases r1 with
  | cons r rr =>
    cases rr with
    | cons r' rr =>
      cases rr
      obtain ⟨t, rfl⟩ := r
      obtain ⟨t', rfl⟩ := r'
      exact call_range_2 (range_it I1 q1 q2 q3 q4 q)

/-! ### for -/
/-- W: the invariant by the turn and a measure; N: what the body is to reach -/
def tFor (wi : TI) (g : TG) (tb : TS) : TS := fun D σ H => wi σ H fun J H1 => ∃ W : Nat → Nat → St → Hp → Prop, (∃ m, W 0 m σ H1) ∧ ∀ i m σ H, W i m σ H →
  (J.stop i H ∧ D.nx σ H) ∨ (J.go i H ∧ ∃ N : St → Hp → Prop, (∀ σ' H', N σ' H' → ∃ m', m' < m ∧ W (i + 1) m' σ' H') ∧ ∀ x H', J.yld i H x H' → g x σ H' fun σ2 H2 => tb { D with nx := N, ct := N, bk := D.nx } σ2 H2)
/-- the records at fp as they stand -/
def pinsAt (fp : List Addr) (h : Heap) : List (Addr × Obj) := fp.filterMap fun b => (h.get? b).map fun o => (b, o)
theorem mem_pinsAt {fp : List Addr} {h : Heap} {b : Addr} {o : Obj} (hb : b ∈ fp) (e : h.get? b = some o) : (b, o) ∈ pinsAt fp h := List.mem_filterMap.mpr ⟨b, hb, by rw [e]; rfl⟩
theorem of_pinsAt {fp : List Addr} {h : Heap} {p : Addr × Obj} (hp : p ∈ pinsAt fp h) : p.1 ∈ fp ∧ h.get? p.1 = some p.2 := by
  obtain ⟨b, hb, e⟩ := List.mem_filterMap.mp hp
  cases q : h.get? b with
  | none => rw [q] at e; cases e
  | some o =>
    rw [q] at e
    have e' : (b, o) = p := Option.some.inj e
    subst e'
    exact ⟨hb, q⟩
theorem Inv.pinned {pins : List (Addr × Obj)} {σ : St} {H : Hp} {s : Shared} {fp : List Addr} (I : Inv X pins σ H s) (hf : ∀ b ∈ fp, FpOk X pins H b) (ho : ∀ b ∈ fp, ∃ o, s.heap.get? b = some o ∧ ∀ v, o.data ≠ .cell v) : Inv X (pins ++ pinsAt fp s.heap) σ H s :=
  I.pins_of fun p hp => (List.mem_append.mp hp).elim (fun z => I.pin p (List.mem_append_right _ z)) fun z => by
    obtain ⟨hb, e⟩ := of_pinsAt z
    obtain ⟨f0, f1, f2, _⟩ := hf p.1 hb
    obtain ⟨o, e', d⟩ := ho p.1 hb
    rw [e] at e'; cases e'
    exact ⟨e, f0, f1, f2, d⟩
theorem Inv.unpinned {pins pl : List (Addr × Obj)} {σ : St} {H : Hp} {s : Shared} (I : Inv X (pins ++ pl) σ H s) : Inv X pins σ H s := I.pins_of fun p hp => I.pin p (List.mem_append_right _ (List.mem_append_left _ hp))
theorem ps_for {iter : Expr} {body : List Stmt} {wi : TI} {g : TG} {tb : TS} {pos : Pos} (hp : PassesOwn (model X.prog X.w) X.A X.env X.xe) (hc : X.calm = true) (hi : PI X tg iter wi) (hg : PG X tg g) (hb : PSs X body tb)
    (hs : ∀ x, foldedSetIterable iter X.env x = pure x := by intro _; rfl) : PS X (.For tg iter body [] pos) (tFor wi g tb) := by
  intro pins s σ H D I h
  refine wpAny_For (thn (hi pins s σ H _ I h) fun v s1 h1 => thn h1 fun itv s2 h2 => ?_) hs
  obtain ⟨it, fp, tn, J, H2, e, I2, T, st2, f2, W, ⟨m0, w0⟩, turn⟩ := h2
  subst e
  -- what stays true of the iterator's objects through the loop
  have stat : ∀ {H' : Hp}, (∀ b ∈ fp, H' b = none) → ∀ b ∈ fp, FpOk X pins H' b := fun hn b hb => ⟨hn b hb, (f2 b hb).2⟩
  refine codeAny_forLoop_any (fun n s' => ∃ i σ' H', Inv X pins σ' H' s' ∧ tn i s'.heap ∧ (∀ b ∈ fp, H' b = none) ∧ W i n σ' H') ?_ m0 ⟨0, σ, H2, I2, st2, fun b hb => (f2 b hb).1, w0⟩
  rintro n s3 ⟨i, σ3, H3, I3, st3, fr3, w3⟩
  rcases turn i n σ3 H3 w3 with ⟨stop, qn⟩ | ⟨go, N, hN, step⟩
  · refine wpAny_passesOwn hp (thn (T.done X rfl rfl rfl hc i pins s3 σ3 H3 X.xe I3 (stat fr3) st3 stop) fun r s4 ⟨hr, I4⟩ => ?_)
    subst hr
    exact wpAny_execs_nil ⟨σ3, H3, I4, qn⟩
  · refine wpAny_passesOwn hp (thn (T.item X rfl rfl rfl hc i pins s3 σ3 H3 X.xe I3 (stat fr3) st3 go) fun r s4 ⟨u, hr, h4⟩ => ?_)
    subst hr
    refine wpAny_passesOwn hp (thn h4 fun _ s5 ⟨x, H5, I5, r5, y5, st5, fr5⟩ => ?_)
    have I5' := I5.pinned (stat fr5) (T.obj _ _ st5)
    refine wpAny_passesOwn hp (thn (hg _ s5 σ3 H5 x u _ I5' r5 (step x H5 y5)) fun _ s6 ⟨σ6, H6, I6, q6⟩ => ?_)
    refine wpAny_passesOwn hp (thn (hb _ s6 σ6 H6 _ I6 q6) fun f s7 q7 => ?_)
    have again : ∀ {σ7 : St} {H7 : Hp}, Inv X (pins ++ pinsAt fp s5.heap) σ7 H7 s7 → N σ7 H7 → ∃ m, m < n ∧ ∃ i σ' H', Inv X pins σ' H' s7 ∧ tn i s7.heap ∧ (∀ b ∈ fp, H' b = none) ∧ W i m σ' H' := fun {σ7 H7} I7 n7 => by
      obtain ⟨m', hm, w7⟩ := hN σ7 H7 n7
      refine ⟨m', hm, i + 1, σ7, H7, I7.unpinned, T.keep _ _ _ st5 fun b hb o e => (I7.pin (b, o) (List.mem_append_right _ (List.mem_append_right _ (mem_pinsAt hb e)))).1, fun b hb => ?_, w7⟩
      obtain ⟨o, e, d⟩ := T.obj _ _ st5 b hb
      exact (I7.pin (b, o) (List.mem_append_right _ (List.mem_append_right _ (mem_pinsAt hb e)))).2.1
    cases f with
    | next => obtain ⟨σ7, H7, I7, n7⟩ := q7; exact again I7 n7
    | cont => obtain ⟨σ7, H7, I7, n7⟩ := q7; exact again I7 n7
    | brk => obtain ⟨σ7, H7, I7, q7⟩ := q7; exact ⟨σ7, H7, I7.unpinned, q7⟩
    | ret v => obtain ⟨x7, σ7, H7, I7, r7, q7⟩ := q7; exact ⟨x7, σ7, H7, I7.unpinned, r7, q7⟩
end

/-! ### the forms one uses -/
/-- over a list that the body leaves as it is -/
theorem for_list {K : PySem.W.Frag} {a : Addr} {xs : List V} {g : TG} {tb : TS} {D : Ends} {σ : St} {H : Hp} (Pv : Nat → St → Hp → Prop) (h0 : Pv 0 σ H) (hl : ∀ i σ H, i ≤ xs.length → Pv i σ H → SqL K H a xs)
    (hs : ∀ i x σ H, xs[i]? = some x → Pv i σ H → g x σ H fun σ2 H2 => tb { D with nx := Pv (i + 1), ct := Pv (i + 1), bk := D.nx } σ2 H2) (hd : ∀ σ H, Pv xs.length σ H → D.nx σ H) :
    ∃ W : Nat → Nat → St → Hp → Prop, (∃ m, W 0 m σ H) ∧ ∀ i m σ H, W i m σ H →
      ((Itl K a).stop i H ∧ D.nx σ H) ∨ ((Itl K a).go i H ∧ ∃ N : St → Hp → Prop, (∀ σ' H', N σ' H' → ∃ m', m' < m ∧ W (i + 1) m' σ' H') ∧ ∀ x H', (Itl K a).yld i H x H' → g x σ H' fun σ2 H2 => tb { D with nx := N, ct := N, bk := D.nx } σ2 H2) := by
  refine ⟨fun i m σ H => m = xs.length - i ∧ i ≤ xs.length ∧ Pv i σ H, ⟨xs.length, by simp, Nat.zero_le _, h0⟩, ?_⟩
  rintro i m σ H ⟨rfl, hi, p⟩
  have q := hl i σ H hi p
  by_cases hlt : i < xs.length
  · refine .inr ⟨⟨xs, xs[i], q, by simp [hlt]⟩, Pv (i + 1), fun σ' H' p' => ⟨xs.length - (i + 1), by omega, rfl, hlt, p'⟩, fun x H' y => ?_⟩
    obtain ⟨e, y⟩ := y
    subst e
    exact hs i x σ _ (y xs q) p
  · have e : i = xs.length := by omega
    subst e
    exact .inl ⟨⟨xs, q, Nat.le_refl _⟩, hd σ H p⟩
theorem for_tup {K : PySem.W.Frag} {a : Addr} {xs : List V} {g : TG} {tb : TS} {D : Ends} {σ : St} {H : Hp} (Pv : Nat → St → Hp → Prop) (h0 : Pv 0 σ H) (hl : ∀ i σ H, i ≤ xs.length → Pv i σ H → SqT K H a xs)
    (hs : ∀ i x σ H, xs[i]? = some x → Pv i σ H → g x σ H fun σ2 H2 => tb { D with nx := Pv (i + 1), ct := Pv (i + 1), bk := D.nx } σ2 H2) (hd : ∀ σ H, Pv xs.length σ H → D.nx σ H) :
    ∃ W : Nat → Nat → St → Hp → Prop, (∃ m, W 0 m σ H) ∧ ∀ i m σ H, W i m σ H →
      ((Itt K a).stop i H ∧ D.nx σ H) ∨ ((Itt K a).go i H ∧ ∃ N : St → Hp → Prop, (∀ σ' H', N σ' H' → ∃ m', m' < m ∧ W (i + 1) m' σ' H') ∧ ∀ x H', (Itt K a).yld i H x H' → g x σ H' fun σ2 H2 => tb { D with nx := N, ct := N, bk := D.nx } σ2 H2) := by
  refine ⟨fun i m σ H => m = xs.length - i ∧ i ≤ xs.length ∧ Pv i σ H, ⟨xs.length, by simp, Nat.zero_le _, h0⟩, ?_⟩
  rintro i m σ H ⟨rfl, hi, p⟩
  have q := hl i σ H hi p
  by_cases hlt : i < xs.length
  · refine .inr ⟨⟨xs, xs[i], q, by simp [hlt]⟩, Pv (i + 1), fun σ' H' p' => ⟨xs.length - (i + 1), by omega, rfl, hlt, p'⟩, fun x H' y => ?_⟩
    obtain ⟨e, y⟩ := y
    subst e
    exact hs i x σ _ (y xs q) p
  · have e : i = xs.length := by omega
    subst e
    exact .inl ⟨⟨xs, q, Nat.le_refl _⟩, hd σ H p⟩
theorem for_range {lo : Int} {n : Nat} {g : TG} {tb : TS} {D : Ends} {σ : St} {H : Hp} (Pv : Nat → St → Hp → Prop) (h0 : Pv 0 σ H)
    (hs : ∀ i σ H, i < n → Pv i σ H → g (.int (lo + i)) σ H fun σ2 H2 => tb { D with nx := Pv (i + 1), ct := Pv (i + 1), bk := D.nx } σ2 H2) (hd : ∀ σ H, Pv n σ H → D.nx σ H) :
    ∃ W : Nat → Nat → St → Hp → Prop, (∃ m, W 0 m σ H) ∧ ∀ i m σ H, W i m σ H →
      ((Itr lo n).stop i H ∧ D.nx σ H) ∨ ((Itr lo n).go i H ∧ ∃ N : St → Hp → Prop, (∀ σ' H', N σ' H' → ∃ m', m' < m ∧ W (i + 1) m' σ' H') ∧ ∀ x H', (Itr lo n).yld i H x H' → g x σ H' fun σ2 H2 => tb { D with nx := N, ct := N, bk := D.nx } σ2 H2) := by
  refine ⟨fun i m σ H => m = n - i ∧ i ≤ n ∧ Pv i σ H, ⟨n, by simp, Nat.zero_le _, h0⟩, ?_⟩
  rintro i m σ H ⟨rfl, hi, p⟩
  by_cases hlt : i < n
  · refine .inr ⟨hlt, Pv (i + 1), fun σ' H' p' => ⟨n - (i + 1), by omega, rfl, hlt, p'⟩, fun x H' y => ?_⟩
    obtain ⟨e, y⟩ := y
    subst e y
    exact hs i σ _ hlt p
  · have e : i = n := by omega
    subst e
    exact .inl ⟨Nat.le_refl _, hd σ H p⟩
/-- while, by a word and a measure of the state -/
theorem while_by {c : TT} {tb : TS} {D : Ends} {σ : St} {H : Hp} (Pv : St → Hp → Prop) (μ : St → Hp → Nat) (h0 : Pv σ H)
    (hs : ∀ σ H, Pv σ H → c σ H fun b H1 => if b = true then tb { D with nx := fun σ' H' => Pv σ' H' ∧ μ σ' H' < μ σ H, ct := fun σ' H' => Pv σ' H' ∧ μ σ' H' < μ σ H, bk := D.nx } σ H1 else D.nx σ H1)
    (mono : ∀ σ H Q Q', (∀ b H1, Q b H1 → Q' b H1) → c σ H Q → c σ H Q') : tWhile c tb D σ H := by
  refine ⟨fun m σ H => m = μ σ H ∧ Pv σ H, ⟨_, rfl, h0⟩, ?_⟩
  rintro m σ H ⟨rfl, p⟩
  refine mono σ H _ _ (fun b H1 q => ?_) (hs σ H p)
  cases b with
  | true => exact ⟨_, fun σ' H' ⟨p', l⟩ => ⟨_, l, rfl, p'⟩, q⟩
  | false => exact q
end L2

namespace L2
open PySem PySem.Spec PyProof.Rows

abbrev R2 := V → V → Hp → VK → Prop
/-- a two-place operation on values: f is binaryOp op, inplaceOp op or compareOp op -/
def OpR (X : Cx) (f : Value → Value → Sem Value) (r : R2) : Prop :=
  ∀ (pins : List (Addr × Obj)) (s : Shared) (σ : St) (H : Hp) (x y : V) (v u : Value) (Q : VK), Inv X pins σ H s → RelV x v → RelV y u → r x y H Q →
    wpAny (model X.prog X.w) X.A (f v u) (EP X pins σ Q) X.xe s
/-- a one-place operation -/
def UnR (X : Cx) (f : Value → Sem Value) (r : V → Hp → VK → Prop) : Prop :=
  ∀ (pins : List (Addr × Obj)) (s : Shared) (σ : St) (H : Hp) (x : V) (v : Value) (Q : VK), Inv X pins σ H s → RelV x v → r x H Q →
    wpAny (model X.prog X.w) X.A (f v) (EP X pins σ Q) X.xe s
/-- a call of a value that is known (a builtin, a type) with values -/
def CallR (X : Cx) (f : Value) (r : List V → Hp → VK → Prop) : Prop :=
  ∀ (pins : List (Addr × Obj)) (s : Shared) (σ : St) (H : Hp) (xs : List V) (us : List Value) (Q : VK), Inv X pins σ H s → Vals xs us → r xs H Q →
    wpAny (model X.prog X.w) X.A (call f us) (EP X pins σ Q) X.xe s
/-- a value's truth -/
def TruR (X : Cx) (r : V → Hp → (Bool → Hp → Prop) → Prop) : Prop :=
  ∀ (pins : List (Addr × Obj)) (s : Shared) (σ : St) (H : Hp) (x : V) (v : Value) (Q : Bool → Hp → Prop), Inv X pins σ H s → RelV x v → r x H Q →
    wpAny (model X.prog X.w) X.A (truthy v) (TP X pins σ Q) X.xe s

def tOp (r : R2) (ta tb : TE) : TE := fun σ H Q => ta σ H fun x H1 => tb σ H1 fun y H2 => r x y H2 Q
def tUn (r : V → Hp → VK → Prop) (ta : TE) : TE := fun σ H Q => ta σ H fun x H1 => r x H1 Q
/-- ints in, under C, and a value out -/
def rI (C : Int → Int → Prop) (g : Int → Int → V) : R2 := fun x y H Q => ∃ i j, x = .int i ∧ y = .int j ∧ C i j ∧ Q (g i j) H
def rI0 (g : Int → Int → V) : R2 := fun x y H Q => ∃ i j, x = .int i ∧ y = .int j ∧ Q (g i j) H
def rU (g : Int → V) : V → Hp → VK → Prop := fun x H Q => ∃ i, x = .int i ∧ Q (g i) H

section
variable {X : Cx} {a b c : Expr} {ta tb tc : TE} {pos : Pos}

theorem binT (ha : PE X a ta) (hb : PE X b tb) {pins : List (Addr × Obj)} {s : Shared} {σ : St} {H : Hp} {R : V → V → Hp → Prop} (I : Inv X pins σ H s)
    (h : ta σ H fun x H1 => tb σ H1 fun y H2 => R x y H2) {Q : Value → Shared → Prop} {f : Value → Value → Sem Value}
    (hf : ∀ v u s2 x y H2, Inv X pins σ H2 s2 → RelV x v → RelV y u → R x y H2 → wpAny (model X.prog X.w) X.A (f v u) Q X.xe s2) :
    wpAny (model X.prog X.w) X.A (eval a X.env) (fun v s₁ => wpAny (model X.prog X.w) X.A (eval b X.env) (fun u s₂ => wpAny (model X.prog X.w) X.A (f v u) Q X.xe s₂) X.xe s₁) X.xe s := by
  refine thn (ha pins s σ H _ I h) fun v s1 ⟨x, H1, I1, r1, q1⟩ => ?_
  refine thn (hb pins s1 σ H1 _ I1 q1) fun u s2 ⟨y, H2, I2, r2, q2⟩ => ?_
  exact hf v u s2 x y H2 I2 r1 r2 q2

theorem pe_op {op : Operator} {r : R2} (ho : OpR X (binaryOp op) r) (ha : PE X a ta) (hb : PE X b tb) : PE X (.BinOp a op b pos) (tOp r ta tb) := by
  intro pins s σ H Q I h
  exact wpAny_BinOp (binT ha hb I h fun v u s2 x y H2 I2 rx ry q => ho pins s2 σ H2 x y v u Q I2 rx ry q)
theorem pe_un {op : UnaryOp} {r : V → Hp → VK → Prop} (ho : UnR X (unaryOp op) r) (ha : PE X a ta) : PE X (.UnaryOp op a pos) (tUn r ta) := by
  intro pins s σ H Q I h
  exact UnaryOp_ (thn (ha pins s σ H _ I h) fun v s1 ⟨x, H1, I1, r1, q1⟩ => ho pins s1 σ H1 x v Q I1 r1 q1)
/-- a op= e at a name: the name's slot i -/
theorem augR {op : Operator} {r : R2} (ho : OpR X (inplaceOp op) r) {pins : List (Addr × Obj)} {s : Shared} {σ : St} {H : Hp} {x y : V} {v u : Value} {Q : VK} (I : Inv X pins σ H s)
    (rx : RelV x v) (ry : RelV y u) (q : r x y H Q) : wpAny (model X.prog X.w) X.A (inplaceOp op v u) (EP X pins σ Q) X.xe s := ho pins s σ H x y v u Q I rx ry q

/-! ### ints -/
theorem opI {f : Value → Value → Sem Value} {C : Int → Int → Prop} {g : Int → Int → Int}
    (rule : ∀ (i j : Int) (t u : Tok) (s : Shared) (Q : Value → Shared → Prop) (E : Value → Shared → Prop), C i j → Q (.int (g i j) s.toks) { s with toks := s.toks + 1 } → wpAny (model X.prog X.w) X.A (f (.int i t) (.int j u)) Q E s) :
    OpR X f (rI C fun i j => .int (g i j)) := by
  intro pins s σ H x y v u Q I rx ry h
  obtain ⟨i, j, rfl, rfl, hc, q⟩ := h
  obtain ⟨t, rfl⟩ := rx
  obtain ⟨t', rfl⟩ := ry
  exact rule i j t t' s _ _ hc ⟨.int (g i j), H, I.tok _, ⟨_, rfl⟩, q⟩
theorem opI0 {f : Value → Value → Sem Value} {g : Int → Int → Int}
    (rule : ∀ (i j : Int) (t u : Tok) (s : Shared) (Q : Value → Shared → Prop) (E : Value → Shared → Prop), Q (.int (g i j) s.toks) { s with toks := s.toks + 1 } → wpAny (model X.prog X.w) X.A (f (.int i t) (.int j u)) Q E s) :
    OpR X f (rI0 fun i j => .int (g i j)) := by
  intro pins s σ H x y v u Q I rx ry h
  obtain ⟨i, j, rfl, rfl, q⟩ := h
  obtain ⟨t, rfl⟩ := rx
  obtain ⟨t', rfl⟩ := ry
  exact rule i j t t' s _ _ ⟨.int (g i j), H, I.tok _, ⟨_, rfl⟩, q⟩
theorem opB0 {f : Value → Value → Sem Value} {g : Int → Int → Bool}
    (rule : ∀ (i j : Int) (t u : Tok) (s : Shared) (Q : Value → Shared → Prop) (E : Value → Shared → Prop), Q (.bool (g i j)) s → wpAny (model X.prog X.w) X.A (f (.int i t) (.int j u)) Q E s) :
    OpR X f (rI0 fun i j => .bl (g i j)) := by
  intro pins s σ H x y v u Q I rx ry h
  obtain ⟨i, j, rfl, rfl, q⟩ := h
  obtain ⟨t, rfl⟩ := rx
  obtain ⟨t', rfl⟩ := ry
  exact rule i j t t' s _ _ ⟨.bl (g i j), H, I, rfl, q⟩

def CDiv (i j : Int) : Prop := 0 < j ∧ j < 1073741824
def CDivN (i j : Int) : Prop := j ≠ 0 ∧ j.natAbs < 1073741824
def CPow (i j : Int) : Prop := 0 ≤ j ∧ j ≤ 1000000 ∧ i.natAbs < 2 ^ 64
def CMul (i j : Int) : Prop := (-(2 ^ 64) < i ∧ i < 2 ^ 64) ∨ (-(2 ^ 64) < j ∧ j < 2 ^ 64)
theorem CMul.ok {i j : Int} (h : CMul i j) : IntMulOk i j := by
  rcases h with ⟨h1, h2⟩ | ⟨h1, h2⟩
  · exact .of_left (intBits_le_64 h1 h2)
  · exact .of_right (intBits_le_64 h1 h2)
theorem two_pow_nn (k : Nat) : (0 : Int) ≤ 2 ^ k := by
  rw [two_pow_cast]
  exact Int.natCast_nonneg _

theorem op_add : OpR X (binaryOp .Add) (rI0 fun i j => .int (i + j)) := opI0 fun _ _ _ _ _ _ _ q => add_int q
theorem op_sub : OpR X (binaryOp .Sub) (rI0 fun i j => .int (i - j)) := opI0 fun _ _ _ _ _ _ _ q => sub_int q
theorem op_mul : OpR X (binaryOp .Mult) (rI CMul fun i j => .int (i * j)) := opI fun _ _ _ _ _ _ _ hc q => mul_int q hc.ok
/-- // by a positive divisor -/
theorem op_fdiv : OpR X (binaryOp .FloorDiv) (rI CDiv fun i j => .int (i / j)) := opI fun i j _ _ _ _ _ hc q => by
  have h1 : (0 : Int) < j := hc.1
  have h2 : j < 1073741824 := hc.2
  exact floordiv_int (by omega) (by rw [Int.fdiv_eq_ediv_of_nonneg i (by omega)]; exact q) (.inl (PyProof.noPylong_small (by omega)))
theorem op_fdivN : OpR X (binaryOp .FloorDiv) (rI CDivN fun i j => .int (i.fdiv j)) := opI fun _ _ _ _ _ _ _ hc q => floordiv_int hc.1 q (.inl (PyProof.noPylong_small hc.2))
/-- % by a positive divisor of any size -/
theorem op_mod : OpR X (binaryOp .Mod) (rI (fun _ j => 0 < j) fun i j => .int (i % j)) := opI fun i j _ _ _ _ _ hc q => by
  have h1 : (0 : Int) < j := hc
  exact mod_int' (by omega) (by rw [Int.fmod_eq_emod_of_nonneg i (by omega)]; exact q)
theorem op_modN : OpR X (binaryOp .Mod) (rI (fun _ j => j ≠ 0) fun i j => .int (i.fmod j)) := opI fun _ _ _ _ _ _ _ hc q => mod_int' hc q
theorem op_pow : OpR X (binaryOp .Pow) (rI CPow fun i j => .int (i ^ j.toNat)) := opI fun _ _ _ _ _ _ _ hc q => pow_int_small hc.1 hc.2.1 hc.2.2 q
theorem op_shl : OpR X (binaryOp .LShift) (rI CPow fun i j => .int (i * 2 ^ j.toNat)) := opI fun _ _ _ _ _ _ _ hc q => lshift_int_small hc.1 hc.2.1 hc.2.2 q
theorem op_shr : OpR X (binaryOp .RShift) (rI (fun _ j => 0 ≤ j) fun i j => .int (i / 2 ^ j.toNat)) := opI fun i j _ _ _ _ _ hc q =>
  rshift_int hc (by rw [Int.fdiv_eq_ediv_of_nonneg i (two_pow_nn _)]; exact q)
theorem op_and : OpR X (binaryOp .BitAnd) (rI0 fun i j => .int (Builtin.bitAnd i j)) := opI0 fun _ _ _ _ _ _ _ q => and_int q
theorem op_or : OpR X (binaryOp .BitOr) (rI0 fun i j => .int (Builtin.bitOr i j)) := opI0 fun _ _ _ _ _ _ _ q => or_int q
theorem op_xor : OpR X (binaryOp .BitXor) (rI0 fun i j => .int (Builtin.bitXor i j)) := opI0 fun _ _ _ _ _ _ _ q => xor_int q

theorem iop_add : OpR X (inplaceOp .Add) (rI0 fun i j => .int (i + j)) := opI0 fun _ _ _ _ _ _ _ q => iadd_int q
theorem iop_sub : OpR X (inplaceOp .Sub) (rI0 fun i j => .int (i - j)) := opI0 fun _ _ _ _ _ _ _ q => isub_int q
theorem iop_mul : OpR X (inplaceOp .Mult) (rI CMul fun i j => .int (i * j)) := opI fun _ _ _ _ _ _ _ hc q => imul_int q hc.ok
theorem iop_fdiv : OpR X (inplaceOp .FloorDiv) (rI CDiv fun i j => .int (i / j)) := opI fun i j _ _ _ _ _ hc q => by
  have h1 : (0 : Int) < j := hc.1
  have h2 : j < 1073741824 := hc.2
  exact ifloordiv_int (by omega) (by rw [Int.fdiv_eq_ediv_of_nonneg i (by omega)]; exact q) (.inl (PyProof.noPylong_small (by omega)))
theorem iop_mod : OpR X (inplaceOp .Mod) (rI (fun _ j => 0 < j) fun i j => .int (i % j)) := opI fun i j _ _ _ _ _ hc q => by
  have h1 : (0 : Int) < j := hc
  exact imod_int (by omega) (by rw [Int.fmod_eq_emod_of_nonneg i (by omega)]; exact q)
theorem iop_shl : OpR X (inplaceOp .LShift) (rI CPow fun i j => .int (i * 2 ^ j.toNat)) := opI fun _ _ _ _ _ _ _ hc q => ilshift_int_small hc.1 hc.2.1 hc.2.2 q
theorem iop_shr : OpR X (inplaceOp .RShift) (rI (fun _ j => 0 ≤ j) fun i j => .int (i / 2 ^ j.toNat)) := opI fun i j _ _ _ _ _ hc q =>
  irshift_int hc (by rw [Int.fdiv_eq_ediv_of_nonneg i (two_pow_nn _)]; exact q)
theorem iop_and : OpR X (inplaceOp .BitAnd) (rI0 fun i j => .int (Builtin.bitAnd i j)) := opI0 fun _ _ _ _ _ _ _ q => iand_int q
theorem iop_or : OpR X (inplaceOp .BitOr) (rI0 fun i j => .int (Builtin.bitOr i j)) := opI0 fun _ _ _ _ _ _ _ q => ior_int q
theorem iop_xor : OpR X (inplaceOp .BitXor) (rI0 fun i j => .int (Builtin.bitXor i j)) := opI0 fun _ _ _ _ _ _ _ q => ixor_int q

theorem unI {f : Value → Sem Value} {g : Int → Int}
    (rule : ∀ (i : Int) (t : Tok) (s : Shared) (Q : Value → Shared → Prop) (E : Value → Shared → Prop), Q (.int (g i) s.toks) { s with toks := s.toks + 1 } → wpAny (model X.prog X.w) X.A (f (.int i t)) Q E s) :
    UnR X f (rU fun i => .int (g i)) := by
  intro pins s σ H x v Q I rx h
  obtain ⟨i, rfl, q⟩ := h
  obtain ⟨t, rfl⟩ := rx
  exact rule i t s _ _ ⟨.int (g i), H, I.tok _, ⟨_, rfl⟩, q⟩
theorem un_neg : UnR X (unaryOp .USub) (rU fun i => .int (-i)) := unI fun _ _ _ _ _ q => neg_int q
theorem un_inv : UnR X (unaryOp .Invert) (rU fun i => .int (Builtin.bitNot i)) := unI fun _ _ _ _ _ q => invert_int q

/-! ### bools among ints: n += (a < b) -/
theorem op_add_ib : OpR X (binaryOp .Add) (fun x y H Q => ∃ i k, x = .int i ∧ y = .bl k ∧ Q (.int (i + b2i k)) H) := by
  intro pins s σ H x y v u Q I rx ry h
  obtain ⟨i, k, rfl, rfl, q⟩ := h
  obtain ⟨t, rfl⟩ := rx
  cases ry
  exact add_int_bool ⟨.int (i + b2i k), H, I.tok _, ⟨_, rfl⟩, q⟩
end

/-! ### comparisons -/
/-- the scalars that == tells apart as data does -/
def scal : V → V → Bool
  | .non, .non => true | .non, .int _ => true | .int _, .non => true | .non, .bl _ => true | .bl _, .non => true | .non, .str _ => true | .str _, .non => true
  | .int _, .int _ => true | .bl _, .bl _ => true | .str _, .str _ => true | .byt _, .byt _ => true
  | .int _, .str _ => true | .str _, .int _ => true | .bl _, .str _ => true | .str _, .bl _ => true
  | _, _ => false
def rEq : R2 := fun x y H Q => scal x y = true ∧ Q (.bl (decide (x = y))) H
def rNe : R2 := fun x y H Q => scal x y = true ∧ Q (.bl (!decide (x = y))) H

theorem dec_int {i j : Int} : decide (V.int i = V.int j) = (i == j) := by
  rw [Bool.eq_iff_iff]
  simp
theorem dec_bl {i j : Bool} : decide (V.bl i = V.bl j) = (i == j) := by
  rw [Bool.eq_iff_iff]
  simp
theorem dec_str {i j : Str} : decide (V.str i = V.str j) = (i == j) := by
  rw [Bool.eq_iff_iff]
  simp
theorem dec_byt {i j : Array UInt8} : decide (V.byt i = V.byt j) = (i.toList == j.toList) := by
  rw [Bool.eq_iff_iff]
  cases i
  cases j
  simp

section
variable {X : Cx} {a b c : Expr} {ta tb tc : TE} {pos : Pos}
theorem fin_bl {pins : List (Addr × Obj)} {σ : St} {H : Hp} {s : Shared} {Q : VK} {k k' : Bool} (I : Inv X pins σ H s) (q : Q (.bl k) H) (e : k = k') : EP X pins σ Q (.bool k') s := by
  subst e
  exact ⟨.bl k, H, I, rfl, q⟩
theorem op_eq : OpR X (compareOp .Eq) rEq := by
  intro pins s σ H x y v u Q I rx ry h
  obtain ⟨hs, q⟩ := h
  cases x with
  | non =>
    cases rx
    cases y with
    | non => cases ry; exact PySem.EqNone.eq_none_none (fin_bl I q (by simp))
    | bl j => cases ry; exact PySem.EqNone.eq_none_bool (fin_bl I q (by simp))
    | int j => obtain ⟨t', rfl⟩ := ry; exact PySem.EqNone.eq_none_int (fin_bl I q (by simp))
    | str j => obtain ⟨t', rfl⟩ := ry; exact PySem.EqNone.eq_none_str (fin_bl I q (by simp))
    | _ => exact absurd (show false = true from hs) Bool.false_ne_true
  | bl i =>
    cases rx
    cases y with
    | non => cases ry; exact PySem.EqNone.eq_bool_none (fin_bl I q (by simp))
    | bl j => cases ry; exact eq_bool (fin_bl I q dec_bl)
    | str j => obtain ⟨t', rfl⟩ := ry; exact PySem.EqMixed.eq_bool_str (fin_bl I q (by simp))
    | _ => exact absurd (show false = true from hs) Bool.false_ne_true
  | int i =>
    obtain ⟨t, rfl⟩ := rx
    cases y with
    | non => cases ry; exact PySem.EqNone.eq_int_none (fin_bl I q (by simp))
    | int j => obtain ⟨t', rfl⟩ := ry; exact eq_int (fin_bl I q dec_int)
    | str j => obtain ⟨t', rfl⟩ := ry; exact PySem.EqMixed.eq_int_str (fin_bl I q (by simp))
    | _ => exact absurd (show false = true from hs) Bool.false_ne_true
  | str i =>
    obtain ⟨t, rfl⟩ := rx
    cases y with
    | non => cases ry; exact PySem.EqNone.eq_str_none (fin_bl I q (by simp))
    | bl j => cases ry; exact PySem.EqMixed.eq_str_bool (fin_bl I q (by simp))
    | int j => obtain ⟨t', rfl⟩ := ry; exact PySem.EqMixed.eq_str_int (fin_bl I q (by simp))
    | str j => obtain ⟨t', rfl⟩ := ry; exact eq_str (fin_bl I q dec_str)
    | _ => exact absurd (show false = true from hs) Bool.false_ne_true
  | byt i =>
    obtain ⟨t, rfl⟩ := rx
    cases y with
    | byt j => obtain ⟨t', rfl⟩ := ry; exact PySem.W.eq_bytes (fin_bl I q dec_byt)
    | _ => exact absurd (show false = true from hs) Bool.false_ne_true
  | _ => cases y <;> exact absurd (show false = true from hs) Bool.false_ne_true
theorem op_ne : OpR X (compareOp .NotEq) rNe := by
  intro pins s σ H x y v u Q I rx ry h
  obtain ⟨hs, q⟩ := h
  cases x with
  | non =>
    cases rx
    cases y with
    | non => cases ry; exact PySem.EqNone.ne_none_none (fin_bl I q (by simp))
    | bl j => cases ry; exact PySem.EqNone.ne_none_bool (fin_bl I q (by simp))
    | int j => obtain ⟨t', rfl⟩ := ry; exact PySem.EqNone.ne_none_int (fin_bl I q (by simp))
    | str j => obtain ⟨t', rfl⟩ := ry; exact PySem.EqNone.ne_none_str (fin_bl I q (by simp))
    | _ => exact absurd (show false = true from hs) Bool.false_ne_true
  | bl i =>
    cases rx
    cases y with
    | non => cases ry; exact PySem.EqNone.ne_bool_none (fin_bl I q (by simp))
    | bl j => cases ry; exact ne_bool (fin_bl I q (congrArg not dec_bl))
    | str j => obtain ⟨t', rfl⟩ := ry; exact PySem.EqMixed.ne_bool_str (fin_bl I q (by simp))
    | _ => exact absurd (show false = true from hs) Bool.false_ne_true
  | int i =>
    obtain ⟨t, rfl⟩ := rx
    cases y with
    | non => cases ry; exact PySem.EqNone.ne_int_none (fin_bl I q (by simp))
    | int j => obtain ⟨t', rfl⟩ := ry; exact ne_int (fin_bl I q (congrArg not dec_int))
    | str j => obtain ⟨t', rfl⟩ := ry; exact PySem.EqMixed.ne_int_str (fin_bl I q (by simp))
    | _ => exact absurd (show false = true from hs) Bool.false_ne_true
  | str i =>
    obtain ⟨t, rfl⟩ := rx
    cases y with
    | non => cases ry; exact PySem.EqNone.ne_str_none (fin_bl I q (by simp))
    | bl j => cases ry; exact PySem.EqMixed.ne_str_bool (fin_bl I q (by simp))
    | int j => obtain ⟨t', rfl⟩ := ry; exact PySem.EqMixed.ne_str_int (fin_bl I q (by simp))
    | str j => obtain ⟨t', rfl⟩ := ry; exact ne_str (fin_bl I q (congrArg not dec_str))
    | _ => exact absurd (show false = true from hs) Bool.false_ne_true
  | byt i =>
    obtain ⟨t, rfl⟩ := rx
    cases y with
    | byt j => obtain ⟨t', rfl⟩ := ry; exact PySem.W.ne_bytes (fin_bl I q (congrArg not dec_byt))
    | _ => exact absurd (show false = true from hs) Bool.false_ne_true
  | _ => cases y <;> exact absurd (show false = true from hs) Bool.false_ne_true

theorem op_lt : OpR X (compareOp .Lt) (rI0 fun i j => .bl (decide (i < j))) := opB0 fun _ _ _ _ _ _ _ q => lt_int q
theorem op_le : OpR X (compareOp .LtE) (rI0 fun i j => .bl (decide (i ≤ j))) := opB0 fun _ _ _ _ _ _ _ q => le_int q
theorem op_gt : OpR X (compareOp .Gt) (rI0 fun i j => .bl (decide (j < i))) := opB0 fun _ _ _ _ _ _ _ q => gt_int q
theorem op_ge : OpR X (compareOp .GtE) (rI0 fun i j => .bl (decide (j ≤ i))) := opB0 fun _ _ _ _ _ _ _ q => ge_int q
theorem op_lt_str : OpR X (compareOp .Lt) (fun x y H Q => ∃ i j, x = .str i ∧ y = .str j ∧ Q (.bl (decide (i.cps.toList < j.cps.toList))) H) := by
  intro pins s σ H x y v u Q I rx ry h
  obtain ⟨i, j, rfl, rfl, q⟩ := h
  obtain ⟨t, rfl⟩ := rx
  obtain ⟨t', rfl⟩ := ry
  exact lt_str (fin_bl I q rfl)
/-- the one string within the other -/
theorem op_in_str : OpR X (compareOp .In) (fun x y H Q => ∃ i j, x = .str i ∧ y = .str j ∧ Q (.bl (!(Builtin.Str.occurrences j i 0 j.length 1).isEmpty)) H) := by
  intro pins s σ H x y v u Q I rx ry h
  obtain ⟨i, j, rfl, rfl, q⟩ := h
  obtain ⟨t, rfl⟩ := rx
  obtain ⟨t', rfl⟩ := ry
  exact in_str (fin_bl I q rfl)

/-- is None, is not None: the right side a value none -/
theorem op_isN : OpR X (compareOp .Is) (fun x y H Q => y = .non ∧ Q (.bl (decide (x = .non))) H) := by
  intro pins s σ H x y v u Q I rx ry h
  obtain ⟨rfl, q⟩ := h
  cases ry
  refine is_none_gen (fin_bl I q ?_)
  cases x <;> first
    | (cases rx; rfl)
    | (obtain ⟨t, rfl⟩ := rx; rfl)
theorem op_notN : OpR X (compareOp .IsNot) (fun x y H Q => y = .non ∧ Q (.bl (!decide (x = .non))) H) := by
  intro pins s σ H x y v u Q I rx ry h
  obtain ⟨rfl, q⟩ := h
  cases ry
  refine isnot_none_gen (fin_bl I q ?_)
  cases x <;> first
    | (cases rx; rfl)
    | (obtain ⟨t, rfl⟩ := rx; rfl)

theorem op_notin_str : OpR X (compareOp .NotIn) (fun x y H Q => ∃ i j, x = .str i ∧ y = .str j ∧ Q (.bl (!(!(Builtin.Str.occurrences j i 0 j.length 1).isEmpty))) H) := by
  intro pins s σ H x y v u Q I rx ry h
  obtain ⟨i, j, rfl, rfl, q⟩ := h
  obtain ⟨t, rfl⟩ := rx
  obtain ⟨t', rfl⟩ := ry
  exact notIn_str (fin_bl I q rfl)
/-- is, is not of two objects that are tracked lists or instances -/
def isObj : HO → Bool
  | .lst _ => true
  | .ins _ _ _ => true
  | _ => false
theorem obj_there {pins : List (Addr × Obj)} {s : Shared} {σ : St} {H : Hp} {a : Addr} {o : HO} (I : Inv X pins σ H s) (h : H a = some o) (p : isObj o = true) : ∃ ob, s.heap.get? a = some ob ∧ ob.cls ≠ .type "tuple" := by
  cases o with
  | lst xs =>
    obtain ⟨_, its, n, _, e⟩ : xs.length ≤ sizeLine ∧ ∃ (its : List Value) (n : Nat), Vals xs its ∧ s.heap.get? a = some { cls := .type "list", data := .seq its.toArray n } := I.hok a _ h
    exact ⟨_, e, (by show Value.type "list" ≠ .type "tuple"; decide +kernel)⟩
  | ins C dx fs =>
    have x := I.hok a _ h
    obtain ⟨_, _, _, e, _⟩ := x
    exact ⟨_, e, (by show Value.ref C ≠ .type "tuple"; exact fun z => by cases z)⟩
  | _ => exact absurd (show false = true from p) Bool.false_ne_true
theorem op_is_ref : OpR X (compareOp .Is) (fun x y H Q => ∃ a b oa ob, x = .ref a ∧ y = .ref b ∧ H a = some oa ∧ isObj oa = true ∧ H b = some ob ∧ isObj ob = true ∧ Q (.bl (decide (a = b))) H) := by
  intro pins s σ H x y v u Q I rx ry h
  obtain ⟨a, b, oa, ob, rfl, rfl, ha, pa, hb, pb, q⟩ := h
  cases rx
  cases ry
  obtain ⟨o1, e1, n1⟩ := obj_there I ha pa
  obtain ⟨o2, e2, _⟩ := obj_there I hb pb
  by_cases z : a = b
  · subst z
    exact wpAny_is_ref_self (fin_bl I q (by simp))
  · exact wpAny_is_ref_other z e1 e2 n1 (fin_bl I q (by simp [z]))
theorem op_isnot_ref : OpR X (compareOp .IsNot) (fun x y H Q => ∃ a b oa ob, x = .ref a ∧ y = .ref b ∧ H a = some oa ∧ isObj oa = true ∧ H b = some ob ∧ isObj ob = true ∧ Q (.bl (!decide (a = b))) H) := by
  intro pins s σ H x y v u Q I rx ry h
  obtain ⟨a, b, oa, ob, rfl, rfl, ha, pa, hb, pb, q⟩ := h
  cases rx
  cases ry
  obtain ⟨o1, e1, n1⟩ := obj_there I ha pa
  obtain ⟨o2, e2, _⟩ := obj_there I hb pb
  by_cases z : a = b
  · subst z
    exact wpAny_isNot_ref_self (fin_bl I q (by simp))
  · exact wpAny_isNot_ref_other z e1 e2 n1 (fin_bl I q (by simp [z]))

/-- two rules for one operation: by cases -/
theorem OpR.or {f : Value → Value → Sem Value} {r r' : R2} (h : OpR X f r) (h' : OpR X f r') : OpR X f (fun x y H Q => r x y H Q ∨ r' x y H Q) := by
  intro pins s σ H x y v u Q I rx ry q
  rcases q with q | q
  · exact h pins s σ H x y v u Q I rx ry q
  · exact h' pins s σ H x y v u Q I rx ry q

theorem nomark (b : Expr) {op : CmpOp} (h : op ≠ .In := by decide) (h2 : op ≠ .NotIn := by decide) : behindInMarks op b = false := by
  have e1 : (op == CmpOp.In) = false := by cases op <;> first | rfl | exact absurd rfl h
  have e2 : (op == CmpOp.NotIn) = false := by cases op <;> first | rfl | exact absurd rfl h2
  cases b <;> simp [behindInMarks, e1, e2]
/-- a comparison as a value; hm: nomark b, or (for in, not in) by with_unfolding_all rfl -/
theorem pe_cmpR {op : CmpOp} {r : R2} (ho : OpR X (compareOp op) r) (ha : PE X a ta) (hb : PE X b tb) (hm : behindInMarks op b = false) : PE X (.Compare a [op] [b] pos) (tOp r ta tb) := by
  intro pins s σ H Q I h
  exact wpAny_Compare1 (binT ha hb I h fun v u s2 x y H2 I2 rx ry q => ho pins s2 σ H2 x y v u Q I2 rx ry q) hm
/-- a reading of a value as a test -/
def tTest (t : TE) : TT := fun σ H Q => t σ H fun x H' => ∃ k, x = .bl k ∧ Q k H'
theorem pt_cmpR {op : CmpOp} {r : R2} (ho : OpR X (compareOp op) r) (ha : PE X a ta) (hb : PE X b tb) (hm : behindInMarks op b = false) : PT X (.Compare a [op] [b] pos) (tTest (tOp r ta tb)) := by
  intro pins s σ H Q I h
  refine wpAny_isTrue_Compare1 (thn (ha pins s σ H _ I h) fun v s1 ⟨x, H1, I1, r1, q1⟩ => thn (hb pins s1 σ H1 _ I1 q1) fun u s2 ⟨y, H2, I2, r2, q2⟩ =>
    thn (ho pins s2 σ H2 x y v u _ I2 r1 r2 q2) fun c s3 ⟨z, H3, I3, r3, k, e, q3⟩ => ?_) hm
  subst e
  cases r3
  exact wpAny_truthy_bool ⟨H3, I3, q3⟩
/-- a op1 b op2 c -/
def tChain (r r' : R2) (ta tb tc : TE) : TE := fun σ H Q => ta σ H fun x H1 => tb σ H1 fun y H2 => r x y H2 fun z H3 => ∃ k, z = .bl k ∧
  (if k = true then tc σ H3 fun w' H4 => r' y w' H4 Q else Q (.bl false) H3)
theorem pe_chain {op op' : CmpOp} {r r' : R2} (ho : OpR X (compareOp op) r) (ho' : OpR X (compareOp op') r') (ha : PE X a ta) (hb : PE X b tb) (hc : PE X c tc)
    (hm : lastMarks [op, op'] [b, c] = false := by with_unfolding_all rfl) : PE X (.Compare a [op, op'] [b, c] pos) (tChain r r' ta tb tc) := by
  intro pins s σ H Q I h
  refine Compare_chain (thn (ha pins s σ H _ I h) fun v s1 ⟨x, H1, I1, r1, q1⟩ => chain_link (thn (hb pins s1 σ H1 _ I1 q1) fun u s2 ⟨y, H2, I2, r2, q2⟩ =>
    thn (ho pins s2 σ H2 x y v u _ I2 r1 r2 q2) fun d s3 ⟨z, H3, I3, r3, k, e, q3⟩ => ?_)) hm
  subst e
  cases r3
  refine wpAny_truthy_bool ?_
  cases k with
  | false => exact ite_ff ⟨.bl false, H3, I3, rfl, q3⟩
  | true => exact ite_tt (chain_last (thn (hc pins s3 σ H3 _ I3 q3) fun w' s4 ⟨z', H4, I4, r4, q4⟩ => ho' pins s4 σ H4 y z' u w' Q I4 r2 r4 q4))
theorem pt_chain {op op' : CmpOp} {r r' : R2} (ho : OpR X (compareOp op) r) (ho' : OpR X (compareOp op') r') (ha : PE X a ta) (hb : PE X b tb) (hc : PE X c tc)
    (hm : lastMarks [op, op'] [b, c] = false := by with_unfolding_all rfl) : PT X (.Compare a [op, op'] [b, c] pos) (tTest (tChain r r' ta tb tc)) := by
  intro pins s σ H Q I h
  refine isTrue_chain (thn (ha pins s σ H _ I h) fun v s1 ⟨x, H1, I1, r1, q1⟩ => test_link (thn (hb pins s1 σ H1 _ I1 q1) fun u s2 ⟨y, H2, I2, r2, q2⟩ =>
    thn (ho pins s2 σ H2 x y v u _ I2 r1 r2 q2) fun d s3 ⟨z, H3, I3, r3, k, e, q3⟩ => ?_)) hm
  subst e
  cases r3
  refine wpAny_truthy_bool ?_
  cases k with
  | false =>
    obtain ⟨k', e', q'⟩ := q3
    cases e'
    exact ite_ff ⟨H3, I3, q'⟩
  | true =>
    refine ite_tt (test_last (thn (hc pins s3 σ H3 _ I3 q3) fun w' s4 ⟨z', H4, I4, r4, q4⟩ => thn (ho' pins s4 σ H4 y z' u w' _ I4 r2 r4 q4) fun d' s5 ⟨z2, H5, I5, r5, k2, e2, q5⟩ => ?_))
    subst e2
    cases r5
    exact wpAny_truthy_bool ⟨H5, I5, q5⟩

/-! ### truth -/
/-- a value's truth by the abstract heap -/
def TruV (K : PySem.W.Frag) (x : V) (H : Hp) (k : Bool) : Prop :=
  match x with
  | .non => k = false
  | .bl b => k = b
  | .int i => k = (i != 0)
  | .str y => y.length ≤ sizeLine ∧ k = ((y.length : Int) != 0)
  | .byt y => y.size ≤ sizeLine ∧ k = ((y.size : Int) != 0)
  | .ref p => (∃ xs, SqL K H p xs ∧ k = !xs.isEmpty) ∨ (∃ xs, SqT K H p xs ∧ k = !xs.isEmpty) ∨ ∃ kvs, H p = some (.dK kvs) ∧ k = !kvs.isEmpty
  | _ => False
theorem isEmpty_kv {κ : Type} {kvs : List (κ × V)} {vs : List (κ × Value)} (r : KV kvs vs) : (!vs.isEmpty) = !kvs.isEmpty := by
  cases r <;> rfl
theorem isEmpty_of {xs : List V} {its : List Value} (r : Vals xs its) : (!its.toArray.isEmpty) = !xs.isEmpty := by
  cases r <;> simp
theorem line63 : (sizeLine : Nat) < 2 ^ 63 := by rw [sizeLine_eq]; decide
theorem tru_ok : TruR X (fun x H Q => ∃ k, TruV X.K x H k ∧ Q k H) := by
  intro pins s σ H x v Q I rx h
  obtain ⟨k, e, q⟩ := h
  have hl := line63
  have hs : sizeLine = 16777216 := sizeLine_eq
  cases x with
  | non =>
    cases rx
    have e' : k = false := e
    subst e'
    exact truthy_none ⟨H, I, q⟩
  | bl b =>
    cases rx
    have e' : k = b := e
    subst e'
    exact wpAny_truthy_bool ⟨H, I, q⟩
  | int i =>
    obtain ⟨t, rfl⟩ := rx
    have e' : k = (i != 0) := e
    subst e'
    exact PySem.P.truthy_int ⟨H, I, q⟩
  | str y =>
    obtain ⟨t, rfl⟩ := rx
    obtain ⟨hy, e'⟩ : y.length ≤ sizeLine ∧ k = ((y.length : Int) != 0) := e
    subst e'
    exact PySem.P.truthy_str (by omega) ⟨H, I.tok _, q⟩
  | byt y =>
    obtain ⟨t, rfl⟩ := rx
    obtain ⟨hy, e'⟩ : y.size ≤ sizeLine ∧ k = ((y.size : Int) != 0) := e
    subst e'
    exact PySem.W.truthy_bytes (by omega) ⟨H, I.tok _, q⟩
  | ref p =>
    cases rx
    have e' : (∃ xs, SqL X.K H p xs ∧ k = !xs.isEmpty) ∨ (∃ xs, SqT X.K H p xs ∧ k = !xs.isEmpty) ∨ ∃ kvs, H p = some (.dK kvs) ∧ k = !kvs.isEmpty := e
    rcases e' with ⟨xs, hx, e'⟩ | ⟨xs, hx, e'⟩ | ⟨kvs, hx, e'⟩
    · subst e'
      obtain ⟨its, r, pl, hz⟩ := I.list hx
      have hlen := r.length
      exact wpAny_truthy_list pl.isList (by simp only [List.size_toArray]; omega) ⟨H, I.tok _, by rw [isEmpty_of r]; exact q⟩
    · subst e'
      obtain ⟨its, r, pl, hz⟩ := I.tuple hx
      have hlen := r.length
      exact truthy_tuple pl (by simp only [List.size_toArray]; omega) ⟨H, I.tok _, by rw [isEmpty_of r]; exact q⟩
    · subst e'
      obtain ⟨hz, hS, vs, r, m⟩ : kvs.length ≤ sizeLine ∧ (p == sysModules) = false ∧ ∃ vs, KV kvs vs ∧ s.heap.DictOf (mixKind X.prog X.w) p vs := I.hok p _ hx
      have hlen : kvs.length = vs.length := Paired.length r
      exact wpAny_truthy_dict hS m (by omega) ⟨H, I.tok _, by rw [isEmpty_kv r]; exact q⟩
  | _ => exact (show False from e).elim
/-- any expression whose test is its value's truth (a name, a call, a subscript, a field ..: he by fun _ => rfl) -/
theorem pt_truth (ha : PE X a ta) (he : ∀ whole, isTrue a X.env whole = (do let v ← whole; standAt a.pos; holding [v] (truthy v))) :
    PT X a (fun σ H Q => ta σ H fun x H' => ∃ k, TruV X.K x H' k ∧ Q k H') := by
  intro pins s σ H Q I h
  exact isTrue_plain (thn (ha pins s σ H _ I h) fun v s1 ⟨x, H1, I1, r1, q1⟩ => tru_ok pins s1 σ H1 x v Q I1 r1 q1) (he _)

/-! ### strs and bytes -/
theorem pe_byt {x : List UInt8} {k : Nat} : PE X (.Constant (.bytes x) k pos) (fun _ H Q => Q (.byt x.toArray) H) := fun _ _ _ H _ I h => PySem.W.Constant_bytes ⟨.byt x.toArray, H, I.tok _, ⟨_, rfl⟩, h⟩
theorem op_add_str : OpR X (binaryOp .Add) (fun x y H Q => ∃ i j, x = .str i ∧ y = .str j ∧ i.length + j.length ≤ sizeLine ∧ Q (.str (i ++ j)) H) := by
  intro pins s σ H x y v u Q I rx ry h
  obtain ⟨i, j, rfl, rfl, hz, q⟩ := h
  obtain ⟨t, rfl⟩ := rx
  obtain ⟨t', rfl⟩ := ry
  exact add_str (fun t' tk => ⟨.str (i ++ j), H, I.tok _, ⟨_, rfl⟩, q⟩) hz
/-! ### scalar builtins, by CallR -/
theorem vals1 {x : V} {us : List Value} (r : Vals [x] us) : ∃ u, us = [u] ∧ RelV x u := by
  cases r with
  | cons r1 r2 => cases r2; exact ⟨_, rfl, r1⟩
theorem vals2 {x y : V} {us : List Value} (r : Vals [x, y] us) : ∃ u w', us = [u, w'] ∧ RelV x u ∧ RelV y w' := by
  cases r with
  | cons r1 r2 =>
    cases r2 with
    | cons r3 r4 => cases r4; exact ⟨_, _, rfl, r1, r3⟩
theorem call_abs : CallR X (.builtin "abs") (fun xs H Q => ∃ i, xs = [.int i] ∧ Q (.int (if i < 0 then -i else i)) H) := by
  intro pins s σ H xs us Q I r h
  obtain ⟨i, rfl, q⟩ := h
  obtain ⟨u, rfl, t, rfl⟩ := vals1 r
  exact call_abs_int fun u tk => ⟨.int (if i < 0 then -i else i), H, I.tok _, ⟨_, rfl⟩, q⟩
theorem call_max2 (hc : X.calm = true) : CallR X (.builtin "max") (fun xs H Q => ∃ i j, xs = [.int i, .int j] ∧ Q (.int (if j > i then j else i)) H) := by
  intro pins s σ H xs us Q I r h
  obtain ⟨i, j, rfl, q⟩ := h
  obtain ⟨u, w', rfl, ⟨t, rfl⟩, ⟨t', rfl⟩⟩ := vals2 r
  refine max_two_ints (I.ok.hd hc) fun h' tk k => ⟨_, H, I.kept k, ?_, q⟩
  by_cases hj : j > i
  · rw [if_pos hj, if_pos hj]; exact ⟨_, rfl⟩
  · rw [if_neg hj, if_neg hj]; exact ⟨_, rfl⟩
theorem call_min2 (hc : X.calm = true) : CallR X (.builtin "min") (fun xs H Q => ∃ i j, xs = [.int i, .int j] ∧ Q (.int (if j < i then j else i)) H) := by
  intro pins s σ H xs us Q I r h
  obtain ⟨i, j, rfl, q⟩ := h
  obtain ⟨u, w', rfl, ⟨t, rfl⟩, ⟨t', rfl⟩⟩ := vals2 r
  refine min_two_ints (I.ok.hd hc) fun h' tk k => ⟨_, H, I.kept k, ?_, q⟩
  by_cases hj : j < i
  · rw [if_pos hj, if_pos hj]; exact ⟨_, rfl⟩
  · rw [if_neg hj, if_neg hj]; exact ⟨_, rfl⟩
theorem call_int1 : CallR X (.type "int") (fun xs H Q => (∃ i, xs = [.int i] ∧ Q (.int i) H) ∨ ∃ k, xs = [.bl k] ∧ Q (.int (if k then 1 else 0)) H) := by
  intro pins s σ H xs us Q I r h
  rcases h with ⟨i, rfl, q⟩ | ⟨k, rfl, q⟩
  · obtain ⟨u, rfl, t, rfl⟩ := vals1 r
    exact call_int_int ⟨.int i, H, I, ⟨_, rfl⟩, q⟩
  · obtain ⟨u, rfl, r1⟩ := vals1 r
    cases r1
    exact call_int_bool ⟨.int (if k then 1 else 0), H, I.tok _, ⟨_, rfl⟩, q⟩
theorem call_bool1 : CallR X (.type "bool") (fun xs H Q => (∃ i, xs = [.int i] ∧ Q (.bl (i != 0)) H) ∨ ∃ k, xs = [.bl k] ∧ Q (.bl k) H) := by
  intro pins s σ H xs us Q I r h
  rcases h with ⟨i, rfl, q⟩ | ⟨k, rfl, q⟩
  · obtain ⟨u, rfl, t, rfl⟩ := vals1 r
    exact call_bool_int ⟨.bl (i != 0), H, I, rfl, q⟩
  · obtain ⟨u, rfl, r1⟩ := vals1 r
    cases r1
    exact call_bool_bool ⟨.bl k, H, I, rfl, q⟩
theorem call_str_int : CallR X (.type "str") (fun xs H Q => ∃ i, xs = [.int i] ∧ i.natAbs.log2 < 1920 ∧ Q (.str (toString i)) H) := by
  intro pins s σ H xs us Q I r h
  obtain ⟨i, rfl, hz, q⟩ := h
  obtain ⟨u, rfl, t, rfl⟩ := vals1 r
  exact PySem.P.str_of_int hz ⟨.str _, H, I.tok _, ⟨_, rfl⟩, q⟩
theorem call_ord : CallR X (.builtin "ord") (fun xs H Q => ∃ x, xs = [.str x] ∧ x.length = 1 ∧ Q (.int (x.cps.getD 0 0 : Nat)) H) := by
  intro pins s σ H xs us Q I r h
  obtain ⟨x, rfl, hz, q⟩ := h
  obtain ⟨u, rfl, t, rfl⟩ := vals1 r
  exact ord_of_one hz ⟨.int _, H, I.tok _, ⟨_, rfl⟩, q⟩
theorem call_chr : CallR X (.builtin "chr") (fun xs H Q => ∃ i, xs = [.int i] ∧ 0 ≤ i ∧ i ≤ 1114111 ∧ Q (.str ⟨#[i.toNat]⟩) H) := by
  intro pins s σ H xs us Q I r h
  obtain ⟨i, rfl, h0, h1, q⟩ := h
  obtain ⟨u, rfl, t, rfl⟩ := vals1 r
  exact chr_of_range h0 h1 ⟨.str _, H, I.tok _, ⟨_, rfl⟩, q⟩
/-- len of a str, a bytes, a list, a tuple -/
def LenV (K : PySem.W.Frag) (x : V) (H : Hp) (n : Nat) : Prop :=
  match x with
  | .str y => y.length ≤ sizeLine ∧ n = y.length
  | .byt y => y.size ≤ sizeLine ∧ n = y.size
  | .ref p => (∃ xs, SqL K H p xs ∧ n = xs.length) ∨ ∃ xs, SqT K H p xs ∧ n = xs.length
  | _ => False
theorem call_len : CallR X (.builtin "len") (fun xs H Q => ∃ x n, xs = [x] ∧ LenV X.K x H n ∧ Q (.int n) H) := by
  intro pins s σ H xs us Q I r h
  obtain ⟨x, n, rfl, e, q⟩ := h
  obtain ⟨u, rfl, rx⟩ := vals1 r
  have hl := line63
  have hs : sizeLine = 16777216 := sizeLine_eq
  cases x with
  | str y =>
    obtain ⟨t, rfl⟩ := rx
    obtain ⟨hy, e'⟩ : y.length ≤ sizeLine ∧ n = y.length := e
    subst e'
    exact len_str (by omega) ⟨.int _, H, I.tok _, ⟨_, rfl⟩, q⟩
  | byt y =>
    obtain ⟨t, rfl⟩ := rx
    obtain ⟨hy, e'⟩ : y.size ≤ sizeLine ∧ n = y.size := e
    subst e'
    exact PySem.W.len_bytes (by omega) ⟨.int _, H, I.tok _, ⟨_, rfl⟩, q⟩
  | ref p =>
    cases rx
    have e' : (∃ xs, SqL X.K H p xs ∧ n = xs.length) ∨ ∃ xs, SqT X.K H p xs ∧ n = xs.length := e
    rcases e' with ⟨xs, hx, e'⟩ | ⟨xs, hx, e'⟩
    · subst e'
      obtain ⟨its, r', pl, hz⟩ := I.list hx
      have hlen := r'.length
      exact Calls.call_len_list pl.isList (by simp only [List.size_toArray]; omega) ⟨.int xs.length, H, I.tok _, ⟨_, by simp only [List.size_toArray]; rw [hlen]⟩, q⟩
    · subst e'
      obtain ⟨its, r', pl, hz⟩ := I.tuple hx
      have hlen := r'.length
      exact len_tuple pl (by simp only [List.size_toArray]; omega) ⟨.int xs.length, H, I.tok _, ⟨_, by simp only [List.size_toArray]; rw [hlen]⟩, q⟩
  | _ => exact (show False from e).elim
/-- divmod: a new tuple -/
theorem call_divmod : CallR X (.builtin "divmod") (fun xs H Q => ∃ i j, xs = [.int i, .int j] ∧ CDiv i j ∧ ∀ p, H p = none → Q (.ref p) (upd H p (.tup [.int (i / j), .int (i % j)]))) := by
  intro pins s σ H xs us Q I r h
  obtain ⟨i, j, rfl, ⟨h1, h2⟩, q⟩ := h
  obtain ⟨u, w', rfl, ⟨t, rfl⟩, ⟨t', rfl⟩⟩ := vals2 r
  refine divmod_int (by omega) ?_ (.inl (PyProof.noPylong_small (by omega)))
  rw [Int.fdiv_eq_ediv_of_nonneg i (by omega), Int.fmod_eq_emod_of_nonneg i (by omega)]
  have hn : H s.heap.objs.size = none := I.hok.fresh (Nat.le_refl _)
  refine ⟨.ref s.heap.objs.size, _, ?_, rfl, q _ hn⟩
  refine I.laid (fun b o e => Heap.get?_push_of_some _ e) (Nat.le_refl _) ⟨by simp only [List.length_cons, List.length_nil]; rw [sizeLine_eq]; decide, [.int (i / j) s.toks, .int (i % j) (s.toks + 1)], .cons ⟨_, rfl⟩ (.cons ⟨_, rfl⟩ .nil), ?_⟩
  exact ⟨_, Heap.get?_push_size s.heap rfl, rfl, 0, rfl⟩
end
end L2

namespace L2
open PySem PySem.Spec PyProof.Rows

/-! ### an instance, its attributes a map -/
structure ObjM (h : Heap) (x dx C : Addr) (mA : Str → Option Value) : Prop where
  obj : h.get? x = some (PySem.W.instObj C dx)
  ns : h.Ns1 dx mA
  ne : dx ≠ x

theorem lookIn_ns {h : Heap} {dx : Addr} {mA : Str → Option Value} (n : h.Ns1 dx mA) : ∃ od, h.get? dx = some od ∧ ∀ name, PySem.W.lookIn name od = some (mA name) := by
  obtain ⟨o, es, ep, ho, hd, hk, _, hm⟩ := n
  refine ⟨o, ho, fun name => ?_⟩
  have e := hm name
  unfold nsFind findBy at e
  rw [← Array.find?_toList] at e
  unfold PySem.W.lookIn
  rw [hd]
  dsimp only
  split
  · rename_i y q
    rw [q] at e
    exact congrArg some e
  · rename_i q
    rw [q] at e
    have a : es.toList.any (·.refKey) = false := by
      rw [List.any_eq_false]
      intro y hy
      obtain ⟨z, t, hkey⟩ := hk y (Array.mem_toList_iff.mp hy)
      simp [DictEntry.refKey, hkey]
    have a' : ¬ es.toList.any (·.refKey) = true := by rw [a]; exact Bool.false_ne_true
    rw [if_neg a']
    exact congrArg some e

theorem ObjM.look {h : Heap} {x dx C : Addr} {mA : Str → Option Value} (I : ObjM h x dx C mA) : ∃ od, PySem.W.InstAt h x (PySem.W.instObj C dx) C (some od) ∧ ∀ name, PySem.W.lookIn name od = some (mA name) :=
  let ⟨od, ho, hl⟩ := lookIn_ns I.ns
  ⟨od, ⟨I.obj, rfl, rfl, ho⟩, hl⟩

section
variable {prog : Program} {w : World} {A : Around} {E : Value → Shared → Prop} {s : Shared} {K : PySem.W.Frag} {x dx C f : Addr} {mA : Str → Option Value} {name : Str} {v : Value}

theorem get_map {expr : Bool} {Q : Value → Shared → Prop} (X : K.In s.heap) (I : ObjM s.heap x dx C mA) (hg : PySem.W.plainGet K C name = true) (hh : PySem.W.hasDictIn K C = true)
    (ha : PySem.W.findIn K (.ref C) name = some none) (hv : mA name = some v) (hv' : PySem.W.handedIn v = true) (h : Q v { s with toks := s.toks + 1 }) :
    wpAny (model prog w) A (getAttr (.ref x) name expr) Q E s := by
  obtain ⟨od, J, hl⟩ := I.look
  exact PySem.W.get_value X J (PySem.W.plainGet_of hg).1 (PySem.W.findObj_own hh ha rfl (by rw [hl, hv])) hv' h

theorem get_const {expr : Bool} {a : Value} {Q : Value → Shared → Prop} (X : K.In s.heap) (I : ObjM s.heap x dx C mA) (hg : PySem.W.plainGet K C name = true) (hh : PySem.W.hasDictIn K C = true)
    (ha : PySem.W.findIn K (.ref C) name = some (some a)) (hn : PySem.W.specialIn K a "__get__" = some none) (hc : PySem.W.copiedNames.contains name = false) (hv : mA name = none) (hv' : PySem.W.handedIn a = true)
    (h : Q a { s with toks := s.toks + 1 }) : wpAny (model prog w) A (getAttr (.ref x) name expr) Q E s := by
  obtain ⟨od, J, hl⟩ := I.look
  exact PySem.W.get_value X J (PySem.W.plainGet_of hg).1 (PySem.W.findObj_cls hh ha hn hv' hc (by rw [hl, hv])) hv' h

theorem get_meth {pl : Sem Bool} {Q : Value × List Value → Shared → Prop} (X : K.In s.heap) (I : ObjM s.heap x dx C mA) (hg : PySem.W.plainGet K C name = true)
    (hf : PySem.W.findIn K (.ref C) name = some (some (.ref f))) (ht : PySem.W.isFn K (.ref f) = true) (hv : mA name = none) (h : Q (.ref f, [.ref x]) s) :
    wpAny (model prog w) A (getMethod (.ref x) name pl) Q E s := by
  obtain ⟨od, J, hl⟩ := I.look
  exact PySem.W.method_fn X J (PySem.W.plainGet_of hg).1 (PySem.W.plainGet_of hg).2 hf (beq_iff_eq.mp ht) (by show (PySem.W.lookIn name od).map (·.isSome) = some false; rw [hl, hv]; rfl) h

theorem set_map {ns : List Str} {Q : Unit → Shared → Prop} (X : K.In s.heap) (I : ObjM s.heap x dx C mA)
    (hs : PySem.W.findIn K (.ref C) "__setattr__" = some (some (.builtin "object.__setattr__"))) (hp : PySem.W.plainOver K C = true) (ht : PySem.W.takerIn K C name = some none) (hh : PySem.W.hasDictIn K C = true)
    (hw : PySem.Within mA ns) (hsz : ns.length ≤ sizeLine)
    (h : ∀ h', ObjM h' x dx C (fun y => if y = name then some v else mA y) → Heap.SameBut dx s.heap h' → Q () { s with heap := h', toks := s.toks + 2 }) :
    wpAny (model prog w) A (setAttr (.ref x) name v) Q E s := by
  obtain ⟨od, J, hl⟩ := I.look
  refine PySem.W.set_plain X J hs (PySem.W.osa_open (s := { s with toks := s.toks + 1 }) (r := none) X J hp ht fun b => ?_)
  obtain ⟨cd, hc, hd'⟩ := PySem.W.any_some hh
  have hx : s.heap.get? x = some ⟨.ref C, some dx, .plain, #[]⟩ := I.obj
  refine wpAny_bind (wpAny_pure (wpAny_bind (wpAny_bind (wpAny_loadPart hx (wpAny_bind (PySem.W.Looks.here (s := { s with toks := s.toks + 1 }) (PySem.W.looks_clsIn X hc) ?_))))))
  rw [hd']
  refine wpAny_pure (a := some dx) (wpAny_bind (wpAny_pure (wpAny_bind ?_)))
  refine wpAny_nsSet1 (s := { s with toks := s.toks + 1 }) I.ns fun h' hn2 hs2 => ?_
  obtain ⟨oD, esD, epD, hoD, hdD, hcD⟩ := hn2.count (PySem.Within.cons name v hw)
  refine wpAny_bind (wpAny_lookBehind hoD (by rw [hdD]; exact pastItsLine_dict (Nat.le_trans hcD (by rw [List.length_cons]; omega))) ?_)
  exact wpAny_pure (h _ ⟨(hs2.2 _ (Ne.symm I.ne)).trans I.obj, hn2, I.ne⟩ hs2)

/-- C(..): the dict at the heap's end, the instance behind it; then its __init__ -/
theorem make_map {R : Result → Shared → Prop} {vs : List Value} {kw : List (Str × Value)} (X : K.In s.heap) (hm : PySem.W.makesIn K C = true)
    (hi : PySem.W.findIn K (.ref C) "__init__" = some (some (.ref f))) (hf : PySem.W.typeIn K (.ref f) = some (.type "function"))
    (h : codeAny (model prog w) (A.under (.builtin "type.__call__" ⟨.ref C :: vs, kw⟩)) (.call (.ref f) ⟨.ref (s.heap.objs.size + 1) :: vs, kw⟩) (PySem.W.InitBack (s.heap.objs.size + 1) R)
      { s with heap := (s.heap.push PySem.W.emptyDict).push (PySem.W.instObj C s.heap.objs.size) }) :
    codeAny (model prog w) A (.call (.ref C) ⟨vs, kw⟩) R s := by
  obtain ⟨hh, g, d, t, os⟩ := s
  exact PySem.W.make_core (PySem.W.makes_of X hm) (PySem.W.looks_findIn X hi) (fun self => PySem.W.bind_fn X self hf) (.inl rfl) h
/-- C() where there is no __init__ but object's -/
theorem make_map0 {R : Result → Shared → Prop} (X : K.In s.heap) (hm : PySem.W.makesIn K C = true)
    (hi : PySem.W.findIn K (.ref C) "__init__" = some (some (.builtin "object.__init__")))
    (hb : ∀ self, PySem.W.Looks (model prog w) s.heap (bindSpecial (.builtin "object.__init__") self) (.builtin "object.__init__", [self]))
    (h : codeAny (model prog w) (A.under (.builtin "type.__call__" ⟨[.ref C], []⟩)) (.call (.builtin "object.__init__") ⟨[.ref (s.heap.objs.size + 1)], []⟩) (PySem.W.InitBack (s.heap.objs.size + 1) R)
      { s with heap := (s.heap.push PySem.W.emptyDict).push (PySem.W.instObj C s.heap.objs.size) }) :
    codeAny (model prog w) A (.call (.ref C) ⟨[], []⟩) R s := by
  obtain ⟨hh, g, d, t, os⟩ := s
  exact PySem.W.make_core (PySem.W.makes_of X hm) (PySem.W.looks_findIn X hi) hb (.inr ⟨rfl, rfl⟩) h
end

/-! ### the attributes as a list of pairs -/
def putF (f : Str) (v : V) : List (Str × V) → List (Str × V)
  | [] => [(f, v)]
  | (g, x) :: r => if g = f then (g, v) :: r else (g, x) :: putF f v r
theorem lookup_putF (f g : Str) (v : V) : ∀ fs : List (Str × V), (putF f v fs).lookup g = if g = f then some v else fs.lookup g
  | [] => by
    show List.lookup g [(f, v)] = _
    by_cases h : g = f
    · have hb : (g == f) = true := beq_iff_eq.mpr h
      simp only [List.lookup, hb, if_pos h]
    · have hb : (g == f) = false := beq_eq_false_iff_ne.mpr h
      simp only [List.lookup, hb, if_neg h]
  | (k, x) :: r => by
    have ih := lookup_putF f g v r
    rw [show putF f v ((k, x) :: r) = (if k = f then (k, v) :: r else (k, x) :: putF f v r) from rfl]
    by_cases hk : k = f
    · rw [if_pos hk]
      by_cases h : g = k
      · have hb : (g == k) = true := beq_iff_eq.mpr h
        simp only [List.lookup, hb, if_pos (h.trans hk)]
      · have hb : (g == k) = false := beq_eq_false_iff_ne.mpr h
        simp only [List.lookup, hb, if_neg (fun e : g = f => h (e.trans hk.symm))]
    · rw [if_neg hk]
      by_cases h : g = k
      · have hb : (g == k) = true := beq_iff_eq.mpr h
        simp only [List.lookup, hb, if_neg (fun e : g = f => hk (h.symm.trans e))]
      · have hb : (g == k) = false := beq_eq_false_iff_ne.mpr h
        simp only [List.lookup, hb]
        exact ih
theorem keys_putF (f : Str) (v : V) : ∀ fs : List (Str × V), f ∈ (putF f v fs).map (·.1) ∧ ∀ g, g ∈ fs.map (·.1) → g ∈ (putF f v fs).map (·.1)
  | [] => ⟨by simp [putF], fun g h => by simp at h⟩
  | (k, x) :: r => by
    obtain ⟨i1, i2⟩ := keys_putF f v r
    rw [show putF f v ((k, x) :: r) = (if k = f then (k, v) :: r else (k, x) :: putF f v r) from rfl]
    by_cases hk : k = f
    · rw [if_pos hk]
      subst hk
      exact ⟨by simp, fun g h => by simpa using h⟩
    · rw [if_neg hk]
      refine ⟨?_, fun g h => ?_⟩
      · rw [List.map_cons]
        exact List.mem_cons_of_mem _ i1
      · rw [List.map_cons] at h ⊢
        rcases List.mem_cons.mp h with e | e
        · exact List.mem_cons.mpr (.inl e)
        · exact List.mem_cons_of_mem _ (i2 g e)
theorem length_putF (f : Str) (v : V) : ∀ fs : List (Str × V), (putF f v fs).length ≤ fs.length + 1
  | [] => by simp [putF]
  | (k, x) :: r => by
    have ih := length_putF f v r
    rw [show putF f v ((k, x) :: r) = (if k = f then (k, v) :: r else (k, x) :: putF f v r) from rfl]
    by_cases hk : k = f
    · rw [if_pos hk, List.length_cons, List.length_cons]; omega
    · rw [if_neg hk, List.length_cons, List.length_cons]; omega

theorem RelO.some_of {v : V} {o : Option Value} (r : RelO (some v) o) : ∃ u, o = some u ∧ RelV v u := by
  cases o with
  | none => exact (show False from r).elim
  | some u => exact ⟨u, rfl, r⟩
theorem RelO.none_of {o : Option Value} (r : RelO none o) : o = none := by
  cases o with
  | none => rfl
  | some u => exact (show False from r).elim
theorem handed_of {v : V} {u : Value} (r : RelV v u) : PySem.W.handedIn u = true := by
  cases v with
  | non => cases (show u = Value.none from r); rfl
  | bl b => cases (show u = Value.bool b from r); rfl
  | int i => obtain ⟨t, e⟩ := (show ∃ t, u = Value.int i t from r); cases e; rfl
  | str x => obtain ⟨t, e⟩ := (show ∃ t, u = Value.str x t from r); cases e; rfl
  | byt b => obtain ⟨t, e⟩ := (show ∃ t, u = Value.bytes b t from r); cases e; rfl
  | flt b => obtain ⟨t, e⟩ := (show ∃ t, u = Value.float b t from r); cases e; rfl
  | ref a => cases (show u = Value.ref a from r); rfl
  | ty n => cases (show u = Value.type n from r); rfl

section
variable {P : Program} {w : World} {H H' : Hp} {h h' : Heap} {a C dx : Addr} {fs fs' : List (Str × V)}
theorem ins_get (hok : HOk P w H h) (e : H a = some (.ins C dx fs)) : ∃ mA, ObjM h a dx C mA ∧ (∀ f, RelO (fs.lookup f) (mA f)) ∧ PySem.Within mA (fs.map (·.1)) ∧ fs.length ≤ 1000 ∧ H dx = some (.own a) := by
  obtain ⟨d, z, ne, ob, mA, n, r, q⟩ := (show ObjOk P w H h a (.ins C dx fs) from hok a _ e)
  exact ⟨mA, ⟨ob, n, ne⟩, r, q, z, d⟩
end

/-! ### what of the text a class must have -/
structure Cls (K : PySem.W.Frag) (C : Addr) : Prop where
  pg : PySem.W.plainGet K C Str.empty = true
  hd : PySem.W.hasDictIn K C = true
  po : PySem.W.plainOver K C = true
  sa : PySem.W.findIn K (.ref C) "__setattr__" = some (some (.builtin "object.__setattr__"))
theorem Cls.get {K : PySem.W.Frag} {C : Addr} (c : Cls K C) (f : Str) : PySem.W.plainGet K C f = true := c.pg
/-- no class of it has the name -/
def NoAttr (K : PySem.W.Frag) (C : Addr) (f : Str) : Prop := PySem.W.findIn K (.ref C) f = some none
theorem NoAttr.taker {K : PySem.W.Frag} {C : Addr} {f : Str} (n : NoAttr K C f) : PySem.W.takerIn K C f = some none := by
  unfold PySem.W.takerIn
  rw [show PySem.W.findIn K (.ref C) f = some none from n]
  rfl
/-- a constant of the class -/
structure Con (K : PySem.W.Frag) (C : Addr) (f : Str) (v : V) (u : Value) : Prop where
  at_ : PySem.W.findIn K (.ref C) f = some (some u)
  rel : RelV v u
  get : PySem.W.specialIn K u "__get__" = some none
  cp : PySem.W.copiedNames.contains f = false
/-- a method: a plain def of the class or of one above it -/
structure Meth (K : PySem.W.Frag) (C : Addr) (m : Str) (f : Addr) : Prop where
  at_ : PySem.W.findIn K (.ref C) m = some (some (.ref f))
  fn : PySem.W.isFn K (.ref f) = true
  kp : PySem.W.keepIn K (.ref f) = true

section
variable {X : Cx} {pins : List (Addr × Obj)} {σ : St} {H : Hp} {s : Shared} {a C dx : Addr} {fs : List (Str × V)} {f : Str} {v : V} {A : Around} {E : Value → Shared → Prop}

theorem getattr_ok {b : Bool} {Q : Value → Shared → Prop} (I : Inv X pins σ H s) (e : H a = some (.ins C dx fs)) (c : Cls X.K C) (n : NoAttr X.K C f) (l : fs.lookup f = some v)
    (h : ∀ u s', Inv X pins σ H s' → RelV v u → Q u s') : wpAny (model X.prog X.w) A (getAttr (.ref a) f b) Q E s := by
  obtain ⟨mA, O, r, _, _, _⟩ := ins_get I.hok e
  obtain ⟨u, hu, ru⟩ := RelO.some_of (v := v) (o := mA f) (by rw [← l]; exact r f)
  exact get_map I.kIn O (c.get f) c.hd n hu (handed_of ru) (h u _ (I.tok _) ru)

theorem getcon_ok {b : Bool} {u : Value} {Q : Value → Shared → Prop} (I : Inv X pins σ H s) (e : H a = some (.ins C dx fs)) (c : Cls X.K C) (k : Con X.K C f v u) (l : fs.lookup f = none)
    (h : ∀ s', Inv X pins σ H s' → Q u s') : wpAny (model X.prog X.w) A (getAttr (.ref a) f b) Q E s := by
  obtain ⟨mA, O, r, _, _, _⟩ := ins_get I.hok e
  have hn : mA f = none := RelO.none_of (by rw [← l]; exact r f)
  exact get_const I.kIn O (c.get f) c.hd k.at_ k.get k.cp hn (handed_of k.rel) (h _ (I.tok _))

theorem getmeth_ok {m : Str} {g : Addr} {pl : Sem Bool} {Q : Value × List Value → Shared → Prop} (I : Inv X pins σ H s) (e : H a = some (.ins C dx fs)) (c : Cls X.K C) (k : Meth X.K C m g) (l : fs.lookup m = none)
    (h : Q (.ref g, [.ref a]) s) : wpAny (model X.prog X.w) A (getMethod (.ref a) m pl) Q E s := by
  obtain ⟨mA, O, r, _, _, _⟩ := ins_get I.hok e
  have hn : mA m = none := RelO.none_of (by rw [← l]; exact r m)
  exact get_meth I.kIn O (c.get m) k.at_ k.fn hn h

theorem setattr_ok {y : V} {u : Value} {Q : Unit → Shared → Prop} (I : Inv X pins σ H s) (e : H a = some (.ins C dx fs)) (c : Cls X.K C) (n : NoAttr X.K C f) (hl : fs.length < 1000) (ry : RelV y u)
    (h : ∀ s', Inv X pins σ (upd H a (.ins C dx (putF f y fs))) s' → Q () s') : wpAny (model X.prog X.w) A (setAttr (.ref a) f u) Q E s := by
  obtain ⟨mA, O, r, wi, _, ho⟩ := ins_get I.hok e
  have hz : (fs.map (·.1)).length ≤ sizeLine := by rw [List.length_map, sizeLine_eq]; omega
  refine set_map I.kIn O c.sa c.po n.taker c.hd wi hz fun h' O' sb => h _ ?_
  have hd : ∃ o, h'.get? dx = some o := let ⟨o, _, _, e', _⟩ := O'.ns; ⟨o, e'⟩
  refine I.write (x := a) (e := dx) (by rw [e]; exact True.intro) (.inr ho) (fun b q hb z => (sb.2 b hb).trans z) hd ?_
  refine ⟨by rw [upd_ne O.ne]; exact ho, ?_, O.ne, O'.obj, _, O'.ns, fun g => ?_, fun g hg => ?_⟩
  · have := length_putF f y fs; omega
  · show RelO ((putF f y fs).lookup g) (if g = f then some u else mA g)
    rw [lookup_putF]
    by_cases q : g = f
    · rw [if_pos q, if_pos q]; exact ry
    · rw [if_neg q, if_neg q]; exact r g
  · by_cases q : g = f
    · rw [q]; exact (keys_putF f y fs).1
    · refine (keys_putF f y fs).2 g (wi g fun z => hg ?_)
      show (if g = f then some u else mA g) = none
      rw [if_neg q]; exact z

/-- a new instance, tracked, without attributes -/
theorem Inv.made (I : Inv X pins σ H s) : Inv X pins σ (upd (upd H s.heap.objs.size (.own (s.heap.objs.size + 1))) (s.heap.objs.size + 1) (.ins C s.heap.objs.size []))
    { s with heap := (s.heap.push PySem.W.emptyDict).push (PySem.W.instObj C s.heap.objs.size) } := by
  have e1 : (s.heap.push PySem.W.emptyDict).get? s.heap.objs.size = some PySem.W.emptyDict := Heap.get?_push_size s.heap rfl
  have e2 : ((s.heap.push PySem.W.emptyDict).push (PySem.W.instObj C s.heap.objs.size)).get? (s.heap.objs.size + 1) = some (PySem.W.instObj C s.heap.objs.size) := by
    have := Heap.get?_push_size (s.heap.push PySem.W.emptyDict) (o := PySem.W.instObj C s.heap.objs.size) rfl
    rwa [Heap.size_push] at this
  have e3 : (s.heap.push PySem.W.emptyDict).Ns s.heap.objs.size (fun _ => none) := ⟨PySem.W.emptyDict, #[], _, e1, rfl, (fun e he => absurd he (by simp)), fun _ => rfl⟩
  have I1 := I.laid (a := s.heap.objs.size) (o := .own (s.heap.objs.size + 1)) (h' := s.heap.push PySem.W.emptyDict) (t' := s.toks) (fun b u q => Heap.get?_push_of_some _ q) (Nat.le_refl _) ⟨_, e1⟩
  refine I1.laid (a := s.heap.objs.size + 1) (o := .ins C s.heap.objs.size []) (t' := s.toks) (fun b u q => Heap.get?_push_of_some _ q) (Nat.le_of_eq (Heap.size_push _ _)) ?_
  have ne : s.heap.objs.size ≠ s.heap.objs.size + 1 := Nat.ne_of_lt (Nat.lt_succ_self _)
  refine ⟨by rw [upd_ne ne, upd_same], Nat.zero_le _, ne, e2, fun _ => none, (Heap.Ns1.of_empty e3).at fun o q => Heap.get?_push_of_some _ q, fun _ => True.intro, fun y hy => absurd rfl hy⟩

/-- e.f where nothing but the object is asked: through attributeBase (super) and the last hold -/
theorem attr_of {prog : Program} {w : World} {env : Env} {e : Expr} {f : Str} {pos : Pos} {s : Shared} {Q : Value → Shared → Prop} (hb : attributeBase e f env (eval e env) = eval e env)
    (h : wpAny (model prog w) A (eval e env) (fun o s₁ => wpAny (model prog w) A (getAttr o f true) Q E s₁) E s) : wpAny (model prog w) A (eval (.Attribute e f pos) env) Q E s :=
  Attribute_any_ h (by rw [arm_eval_Attribute, hb])
end

/-! ### readings and rules -/
/-- e.f, an attribute of the instance -/
def tFld (K : PySem.W.Frag) (ta : TE) (f : Str) : TE := fun σ H Q => ta σ H fun x H1 => ∃ a C dx fs v, x = .ref a ∧ H1 a = some (.ins C dx fs) ∧ Cls K C ∧ NoAttr K C f ∧ fs.lookup f = some v ∧ Q v H1
/-- e.f, a constant of the class -/
def tCon (K : PySem.W.Frag) (ta : TE) (f : Str) : TE := fun σ H Q => ta σ H fun x H1 => ∃ a C dx fs v u, x = .ref a ∧ H1 a = some (.ins C dx fs) ∧ Cls K C ∧ Con K C f v u ∧ fs.lookup f = none ∧ Q v H1
/-- e.f = value -/
def sFld (K : PySem.W.Frag) (ta tv : TE) (f : Str) : TS := fun D σ H => tv σ H fun y H1 => ta σ H1 fun x H2 => ∃ a C dx fs, x = .ref a ∧ H2 a = some (.ins C dx fs) ∧ Cls K C ∧ NoAttr K C f ∧ fs.length < 1000 ∧
  D.nx σ (upd H2 a (.ins C dx (putF f y fs)))
/-- an augmented operator on two values -/
def InOp (X : Cx) (op : Operator) (rd : V → V → Hp → VK → Prop) : Prop :=
  ∀ (pins : List (Addr × Obj)) (s : Shared) (σ : St) (H : Hp) (x y : V) (u v : Value) (Q : VK), Inv X pins σ H s → RelV x u → RelV y v → rd x y H Q → wpAny (model X.prog X.w) X.A (inplaceOp op u v) (EP X pins σ Q) X.xe s
/-- e.f op= value -/
def sFldAug (K : PySem.W.Frag) (ta tv : TE) (rd : V → V → Hp → VK → Prop) (f : Str) : TS := fun D σ H => ta σ H fun x H1 => ∃ a C dx fs v, x = .ref a ∧ H1 a = some (.ins C dx fs) ∧ Cls K C ∧ NoAttr K C f ∧ fs.lookup f = some v ∧
  tv σ H1 fun y H2 => rd v y H2 fun z H3 => ∃ dx' fs', H3 a = some (.ins C dx' fs') ∧ fs'.length < 1000 ∧ D.nx σ (upd H3 a (.ins C dx' (putF f z fs')))

section
variable {X : Cx} {o e value : Expr} {f : Str} {pos pos' tpos : Pos} {ta tv : TE}
theorem pe_fld (he : PE X e ta) (hb : attributeBase e f X.env (eval e X.env) = eval e X.env) : PE X (.Attribute e f pos) (tFld X.K ta f) := by
  intro pins s σ H Q I h
  refine attr_of hb (thn (he pins s σ H _ I h) fun u s1 ⟨x, H1, I1, rx, a, C, dx, fs, v, ex, ea, c, n, l, q⟩ => ?_)
  subst ex
  obtain rfl : u = Value.ref a := rx
  exact getattr_ok I1 ea c n l fun u' s2 I2 ru => ⟨v, H1, I2, ru, q⟩
theorem pe_con (he : PE X e ta) (hb : attributeBase e f X.env (eval e X.env) = eval e X.env) : PE X (.Attribute e f pos) (tCon X.K ta f) := by
  intro pins s σ H Q I h
  refine attr_of hb (thn (he pins s σ H _ I h) fun u s1 ⟨x, H1, I1, rx, a, C, dx, fs, v, u0, ex, ea, c, k, l, q⟩ => ?_)
  subst ex
  obtain rfl : u = Value.ref a := rx
  exact getcon_ok I1 ea c k l fun s2 I2 => ⟨v, H1, I2, k.rel, q⟩
theorem ps_fld (ha : PE X o ta) (hv : PE X value tv) (hs : swapsWith value (some (.Attribute o f pos')) pos.line X.env = pure false) : PS X (.Assign [.Attribute o f pos'] value pos) (sFld X.K ta tv f) := by
  intro pins s σ H D I h
  refine plainObj_wpAny_Assign_Attribute (thn (hv pins s σ H _ I h) fun u s1 ⟨y, H1, I1, ry, q⟩ => thn (ha pins s1 σ H1 _ I1 q) fun ov s2 ⟨x, H2, I2, rx, a, C, dx, fs, ex, ea, c, n, l, q2⟩ => ?_) hs
  subst ex
  obtain rfl : ov = Value.ref a := rx
  exact setattr_ok I2 ea c n l ry fun s3 I3 => ⟨σ, _, I3, q2⟩
theorem ps_fldaug {op : Operator} {rd : V → V → Hp → VK → Prop} (ha : PE X o ta) (hv : PE X value tv) (hop : InOp X op rd) : PS X (.AugAssign (.Attribute o f tpos) op value pos) (sFldAug X.K ta tv rd f) := by
  intro pins s σ H D I h
  refine wpAny_AugAssign_AttributeAny (thn (ha pins s σ H _ I h) fun ov s1 ⟨x, H1, I1, rx, a, C, dx, fs, v, ex, ea, c, n, l, q⟩ => ?_)
  subst ex
  obtain rfl : ov = Value.ref a := rx
  refine getattr_ok I1 ea c n l fun u s2 I2 ru => thn (hv pins s2 σ H1 _ I2 q) fun w3 s3 ⟨y, H2, I3, ry, q3⟩ => thn (hop pins s3 σ H2 v y u w3 _ I3 ru ry q3) fun w4 s4 ⟨z, H3, I4, rz, dx', fs', ea', l', q4⟩ => ?_
  exact setattr_ok I4 ea' c n l' rz fun s5 I5 => ⟨σ, _, I5, q4⟩
def rAdd : V → V → Hp → VK → Prop := fun x y H Q => ∃ i j, x = .int i ∧ y = .int j ∧ Q (.int (i + j)) H
def rSub : V → V → Hp → VK → Prop := fun x y H Q => ∃ i j, x = .int i ∧ y = .int j ∧ Q (.int (i - j)) H
theorem in_add : InOp X .Add rAdd := by
  rintro pins s σ H x y u v Q I rx ry ⟨i, j, rfl, rfl, q⟩
  obtain ⟨t, rfl⟩ := (show ∃ t, u = Value.int i t from rx)
  obtain ⟨t', rfl⟩ := (show ∃ t', v = Value.int j t' from ry)
  exact PyProof.Rows.iadd_int ⟨.int (i + j), H, I.tok _, ⟨_, rfl⟩, q⟩
theorem in_sub : InOp X .Sub rSub := by
  rintro pins s σ H x y u v Q I rx ry ⟨i, j, rfl, rfl, q⟩
  obtain ⟨t, rfl⟩ := (show ∃ t, u = Value.int i t from rx)
  obtain ⟨t', rfl⟩ := (show ∃ t', v = Value.int j t' from ry)
  exact PyProof.Rows.isub_int ⟨.int (i - j), H, I.tok _, ⟨_, rfl⟩, q⟩

/-- what is between an instance and its method: the tree of a method call -/
theorem methcall_of {pl : Sem Bool} {m : Str} {apos : Pos} {args : List Expr} {pins : List (Addr × Obj)} {s : Shared} {σ : St} {H : Hp} {Q : Value → Shared → Prop} {te : TE} (he : PE X e te) (I : Inv X pins σ H s)
    (h : te σ H fun x H1 => ∃ a C dx fs g, x = .ref a ∧ H1 a = some (.ins C dx fs) ∧ Cls X.K C ∧ Meth X.K C m g ∧ fs.lookup m = none ∧
      ∀ s1, Inv X pins σ H1 s1 → wpAny (model X.prog X.w) X.A (callWith pos (.ref g) [.ref a] (backTo pos (starEach args X.env)) (backToKw pos (keywordEach [] X.env))) Q X.xe s1)
    (ht : eval (.Call (.Attribute e m apos) args [] pos) X.env = (do
      let ov ← eval e X.env
      standAt apos.atName
      let (f, first) ← holding [ov] (getMethod ov m pl)
      callWith pos f first (backTo pos (starEach args X.env)) (backToKw pos (keywordEach [] X.env)))) :
    wpAny (model X.prog X.w) X.A (eval (.Call (.Attribute e m apos) args [] pos) X.env) Q X.xe s := by
  refine PySem.W.methodCall_KW (pl := pl) (thn (he pins s σ H _ I h) fun u s1 ⟨x, H1, I1, rx, a, C, dx, fs, g, ex, ea, c, k, l, q⟩ => ?_) ht
  subst ex
  obtain rfl : u = Value.ref a := rx
  exact getmeth_ok I1 ea c k l (q s1 I1)
end

end L2

namespace L2
open PySem PySem.Spec PyProof.Rows

/-! ### room -/
structure Room (k : Nat) (A : Around) : Prop where
  hd : A.handled = none
  dp : A.depth + 3 * k + 5 < recursionLimit
  un : A.units + 16 * k + 200 < cLine
theorem Room.mono {j k : Nat} {A : Around} (r : Room k A) (h : j ≤ k) : Room j A := ⟨r.hd, by have := r.dp; omega, by have := r.un; omega⟩
theorem Room.deeper {k : Nat} {A : Around} (r : Room (k + 1) A) (env : Env) : Room k (A.deeper env) :=
  ⟨r.hd, by have := r.dp; show A.depth + 1 + 3 * k + 5 < _; omega, by have := r.un; show A.units + 3 + 16 * k + 200 < _; omega⟩
theorem Room.in1 {k : Nat} {A : Around} (r : Room (k + 1) A) : Room k A.in1 :=
  ⟨r.hd, by have := r.dp; show A.depth + 3 * k + 5 < _; omega, by have := r.un; show A.units + 1 + 16 * k + 200 < _; omega⟩
theorem make_depth {A : Around} {C : Addr} {us : List Value} {kw : List (Str × Value)} : (A.under (.builtin "type.__call__" ⟨.ref C :: us, kw⟩)).depth = A.depth + 1 := by
  first | rfl | simp [Around.under, Code.weight, Code.isCreation, Code.isGuard, Code.isCaller, Code.frames, Code.isFrame, guardIds]
theorem make_units {A : Around} {C : Addr} {us : List Value} {kw : List (Str × Value)} : (A.under (.builtin "type.__call__" ⟨.ref C :: us, kw⟩)).units = A.units + 1 := by
  first | rfl | simp [Around.under, Code.cUnits, Code.frames, Code.isFrame]
theorem Room.make {k : Nat} {A : Around} (r : Room (k + 1) A) (C : Addr) (us : List Value) (kw : List (Str × Value)) : Room k (A.under (.builtin "type.__call__" ⟨.ref C :: us, kw⟩)) :=
  ⟨r.hd, by have := r.dp; rw [make_depth]; omega, by have := r.un; rw [make_units]; omega⟩
theorem Room.depth {k : Nat} {A : Around} (r : Room k A) : A.depth < recursionLimit := by have := r.dp; omega
theorem Room.units {k : Nat} {A : Around} (r : Room k A) : A.units + 64 < cLine := by have := r.un; omega
theorem Room.units0 {k : Nat} {A : Around} (r : Room k A) : A.units < cLine := by have := r.un; omega

/-! ### argument lists and displays -/
def tNil : TA := fun _ H Q => Q [] H
def tCons (ta : TE) (tr : TA) : TA := fun σ H Q => ta σ H fun x H1 => tr σ H1 fun xs H2 => Q (x :: xs) H2
section
variable {X : Cx} {e : Expr} {es : List Expr} {te : TE} {t : TA} {pos : Pos}
theorem pa_nil : PA X [] tNil := fun _ _ _ _ H Q I h => Calls.spliced_nil ⟨[], H, I, .nil, h⟩
theorem pa_cons (ha : PE X e te) (hr : PA X es t) (hs : starEach (e :: es) X.env = (false, eval e X.env) :: starEach es X.env := by rfl) : PA X (e :: es) (tCons te t) := by
  intro pos pins s σ H Q I h
  rw [hs]
  show wpAny _ _ (spliced ((false, eval e X.env) :: backTo pos (starEach es X.env))) _ _ s
  refine Calls.spliced_cons (thn (ha pins s σ H _ I h) fun u s1 ⟨x, H1, I1, r1, q1⟩ => ?_)
  exact thn (hr pos pins s1 σ H1 _ I1 q1) fun us s2 ⟨xs, H2, I2, r2, q2⟩ => ⟨x :: xs, H2, I2, .cons r1 r2, q2⟩

/-- a tuple, a list of written items -/
def tTup (t : TA) : TE := fun σ H Q => t σ H fun xs H1 => xs.length ≤ sizeLine ∧ ∀ p, H1 p = none → Q (.ref p) (upd H1 p (.tup xs))
def tLst (t : TA) : TE := fun σ H Q => t σ H fun xs H1 => xs.length ≤ sizeLine ∧ ∀ p, H1 p = none → Q (.ref p) (upd H1 p (.lst xs))
theorem pe_tup {x1} (h : PA X es t) : PE X (.Tuple es x1 pos) (tTup t) := by
  intro pins s σ H Q I hq
  refine wpAny_Tuple_spliced (thn (h pos pins s σ H _ I hq) fun us s1 ⟨xs, H1, I1, r, z, q⟩ => ⟨by rw [← r.length]; exact z, ?_⟩)
  have hf : H1 s1.heap.objs.size = none := I1.hok.fresh (Nat.le_refl _)
  refine ⟨.ref s1.heap.objs.size, upd H1 s1.heap.objs.size (.tup xs), I1.laid (t' := s1.toks) (fun b u e => Heap.get?_push_of_some _ e) (Nat.le_refl _) ?_, rfl, q _ hf⟩
  exact ⟨z, us, r, ⟨_, Heap.get?_push_size _ rfl, rfl, _, rfl⟩⟩
theorem pe_lst (h : PA X es t) : PE X (.List es pos) (tLst t) := by
  intro pins s σ H Q I hq
  refine wpAny_List_spliced (thn (h pos pins s σ H _ I hq) fun us s1 ⟨xs, H1, I1, r, z, q⟩ => ⟨by rw [← r.length]; exact z, ?_⟩)
  have hf : H1 s1.heap.objs.size = none := I1.hok.fresh (Nat.le_refl _)
  refine ⟨.ref s1.heap.objs.size, upd H1 s1.heap.objs.size (.lst xs), I1.laid (t' := s1.toks) (fun b u e => Heap.get?_push_of_some _ e) (Nat.le_refl _) ?_, rfl, q _ hf⟩
  exact ⟨z, us, 0, r, Heap.get?_push_size _ rfl⟩
end

/-! ### what a def promises -/
/-- a def's promise: the bound arguments in the parameters' order, the heap, the wanted end, the wanted exception -/
abbrev Sp := List V → Hp → VK → XK → Prop
/-- how an exception lies behind a call (file 08 gives it): the callers' frames, abstract heap and state ahead of the call, the wish, the exception, the state -/
abbrev CXT := List Env → Hp → Shared → XK → Value → Shared → Prop

/-- the state at a call -/
structure Env0 (P : Program) (w : World) (K : PySem.W.Frag) (mg : Str → Option Value) (base : Heap) (A : Around) (outer : List Env) (s : Shared) (H : Hp) : Prop where
  frames : A.frames = some outer
  mod : Mod K mg base
  bs : ∀ b o, base.get? b = some o → s.heap.get? b = some o ∧ H b = none
  bsz : base.objs.size ≤ s.heap.objs.size
  funs : s.heap.FunFrames base outer
  frf : ∀ b ∈ frs outer, H b = none
  hok : HOk P w H s.heap
  bare : AllBare s.gens
/-- a call's end -/
def CE (outer : List Env) (P : Program) (w : World) (H : Hp) (s : Shared) (Q : VK) (u : Value) (s' : Shared) : Prop :=
  ∃ v H', s'.os = s.os ∧ AllBare s'.gens ∧ Un (frs outer) [] H H' s.heap s'.heap ∧ HOk P w H' s'.heap ∧ RelV v u ∧ Q v H'
def CR (CX : CXT) (outer : List Env) (P : Program) (w : World) (H : Hp) (s : Shared) (Q : VK) (E : XK) (r : Result) (s' : Shared) : Prop :=
  match r with
  | .ok (.ret u) => CE outer P w H s Q u s'
  | .ok _ => False
  | .error e => CX outer H s E e s'
structure FnOk (P : Program) (w : World) (K : PySem.W.Frag) (mg : Str → Option Value) (base : Heap) (CX : CXT) (k : Nat) (f : Addr) (fd : FuncData) (ps : List Str) (sp : Sp) : Prop where
  len : ∀ vs H Q E, sp vs H Q E → vs.length = ps.length
  run : ∀ (A : Around) (outer : List Env) (s : Shared) (H : Hp) (args : Args) (us : List Value) (vs : List V) (Q : VK) (E : XK), Room k A → Env0 P w K mg base A outer s H → BindsTo s fd args (ps.zip us) → Vals vs us → sp vs H Q E →
    codeAny (model P w) A (.call (.ref f) args) (CR CX outer P w H s Q E) s
theorem FnOk.mono {P : Program} {w : World} {K : PySem.W.Frag} {mg : Str → Option Value} {base : Heap} {CX : CXT} {j k : Nat} {f : Addr} {fd : FuncData} {ps : List Str} {sp : Sp} (F : FnOk P w K mg base CX j f fd ps sp) (h : j ≤ k) :
    FnOk P w K mg base CX k f fd ps sp := ⟨F.len, fun A outer s H args us vs Q E hr => F.run A outer s H args us vs Q E (hr.mono h)⟩
/-- a weaker promise -/
theorem FnOk.imp {P : Program} {w : World} {K : PySem.W.Frag} {mg : Str → Option Value} {base : Heap} {CX : CXT} {k : Nat} {f : Addr} {fd : FuncData} {ps : List Str} {sp sp' : Sp} (F : FnOk P w K mg base CX k f fd ps sp)
    (h : ∀ vs H Q E, sp' vs H Q E → sp vs H Q E) : FnOk P w K mg base CX k f fd ps sp' :=
  ⟨fun vs H Q E q => F.len vs H Q E (h _ _ _ _ q), fun A outer s H args us vs Q E hr he hb hv hs => F.run A outer s H args us vs Q E hr he hb hv (h _ _ _ _ hs)⟩

theorem Env0.make {P : Program} {w : World} {K : PySem.W.Frag} {mg : Str → Option Value} {base : Heap} {A : Around} {outer : List Env} {s : Shared} {H : Hp} (e : Env0 P w K mg base A outer s H) (C : Addr) (us : List Value) (kw : List (Str × Value)) :
    Env0 P w K mg base (A.under (.builtin "type.__call__" ⟨.ref C :: us, kw⟩)) outer s H := ⟨by first | exact e.frames | (simpa [Around.under, Code.envs, Code.isFrame, pushEnvs] using e.frames), e.mod, e.bs, e.bsz, e.funs, e.frf, e.hok, e.bare⟩
theorem Env0.in1 {P : Program} {w : World} {K : PySem.W.Frag} {mg : Str → Option Value} {base : Heap} {A : Around} {outer : List Env} {s : Shared} {H : Hp} (e : Env0 P w K mg base A outer s H) :
    Env0 P w K mg base A.in1 outer s H := ⟨e.frames, e.mod, e.bs, e.bsz, e.funs, e.frf, e.hok, e.bare⟩

section
variable {X : Cx} {pins : List (Addr × Obj)} {σ : St} {H : Hp} {s s' : Shared}
/-- from a body: what a callee wants -/
theorem Inv.env0 (I : Inv X pins σ H s) : Env0 X.prog X.w X.K X.mg X.base X.A X.stack s H :=
  ⟨I.ok.frames, I.ok.mod, I.bs, Nat.le_trans I.ok.bsz I.sz, I.stack, I.stkFree, I.hok, I.bare⟩
/-- behind a call -/
theorem Inv.after {Q : VK} {u : Value} (I : Inv X pins σ H s) (h : CE X.stack X.prog X.w H s Q u s') : EP X pins σ Q u s' := by
  obtain ⟨v, H', os, bare, un, hok, r, q⟩ := h
  obtain ⟨hh, g, d, t, os'⟩ := s'
  obtain rfl : os' = s.os := os
  exact ⟨v, H', I.call (h' := hh) (g' := g) (d' := d) (t' := t) (ch := []) un hok bare (fun b z => absurd z (by simp)), r, q⟩
end

/-! ### calls -/
/-- f(..): the written arguments, then the defaults dvs; E: what is wanted of an exception -/
def tCall (sp : Sp) (dvs : List V) (E : XK) (t : TA) : TE := fun σ H Q => t σ H fun vs H1 => sp (vs ++ dvs) H1 Q E
/-- o.m(..) of an instance of the class at C -/
def tMeth (C : Addr) (m : Str) (sp : Sp) (dvs : List V) (E : XK) (ta : TE) (t : TA) : TE := fun σ H Q => ta σ H fun x H1 => ∃ a dx fs, x = .ref a ∧ H1 a = some (.ins C dx fs) ∧ fs.lookup m = none ∧
  t σ H1 fun vs H2 => sp (x :: (vs ++ dvs)) H2 Q E
/-- C(..): a new instance and its dict, then __init__ -/
def tMake (C : Addr) (sp : Sp) (dvs : List V) (E : XK) (t : TA) : TE := fun σ H Q => t σ H fun vs H1 => ∀ x dx, H1 x = none → H1 dx = none → dx ≠ x →
  sp (.ref x :: (vs ++ dvs)) (upd (upd H1 dx (.own x)) x (.ins C dx [])) (fun v H2 => v = .non ∧ Q (.ref x) H2) E

/-- how the parameters are bound: us the positional arguments, kw the keywords' values by name, ds the defaults that fill up -/
def Binds (K : PySem.W.Frag) (fd : FuncData) (ps : List Str) (ds : List Value) : Prop :=
  ∀ (s : Shared) (us : List Value), K.In s.heap → (us ++ ds).length = ps.length → BindsTo s fd ⟨us, []⟩ (ps.zip (us ++ ds))
/-- every parameter is given -/
theorem Binds.all {K : PySem.W.Frag} {fd : FuncData} {ps : List Str} (h : ∀ us : List Value, us.length = ps.length → bindArgs fd ⟨us, []⟩ = pure (ps.zip us)) : Binds K fd ps [] := fun s us _ hl => by
  rw [List.append_nil] at hl ⊢
  exact .of_eq (h us hl)

/-- an exception of a callee reaches what this body wants of exceptions -/
def Passes (CX : CXT) (X : Cx) (E : XK) : Prop := ∀ (pins : List (Addr × Obj)) (σ : St) (H : Hp) (s : Shared) (e : Value) (s' : Shared), Inv X pins σ H s → CX X.stack H s E e s' → X.xe e s'

section
variable {X : Cx} {CX : CXT} {k : Nat} {f C : Addr} {fd : FuncData} {ps : List Str} {sp : Sp} {dvs : List V} {ds : List Value} {E : XK} {x m : Str} {p pos apos : Pos} {e o : Expr} {es : List Expr} {ta : TE} {t : TA}

/-- the callee runs -/
theorem run_fn {pins : List (Addr × Obj)} {σ : St} {H : Hp} {s : Shared} {Q : VK} {us : List Value} {vs : List V} (F : FnOk X.prog X.w X.K X.mg X.base CX k f fd ps sp) (hr : Room k X.A) (hb : Binds X.K fd ps ds) (hd : Vals dvs ds) (hx : Passes CX X E)
    (I : Inv X pins σ H s) (r : Vals vs us) (h : sp (vs ++ dvs) H Q E) : wpAny (model X.prog X.w) X.A (call (.ref f) us) (EP X pins σ Q) X.xe s := by
  have r2 : Vals (vs ++ dvs) (us ++ ds) := r.append hd
  have hl : (us ++ ds).length = ps.length := by rw [← r2.length]; exact F.len _ _ _ _ h
  refine wpAny_call (codeAny_mono (F.run X.A X.stack s H ⟨us, []⟩ (us ++ ds) (vs ++ dvs) Q E hr I.env0 (hb s us I.kIn hl) r2 h) fun r s' hq => ?_)
  cases r with
  | error e => exact hx pins σ H s e s' I hq
  | ok fl =>
    cases fl with
    | ret u => exact I.after hq
    | next => exact False.elim hq
    | brk => exact False.elim hq
    | cont => exact False.elim hq

theorem pe_call (F : FnOk X.prog X.w X.K X.mg X.base CX k f fd ps sp) (hr : Room k X.A) (hg : Gl X x) (hm : X.mg x = some (.ref f)) (hk : PySem.W.keepIn X.K (.ref f) = true) (hb : Binds X.K fd ps ds) (hd : Vals dvs ds) (hx : Passes CX X E)
    (ha : PA X (e :: es) t) (hdb : (x == ("__debug__" : Str)) = false := by decide) (he : starEach (e :: es) X.env = (false, eval e X.env) :: starEach es X.env := by rfl) (hpl : (backTo pos (starEach es X.env)).any (·.1) = false := by rfl) :
    PE X (.Call (.Name x p) (e :: es) [] pos) (tCall sp dvs E t) := by
  intro pins s σ H Q I h
  refine wpAny_Call_Name_kw (ld_glob I hg hm ?_ hdb)
  refine PySem.W.callWith_K (h₀ := X.base) I.ok.mod.kin hk (thn (ha pos pins s σ H _ I h) fun us s1 ⟨vs, H1, I1, r, q⟩ => ⟨I1.kIn, ?_⟩) he hpl
  exact run_fn F hr hb hd hx I1 r q
theorem pe_call0 (F : FnOk X.prog X.w X.K X.mg X.base CX k f fd ps sp) (hr : Room k X.A) (hg : Gl X x) (hm : X.mg x = some (.ref f)) (hk : PySem.W.keepIn X.K (.ref f) = true) (hb : Binds X.K fd ps ds) (hd : Vals dvs ds) (hx : Passes CX X E)
    (hdb : (x == ("__debug__" : Str)) = false := by decide) : PE X (.Call (.Name x p) [] [] pos) (tCall sp dvs E tNil) := by
  intro pins s σ H Q I h
  refine wpAny_Call_Name_kw (ld_glob I hg hm ?_ hdb)
  exact PySem.W.callWith_K0 I.kIn hk (run_fn (us := []) F hr hb hd hx I .nil h)

/-- o.m(e, ..) -/
theorem pe_meth {pl : Sem Bool} (he : PE X o ta) (c : Cls X.K C) (hm : Meth X.K C m f) (F : FnOk X.prog X.w X.K X.mg X.base CX k f fd ps sp) (hr : Room k X.A) (hb : Binds X.K fd ps ds) (hd : Vals dvs ds) (hx : Passes CX X E) (ha : PA X (e :: es) t)
    (hst : starEach (e :: es) X.env = (false, eval e X.env) :: starEach es X.env := by rfl) (hpl : (backTo pos (starEach es X.env)).any (·.1) = false := by rfl)
    (ht : eval (.Call (.Attribute o m apos) (e :: es) [] pos) X.env = (do
      let ov ← eval o X.env
      standAt apos.atName
      let (f, first) ← holding [ov] (getMethod ov m pl)
      callWith pos f first (backTo pos (starEach (e :: es) X.env)) (backToKw pos (keywordEach [] X.env))) := by rfl) :
    PE X (.Call (.Attribute o m apos) (e :: es) [] pos) (tMeth C m sp dvs E ta t) := by
  intro pins s σ H Q I h
  refine PySem.W.methodCall_KW (pl := pl) (thn (he pins s σ H _ I h) fun u s1 ⟨x, H1, I1, rx, a, dx, fs, ex, ea, l, q⟩ => ?_) ht
  subst ex
  obtain rfl : u = Value.ref a := rx
  refine getmeth_ok I1 ea c hm l ?_
  refine PySem.W.callWith_K (first := [.ref a]) (h₀ := X.base) I.ok.mod.kin hm.kp (thn (ha pos pins s1 σ H1 _ I1 q) fun us s2 ⟨vs, H2, I2, r, q2⟩ => ⟨I2.kIn, ?_⟩) hst hpl
  exact run_fn (us := .ref a :: us) (vs := .ref a :: vs) F hr hb hd hx I2 (.cons rfl r) q2
/-- o.m() -/
theorem pe_meth0 {pl : Sem Bool} (he : PE X o ta) (c : Cls X.K C) (hm : Meth X.K C m f) (F : FnOk X.prog X.w X.K X.mg X.base CX k f fd ps sp) (hr : Room k X.A) (hb : Binds X.K fd ps ds) (hd : Vals dvs ds) (hx : Passes CX X E)
    (ht : eval (.Call (.Attribute o m apos) [] [] pos) X.env = (do
      let ov ← eval o X.env
      standAt apos.atName
      let (f, first) ← holding [ov] (getMethod ov m pl)
      callWith pos f first (backTo pos (starEach [] X.env)) (backToKw pos (keywordEach [] X.env))) := by rfl) :
    PE X (.Call (.Attribute o m apos) [] [] pos) (tMeth C m sp dvs E ta tNil) := by
  intro pins s σ H Q I h
  refine PySem.W.methodCall_KW (pl := pl) (thn (he pins s σ H _ I h) fun u s1 ⟨x, H1, I1, rx, a, dx, fs, ex, ea, l, q⟩ => ?_) ht
  subst ex
  obtain rfl : u = Value.ref a := rx
  refine getmeth_ok I1 ea c hm l ?_
  exact PySem.W.callWith_K0 (first := [.ref a]) I1.kIn hm.kp (run_fn (us := [.ref a]) (vs := [.ref a]) F hr hb hd hx I1 (.cons rfl .nil) q)

/-- what a class must have to be made -/
structure Mk (K : PySem.W.Frag) (C f : Addr) : Prop where
  makes : PySem.W.makesIn K C = true
  init : PySem.W.findIn K (.ref C) "__init__" = some (some (.ref f))
  fn : PySem.W.isFn K (.ref f) = true
  kp : PySem.W.keepIn K (.ref C) = true

theorem run_make {pins : List (Addr × Obj)} {σ : St} {H : Hp} {s : Shared} {Q : VK} {us : List Value} {vs : List V} (M : Mk X.K C f) (F : FnOk X.prog X.w X.K X.mg X.base CX k f fd ps sp) (hr : Room (k + 1) X.A) (hb : Binds X.K fd ps ds) (hd : Vals dvs ds)
    (hx : Passes CX X E) (I : Inv X pins σ H s) (r : Vals vs us)
    (h : ∀ x dx, H x = none → H dx = none → dx ≠ x → sp (.ref x :: (vs ++ dvs)) (upd (upd H dx (.own x)) x (.ins C dx [])) (fun v H2 => v = .non ∧ Q (.ref x) H2) E) :
    wpAny (model X.prog X.w) X.A (call (.ref C) us) (EP X pins σ Q) X.xe s := by
  have hq := h (s.heap.objs.size + 1) s.heap.objs.size (I.hok.fresh (Nat.le_succ _)) (I.hok.fresh (Nat.le_refl _)) (Nat.ne_of_lt (Nat.lt_succ_self _))
  have I2 := Inv.made (C := C) I
  have r2 : Vals (V.ref (s.heap.objs.size + 1) :: (vs ++ dvs)) (Value.ref (s.heap.objs.size + 1) :: (us ++ ds)) := .cons rfl (r.append hd)
  have hl : (Value.ref (s.heap.objs.size + 1) :: us ++ ds).length = ps.length := by
    have e := r2.length
    rw [F.len _ _ _ _ hq] at e
    exact e.symm
  refine wpAny_call (make_map (f := f) I.kIn M.makes M.init (beq_iff_eq.mp M.fn) (codeAny_mono (F.run _ X.stack _ _ ⟨Value.ref (s.heap.objs.size + 1) :: us, []⟩ (Value.ref (s.heap.objs.size + 1) :: (us ++ ds)) _ _ E (hr.make C us [])
    (I2.env0.make C us []) (hb _ (Value.ref (s.heap.objs.size + 1) :: us) I2.kIn hl) r2 hq) fun r s' hq' => ?_))
  cases r with
  | error e => exact hx pins σ _ _ e s' I2 hq'
  | ok fl =>
    cases fl with
    | ret u =>
      obtain ⟨v, H', I3, rv, ev, q3⟩ := I2.after hq'
      subst ev
      exact ⟨rv, ⟨V.ref (s.heap.objs.size + 1), H', I3, rfl, q3⟩⟩
    | next => exact False.elim hq'
    | brk => exact False.elim hq'
    | cont => exact False.elim hq'
theorem pe_make (M : Mk X.K C f) (F : FnOk X.prog X.w X.K X.mg X.base CX k f fd ps sp) (hr : Room (k + 1) X.A) (hg : Gl X x) (hm : X.mg x = some (.ref C)) (hb : Binds X.K fd ps ds) (hd : Vals dvs ds) (hx : Passes CX X E)
    (ha : PA X (e :: es) t) (hdb : (x == ("__debug__" : Str)) = false := by decide) (he : starEach (e :: es) X.env = (false, eval e X.env) :: starEach es X.env := by rfl) (hpl : (backTo pos (starEach es X.env)).any (·.1) = false := by rfl) :
    PE X (.Call (.Name x p) (e :: es) [] pos) (tMake C sp dvs E t) := by
  intro pins s σ H Q I h
  refine wpAny_Call_Name_kw (ld_glob I hg hm ?_ hdb)
  refine PySem.W.callWith_K (h₀ := X.base) I.ok.mod.kin M.kp (thn (ha pos pins s σ H _ I h) fun us s1 ⟨vs, H1, I1, r, q⟩ => ⟨I1.kIn, ?_⟩) he hpl
  exact run_make M F hr hb hd hx I1 r q
theorem pe_make0 (M : Mk X.K C f) (F : FnOk X.prog X.w X.K X.mg X.base CX k f fd ps sp) (hr : Room (k + 1) X.A) (hg : Gl X x) (hm : X.mg x = some (.ref C)) (hb : Binds X.K fd ps ds) (hd : Vals dvs ds) (hx : Passes CX X E)
    (hdb : (x == ("__debug__" : Str)) = false := by decide) : PE X (.Call (.Name x p) [] [] pos) (tMake C sp dvs E tNil) := by
  intro pins s σ H Q I h
  refine wpAny_Call_Name_kw (ld_glob I hg hm ?_ hdb)
  exact PySem.W.callWith_K0 I.kIn M.kp (run_make (us := []) M F hr hb hd hx I .nil h)
end

/-! ### keywords -/
/-- the values of the keywords, from the left -/
def PK (X : Cx) (kws : List Keyword) (t : TA) : Prop :=
  ∀ (pos : Pos) (pins : List (Addr × Obj)) (s : Shared) (σ : St) (H : Hp) (Q : List V → Hp → Prop), Inv X pins σ H s → t σ H Q → wpAny (model X.prog X.w) X.A (evalAll ((backToKw pos (keywordEach kws X.env)).map (·.2))) (AP X pins σ Q) X.xe s
section
variable {X : Cx} {CX : CXT} {k : Nat} {f C : Addr} {fd : FuncData} {ps ks : List Str} {sp : Sp} {E : XK} {x m : Str} {p pos apos kpos : Pos} {e o : Expr} {es : List Expr} {kws : List Keyword} {te ta : TE} {t tk : TA} {nm : Option Str}
theorem pk_nil : PK X [] tNil := fun _ _ _ _ H Q I h => wpAny_evalAll_nil ⟨[], H, I, .nil, h⟩
theorem pk_cons (ha : PE X e te) (hr : PK X kws t) : PK X (⟨nm, e, kpos⟩ :: kws) (tCons te t) := by
  intro pos pins s σ H Q I h
  show wpAny _ _ (evalAll ((do let v ← eval e X.env; standAt pos; pure v) :: (backToKw pos (keywordEach kws X.env)).map (·.2))) _ _ s
  refine wpAny_evalAll_cons (wpAny_bind (thn (ha pins s σ H _ I h) fun u s1 ⟨x, H1, I1, r1, q1⟩ => wpAny_bind (wpAny_standAt (wpAny_pure ?_))))
  exact thn (hr pos pins s1 σ H1 _ I1 q1) fun us s2 ⟨xs, H2, I2, r2, q2⟩ => ⟨x :: xs, H2, I2, .cons r1 r2, q2⟩

/-- how a call with keywords binds: g puts the positional values us and the keywords' values ws (names ks) in the parameters' order, defaults among them -/
structure KBinds (K : PySem.W.Frag) (fd : FuncData) (ps ks : List Str) (g : List Value → List Value → List Value) (gV : List V → List V → List V) : Prop where
  to : ∀ (s : Shared) (us ws : List Value), K.In s.heap → (g us ws).length = ps.length → BindsTo s fd ⟨us, ks.zip ws⟩ (ps.zip (g us ws))
  rel : ∀ {vs : List V} {us : List Value} {zs : List V} {ws : List Value}, Vals vs us → Vals zs ws → Vals (gV vs zs) (g us ws)
def tCallK (sp : Sp) (gV : List V → List V → List V) (E : XK) (t tk : TA) : TE := fun σ H Q => t σ H fun vs H1 => tk σ H1 fun zs H2 => sp (gV vs zs) H2 Q E
variable {g : List Value → List Value → List Value} {gV : List V → List V → List V}
theorem run_fnk {pins : List (Addr × Obj)} {σ : St} {H : Hp} {s : Shared} {Q : VK} {us ws : List Value} {vs zs : List V} (F : FnOk X.prog X.w X.K X.mg X.base CX k f fd ps sp) (hr : Room k X.A) (hb : KBinds X.K fd ps ks g gV) (hx : Passes CX X E)
    (I : Inv X pins σ H s) (r : Vals vs us) (rz : Vals zs ws) (h : sp (gV vs zs) H Q E) : wpAny (model X.prog X.w) X.A (call (.ref f) us (ks.zip ws)) (EP X pins σ Q) X.xe s := by
  have r2 := hb.rel r rz
  have hl : (g us ws).length = ps.length := by rw [← r2.length]; exact F.len _ _ _ _ h
  refine wpAny_call (codeAny_mono (F.run X.A X.stack s H ⟨us, ks.zip ws⟩ (g us ws) (gV vs zs) Q E hr I.env0 (hb.to s us ws I.kIn hl) r2 h) fun r s' hq => ?_)
  cases r with
  | error e => exact hx pins σ H s e s' I hq
  | ok fl =>
    cases fl with
    | ret u => exact I.after hq
    | next => exact False.elim hq
    | brk => exact False.elim hq
    | cont => exact False.elim hq
/-- f(e, .., k = v, ..) -/
theorem pe_callK (F : FnOk X.prog X.w X.K X.mg X.base CX k f fd ps sp) (hr : Room k X.A) (hg : Gl X x) (hm : X.mg x = some (.ref f)) (hk : PySem.W.keepIn X.K (.ref f) = true) (hb : KBinds X.K fd ps ks g gV) (hx : Passes CX X E)
    (ha : PA X (e :: es) t) (hkw : PK X kws tk) (hall : (backToKw pos (keywordEach kws X.env)).all (·.1.isSome) = true := by rfl) (hks : (backToKw pos (keywordEach kws X.env)).filterMap (·.1) = ks := by rfl)
    (hdb : (x == ("__debug__" : Str)) = false := by decide) (he : starEach (e :: es) X.env = (false, eval e X.env) :: starEach es X.env := by rfl)
    (hpl : ((backTo pos (starEach (e :: es) X.env)).any (·.1) || (backToKw pos (keywordEach kws X.env)).any (·.1.isNone)) = false := by rfl) :
    PE X (.Call (.Name x p) (e :: es) kws pos) (tCallK sp gV E t tk) := by
  intro pins s σ H Q I h
  refine wpAny_Call_Name_kw (ld_glob I hg hm ?_ hdb)
  refine PySem.W.callWith_KW (h₀ := X.base) I.ok.mod.kin hk hall (thn (ha pos pins s σ H _ I h) fun us s1 ⟨vs, H1, I1, r, q⟩ => ?_) hpl he
  refine thn (hkw pos pins s1 σ H1 _ I1 q) fun ws s2 ⟨zs, H2, I2, rz, q2⟩ => ⟨I2.kIn, ?_⟩
  rw [hks]
  exact run_fnk F hr hb hx I2 r rz q2
end

/-! ### a def's body keeps its promise -/
/-- names: the parameters first -/
structure FnScope (N P : List Str) (sc : Scope) : Prop where
  kind : sc.kind = .function
  co : sc.isCoroutine = false
  gen : sc.isGenerator = false
  nd : N.Nodup
  pre : N.take P.length = P
  par : ∀ x ∈ P, sc.names.lookup x = some .local ∨ sc.names.lookup x = some .cell
  nofree : ∀ y ∈ sc.names, y.2 ≠ .free

theorem bindL_out {kindOf : Str → Option NameKind} {x : Str} : ∀ {binds : List (Str × Value)} {m : Str → Option Value}, (∀ v, (x, v) ∉ binds) → bindL kindOf binds m x = m x
  | [], _, _ => rfl
  | (n, v) :: r, m, h => by
    unfold bindL
    rw [bindL_out fun w hw => h w (List.mem_cons_of_mem _ hw)]
    split
    · have : x ≠ n := by rintro rfl; exact h v List.mem_cons_self
      simp [this]
    · rfl
theorem bindC_out {kindOf : Str → Option NameKind} {x : Str} : ∀ {binds : List (Str × Value)} {m : Str → Option Value}, (∀ v, (x, v) ∉ binds) → bindC kindOf binds m x = m x
  | [], _, _ => rfl
  | (n, v) :: r, m, h => by
    unfold bindC
    rw [bindC_out fun w hw => h w (List.mem_cons_of_mem _ hw)]
    split
    · rfl
    · have : x ≠ n := by rintro rfl; exact h v List.mem_cons_self
      simp [this]
theorem bindL_get {kindOf : Str → Option NameKind} {x : Str} {v : Value} : ∀ {P : List Str} {vs : List Value} {i : Nat} {m : Str → Option Value}, P.Nodup → P[i]? = some x → vs[i]? = some v → kindOf x = some .local →
    bindL kindOf (P.zip vs) m x = some v
  | [], _, _, _, _, h, _, _ => by simp at h
  | _ :: _, [], _, _, _, _, h, _ => by simp at h
  | p :: P, w :: vs, 0, m, nd, h1, h2, hk => by
    simp at h1 h2; subst h1; subst h2
    show bindL kindOf ((p, w) :: P.zip vs) m p = _
    unfold bindL
    rw [bindL_out fun v hv => (List.nodup_cons.mp nd).1 (List.of_mem_zip hv).1, if_pos hk]
    simp
  | p :: P, w :: vs, i + 1, m, nd, h1, h2, hk => by
    show bindL kindOf ((p, w) :: P.zip vs) m x = _
    unfold bindL
    exact bindL_get (i := i) (List.nodup_cons.mp nd).2 (by simpa using h1) (by simpa using h2) hk
theorem bindC_get {kindOf : Str → Option NameKind} {x : Str} {v : Value} : ∀ {P : List Str} {vs : List Value} {i : Nat} {m : Str → Option Value}, P.Nodup → P[i]? = some x → vs[i]? = some v → kindOf x ≠ some .local →
    bindC kindOf (P.zip vs) m x = some v
  | [], _, _, _, _, h, _, _ => by simp at h
  | _ :: _, [], _, _, _, _, h, _ => by simp at h
  | p :: P, w :: vs, 0, m, nd, h1, h2, hk => by
    simp at h1 h2; subst h1; subst h2
    show bindC kindOf ((p, w) :: P.zip vs) m p = _
    unfold bindC
    rw [bindC_out fun v hv => (List.nodup_cons.mp nd).1 (List.of_mem_zip hv).1, if_neg hk]
    simp
  | p :: P, w :: vs, i + 1, m, nd, h1, h2, hk => by
    show bindC kindOf ((p, w) :: P.zip vs) m x = _
    unfold bindC
    exact bindC_get (i := i) (List.nodup_cons.mp nd).2 (by simpa using h1) (by simpa using h2) hk

/-- the names' values at the entry -/
def start (N : List Str) (vs : List V) : St := vs.map some ++ List.replicate (N.length - vs.length) none

/-- the context of a def's body, at its entry; an exception leaves the frame, then lies as CX says -/
def cxOf (CX : CXT) (P : Program) (w : World) (K : PySem.W.Frag) (mg : Str → Option Value) (base : Heap) (N : List Str) (qual : Str) (scope : Scope) (f : Addr) (cd : Value) (A : Around) (outer : List Env) (s : Shared) (H : Hp) (E : XK) : Cx where
  prog := P
  w := w
  K := K
  mg := mg
  base := base
  A := A.deeper (envOfC qual scope s.heap.objs.size f cd)
  N := N
  s_0 := s
  H_0 := H
  env := envOfC qual scope s.heap.objs.size f cd
  outer := outer
  stack := envOfC qual scope s.heap.objs.size f cd :: outer
  ex := []
  calm := true
  fn := fun _ => true
  pn := []
  xe := fun e s' => wpAny (model P w) (A.deeper (envOfC qual scope s.heap.objs.size f cd)) (leaving (envOfC qual scope s.heap.objs.size f cd) e) (fun _ s'' => CX outer H s E e s'') (fun e' s'' => CX outer H s E e' s'') s'

theorem cell_has {sc : Scope} {n : Nat} {x : Str} (h : sc.names.lookup x = some .cell) : ∃ c, (cellsFrom n sc.names []).lookup x = some c := by
  have q := PySem.W.cellsFrom_some sc.names n [] (.inl h)
  exact Option.isSome_iff_exists.mp q

theorem inv_start {CX : CXT} {P : Program} {w : World} {K : PySem.W.Frag} {mg : Str → Option Value} {base : Heap} {N ps : List Str} {qual : Str} {scope : Scope} {f : Addr} {cd : Value} {A : Around} {outer : List Env} {s s1 : Shared} {H : Hp} {E : XK} {us : List Value} {vs : List V}
    (S : FnScope N ps scope) (hd : A.handled = none) (e0 : Env0 P w K mg base A outer s H) (hl : vs.length = ps.length) (r : Vals vs us)
    (x : InCallC s s.heap.objs.size (bindL (envOfC qual scope s.heap.objs.size f cd).kindOf (ps.zip us) fun _ => none) (cellsFrom (s.heap.objs.size + 1) scope.names []) (bindC (envOfC qual scope s.heap.objs.size f cd).kindOf (ps.zip us) fun _ => none) s1) :
    Inv (cxOf CX P w K mg base N qual scope f cd A outer s H E) [] (start N vs) H s1 := by
  have hpl : ps.length ≤ N.length := by have := congrArg List.length S.pre; rw [List.length_take] at this; omega
  obtain ⟨h1, tk, rfl, hk⟩ := x.done
  have noA : ∀ b : Addr, b ∉ (cxOf CX P w K mg base N qual scope f cd A outer s H E).ex := fun b z => absurd (show b ∈ ([] : List Addr) from z) (by simp)
  refine ⟨⟨e0.mod, S.kind, rfl, rfl, Nat.le_refl _, fun y z c h1 h2 => ?_, fun y hy => ?_, fun y c _ h => ?_, fun _ => hd, Around.frames_deeper e0.frames, .inr ⟨rfl, rfl⟩, fun b z => absurd z (noA b), e0.bs, e0.bsz, fun b _ _ => noA b, fun b z => absurd z (noA b), e0.funs, e0.frf⟩,
    rfl, e0.bare, Un.kept hk, ⟨_, x.toInCall.ns, fun i y v h1 h2 h3 => ?_⟩, fun y c h => ⟨_, x.cell y c h⟩, e0.hok.fresh (Nat.le_refl _), fun y c h => ?_, fun p hp => absurd (show p ∈ ([] : List (Addr × Obj)) from hp) (by simp), e0.hok.kept hk, ?_⟩
  · exact name_of_addr x.apart (PySem.mem_of_lookup h1) (PySem.mem_of_lookup h2)
  · have hy : scope.names.lookup y = some .cell ∨ scope.names.lookup y = some .free := hy
    rcases hy with hy | hy
    · exact cell_has hy
    · exact absurd rfl (S.nofree _ (PySem.mem_of_lookup hy))
  · exact Nat.le_of_lt (x.above y c (PySem.mem_of_lookup h))
  · have hi : i < vs.length := by
      unfold start at h2
      by_cases hi : i < vs.length
      · exact hi
      · rw [List.getElem?_append_right (by simpa using hi)] at h2
        rw [List.getElem?_replicate] at h2
        split at h2 <;> cases h2
    have ha : vs[i]? = some v := by
      unfold start at h2
      rw [List.getElem?_append_left (by simpa using hi), List.getElem?_map] at h2
      cases e : vs[i]? with
      | none => rw [e] at h2; cases h2
      | some a => rw [e] at h2; cases h2; rfl
    obtain ⟨u, hu, rv⟩ := r.get ha
    have hp : ps[i]? = some y := by
      rw [← S.pre, List.getElem?_take_of_lt (by omega)]; exact h1
    have ndP : ps.Nodup := by rw [← S.pre]; exact S.nd.sublist (List.take_sublist _ _)
    refine ⟨u, rv, ?_⟩
    rcases S.par y (List.mem_of_getElem? hp) with k | k
    · exact .inl ⟨k, bindL_get ndP hp hu k⟩
    · obtain ⟨c, e⟩ := cell_has (n := s.heap.objs.size + 1) k
      refine .inr ⟨.inl k, c, e, ?_⟩
      have q := x.cell y c e
      rw [bindC_get ndP hp hu (by show scope.names.lookup y ≠ _; rw [k]; decide)] at q
      exact q
  · exact e0.hok.fresh (Nat.le_of_lt (x.above y c (PySem.mem_of_lookup h)))
  · unfold start
    show _ = N.length
    rw [List.length_append, List.length_map, List.length_replicate]
    omega

/-- THE RULE: a def (or a method) of the text, by its body. The body's reading t is chosen for each entry; it is run at the parameters' values -/
theorem fn_of {CX : CXT} {P : Program} {w : World} {K : PySem.W.Frag} {mg : Str → Option Value} {base : Heap} {k : Nat} {f : Addr} {name qual : Str} {params : Arguments} {body : List Stmt} {scope : Scope} {dV kV doc pm cdv ct oc : Value} {an od : Option Addr}
    {osl : Array (Option Value)} {N ps : List Str} {sp : Sp} (lk : K.lookup f = some ⟨oc, od, .func (PySem.W.fnOf name qual params body scope dV kV doc pm an cdv ct), osl⟩) (hcd : PySem.W.codeIn K cdv qual = true) (S : FnScope N ps scope)
    (len : ∀ vs H Q E, sp vs H Q E → vs.length = ps.length)
    (hbody : ∀ (A : Around) (outer : List Env) (s : Shared) (H : Hp) (vs : List V) (Q : VK) (E : XK), Room k (A.deeper (envOfC qual scope s.heap.objs.size f cdv)) → sp vs H Q E →
      ∃ t, PSs (cxOf CX P w K mg base N qual scope f cdv A outer s H E) body t ∧ t { nx := fun _ H' => Q .non H', rt := Q } (start N vs) H) :
    FnOk P w K mg base CX (k + 1) f (PySem.W.fnOf name qual params body scope dV kV doc pm an cdv ct) ps sp := by
  refine ⟨len, fun A outer s H args us vs Q E hr e0 hb r hsp => ?_⟩
  have hl := len _ _ _ _ hsp
  have KX : K.In s.heap := e0.mod.kin.keeps fun b o e => (e0.bs b o e).1
  have lim : s.heap.NoLimit := e0.mod.nolimit.keeps fun b o e => (e0.bs b o e).1
  have hkind : ∀ y ∈ ps.zip us, scope.names.lookup y.1 = some .local ∨ (scope.names.lookup y.1 = some .cell ∧ ((cellsFrom (s.heap.objs.size + 1) scope.names []).lookup y.1).isSome = true) := fun ⟨n, v⟩ hy => by
    rcases S.par n (List.of_mem_zip hy).1 with q | q
    · exact .inl q
    · exact .inr ⟨q, PySem.W.cellsFrom_some _ _ _ (.inl q)⟩
  refine codeAny_call_function hr.depth (KX _ _ lk) rfl S.co S.gen rfl (PySem.W.codeRec_of KX hcd) (hb _ _ _ _ ?_)
  refine wpAny_newFunctionEnv_cells S.kind hkind fun env he s1 x => ?_
  subst he
  refine ⟨lim.keeps x.toInCall.keep, codeAny_func ?_⟩
  obtain ⟨t, ht, hq⟩ := hbody A outer s H vs Q E (hr.deeper _) hsp
  have I : Inv (cxOf CX P w K mg base N qual scope f cdv A outer s H E) [] (start N vs) H s1 := inv_start S hr.hd e0 hl r x
  refine wpAny_mono (ht [] s1 (start N vs) H _ I hq) (fun fl s' hs => ?_) fun e s' hs => hs
  have fin : ∀ {σ' : St} {H' : Hp} {v : V} {u : Value}, Inv (cxOf CX P w K mg base N qual scope f cdv A outer s H E) [] σ' H' s' → RelV v u → Q v H' → CE outer P w H s Q u s' :=
    fun {σ' H' v u} J rv q => ⟨v, H', J.os, J.bare, J.base, J.hok, rv, q⟩
  cases fl with
  | ret u =>
    obtain ⟨v, σ', H', J, rv, q⟩ := hs
    exact fin J rv q
  | next =>
    obtain ⟨σ', H', J, q⟩ := hs
    exact fin (v := V.non) (u := Value.none) J rfl q
  | brk =>
    obtain ⟨_, _, _, q⟩ := hs
    exact False.elim q
  | cont =>
    obtain ⟨_, _, _, q⟩ := hs
    exact False.elim q
end L2

namespace L2
open PySem PySem.Spec PyProof.Rows
section
variable {X : Cx} {x : Str} {p pos : Pos} {e : Expr} {es : List Expr} {t : TA} {id T : String} {r : List V → Hp → VK → Prop}

def tCB (r : List V → Hp → VK → Prop) (t : TA) : TE := fun σ H Q => t σ H fun vs H1 => r vs H1 Q
/-- f(e, ..), f a built-in function -/
theorem pe_callB (hc : CallR X (.builtin id) r) (hg : Gl X x) (hm : X.mg x = none) (hv : bootBuiltins x = some (.builtin id)) (ha : PA X (e :: es) t) (hn : x ≠ "__name__" := by decide) (hdb : (x == ("__debug__" : Str)) = false := by decide)
    (he : starEach (e :: es) X.env = (false, eval e X.env) :: starEach es X.env := by rfl) (hpl : (backTo pos (starEach es X.env)).any (·.1) = false := by rfl) : PE X (.Call (.Name x p) (e :: es) [] pos) (tCB r t) := by
  intro pins s σ H Q I h
  refine wpAny_Call_Name_kw (ld_blt I hg hm hv ?_ hn hdb)
  exact PyProof.Rows.callWith_builtin1 (thn (ha pos pins s σ H _ I h) fun us s1 ⟨vs, H1, I1, r1, q1⟩ => hc pins s1 σ H1 vs us Q I1 r1 q1) he hpl
/-- T(e, ..), T a built-in type -/
theorem pe_callTy (hc : CallR X (.type T) r) (hg : Gl X x) (hm : X.mg x = none) (hv : bootBuiltins x = some (.type T)) (ha : PA X (e :: es) t) (hn : x ≠ "__name__" := by decide) (hdb : (x == ("__debug__" : Str)) = false := by decide)
    (he : starEach (e :: es) X.env = (false, eval e X.env) :: starEach es X.env := by rfl) (hpl : (backTo pos (starEach es X.env)).any (·.1) = false := by rfl) : PE X (.Call (.Name x p) (e :: es) [] pos) (tCB r t) := by
  intro pins s σ H Q I h
  refine wpAny_Call_Name_kw (ld_blt I hg hm hv ?_ hn hdb)
  exact PyProof.Rows.callWith_type1 (thn (ha pos pins s σ H _ I h) fun us s1 ⟨vs, H1, I1, r1, q1⟩ => hc pins s1 σ H1 vs us Q I1 r1 q1) he hpl
/-- T() -/
theorem pe_callTy0 (hc : CallR X (.type T) r) (hg : Gl X x) (hm : X.mg x = none) (hv : bootBuiltins x = some (.type T)) (hn : x ≠ "__name__" := by decide) (hdb : (x == ("__debug__" : Str)) = false := by decide) :
    PE X (.Call (.Name x p) [] [] pos) (tCB r tNil) := by
  intro pins s σ H Q I h
  refine wpAny_Call_Name_kw (ld_blt I hg hm hv ?_ hn hdb)
  exact PyProof.Rows.callWith_type0 (hc pins s σ H [] [] Q I .nil h)
end
end L2

namespace HT
open PySem PyProof.Rows

/-- t < u of tuples of ints -/
def lexLt : List Int → List Int → Bool
  | [], [] => false
  | [], _ :: _ => true
  | _ :: _, [] => false
  | x :: xs, y :: ys => if x = y then lexLt xs ys else decide (x < y)
theorem lexLt_cons (x y : Int) (xs ys : List Int) : lexLt (x :: xs) (y :: ys) = if x = y then lexLt xs ys else decide (x < y) := rfl
theorem lexLt_nil_nil : lexLt [] [] = false := rfl
theorem lexLt_nil_cons (y : Int) (ys : List Int) : lexLt [] (y :: ys) = true := rfl
theorem lexLt_cons_nil (x : Int) (xs : List Int) : lexLt (x :: xs) [] = false := rfl

theorem eqAt_int (A : Around) (s : Shared) (a : Int) (t : Tok) (c : Int) (u : Tok) : ∃ e, SeqAt.EqAt A s (.int a t) (.int c u) e ∧ (e = true ↔ a = c) :=
  ⟨(a == c), SeqAt.EqAt.int_int a t c u, by simp⟩
theorem rcLt_int (A : Around) (s : Shared) (a : Int) (t : Tok) (c : Int) (u : Tok) (prog : Program) (w : World) (E : Value → Shared → Prop) (Q : Value → Shared → Prop) (h : Q (.bool (decide (a < c))) s) :
    wpAny (model prog w) A (richCompare .Lt (.int a t) (.int c u)) Q E s :=
  (PyProof.Rows.lt_int h : wpAny (model prog w) A (compareOp .Lt (.int a t) (.int c u)) Q E s)

section
open PySem.SeqAt
open PySem.AutoSeq1 (wpAny_loadPart')
open PySem.MeetsSeq PySem.MeetsSeq2 PySem.MeetsSeq3

theorem tuple_lt_ints (l b : Addr) (items items2 : Array Value) (n n2 : Nat) (dd dd2 : Option Addr) (sl sl2 : Array (Option Value)) (ns ms : List Int) (hi : IntsAre items.toList ns) (hj : IntsAre items2.toList ms) :
    Meets (Builtin.«tuple.__lt__» ⟨[.ref l, .ref b], []⟩)
      (fun _ R s => s.heap.get? l = some { cls := .type "tuple", dict := dd, data := .seq items n, slots := sl } ∧ s.heap.get? b = some { cls := .type "tuple", dict := dd2, data := .seq items2 n2, slots := sl2 } ∧
        R (.ok (.ret (.bool (lexLt ns ms)))) s) :=
  .of_wp fun prog w A R s h => by
    obtain ⟨hp, g, d, tk, os⟩ := s; obtain ⟨hl, hb, h⟩ := h
    have f2 := AutoSeq1.sub_tuple_tuple
    have z1 : items.size = ns.length := by rw [← hi.length]; simp
    have z2 : items2.size = ms.length := by rw [← hj.length]; simp
    wp_walk using wpAny_loadPart' hl, wpAny_loadPart' hb, wpAny_forIn_list _ (fun rest b s' => b.1 = none ∧ s' = ⟨hp, g, d, tk, os⟩ ∧ ∃ (vs ws : List Value) (ns' ms' : List Int), rest = vs.zip ws ∧
      IntsAre vs ns' ∧ IntsAre ws ms' ∧ ns'.length + items2.size = ms'.length + items.size ∧ R (.ok (.ret (.bool (lexLt ns' ms')))) ⟨hp, g, d, tk, os⟩) _
    case turn =>
      rintro ⟨y, x⟩ rest b s' ⟨hb', rfl, vs, ws, ns', ms', hz, hvi, hwi, hlen, hR⟩
      cases hvi with
      | nil => rw [List.zip_nil_left] at hz; cases hz
      | cons a t hvi' =>
        cases hwi with
        | nil => rw [List.zip_nil_right] at hz; cases hz
        | cons c u hwi' =>
          rw [List.zip_cons_cons] at hz
          injection hz with hyx hrest
          injection hyx with hy hx
          subst hy hx
          rw [lexLt_cons] at hR
          simp only [List.length_cons] at hlen
          obtain ⟨e, he, hiff⟩ := eqAt_int A.in1 ⟨hp, g, d, tk, os⟩ a t c u
          refine wpAny_bind (he prog w _ _ ?_)
          cases e with
          | true =>
            rw [if_pos (hiff.mp rfl)] at hR
            wp_walk
            exact ⟨rfl, rfl, _, _, _, _, hrest, hvi', hwi', by omega, hR⟩
          | false =>
            rw [if_neg (fun q => absurd (hiff.mpr q) Bool.false_ne_true)] at hR
            have hri := rcLt_int A.in1 ⟨hp, g, d, tk, os⟩ a t c u prog w
            wp_walk using hri
            exact ⟨_, rfl, by simpa using hR⟩
    case fin =>
      rintro ⟨b1, b2⟩ s' ⟨hb', rfl, vs, ws, ns', ms', hz, hvi, hwi, hlen, hR⟩
      simp only at hb'
      subst hb'
      have hv : lexLt ns' ms' = decide (items.size < items2.size) := by
        cases hvi with
        | nil =>
          cases hwi with
          | nil =>
            simp only [List.length_nil] at hlen
            rw [lexLt_nil_nil]
            exact (decide_eq_false (by omega)).symm
          | cons c u hw =>
            simp only [List.length_nil, List.length_cons] at hlen
            rw [lexLt_nil_cons]
            exact (decide_eq_true (by omega)).symm
        | cons a t hv =>
          cases hwi with
          | nil =>
            simp only [List.length_nil, List.length_cons] at hlen
            rw [lexLt_cons_nil]
            exact (decide_eq_false (by omega)).symm
          | cons c u hw =>
            rw [List.zip_cons_cons] at hz
            cases hz
      rw [hv] at hR
      wp_walk
      exact ⟨_, rfl, by simpa [Builtin.Tuple.tupleCompareSizes] using hR⟩
    case h =>
      exact ⟨rfl, rfl, items.toList, items2.toList, ns, ms, rfl, hi, hj, by omega, h⟩
end

section
variable {prog : Program} {w : World} {A : Around} {E : Value → Shared → Prop} {s : Shared}

theorem lt_tupInts {l b : Addr} {items items2 : Array Value} {ns ms : List Int} {Q : Value → Shared → Prop} (hl : IsTup s.heap l items) (hb : IsTup s.heap b items2) (hi : IntsAre items.toList ns) (hj : IntsAre items2.toList ms)
    (hu : A.units < cLine) (h : Q (.bool (lexLt ns ms)) s) : wpAny (model prog w) A (compareOp .Lt (.ref l) (.ref b)) Q E s := by
  obtain ⟨⟨cls, dd, data, sl⟩, ho, hc, n, hd⟩ := id hl
  obtain ⟨⟨cls2, dd2, data2, sl2⟩, ho2, hc2, n2, hd2⟩ := id hb
  simp only at hc hd hc2 hd2
  subst hc hd hc2 hd2
  exact richCompare_meets_room (op := .Lt) ⟨_, ho, rfl⟩ ⟨_, ho2, rfl⟩ PySem.F.slot_tuple_lt PySem.F.entry_tuple_lt (PySem.F.args_tuple_lt_2 _ _) (tuple_lt_ints l b items items2 n n2 dd dd2 sl sl2 ns ms hi hj)
    ⟨ho, ho2, show Value.bool (lexLt ns ms) ≠ Value.notImplemented ∧ Q (.bool (lexLt ns ms)) s from ⟨(fun x => nomatch x), h⟩⟩ hu

/-- t + u, t not empty -/
theorem cat_tup {t b : Addr} {vs ws : List Value} {Q : Value → Shared → Prop} (ht : IsTup s.heap t vs.toArray) (hb : IsTup s.heap b ws.toArray) (hv : vs ≠ [])
    (h1 : ws = [] → Q (.ref t) s) (h2 : ws ≠ [] → Q (.ref s.heap.objs.size) { s with heap := s.heap.push { cls := .type "tuple", data := .seq (vs ++ ws).toArray } })
    (hsz : vs.length + ws.length ≤ sizeLine) : wpAny (model prog w) A (binaryOp .Add (.ref t) (.ref b)) Q E s := by
  obtain ⟨⟨cls, dd, data, sl⟩, ho, hc, n, hd⟩ := id ht
  obtain ⟨⟨cls2, dd2, data2, sl2⟩, ho2, hc2, n2, hd2⟩ := id hb
  simp only at hc hd hc2 hd2
  subst hc hd hc2 hd2
  have e : vs.toArray ++ ws.toArray = (vs ++ ws).toArray := by simp
  by_cases hw : ws = []
  · exact concat_meets ⟨_, ho, rfl⟩ ⟨_, ho2, rfl⟩ noFill_tuple_add seq_tuple_add PySem.F.slot_tuple_add PySem.F.entry_tuple_add (PySem.F.args_tuple_add_2 _ _)
      (tuple_addW1 t b vs.toArray ws.toArray n n2 dd dd2 sl sl2 (by simpa using hv) (by simp [hw])) ⟨ho, ho2, h1 hw⟩
  · refine concat_meets ⟨_, ho, rfl⟩ ⟨_, ho2, rfl⟩ noFill_tuple_add seq_tuple_add PySem.F.slot_tuple_add PySem.F.entry_tuple_add (PySem.F.args_tuple_add_2 _ _)
      (tuple_addW2 t b vs.toArray ws.toArray n n2 dd dd2 sl sl2 (by simpa using hv) (by simpa using hw) (by rw [List.size_toArray, List.size_toArray]; exact hsz)) ⟨ho, ho2, ?_⟩
    rw [e]
    exact h2 hw

/-! ### t[a:b], not the whole -/
/-- a slice's bound as a place among n (d where it is left out) -/
def sIx (n d : Nat) : Option Int → Nat
  | none => d
  | some v => if v < 0 then (v + (n : Int)).toNat else min v.toNat n
theorem sIx_none (n d : Nat) : sIx n d none = d := rfl
theorem sIx_nat (n d k : Nat) : sIx n d (some (k : Int)) = min k n := by
  show (if (k : Int) < 0 then ((k : Int) + (n : Int)).toNat else min (k : Int).toNat n) = min k n
  rw [if_neg (by omega), Int.toNat_natCast]
theorem sIx_le (n d : Nat) (hd : d ≤ n) (o : Option Int) : sIx n d o ≤ n := by
  cases o with
  | none => exact hd
  | some v =>
    show (if v < 0 then (v + (n : Int)).toNat else min v.toNat n) ≤ n
    by_cases hv : v < 0
    · rw [if_pos hv]; omega
    · rw [if_neg hv]; exact Nat.min_le_right _ _
theorem clip_eq (v : Int) (n d : Nat) : (if v < 0 then max (v + (n : Int)) 0 else min v (n : Int)) = ((sIx n d (some v) : Nat) : Int) := by
  show (if v < 0 then max (v + (n : Int)) 0 else min v (n : Int)) = (((if v < 0 then (v + (n : Int)).toNat else min v.toNat n) : Nat) : Int)
  by_cases hv : v < 0
  · simp only [if_pos hv]; omega
  · simp only [if_neg hv]; omega
theorem adjust_gen (lo hi : Option Int) (n : Nat) : Builtin.Slice.sliceAdjust lo hi 1 (n : Int) = (((sIx n 0 lo : Nat) : Int), ((sIx n n hi : Nat) : Int)) := by
  have h1 : ¬ ((1 : Int) < 0) := by omega
  unfold Builtin.Slice.sliceAdjust
  simp only [h1, if_false]
  refine Prod.ext ?_ ?_
  · cases lo with
    | none => rfl
    | some v => exact clip_eq v n 0
  · cases hi with
    | none => rfl
    | some v => exact clip_eq v n n
theorem places_gen (i j : Nat) : Builtin.Slice.slicePlaces (i : Int) (j : Int) 1 = j - i := by
  unfold Builtin.Slice.slicePlaces
  have h1 : (1 : Int) > 0 := by omega
  simp only [h1, if_true, Int.ediv_one]
  split <;> omega
theorem slicePart_ {v : Value} {o : Option Int} {Q : Option Int → Shared → Prop} (p : IsPart v o) (h : Q o s) : wpAny (model prog w) A (Builtin.Slice.slicePartIndex v) Q E s := by
  cases p with
  | none => exact slicePart_none h
  | int i t => exact slicePart_int h
theorem sliceApplied_gen {sl : Addr} {vl vu : Value} {lo hi : Option Int} {n : Nat} {Q : Int × Int × Nat → Shared → Prop} (hs : s.heap.IsSliceOf sl vl vu .none) (pl : IsPart vl lo) (pu : IsPart vu hi)
    (h : Q (((sIx n 0 lo : Nat) : Int), 1, sIx n n hi - sIx n 0 lo) s) : wpAny (model prog w) A (Builtin.Slice.sliceApplied (.ref sl) (pure (n : Int))) Q E s := by
  obtain ⟨os, hos, hcs, hds⟩ := id hs
  unfold Builtin.Slice.sliceApplied Builtin.Slice.sliceFields
  refine wpAny_bind (wpAny_bind (wpAny_field hos hds (x := vl) rfl (wpAny_bind (wpAny_field hos hds (x := vu) rfl (wpAny_bind (wpAny_field hos hds (x := .none) rfl (wpAny_pure ?_)))))))
  refine wpAny_bind (slicePart_none ?_)
  show wpAny _ _ (if ((1 : Int) == 0) = true then _ else _) _ _ s
  rw [if_neg (by decide)]
  refine wpAny_bind (slicePart_ pl (wpAny_bind (slicePart_ pu (wpAny_bind (wpAny_pure ?_)))))
  show wpAny _ _ (match Builtin.Slice.sliceAdjust lo hi 1 (n : Int) with | (lo, hi) => pure (lo, (1 : Int), Builtin.Slice.slicePlaces lo hi 1)) _ _ s
  rw [adjust_gen lo hi n]
  show wpAny _ _ (pure (((sIx n 0 lo : Nat) : Int), (1 : Int), Builtin.Slice.slicePlaces ((sIx n 0 lo : Nat) : Int) ((sIx n n hi : Nat) : Int) 1)) _ _ s
  rw [places_gen]
  exact wpAny_pure h
theorem pick_gen (xs : Array Value) (i k : Nat) : ((List.range k).filterMap fun (m : Nat) => xs[((i : Int) + (m : Int) * 1).toNat]?).toArray = ((xs.toList.drop i).take k).toArray := by
  have e : (fun (m : Nat) => xs[((i : Int) + (m : Int) * 1).toNat]?) = fun m => xs[i + m]? := by
    funext m
    have : ((i : Int) + (m : Int) * 1).toNat = i + m := by omega
    rw [this]
  rw [e]
  have := pick_run xs i k
  rw [List.filterMap_map] at this
  have e2 : ((fun x => xs[x]?) ∘ fun x => i + x) = fun m => xs[i + m]? := rfl
  rw [e2] at this
  rw [this]

theorem getItem_tuple_cut {t sl : Addr} {items : Array Value} {vl vu : Value} {lo hi : Option Int} {Q : Value → Shared → Prop} (ht : IsTup s.heap t items) (hs : s.heap.IsSliceOf sl vl vu .none) (pl : IsPart vl lo) (pu : IsPart vu hi)
    (hw : ¬ (sIx items.size 0 lo = 0 ∧ sIx items.size items.size hi = items.size))
    (h : Q (.ref s.heap.objs.size) { s with heap := s.heap.push { cls := .type "tuple", data := .seq ((items.toList.drop (sIx items.size 0 lo)).take (sIx items.size items.size hi - sIx items.size 0 lo)).toArray } })
    (hsz : items.size ≤ sizeLine) : wpAny (model prog w) A (getItem (.ref t) (.ref sl)) Q E s := by
  have htake : sizeOk (.seq ((items.toList.drop (sIx items.size 0 lo)).take (sIx items.size items.size hi - sIx items.size 0 lo)).toArray) := by
    show ((items.toList.drop (sIx items.size 0 lo)).take (sIx items.size items.size hi - sIx items.size 0 lo)).toArray.size ≤ sizeLine
    rw [List.size_toArray, List.length_take, List.length_drop, Array.length_toList]
    omega
  have hj : sIx items.size items.size hi ≤ items.size := sIx_le _ _ (Nat.le_refl _) hi
  obtain ⟨os, hos, hcs, hds⟩ := id hs
  have hTs : s.TypeIs (.ref sl) "slice" := ⟨os, hos, hcs⟩
  unfold getItem
  try with_reducible refine wpAny_holding ?_
  first | refine wpAny_bind (wpAny_pure ?_) | skip
  refine wpAny_bind (wpAny_sequenceKey ht.typeIs (by decide) ?_)
  refine wpAny_bind (wpAny_callSpecial?_slot (name := Str.ofString "__getitem__") ht.typeIs PyProof.Rows.slot_tuple_getitem
    (wpAny_call_entry PyProof.Rows.slot_tuple_getitem ht.typeIs entry_tuple_getitem ?_ (args_tuple_getitem _ _)))
  show wpAny _ _ (Builtin.Tuple.tupleItemsOf (.ref t) >>= _) _ _ s
  refine wpAny_bind (tupleItemsOf_ ht ?_)
  refine wpAny_bind (wpAny_typeOf hTs ?_)
  rw [if_pos (by decide)]
  refine wpAny_bind (sliceApplied_gen hs pl pu ?_)
  have hno : ¬ ((((sIx items.size 0 lo : Nat) : Int) == 0 && (1 : Int) == 1 && (sIx items.size items.size hi - sIx items.size 0 lo) == items.size) = true) := by
    intro q
    rw [Bool.and_eq_true, Bool.and_eq_true] at q
    have q1 : ((sIx items.size 0 lo : Nat) : Int) = 0 := eq_of_beq q.1.1
    have q2 : sIx items.size items.size hi - sIx items.size 0 lo = items.size := eq_of_beq q.2
    exact hw ⟨by omega, by omega⟩
  show wpAny _ _ (if (((sIx items.size 0 lo : Nat) : Int) == 0 && (1 : Int) == 1 && (sIx items.size items.size hi - sIx items.size 0 lo) == items.size) = true then _ else _) _ _ s
  rw [if_neg hno, pick_gen]
  first
    | exact wpAny_bind (m := Builtin.Tuple.tupleExact _) (wpAny_newObj_type (wpAny_pure ⟨_, rfl, wpAny_pure h⟩) htake)
    | exact wpAny_bind (m := Builtin.Tuple.tupleExact _) (wpAny_newObj_type (wpAny_bind (wpAny_pure (wpAny_pure ⟨_, rfl, wpAny_pure h⟩))) htake)
    | exact wpAny_bind (wpAny_bind (m := Builtin.Tuple.tupleExact _) (wpAny_newObj_type (wpAny_pure (wpAny_pure ⟨_, rfl, wpAny_pure h⟩)) htake))
    | exact wpAny_bind (wpAny_bind (m := Builtin.Tuple.tupleExact _) (wpAny_newObj_type (wpAny_pure ⟨_, rfl, wpAny_pure h⟩) htake))
end
end HT

namespace L2
open PySem PySem.Spec PyProof.Rows

/-! ### the parts of a slice -/
abbrev TO := St → Hp → (Option Int → Hp → Prop) → Prop
/-- a slice's part (left out, or an int) -/
def PO (X : Cx) (e : Option Expr) (t : TO) : Prop :=
  ∀ (pins : List (Addr × Obj)) (s : Shared) (σ : St) (H : Hp) (Q : Option Int → Hp → Prop), Inv X pins σ H s → t σ H Q →
    wpAny (model X.prog X.w) X.A (evalPart e X.env) (fun u s' => ∃ o H', Inv X pins σ H' s' ∧ IsPart u o ∧ Q o H') X.xe s
def tNoPart : TO := fun _ H Q => Q none H
def tPart (t : TE) : TO := fun σ H Q => t σ H fun x H1 => ∃ i, x = .int i ∧ Q (some i) H1

theorem intsAre_of {ns : List Int} : ∀ {us : List Value}, Vals (ns.map V.int) us → IntsAre us ns := by
  induction ns with
  | nil => intro us r; rw [List.map_nil] at r; cases r; exact .nil
  | cons n ns ih =>
    intro us r
    rw [List.map_cons] at r
    cases r with
    | cons r1 r2 =>
      obtain ⟨t, e⟩ := r1
      subst e
      exact .cons n t (ih r2)

section
variable {X : Cx} {e : Expr} {te : TE} {lo hi : Option Expr} {tl th : TO} {pos p2 : Pos}

theorem po_none : PO X none tNoPart := by
  intro pins s σ H Q I h
  rw [evalPart_none]
  exact wpAny_pure ⟨none, H, I, .none, h⟩
theorem po_some (h : PE X e te) : PO X (some e) (tPart te) := by
  intro pins s σ H Q I hw
  rw [evalPart_some]
  refine thn (h pins s σ H _ I hw) fun u s1 ⟨x, H1, I1, r1, q1⟩ => ?_
  obtain ⟨i, rfl, q⟩ := q1
  obtain ⟨t, rfl⟩ := r1
  exact ⟨some i, H1, I1, .int i t, q⟩

/-- what a slice of a value is, by values: the slice object stands at sl -/
def SlR (X : Cx) (r : V → Option Int → Option Int → Hp → VK → Prop) : Prop :=
  ∀ (pins : List (Addr × Obj)) (s : Shared) (σ : St) (H : Hp) (x : V) (v vl vu : Value) (lo hi : Option Int) (sl : Addr) (Q : VK), Inv X pins σ H s → RelV x v → s.heap.IsSliceOf sl vl vu .none → IsPart vl lo → IsPart vu hi → r x lo hi H Q →
    ∃ T id, typeLookup (.type T) "__getitem__" = pure (some (.builtin id)) ∧ s.TypeIs v T ∧ wpAny (model X.prog X.w) X.A (getItem v (.ref sl)) (EP X pins σ Q) X.xe s
theorem SlR.or {r r' : V → Option Int → Option Int → Hp → VK → Prop} (h : SlR X r) (h' : SlR X r') : SlR X (fun x lo hi H Q => r x lo hi H Q ∨ r' x lo hi H Q) := by
  intro pins s σ H x v vl vu lo hi sl Q I rx hs pl pu q
  rcases q with q | q
  · exact h pins s σ H x v vl vu lo hi sl Q I rx hs pl pu q
  · exact h' pins s σ H x v vl vu lo hi sl Q I rx hs pl pu q
def tSl (r : V → Option Int → Option Int → Hp → VK → Prop) (te : TE) (tl th : TO) : TE := fun σ H Q => te σ H fun x H1 => tl σ H1 fun l H2 => th σ H2 fun u H3 => r x l u H3 Q
/-- a[lo:hi], any a -/
theorem pe_slice {r : V → Option Int → Option Int → Hp → VK → Prop} (hr : SlR X r) (he : PE X e te) (hl : PO X lo tl) (hu : PO X hi th) : PE X (.Subscript e (.Slice lo hi none p2) pos) (tSl r te tl th) := by
  intro pins s σ H Q I h
  refine Subscript_ (thn (he pins s σ H _ I h) fun v s1 ⟨x, H1, I1, r1, q1⟩ => ?_)
  refine wpAny_Slice (thn (hl pins s1 σ H1 _ I1 q1) fun vl s2 ⟨l, H2, I2, pl, q2⟩ => thn (hu pins s2 σ H2 _ I2 q2) fun vu s3 ⟨u, H3, I3, pu, q3⟩ => ?_)
  rw [evalPart_none]
  refine wpAny_pure ?_
  have I4 : Inv X pins σ H3 { s3 with heap := s3.heap.push { cls := .type "slice", data := .fields #[vl, vu, .none] } } := I3.kept (t' := s3.toks) fun b ob q => Heap.get?_push_of_some _ q
  obtain ⟨T, id, hT, ht, hg⟩ := hr pins { s3 with heap := s3.heap.push { cls := .type "slice", data := .fields #[vl, vu, .none] } } σ H3 x v vl vu l u s3.heap.objs.size Q I4 r1 (Heap.IsSliceOf.new ..) pl pu q3
  show wpAny (model X.prog X.w) X.A (subscriptTail e (.Slice lo hi none p2) v (.ref s3.heap.objs.size)) (EP X pins σ Q) X.xe { s3 with heap := s3.heap.push { cls := .type "slice", data := .fields #[vl, vu, .none] } }
  exact tail_any (ops := [.ref s3.heap.objs.size, v]) ht hT hg (by with_unfolding_all rfl)

/-- the items of xs[lo:hi] -/
def cutV (xs : List V) (lo hi : Option Int) : List V := (xs.drop (HT.sIx xs.length 0 lo)).take (HT.sIx xs.length xs.length hi - HT.sIx xs.length 0 lo)
theorem cutV_length (xs : List V) (lo hi : Option Int) : (cutV xs lo hi).length ≤ xs.length := by
  unfold cutV
  rw [List.length_take, List.length_drop]
  omega
/-- t[lo:hi], not the whole of it (the whole would be t itself) -/
def rSlT (K : PySem.W.Frag) : V → Option Int → Option Int → Hp → VK → Prop := fun x lo hi H Q => ∃ a xs, x = .ref a ∧ SqT K H a xs ∧
  ¬ (HT.sIx xs.length 0 lo = 0 ∧ HT.sIx xs.length xs.length hi = xs.length) ∧ ∀ p, H p = none → Q (.ref p) (upd H p (.tup (cutV xs lo hi)))
theorem sl_tup : SlR X (rSlT X.K) := by
  intro pins s σ H x v vl vu lo hi sl Q I rx hs pl pu h
  obtain ⟨a, xs, rfl, hx, hw, q⟩ := h
  cases rx
  obtain ⟨its, r, ht, hz⟩ := I.tuple hx
  have hlen : its.toArray.size = xs.length := by rw [List.size_toArray]; exact r.length.symm
  refine ⟨"tuple", _, PyProof.Rows.slot_tuple_getitem.lookup, ht.typeIs, ?_⟩
  refine HT.getItem_tuple_cut ht hs pl pu (by rw [hlen]; exact hw) ?_ (by rw [hlen]; exact hz)
  rw [hlen]
  refine ⟨.ref s.heap.objs.size, _, I.laid (t' := s.toks) (o := .tup (cutV xs lo hi)) (fun b ob q => Heap.get?_push_of_some _ q) (Nat.le_refl _) ?_, rfl, q _ (I.hok.fresh (Nat.le_refl _))⟩
  exact ⟨Nat.le_trans (cutV_length xs lo hi) hz, _, (r.drop (HT.sIx xs.length 0 lo)).take (HT.sIx xs.length xs.length hi - HT.sIx xs.length 0 lo), IsTup.new _ _⟩

/-! ### t < u, t + u -/
def rLtT (K : PySem.W.Frag) : R2 := fun x y H Q => ∃ a b ns ms, x = .ref a ∧ y = .ref b ∧ SqT K H a (ns.map V.int) ∧ SqT K H b (ms.map V.int) ∧ Q (.bl (HT.lexLt ns ms)) H
theorem op_ltT (hu : X.A.units < cLine) : OpR X (compareOp .Lt) (rLtT X.K) := by
  intro pins s σ H x y v u Q I rx ry h
  obtain ⟨a, b, ns, ms, rfl, rfl, ha, hb, q⟩ := h
  cases rx
  cases ry
  obtain ⟨its, r1, p1, _⟩ := I.tuple ha
  obtain ⟨its2, r2, p2, _⟩ := I.tuple hb
  have i1 : IntsAre its.toArray.toList ns := intsAre_of r1
  have i2 : IntsAre its2.toArray.toList ms := intsAre_of r2
  exact HT.lt_tupInts p1 p2 i1 i2 hu ⟨.bl (HT.lexLt ns ms), H, I, rfl, q⟩
/-- t + u, t not empty: u empty gives t itself -/
def rCatT (K : PySem.W.Frag) : R2 := fun x y H Q => ∃ a b xs ys, x = .ref a ∧ y = .ref b ∧ SqT K H a xs ∧ SqT K H b ys ∧ xs ≠ [] ∧ xs.length + ys.length ≤ sizeLine ∧
  (ys = [] → Q (.ref a) H) ∧ (ys ≠ [] → ∀ p, H p = none → Q (.ref p) (upd H p (.tup (xs ++ ys))))
theorem Vals.nil_iff {xs : List V} {us : List Value} (r : Vals xs us) : us = [] ↔ xs = [] := by
  cases r with
  | nil => simp
  | cons _ _ => simp
theorem op_catT : OpR X (binaryOp .Add) (rCatT X.K) := by
  intro pins s σ H x y v u Q I rx ry h
  obtain ⟨a, b, xs, ys, rfl, rfl, ha, hb, hx, hz, q1, q2⟩ := h
  cases rx
  cases ry
  obtain ⟨its, r1, p1, _⟩ := I.tuple ha
  obtain ⟨its2, r2, p2, _⟩ := I.tuple hb
  refine HT.cat_tup p1 p2 (fun z => hx (r1.nil_iff.mp z)) (fun z => ⟨.ref a, H, I, rfl, q1 (r2.nil_iff.mp z)⟩) (fun z => ?_) (by rw [← r1.length, ← r2.length]; exact hz)
  refine ⟨.ref s.heap.objs.size, _, I.laid (t' := s.toks) (o := .tup (xs ++ ys)) (fun b ob q => Heap.get?_push_of_some _ q) (Nat.le_refl _) ?_, rfl, q2 (fun w => z (r2.nil_iff.mpr w)) _ (I.hok.fresh (Nat.le_refl _))⟩
  exact ⟨by rw [List.length_append]; exact hz, _, r1.append r2, IsTup.new _ _⟩
/-- tuple(t) -/
theorem call_tupleT : CallR X (.type "tuple") (fun xs H Q => ∃ a ys, xs = [.ref a] ∧ SqT X.K H a ys ∧ Q (.ref a) H) := by
  intro pins s σ H xs us Q I r h
  obtain ⟨a, ys, rfl, ha, q⟩ := h
  obtain ⟨u, rfl, ru⟩ := vals1 r
  cases ru
  obtain ⟨its, _, p1, _⟩ := I.tuple ha
  exact call_tuple_same (items := its.toArray) p1 ⟨.ref a, H, I, rfl, q⟩
end
end L2

namespace L2
open PySem PySem.Spec PyProof.Rows

/-! ### places -/
/-- the place that an index of any sign means -/
def ixN (n : Nat) (i : Int) : Option Nat := if 0 ≤ i then (if i < n then some i.toNat else none) else if -(n : Int) ≤ i then some (i + n).toNat else none
def atI {α : Type} (xs : List α) (i : Int) : Option α := (ixN xs.length i).bind fun j => xs[j]?
theorem ixN_seq {n : Nat} {i : Int} {j : Nat} (h : ixN n i = some j) : seqIndex? i n = some j ∧ j < n ∧ -(n : Int) ≤ i ∧ i < n := by
  unfold ixN at h
  by_cases h0 : 0 ≤ i
  · rw [if_pos h0] at h
    by_cases h1 : i < n
    · rw [if_pos h1] at h
      have e : i.toNat = j := Option.some.inj h
      exact ⟨by rw [seqIndex_of h0 h1, e], by omega, by omega, h1⟩
    · rw [if_neg h1] at h; cases h
  · rw [if_neg h0] at h
    by_cases h1 : -(n : Int) ≤ i
    · rw [if_pos h1] at h
      have e : (i + n).toNat = j := Option.some.inj h
      exact ⟨by rw [seqIndex_neg (by omega) h1, e], by omega, h1, by omega⟩
    · rw [if_neg h1] at h; cases h
theorem atI_get {α : Type} {xs : List α} {i : Int} {v : α} (h : atI xs i = some v) : ∃ j, seqIndex? i xs.length = some j ∧ xs[j]? = some v ∧ j < xs.length ∧ -(xs.length : Int) ≤ i ∧ i < xs.length := by
  unfold atI at h
  cases e : ixN xs.length i with
  | none => rw [e] at h; cases h
  | some j =>
    rw [e] at h
    obtain ⟨h1, h2, h3, h4⟩ := ixN_seq e
    exact ⟨j, h1, h, h2, h3, h4⟩
theorem atI_nat {α : Type} {xs : List α} {j : Nat} {v : α} (h : xs[j]? = some v) : atI xs (j : Int) = some v := by
  have hj : j < xs.length := (List.getElem?_eq_some_iff.mp h).1
  have e : ixN xs.length (j : Int) = some j := by
    unfold ixN
    rw [if_pos (by omega), if_pos (by omega)]; simp
  unfold atI; rw [e]; exact h
theorem atI_last {α : Type} (xs : List α) (v : α) : atI (xs ++ [v]) (-1) = some v := by
  have hl : (xs ++ [v]).length = xs.length + 1 := by simp
  have e : ixN (xs ++ [v]).length (-1) = some xs.length := by
    unfold ixN
    rw [hl, if_neg (by decide), if_pos (by omega)]
    congr 1
    omega
  unfold atI
  rw [e]
  show (xs ++ [v])[xs.length]? = some v
  simp

/-! ### what may be subscripted -/
/-- what stands as an index of a plain subscript -/
def PlainIx (b : Expr) : Prop := ∀ o i, subscripted b false o i = operate [o, i] (getItem o i)
/-- a subscript by values -/
def IxR (X : Cx) (r : R2) : Prop :=
  ∀ (value slice : Expr) (pins : List (Addr × Obj)) (s : Shared) (σ : St) (H : Hp) (x y : V) (v u : Value) (Q : VK), Inv X pins σ H s → RelV x v → RelV y u → r x y H Q →
    subscripted slice false v u = operate [v, u] (getItem v u) → wpAny (model X.prog X.w) X.A (subscriptTail value slice v u) (EP X pins σ Q) X.xe s
/-- a call of a builtin's method by values: the receiver, the arguments -/
def MtR (X : Cx) (id : String) (r : V → List V → Hp → VK → Prop) : Prop :=
  ∀ (pins : List (Addr × Obj)) (s : Shared) (σ : St) (H : Hp) (x : V) (xs : List V) (v : Value) (us : List Value) (Q : VK), Inv X pins σ H s → RelV x v → Vals xs us → r x xs H Q →
    wpAny (model X.prog X.w) X.A (call (.builtin id) (v :: us)) (EP X pins σ Q) X.xe s
section
variable {X : Cx} {a b : Expr} {ta tb : TE} {pos : Pos}
theorem IxR.or {r r' : R2} (h : IxR X r) (h' : IxR X r') : IxR X (fun x y H Q => r x y H Q ∨ r' x y H Q) := by
  intro value slice pins s σ H x y v u Q I rx ry q hs
  rcases q with q | q
  · exact h value slice pins s σ H x y v u Q I rx ry q hs
  · exact h' value slice pins s σ H x y v u Q I rx ry q hs
theorem MtR.or {id : String} {r r' : V → List V → Hp → VK → Prop} (h : MtR X id r) (h' : MtR X id r') : MtR X id (fun x xs H Q => r x xs H Q ∨ r' x xs H Q) := by
  intro pins s σ H x xs v us Q I rx rs q
  rcases q with q | q
  · exact h pins s σ H x xs v us Q I rx rs q
  · exact h' pins s σ H x xs v us Q I rx rs q
/-- a[b] -/
theorem pe_ix {r : R2} (hr : IxR X r) (ha : PE X a ta) (hb : PE X b tb) (hs : PlainIx b) : PE X (.Subscript a b pos) (tOp r ta tb) := by
  intro pins s σ H Q I h
  exact Subscript_ (binT ha hb I h fun v u s2 x y H2 I2 rx ry q => hr a b pins s2 σ H2 x y v u Q I2 rx ry q (hs _ _))

def rIxL (K : PySem.W.Frag) : R2 := fun x y H Q => ∃ p xs i v, x = .ref p ∧ y = .int i ∧ SqL K H p xs ∧ atI xs i = some v ∧ Q v H
def rIxT (K : PySem.W.Frag) : R2 := fun x y H Q => ∃ p xs i v, x = .ref p ∧ y = .int i ∧ SqT K H p xs ∧ atI xs i = some v ∧ Q v H
def rIxS : R2 := fun x y H Q => ∃ z i c, x = .str z ∧ y = .int i ∧ z.length ≤ sizeLine ∧ atI z.cps.toList i = some c ∧ Q (.str ⟨#[c]⟩) H
theorem ix_list : IxR X (rIxL X.K) := by
  intro value slice pins s σ H x y v u Q I rx ry h hs
  obtain ⟨p, xs, i, z, rfl, rfl, hq, he, q⟩ := h
  cases rx
  obtain ⟨t, rfl⟩ := ry
  obtain ⟨its, r, pl, hz⟩ := I.list hq
  obtain ⟨j, h1, h2, h3, h4, h5⟩ := atI_get he
  obtain ⟨w, ew, rw'⟩ := r.get h2
  have hl := r.length
  have hn := line63
  have fin : EP X pins σ Q w s := ⟨z, H, I, rw', q⟩
  by_cases h0 : 0 ≤ i
  · have hj : i.toNat = j := by
      rw [seqIndex_of h0 h5] at h1
      exact Option.some.inj h1
    exact item_listR pl.isList h0 (by omega) (by rw [hj]; simpa using ew) fin hs
  · have hj : (i + (its.toArray.size : Int)).toNat = j := by
      rw [seqIndex_neg (by omega) h4] at h1
      rw [List.size_toArray, ← hl]
      exact Option.some.inj h1
    exact subscriptTail_builtinR (x := w) pl.isList.typeIs slot_list_getitem.lookup
      (wpAny_getItem_list_neg (Q := fun r s' => r = w ∧ EP X pins σ Q r s') pl.isList (by omega) (by rw [List.size_toArray] <;> omega) (by omega) (by rw [hj]; simpa using ew) ⟨rfl, fin⟩) hs
theorem ix_tup : IxR X (rIxT X.K) := by
  intro value slice pins s σ H x y v u Q I rx ry h hs
  obtain ⟨p, xs, i, z, rfl, rfl, hq, he, q⟩ := h
  cases rx
  obtain ⟨t, rfl⟩ := ry
  obtain ⟨its, r, pl, hz⟩ := I.tuple hq
  obtain ⟨j, h1, h2, h3, h4, h5⟩ := atI_get he
  obtain ⟨w, ew, rw'⟩ := r.get h2
  have hl := r.length
  have hn := line63
  have fin : EP X pins σ Q w s := ⟨z, H, I, rw', q⟩
  exact subscriptTail_builtinR (x := w) pl.typeIs slot_tuple_getitem.lookup
    (getItem_tuple (j := j) (Q := fun r s' => r = w ∧ EP X pins σ Q r s') pl (by omega) (by omega) (by rw [List.size_toArray, ← hl]; exact h1) (by simpa using ew) ⟨rfl, fin⟩) hs
theorem ix_str : IxR X rIxS := by
  intro value slice pins s σ H x y v u Q I rx ry h hs
  obtain ⟨z, i, c, rfl, rfl, hz, he, q⟩ := h
  obtain ⟨t, rfl⟩ := rx
  obtain ⟨t', rfl⟩ := ry
  obtain ⟨j, h1, h2, h3, h4, h5⟩ := atI_get he
  have hl : z.cps.toList.length = z.length := by simp [Str.length]
  rw [hl] at h1 h4 h5
  have hn := line63
  exact tail_any (typeIs_str s z t) slot_str_getitem.lookup (getItem_str (c := c) (by
    have e1 : decide (i < -(2 ^ 63 : Int)) = false := decide_eq_false (by omega)
    have e2 : decide (i ≥ 2 ^ 63) = false := decide_eq_false (by omega)
    rw [e1, e2, Bool.or_false]) (by rw [h1]; simpa using h2) ⟨.str ⟨#[c]⟩, H, I.tok _, ⟨_, rfl⟩, q⟩) hs
/-- list, tuple or str -/
def rIx (K : PySem.W.Frag) : R2 := fun x y H Q => rIxL K x y H Q ∨ rIxT K x y H Q ∨ rIxS x y H Q
theorem ix_seq : IxR X (rIx X.K) := ix_list.or (ix_tup.or ix_str)

/-! ### slices -/
theorem slice_bounds (lo hi : Option Int) (n : Nat) : (sliceBounds lo hi none n).1 = ((HT.sIx n 0 lo : Nat) : Int) ∧ (sliceBounds lo hi none n).2.1 = ((HT.sIx n n hi : Nat) : Int) ∧ (sliceBounds lo hi none n).2.2 = 1 := by
  refine ⟨?_, ?_, rfl⟩
  · cases lo with
    | none => simp [sliceBounds, HT.sIx]
    | some i =>
      simp only [sliceBounds, HT.sIx, Option.getD_none, show (1 : Int) > 0 by decide, if_true]
      by_cases h : i < 0
      · simp only [h, if_true] <;> omega
      · simp only [h, if_false] <;> omega
  · cases hi with
    | none => simp [sliceBounds, HT.sIx]
    | some i =>
      simp only [sliceBounds, HT.sIx, Option.getD_none, show (1 : Int) > 0 by decide, if_true]
      by_cases h : i < 0
      · simp only [h, if_true] <;> omega
      · simp only [h, if_false] <;> omega
theorem slicePick_cut (its : List Value) (lo hi : Option Int) : slicePick its.toArray lo hi none = ((its.drop (HT.sIx its.length 0 lo)).take (HT.sIx its.length its.length hi - HT.sIx its.length 0 lo)).toArray := by
  obtain ⟨h1, h2, h3⟩ := slice_bounds lo hi its.toArray.size
  unfold slicePick
  rw [h1, h2, h3]
  simp only [sliceRange_one, pick_run, List.size_toArray] <;> rfl
/-- xs[lo:hi] of a list: a new list -/
def rSlL (K : PySem.W.Frag) : V → Option Int → Option Int → Hp → VK → Prop := fun x lo hi H Q => ∃ a xs, x = .ref a ∧ SqL K H a xs ∧ ∀ p, H p = none → Q (.ref p) (upd H p (.lst (cutV xs lo hi)))
theorem sl_list : SlR X (rSlL X.K) := by
  intro pins s σ H x v vl vu lo hi sl Q I rx hs pl pu h
  obtain ⟨a, xs, rfl, hx, q⟩ := h
  cases rx
  obtain ⟨its, r, ht, hz⟩ := I.list hx
  have hlen := r.length
  refine ⟨"list", _, slot_list_getitem.lookup, ht.isList.typeIs, ?_⟩
  refine wpAny_getItem_list_slice ht.isList hs pl pu .none (by simp) ?_ (by rw [List.size_toArray] <;> omega)
  rw [slicePick_cut, ← hlen]
  refine ⟨.ref s.heap.objs.size, _, I.laid (t' := s.toks) (o := .lst (cutV xs lo hi)) (fun b ob q => Heap.get?_push_of_some _ q) (Nat.le_refl _) ?_, rfl, q _ (I.hok.fresh (Nat.le_refl _))⟩
  exact ⟨Nat.le_trans (cutV_length xs lo hi) hz, _, 0, (r.drop (HT.sIx xs.length 0 lo)).take (HT.sIx xs.length xs.length hi - HT.sIx xs.length 0 lo), Heap.get?_push_size _ rfl⟩

/-! ### in, not in: flat items -/
def flatV : V → Bool
  | .non => true
  | .bl _ => true
  | .int _ => true
  | .str _ => true
  | _ => false
/-- == of flat values -/
def eqV : V → V → Bool
  | .non, .non => true
  | .bl a, .bl b => a == b
  | .bl a, .int b => (if a then 1 else 0) == b
  | .int a, .bl b => a == (if b then 1 else 0)
  | .int a, .int b => a == b
  | .str a, .str b => a == b
  | _, _ => false
theorem eqAt_V {A : Around} {s : Shared} {y x : V} {u v : Value} (ry : RelV y u) (rx : RelV x v) (fy : flatV y = true) (fx : flatV x = true) : SeqAt.EqAt A s u v (eqV y x) := by
  cases y with
  | non =>
    cases ry
    cases x with
    | non => cases rx; exact SeqAt.EqAt.same _
    | bl b => cases rx; exact SeqAt.EqAt.none_bool b
    | int b => obtain ⟨t, rfl⟩ := rx; exact SeqAt.EqAt.none_int b t
    | str b => obtain ⟨t, rfl⟩ := rx; exact SeqAt.EqAt.none_str b t
    | _ => exact absurd (show false = true from fx) Bool.false_ne_true
  | bl a =>
    cases ry
    cases x with
    | non => cases rx; exact SeqAt.EqAt.bool_none a
    | bl b => cases rx; exact SeqAt.EqAt.bool_bool a b
    | int b => obtain ⟨t, rfl⟩ := rx; exact SeqAt.EqAt.bool_int a b t
    | str b => obtain ⟨t, rfl⟩ := rx; exact SeqAt.EqAt.bool_str a b t
    | _ => exact absurd (show false = true from fx) Bool.false_ne_true
  | int a =>
    obtain ⟨t', rfl⟩ := ry
    cases x with
    | non => cases rx; exact SeqAt.EqAt.int_none a t'
    | bl b => cases rx; exact SeqAt.EqAt.int_bool a t' b
    | int b => obtain ⟨t, rfl⟩ := rx; exact SeqAt.EqAt.int_int a t' b t
    | str b => obtain ⟨t, rfl⟩ := rx; exact SeqAt.EqAt.int_str a t' b t
    | _ => exact absurd (show false = true from fx) Bool.false_ne_true
  | str a =>
    obtain ⟨t', rfl⟩ := ry
    cases x with
    | non => cases rx; exact SeqAt.EqAt.str_none a t'
    | bl b => cases rx; exact SeqAt.EqAt.str_bool a t' b
    | int b => obtain ⟨t, rfl⟩ := rx; exact SeqAt.EqAt.str_int a t' b t
    | str b => obtain ⟨t, rfl⟩ := rx; exact SeqAt.EqAt.str_str a t' b t
    | _ => exact absurd (show false = true from fx) Bool.false_ne_true
  | _ => exact absurd (show false = true from fy) Bool.false_ne_true
/-- the items' answers, read off the values (a value's own answer does not lean on its token) -/
def eqU (x : V) (u : Value) : Bool := match u with
  | .none => eqV .non x
  | .bool b => eqV (.bl b) x
  | .int i _ => eqV (.int i) x
  | .str z _ => eqV (.str z) x
  | _ => false
theorem eqU_of {x y : V} {u : Value} (r : RelV y u) (f : flatV y = true) : eqU x u = eqV y x := by
  cases y with
  | non => cases r; rfl
  | bl b => cases r; rfl
  | int i => obtain ⟨t, rfl⟩ := r; rfl
  | str z => obtain ⟨t, rfl⟩ := r; rfl
  | _ => exact absurd (show false = true from f) Bool.false_ne_true
theorem any_eqU {x : V} : ∀ {xs : List V} {us : List Value}, Vals xs us → xs.all flatV = true → us.any (eqU x) = xs.any fun y => eqV y x
  | _, _, .nil, _ => rfl
  | y :: xs, u :: us, .cons r t, f => by
    rw [List.all_cons, Bool.and_eq_true] at f
    rw [List.any_cons, List.any_cons, eqU_of r f.1, any_eqU t f.2]
theorem mem_eqAt {A : Around} {s : Shared} {x : V} {v : Value} (rx : RelV x v) (fx : flatV x = true) : ∀ {xs : List V} {us : List Value}, Vals xs us → xs.all flatV = true → ∀ u ∈ us, SeqAt.EqAt A s u v (eqU x u)
  | _, _, .nil, _ => fun u hu => by cases hu
  | y :: xs, u :: us, .cons r t, f => fun u' hu => by
    rw [List.all_cons, Bool.and_eq_true] at f
    rcases List.mem_cons.mp hu with rfl | hu
    · rw [eqU_of r f.1]; exact eqAt_V r rx f.1 fx
    · exact mem_eqAt rx fx t f.2 u' hu
def inV (x : V) (xs : List V) : Bool := xs.any fun y => eqV y x
/-- x in a list or tuple of flat items -/
def rIn (K : PySem.W.Frag) (neg : Bool) : R2 := fun x y H Q => ∃ p xs, y = .ref p ∧ (SqL K H p xs ∨ SqT K H p xs) ∧ flatV x = true ∧ xs.all flatV = true ∧ Q (.bl (if neg then !inV x xs else inV x xs)) H
theorem op_in_seq : OpR X (compareOp .In) (rIn X.K false) := by
  intro pins s σ H x y v u Q I rx ry h
  obtain ⟨p, xs, rfl, hq, fx, fs, q⟩ := h
  cases ry
  rcases hq with hq | hq
  · obtain ⟨its, r, pl, hz⟩ := I.list hq
    refine SeqAt.in_listAt (eqU x) pl.isList (fun w hw => mem_eqAt rx fx r fs w (by simpa using hw)) ⟨.bl _, H, I, rfl, ?_⟩
    rw [show its.toArray.any (eqU x) = its.any (eqU x) by simp, any_eqU r fs]
    exact q
  · obtain ⟨its, r, pl, hz⟩ := I.tuple hq
    refine SeqAt.in_tupleAt (eqU x) pl (fun w hw => mem_eqAt rx fx r fs w (by simpa using hw)) ⟨.bl _, H, I, rfl, ?_⟩
    rw [show its.toArray.any (eqU x) = its.any (eqU x) by simp, any_eqU r fs]
    exact q
theorem op_notIn_seq : OpR X (compareOp .NotIn) (rIn X.K true) := by
  intro pins s σ H x y v u Q I rx ry h
  obtain ⟨p, xs, rfl, hq, fx, fs, q⟩ := h
  cases ry
  rcases hq with hq | hq
  · obtain ⟨its, r, pl, hz⟩ := I.list hq
    refine SeqAt.notIn_listAt (eqU x) pl.isList (fun w hw => mem_eqAt rx fx r fs w (by simpa using hw)) ⟨.bl _, H, I, rfl, ?_⟩
    rw [show its.toArray.any (eqU x) = its.any (eqU x) by simp, any_eqU r fs]
    exact q
  · obtain ⟨its, r, pl, hz⟩ := I.tuple hq
    refine SeqAt.notIn_tupleAt (eqU x) pl (fun w hw => mem_eqAt rx fx r fs w (by simpa using hw)) ⟨.bl _, H, I, rfl, ?_⟩
    rw [show its.toArray.any (eqU x) = its.any (eqU x) by simp, any_eqU r fs]
    exact q
theorem op_notIn_str : OpR X (compareOp .NotIn) (fun x y H Q => ∃ i j, x = .str i ∧ y = .str j ∧ Q (.bl (!(!(Builtin.Str.occurrences j i 0 j.length 1).isEmpty))) H) := by
  intro pins s σ H x y v u Q I rx ry h
  obtain ⟨i, j, rfl, rfl, q⟩ := h
  obtain ⟨t, rfl⟩ := rx
  obtain ⟨t', rfl⟩ := ry
  exact notIn_str ⟨.bl _, H, I, rfl, q⟩

/-! ### len, list(x), tuple(x) of any list or tuple that is read -/
theorem call_len_seq : CallR X (.builtin "len") (fun xs H Q => ∃ p ys, xs = [.ref p] ∧ (SqL X.K H p ys ∨ SqT X.K H p ys) ∧ Q (.int ys.length) H) := by
  intro pins s σ H xs us Q I r h
  obtain ⟨p, ys, rfl, hq, q⟩ := h
  obtain ⟨u, rfl, rx⟩ := vals1 r
  cases rx
  have hn := line63
  rcases hq with hq | hq
  · obtain ⟨its, r', pl, hz⟩ := I.list hq
    have hlen := r'.length
    exact Calls.call_len_list pl.isList (by simp only [List.size_toArray] <;> omega) ⟨.int ys.length, H, I.tok _, ⟨s.toks + 1, by rw [List.size_toArray, hlen]⟩, q⟩
  · obtain ⟨its, r', pl, hz⟩ := I.tuple hq
    have hlen := r'.length
    exact len_tuple pl (by simp only [List.size_toArray] <;> omega) ⟨.int ys.length, H, I.tok _, ⟨s.toks + 1, by rw [List.size_toArray, hlen]⟩, q⟩
theorem call_len_str : CallR X (.builtin "len") (fun xs H Q => ∃ z, xs = [.str z] ∧ z.length ≤ sizeLine ∧ Q (.int z.length) H) := by
  intro pins s σ H xs us Q I r h
  obtain ⟨z, rfl, hz, q⟩ := h
  obtain ⟨u, rfl, t, rfl⟩ := vals1 r
  have hn := line63
  exact len_str (by omega) ⟨.int z.length, H, I.tok _, ⟨_, rfl⟩, q⟩
theorem CallR.or {f : Value} {r r' : List V → Hp → VK → Prop} (h : CallR X f r) (h' : CallR X f r') : CallR X f (fun xs H Q => r xs H Q ∨ r' xs H Q) := by
  intro pins s σ H xs us Q I rs q
  rcases q with q | q
  · exact h pins s σ H xs us Q I rs q
  · exact h' pins s σ H xs us Q I rs q
theorem call_list_of : CallR X (.type "list") (fun xs H Q => ∃ p ys, xs = [.ref p] ∧ (SqL X.K H p ys ∨ SqT X.K H p ys) ∧ ∀ l, H l = none → Q (.ref l) (upd H l (.lst ys))) := by
  intro pins s σ H xs us Q I r h
  obtain ⟨p, ys, rfl, hq, q⟩ := h
  obtain ⟨u, rfl, rx⟩ := vals1 r
  cases rx
  have fin : ∀ (its : List Value), Vals ys its → ys.length ≤ sizeLine → ∀ (h' : Heap) (c' : Nat), (∀ b o', s.heap.get? b = some o' → h'.get? b = some o') →
      h'.get? s.heap.objs.size = some { cls := .type "list", dict := none, data := .seq its.toArray c', slots := #[] } → EP X pins σ Q (.ref s.heap.objs.size) { s with heap := h' } := fun its r' hz h' c' kp e =>
    ⟨.ref s.heap.objs.size, _, I.laid (t' := s.toks) kp (Nat.le_refl _) (show ObjOk X.prog X.w _ h' _ (.lst ys) from ⟨hz, its, c', r', e⟩), rfl, q _ (I.hok.fresh (Nat.le_refl _))⟩
  rcases hq with hq | hq
  · obtain ⟨its, r', pl, hz⟩ := I.list hq
    have hlen := r'.length
    obtain ⟨o, ho, hc, n, hd⟩ := pl.isList
    exact call_list_seq p (.inl rfl) ho hc hd (fun h' c' kp e => fin its r' hz h' c' kp e) (by simp only [List.size_toArray] <;> omega)
  · obtain ⟨its, r', pl, hz⟩ := I.tuple hq
    have hlen := r'.length
    obtain ⟨o, ho, hc, n, hd⟩ := pl
    exact call_list_seq p (.inr rfl) ho hc hd (fun h' c' kp e => fin its r' hz h' c' kp e) (by simp only [List.size_toArray] <;> omega)
theorem call_tuple_of : CallR X (.type "tuple") (fun xs H Q => ∃ p ys, xs = [.ref p] ∧ ((SqL X.K H p ys ∧ ∀ l, H l = none → Q (.ref l) (upd H l (.tup ys))) ∨ (SqT X.K H p ys ∧ Q (.ref p) H))) := by
  intro pins s σ H xs us Q I r h
  obtain ⟨p, ys, rfl, h⟩ := h
  obtain ⟨u, rfl, rx⟩ := vals1 r
  cases rx
  rcases h with ⟨hq, q⟩ | ⟨hq, q⟩
  · obtain ⟨its, r', pl, hz⟩ := I.list hq
    have hlen := r'.length
    refine call_tuple_list pl.isList (fun h' kp => ?_) (by simp only [List.size_toArray] <;> omega)
    have I1 : Inv X pins σ H { s with heap := h' } := I.kept (t' := s.toks) kp
    have I2 : Inv X pins σ (upd H h'.objs.size (.tup ys)) { s with heap := h'.push { cls := .type "tuple", data := .seq its.toArray } } :=
      I1.laid (t' := s.toks) (fun b o e => Heap.get?_push_of_some _ e) (Nat.le_refl _) (show ObjOk X.prog X.w _ _ _ (.tup ys) from ⟨hz, its, r', IsTup.new _ _⟩)
    exact ⟨.ref h'.objs.size, _, I2, rfl, q _ (I1.hok.fresh (Nat.le_refl _))⟩
  · obtain ⟨its, r', pl, hz⟩ := I.tuple hq
    exact call_tuple_same pl ⟨.ref p, H, I, rfl, q⟩

/-! ### the call of a builtin's method: o.m(..) -/
/-- the value is of that builtin type -/
def tyV (K : PySem.W.Frag) (T : String) (x : V) (H : Hp) : Prop := match x with
  | .str _ => T = "str"
  | .int _ => T = "int"
  | .ref p => (T = "list" ∧ ∃ xs, SqL K H p xs) ∨ (T = "tuple" ∧ ∃ o, K.lookup p = some o ∧ o.cls = .type "tuple" ∧ o.dict = none) ∨
      (T = "dict" ∧ ((∃ kvs, H p = some (.dK kvs)) ∨ ∃ kvs, H p = some (.dT kvs))) ∨ (T = "set" ∧ ∃ S n, H p = some (.set S n))
  | _ => False
theorem tyV_is {pins : List (Addr × Obj)} {σ : St} {H : Hp} {s : Shared} {T : String} {x : V} {v : Value} (I : Inv X pins σ H s) (r : RelV x v) (ty : tyV X.K T x H) :
    s.TypeIs v T ∧ ∀ a, v = .ref a → ∃ ob, s.heap.get? a = some ob ∧ ob.dict = none := by
  cases x with
  | str z =>
    obtain ⟨t, rfl⟩ := r
    cases (show T = "str" from ty)
    exact ⟨typeIs_str s z t, fun _ e => nomatch e⟩
  | int i =>
    obtain ⟨t, rfl⟩ := r
    cases (show T = "int" from ty)
    exact ⟨typeIs_int s i t, fun _ e => nomatch e⟩
  | ref p =>
    cases r
    rcases ty with ⟨rfl, xs, hq⟩ | ⟨rfl, o, hk, hc, hd⟩ | ⟨rfl, hk⟩ | ⟨rfl, S, n, hk⟩
    · obtain ⟨its, _, pl, _⟩ := I.list hq
      refine ⟨pl.isList.typeIs, fun a e => ?_⟩
      cases e
      obtain ⟨o, n, e, c, hd, _⟩ := pl
      exact ⟨o, e, hd⟩
    · refine ⟨⟨o, I.kIn p o hk, hc⟩, fun a e => ?_⟩
      cases e
      exact ⟨o, I.kIn _ o hk, hd⟩
    · have z : ∃ o, s.heap.get? p = some o ∧ o.ExactDict := by
        rcases hk with ⟨kvs, hk⟩ | ⟨kvs, hk⟩
        · obtain ⟨_, _, _, _, o, _, _, e, ex, _⟩ := I.hok p _ hk
          exact ⟨o, e, ex⟩
        · obtain ⟨_, _, _, _, o, _, _, e, ex, _⟩ := I.hok p _ hk
          exact ⟨o, e, ex⟩
      obtain ⟨o, e, ex⟩ := z
      refine ⟨⟨o, e, ex.1⟩, fun a e2 => ?_⟩
      cases e2
      exact ⟨o, e, ex.2.1⟩
    · obtain ⟨o, _, _, _, e, ex, _⟩ := I.hok p _ hk
      refine ⟨⟨o, e, ex.1⟩, fun a e2 => ?_⟩
      cases e2
      exact ⟨o, e, ex.2.1⟩
  | _ => exact False.elim ty
def tBM0 (K : PySem.W.Frag) (T : String) (r : V → List V → Hp → VK → Prop) (to : TE) : TE := fun σ H Q => to σ H fun x H1 => tyV K T x H1 ∧ r x [] H1 Q
def tBM (K : PySem.W.Frag) (T : String) (r : V → List V → Hp → VK → Prop) (to : TE) (t : TA) : TE := fun σ H Q => to σ H fun x H1 => tyV K T x H1 ∧ t σ H1 fun xs H2 => r x xs H2 Q
variable {o e : Expr} {es : List Expr} {to : TE} {t : TA} {name : Str} {apos cpos : Pos} {T id : String} {r : V → List V → Hp → VK → Prop}
theorem pe_bm0 (pa : PlainAttrs T) (slot : Slot T name id) (hty : typeOf (.builtin id) = pure (.type "method_descriptor")) (hm : MtR X id r) (ho : PE X o to)
    (hbase : attributeBase o name X.env (eval o X.env) = eval o X.env := by rfl) (hline : (apos.endLine == cpos.line) = true := by rfl) : PE X (.Call (.Attribute o name apos) [] [] cpos) (tBM0 X.K T r to) := by
  intro pins s σ H Q I h
  refine wpAny_Call_method0_late hbase hline (thn (ho pins s σ H _ I h) fun v s1 ⟨x, H1, I1, r1, ty, q1⟩ => ?_)
  obtain ⟨h1, h2⟩ := tyV_is I1 r1 ty
  exact ⟨T, id, pa, slot, hty, h1, h2, Calls.callWith_builtin rfl (PySem.evalArgs_none (hm pins s1 σ H1 x [] v [] Q I1 r1 .nil q1))⟩
theorem pe_bm (pa : PlainAttrs T) (slot : Slot T name id) (hty : typeOf (.builtin id) = pure (.type "method_descriptor")) (hm : MtR X id r) (ho : PE X o to) (ha : PA X (e :: es) t)
    (hbase : attributeBase o name X.env (eval o X.env) = eval o X.env := by rfl)
    (hfew : ((backTo cpos (starEach (e :: es) X.env)).all (fun x => !x.1) && (backToKw cpos (keywordEach [] X.env)).all (fun x => x.1.isSome)
      && decide ((e :: es).length + ([] : List Keyword).length + (if ([] : List Keyword).isEmpty then 0 else 1) < 30)) = true := by rfl)
    (hline : (apos.endLine == cpos.line) = true := by rfl) (hs : starEach (e :: es) X.env = (false, eval e X.env) :: starEach es X.env := by rfl) (hplain : (backTo cpos (starEach es X.env)).any (·.1) = false := by rfl) :
    PE X (.Call (.Attribute o name apos) (e :: es) [] cpos) (tBM X.K T r to t) := by
  intro pins s σ H Q I h
  refine wpAny_Call_method_late hbase hfew hline rfl (thn (ho pins s σ H _ I h) fun v s1 ⟨x, H1, I1, r1, ty, q1⟩ => ?_)
  obtain ⟨h1, h2⟩ := tyV_is I1 r1 ty
  refine ⟨T, id, pa, slot, hty, h1, h2, ?_⟩
  have hA := ha cpos pins s1 σ H1 _ I1 q1
  rw [hs] at hA ⊢
  refine Calls.callWith_builtin (by show (false || (backTo cpos (starEach es X.env)).any (·.1)) = false; rw [hplain] <;> rfl) (Calls.evalArgs_plain ?_)
  exact thn hA fun us s2 ⟨vs, H2, I2, r2, q2⟩ => hm pins s2 σ H2 x vs v us Q I2 r1 r2 q2
/- xs.append(e), list.index on a module's tuple .. are MtR facts of 06m -/
end
end L2

namespace L2
open PySem PySem.Spec PyProof.Rows

def MtM (X : Cx) (id : String) (r : V → List V → Hp → VK → Prop) : Prop :=
  ∀ (pins : List (Addr × Obj)) (s : Shared) (σ : St) (H : Hp) (x : V) (xs : List V) (v : Value) (us : List Value) (Q : VK), Inv X pins σ H s → RelV x v → Vals xs us → r x xs H Q →
    wpAny (model X.prog X.w) X.A (call (.builtin id) (v :: us)) (EP X pins σ Q) X.xe s

/-! ### lists of values -/
theorem Vals.one : ∀ {x : V} {us : List Value}, Vals [x] us → ∃ u, us = [u] ∧ RelV x u
  | _, _, .cons r .nil => ⟨_, rfl, r⟩
theorem Vals.two : ∀ {x y : V} {us : List Value}, Vals [x, y] us → ∃ u v, us = [u, v] ∧ RelV x u ∧ RelV y v
  | _, _, _, .cons r (.cons q .nil) => ⟨_, _, rfl, r, q⟩
theorem Vals.zero : ∀ {us : List Value}, Vals [] us → us = []
  | _, .nil => rfl
theorem Vals.dropLast {xs : List V} {us : List Value} (h : Vals xs us) : Vals xs.dropLast us.dropLast := by
  induction h with
  | nil => exact .nil
  | cons r t ih =>
    cases t with
    | nil => exact .nil
    | cons q t' => exact .cons r ih
theorem Vals.eraseIdx : ∀ {xs : List V} {us : List Value} (i : Nat), Vals xs us → Vals (xs.eraseIdx i) (us.eraseIdx i)
  | _, _, _, .nil => .nil
  | _, _, 0, .cons _ t => t
  | _, _, i + 1, .cons r t => .cons r (Vals.eraseIdx i t)
theorem Vals.reverse {xs : List V} {us : List Value} (h : Vals xs us) : Vals xs.reverse us.reverse := by
  induction h with
  | nil => exact .nil
  | cons r t ih => rw [List.reverse_cons, List.reverse_cons]; exact Vals.append ih (.cons r .nil)
theorem Vals.rep {xs : List V} {us : List Value} (h : Vals xs us) : ∀ k : Nat, Vals (List.replicate k xs).flatten (List.replicate k us).flatten
  | 0 => .nil
  | k + 1 => by
    rw [List.replicate_succ, List.replicate_succ, List.flatten_cons, List.flatten_cons]
    exact Vals.append h (Vals.rep h k)
theorem erase_last {α : Type} (l : List α) : l.eraseIdx (l.length - 1) = l.dropLast := by
  induction l with
  | nil => rfl
  | cons a r ih =>
    cases r with
    | nil => rfl
    | cons b r =>
      have e : (a :: b :: r).length - 1 = ((b :: r).length - 1) + 1 := by
        have h1 : (a :: b :: r).length = r.length + 2 := rfl
        have h2 : (b :: r).length = r.length + 1 := rfl
        omega
      rw [e, List.eraseIdx_cons_succ, ih]
      all_goals rfl
theorem len_erase {α : Type} : ∀ (l : List α) (i : Nat), (l.eraseIdx i).length ≤ l.length
  | [], _ => Nat.le_refl _
  | _ :: _, 0 => Nat.le_succ _
  | _ :: r, i + 1 => Nat.succ_le_succ (len_erase r i)
theorem foldl_rep (its : List Value) : ∀ (k : Nat) (acc : List Value),
    List.foldl (fun x1 x2 => x1 ++ x2) acc.toArray (List.replicate k its.toArray) = (acc ++ (List.replicate k its).flatten).toArray
  | 0, acc => by simp
  | k + 1, acc => by
    have e : acc.toArray ++ its.toArray = (acc ++ its).toArray := by simp
    have e2 : (acc ++ its) ++ (List.replicate k its).flatten = acc ++ (List.replicate (k + 1) its).flatten := by
      rw [List.replicate_succ, List.flatten_cons, List.append_assoc]
    rw [← e2, ← foldl_rep its k (acc ++ its), ← e, List.replicate_succ, List.foldl_cons]

section
variable {X : Cx} {pins : List (Addr × Obj)} {σ : St} {H : Hp} {s : Shared} {l b : Addr} {xs ys zs : List V}

/-! ### the two steps: a tracked list is rewritten, a new list is laid -/
theorem Inv.lset {its its' : List Value} {n : Nat} {f : Array Value → Array Value} {t' : Nat} (I : Inv X pins σ H s) (hH : H l = some (.lst xs))
    (e : s.heap.get? l = some { cls := .type "list", data := .seq its.toArray n }) (hf : f its.toArray = its'.toArray) (hv : Vals ys its') (hz : ys.length ≤ sizeLine) :
    Inv X pins σ (upd H l (.lst ys)) { s with heap := s.heap.update l (Obj.mapSeq f), toks := t' } := by
  have q := PySem.IsL.update e f
  rw [hf] at q
  refine I.write (x := l) (e := l) (by rw [hH]; exact trivial) (.inl rfl) (fun b' u hb hu => (Heap.get?_update_other s.heap (Obj.mapSeq f) (Ne.symm hb)).trans hu) ⟨_, q⟩ ?_
  exact ⟨hz, its', _, hv, q⟩
theorem Inv.lnew {its : List Value} {t' : Nat} (I : Inv X pins σ H s) (hv : Vals ys its) (hz : ys.length ≤ sizeLine) :
    Inv X pins σ (upd H s.heap.objs.size (.lst ys)) { s with heap := s.heap.push { cls := .type "list", data := .seq its.toArray }, toks := t' } :=
  I.laid (fun _ _ q => Heap.get?_push_of_some _ q) (Nat.le_refl _) ⟨hz, its, 0, hv, Heap.get?_push_size _ rfl⟩
theorem Inv.fresh (I : Inv X pins σ H s) : H s.heap.objs.size = none := I.hok.fresh (Nat.le_refl _)
theorem Inv.lstM (I : Inv X pins σ H s) (hH : H l = some (.lst xs)) : xs.length ≤ sizeLine ∧ ∃ (its : List Value) (n : Nat), Vals xs its ∧ xs.length = its.length ∧ s.heap.get? l = some { cls := .type "list", data := .seq its.toArray n } := by
  obtain ⟨z, its, n, r, e⟩ := I.hok l _ hH
  exact ⟨z, its, n, r, r.length, e⟩

theorem notLongL {n : Nat} (h : n ≤ sizeLine) : Builtin.List.listTooLong n = false := by
  unfold Builtin.List.listTooLong
  exact decide_eq_false (by omega)
end

section
variable {X : Cx}

/-! ### methods -/
def rAppend : V → List V → Hp → VK → Prop := fun x vs H Q => ∃ l xs y, x = .ref l ∧ vs = [y] ∧ H l = some (.lst xs) ∧ xs.length < sizeLine ∧ Q .non (upd H l (.lst (xs ++ [y])))
theorem mt_append : MtM X "list.append" rAppend := by
  intro pins s σ H x vs v us Q I rx rv h
  obtain ⟨l, xs, y, rfl, rfl, hH, hz, q⟩ := h
  cases rx
  obtain ⟨u, rfl, ru⟩ := rv.one
  obtain ⟨z, its, n, r, hl, e⟩ := I.lstM hH
  refine call_meets F.slot_list_append ⟨_, e, rfl⟩ F.entry_list_append (F.args_list_append_2 _ _) (PySem.list_append l its.toArray n u (by rw [List.size_toArray]; omega)) ⟨e, ?_⟩
  refine ⟨.non, _, I.lset (its' := its ++ [u]) hH e (by simp) (r.append (.cons ru .nil)) ?_, rfl, q⟩
  rw [List.length_append, List.length_singleton]
  omega

def rExtend : V → List V → Hp → VK → Prop := fun x vs H Q => ∃ l b xs zs, x = .ref l ∧ vs = [.ref b] ∧ H l = some (.lst xs) ∧ H b = some (.lst zs) ∧ xs.length + zs.length ≤ sizeLine ∧ Q .non (upd H l (.lst (xs ++ zs)))
theorem mt_extend : MtM X "list.extend" rExtend := by
  intro pins s σ H x vs v us Q I rx rv h
  obtain ⟨l, b, xs, zs, rfl, rfl, hH, hB, hz, q⟩ := h
  cases rx
  obtain ⟨u, rfl, ru⟩ := rv.one
  cases ru
  obtain ⟨z, its, n, r, hl, e⟩ := I.lstM hH
  obtain ⟨z2, its2, n2, r2, hl2, e2⟩ := I.lstM hB
  have hsz : its.toArray.size + its2.toArray.size ≤ sizeLine := by rw [List.size_toArray, List.size_toArray]; omega
  have hlong : ¬ (!its.toArray.isEmpty && Builtin.List.listTooLong (its.toArray.size + its2.toArray.size)) = true := by
    rw [notLongL hsz, Bool.and_false]
    exact Bool.false_ne_true
  refine call_meets F.slot_list_extend ⟨_, e, rfl⟩ F.entry_list_extend (F.args_list_extend_2 _ _)
    (AutoSeq1.list_extend_list_list_0 l its.toArray n b its2.toArray n2 hlong (by rw [List.size_toArray]; omega) (by omega)) ⟨e, e2, ?_⟩
  refine ⟨.non, _, I.lset (its' := its ++ its2) hH e (by simp) (r.append r2) ?_, rfl, q⟩
  rw [List.length_append]
  omega

def rPop : V → List V → Hp → VK → Prop := fun x vs H Q => ∃ l xs y, x = .ref l ∧ vs = [] ∧ H l = some (.lst xs) ∧ xs[xs.length - 1]? = some y ∧ Q y (upd H l (.lst xs.dropLast))
theorem mt_pop : MtM X "list.pop" rPop := by
  intro pins s σ H x vs v us Q I rx rv h
  obtain ⟨l, xs, y, rfl, rfl, hH, hy, q⟩ := h
  cases rx
  have hus := rv.zero
  subst hus
  obtain ⟨z, its, n, r, hl, e⟩ := I.lstM hH
  obtain ⟨u, hu, ru⟩ := r.get hy
  have hy' : its.toArray[its.toArray.size - 1]? = some u := by
    show its.toArray[its.length - 1]? = some u
    rw [← Array.getElem?_toList, ← hl]
    exact hu
  refine call_meets F.slot_list_pop ⟨_, e, rfl⟩ F.entry_list_pop (F.args_list_pop_1 _) (MeetsSeq.list_pop_last l its.toArray n u hy' (by rw [List.size_toArray]; omega)) ⟨e, ?_⟩
  refine ⟨y, _, I.lset (its' := its.dropLast) hH e ?_ r.dropLast ?_, ru, q⟩
  · show its.toArray.eraseIdxIfInBounds (its.toArray.size - 1) = its.dropLast.toArray
    rw [List.size_toArray, List.eraseIdxIfInBounds_toArray, erase_last]
  · rw [List.length_dropLast]
    omega

def rPopAt : V → List V → Hp → VK → Prop := fun x vs H Q => ∃ l xs i k y, x = .ref l ∧ vs = [.int i] ∧ H l = some (.lst xs) ∧ -(2 ^ 63) ≤ i ∧ i < 2 ^ 63 ∧ seqIndex? i xs.length = some k ∧ xs[k]? = some y ∧ Q y (upd H l (.lst (xs.eraseIdx k)))
theorem mt_popAt : MtM X "list.pop" rPopAt := by
  intro pins s σ H x vs v us Q I rx rv h
  obtain ⟨l, xs, i, k, y, rfl, rfl, hH, h1, h2, hk, hy, q⟩ := h
  cases rx
  obtain ⟨u, rfl, ru⟩ := rv.one
  obtain ⟨t, rfl⟩ := ru
  obtain ⟨z, its, n, r, hl, e⟩ := I.lstM hH
  obtain ⟨w, hw, rw'⟩ := r.get hy
  refine call_meets F.slot_list_pop ⟨_, e, rfl⟩ F.entry_list_pop (F.args_list_pop_2 _ _)
    (MeetsSeq.list_pop_at l its.toArray n i t k w (fitsIndex_both h1 h2) (by rw [List.size_toArray, ← hl]; exact hk) (by rw [← Array.getElem?_toList]; exact hw) (by rw [List.size_toArray]; omega)) ⟨e, ?_⟩
  refine ⟨y, _, I.lset (its' := its.eraseIdx k) hH e ?_ (r.eraseIdx k) ?_, rw', q⟩
  · show its.toArray.eraseIdxIfInBounds k = (its.eraseIdx k).toArray
    rw [List.eraseIdxIfInBounds_toArray]
  · have := len_erase xs k
    omega

def rReverse : V → List V → Hp → VK → Prop := fun x vs H Q => ∃ l xs, x = .ref l ∧ vs = [] ∧ H l = some (.lst xs) ∧ Q .non (upd H l (.lst xs.reverse))
theorem mt_reverse : MtM X "list.reverse" rReverse := by
  intro pins s σ H x vs v us Q I rx rv h
  obtain ⟨l, xs, rfl, rfl, hH, q⟩ := h
  cases rx
  have hus := rv.zero
  subst hus
  obtain ⟨z, its, n, r, hl, e⟩ := I.lstM hH
  refine call_meets F.slot_list_reverse ⟨_, e, rfl⟩ F.entry_list_reverse (F.args_list_reverse_1 _) (AutoSeq1.list_reverse_list_0 l its.toArray n (by rw [List.size_toArray]; omega)) ⟨e, ?_⟩
  refine ⟨.non, _, I.lset (its' := its.reverse) hH e (by simp) r.reverse ?_, rfl, q⟩
  rw [List.length_reverse]
  omega

def rClear : V → List V → Hp → VK → Prop := fun x vs H Q => ∃ l xs, x = .ref l ∧ vs = [] ∧ H l = some (.lst xs) ∧ Q .non (upd H l (.lst []))
theorem mt_clear : MtM X "list.clear" rClear := by
  intro pins s σ H x vs v us Q I rx rv h
  obtain ⟨l, xs, rfl, rfl, hH, q⟩ := h
  cases rx
  have hus := rv.zero
  subst hus
  obtain ⟨z, its, n, r, hl, e⟩ := I.lstM hH
  refine call_meets F.slot_list_clear ⟨_, e, rfl⟩ F.entry_list_clear (F.args_list_clear_1 _) (AutoSeq1.list_clear_list_0 l its.toArray n (by rw [List.size_toArray]; omega)) ⟨e, ?_⟩
  exact ⟨.non, _, I.lset (its' := []) (ys := []) hH e rfl .nil (Nat.zero_le _), rfl, q⟩

/-! ### list + list, list += list, list * int -/
def rCat : R2 := fun x y H Q => ∃ l b xs zs, x = .ref l ∧ y = .ref b ∧ H l = some (.lst xs) ∧ H b = some (.lst zs) ∧ xs.length + zs.length ≤ sizeLine ∧ ∀ p, H p = none → Q (.ref p) (upd H p (.lst (xs ++ zs)))
theorem op_cat : OpR X (binaryOp .Add) rCat := by
  intro pins s σ H x y v u Q I rx ry h
  obtain ⟨l, b, xs, zs, rfl, rfl, hH, hB, hz, q⟩ := h
  cases rx
  cases ry
  obtain ⟨z, its, n, r, hl, e⟩ := I.lstM hH
  obtain ⟨z2, its2, n2, r2, hl2, e2⟩ := I.lstM hB
  refine PySem.P.add_list e e2 ?_ (by rw [List.size_toArray, List.size_toArray]; omega)
  have ea : its.toArray ++ its2.toArray = (its ++ its2).toArray := by simp
  rw [ea]
  exact ⟨.ref _, _, I.lnew (t' := s.toks) (r.append r2) (by rw [List.length_append]; omega), rfl, q _ I.fresh⟩
/-- a list times an int (a negative one is nothing) -/
def rRep : R2 := fun x y H Q => ∃ l k xs, x = .ref l ∧ y = .int k ∧ H l = some (.lst xs) ∧ -(2 ^ 63) ≤ k ∧ k < 2 ^ 63 ∧ xs.length * k.toNat ≤ sizeLine ∧
  ∀ p, H p = none → Q (.ref p) (upd H p (.lst (List.replicate k.toNat xs).flatten))
theorem len_rep {α : Type} (xs : List α) (k : Nat) : (List.replicate k xs).flatten.length = k * xs.length := by
  induction k with
  | zero => simp
  | succ k ih => rw [List.replicate_succ, List.flatten_cons, List.length_append, ih, Nat.succ_mul, Nat.add_comm]
theorem op_rep : OpR X (binaryOp .Mult) rRep := by
  intro pins s σ H x y v u Q I rx ry h
  obtain ⟨l, k, xs, rfl, rfl, hH, h1, h2, hz, q⟩ := h
  cases rx
  obtain ⟨t, rfl⟩ := ry
  obtain ⟨z, its, n, r, hl, e⟩ := I.lstM hH
  have hlen : its.toArray.size * k.toNat ≤ sizeLine := by rw [List.size_toArray, ← hl]; exact hz
  have hcap : ¬ its.toArray.size * k.toNat > (2 ^ 63 - 1) / 8 := by
    have : (sizeLine : Nat) ≤ (2 ^ 63 - 1) / 8 := by decide
    omega
  have hfit : ¬ (!Builtin.List.listFitsIndex k) = true := by
    rw [fitsIndex_both h1 h2]
    exact Bool.false_ne_true
  have hlong : ¬ Builtin.List.listTooLong (its.toArray.size * k.toNat) = true := by
    rw [notLongL hlen]
    exact Bool.false_ne_true
  have hnew : List.foldl (fun x1 x2 => x1 ++ x2) #[] (List.replicate (if its.toArray.isEmpty = true then 0 else k.toNat) its.toArray) = (List.replicate k.toNat its).flatten.toArray := by
    have f0 : ∀ m : Nat, List.foldl (fun x1 x2 => x1 ++ x2) #[] (List.replicate m its.toArray) = (List.replicate m its).flatten.toArray := fun m => by
      have := foldl_rep its m []
      rw [List.nil_append] at this
      exact this
    rw [f0]
    cases its with
    | nil => simp
    | cons a r' => rw [if_neg (by simp)]
  refine wpAny_binaryOp_repeat_ref (T := "list") (U := "int") (by decide) ⟨_, e, rfl⟩ (fun s' => typeIs_int s' k t) noFill_list_mul F.fills_int_mul F.slot_int_rmul repeat_list F.slot_int_index.lookup
    (call_meets F.slot_int_rmul (typeIs_int s k t) F.entry_int_rmul (F.args_int_rmul_2 _ _) (int___rmul___int_list k t l its.toArray n)
      ⟨e, rfl, ⟨_, e, rfl⟩, call_meets F.slot_list_mul ⟨_, e, rfl⟩ F.entry_list_mul (F.args_list_mul_2 _ _) (AutoListH.list___mul___list_int_3 l its.toArray n k t hfit hcap hlong) ⟨e, ?_⟩⟩)
  rw [hnew]
  exact ⟨.ref _, _, I.lnew (t' := s.toks) (r.rep k.toNat) (by rw [len_rep, Nat.mul_comm]; exact hz), rfl, q _ I.fresh⟩

/-! ### del xs[i] -/
theorem del_list {pins : List (Addr × Obj)} {s : Shared} {σ : St} {H : Hp} {l : Addr} {xs : List V} {i : Int} {t : Tok} {k : Nat} {Q : Unit → Shared → Prop} (I : Inv X pins σ H s) (hH : H l = some (.lst xs))
    (h1 : -(2 ^ 63) ≤ i) (h2 : i < 2 ^ 63) (hk : seqIndex? i xs.length = some k) (h : ∀ s', Inv X pins σ (upd H l (.lst (xs.eraseIdx k))) s' → Q () s') :
    wpAny (model X.prog X.w) X.A (delItem (.ref l) (.int i t)) Q X.xe s := by
  obtain ⟨z, its, n, r, hl, e⟩ := I.lstM hH
  refine PySem.P.delItem_list (k := k) e (fitsIndex_both h1 h2) (by rw [List.size_toArray, ← hl]; exact hk) (h _ ?_) (by rw [List.size_toArray]; omega)
  refine I.lset (its' := its.eraseIdx k) (t' := s.toks) hH e ?_ (r.eraseIdx k) ?_
  · show its.toArray.eraseIdxIfInBounds k = (its.eraseIdx k).toArray
    rw [List.eraseIdxIfInBounds_toArray]
  · have := len_erase xs k
    omega
end

/-! ### xs[a:b] = ys -/
section
variable {prog : Program} {w : World} {A : Around} {E : Value → Shared → Prop} {s : Shared}
theorem splice_eq (its its2 : List Value) (a c : Nat) : its.toArray.extract 0 a ++ its2.toArray ++ its.toArray.extract c its.toArray.size = (its.take a ++ its2 ++ its.drop c).toArray := by
  apply Array.toList_inj.mp
  first
    | (simp
       exact List.take_of_length_le (by simp))
    | simp [List.take_of_length_le]
    | simp
theorem bounds_run {a c n : Nat} (hac : a ≤ c) (hc : c ≤ n) : sliceBounds (some (a : Int)) (some (c : Int)) none n = ((a : Int), (c : Int), 1) := by
  simp only [sliceBounds, Option.getD_none]
  have h1 : ¬ ((a : Int) < 0) := by omega
  have h2 : ¬ ((c : Int) < 0) := by omega
  simp only [h1, h2, if_false, show (1 : Int) > 0 by decide, if_true]
  congr 1
  · omega
  · congr 1; omega
set_option maxRecDepth 100000 in
/-- list.__setitem__ with a slice of step one and another list -/
theorem setItem_slice {l b sl : Addr} {items new : Array Value} {n n2 : Nat} {vl vu : Value} {a c : Nat} {Q : Unit → Shared → Prop}
    (e : s.heap.get? l = some { cls := .type "list", data := .seq items n }) (e2 : s.heap.get? b = some { cls := .type "list", data := .seq new n2 }) (hne : l ≠ b)
    (hs : s.heap.IsSliceOf sl vl vu .none) (pl : IsPart vl (some (a : Int))) (pu : IsPart vu (some (c : Int))) (hac : a ≤ c) (hc : c ≤ items.size)
    (hsz : items.size + new.size ≤ sizeLine) (h : Q () { s with heap := s.heap.update l (Obj.mapSeq fun xs => xs.extract 0 a ++ new ++ xs.extract c xs.size) }) :
    wpAny (model prog w) A (setItem (.ref l) (.ref sl) (.ref b)) Q E s := by
  have hl : s.heap.IsList l items := PySem.IsL.isList e
  have hb : s.heap.IsList b new := PySem.IsL.isList e2
  obtain ⟨os, hos, hcs, hds⟩ := id hs
  have hTs : s.TypeIs (.ref sl) "slice" := ⟨os, hos, hcs⟩
  have hstep : ¬ ((rawPart none == rawInt 0) = true) := Bool.false_ne_true
  have hsame : Builtin.List.listSameRef (.ref l) (.ref b) = false := by
    unfold Builtin.List.listSameRef
    exact beq_eq_false_iff_ne.mpr hne
  have hmax : (max (a : Int) (c : Int)).toNat = c := by omega
  have hz' : ((fun xs : Array Value => xs.extract 0 a ++ new ++ xs.extract c xs.size) items).size ≤ sizeLine + 1 := by
    simp only [Array.size_append, Array.size_extract]
    omega
  unfold setItem
  try with_reducible refine wpAny_holding ?_
  first | refine wpAny_bind (wpAny_pure ?_) | skip
  refine wpAny_bind (wpAny_sequenceKey hl.typeIs (by decide) ?_)
  refine wpAny_bind (wpAny_callSpecial?_slot (name := Str.ofString "__setitem__") hl.typeIs slot_list_setitem
    (wpAny_call_entry slot_list_setitem hl.typeIs entry_list_setitem ?_ (args_list_setitem _ _ _)))
  show wpAny _ _ (Builtin.List.listSubscript? (.ref sl) >>= _) _ _ s
  refine wpAny_bind ?_
  unfold Builtin.List.listSubscript?
  refine wpAny_bind (wpAny_specialOf hTs slice_no_index ?_)
  simp only [Option.isNone_none, if_true]
  refine wpAny_pure ?_
  show wpAny _ _ (typeOf (.ref sl) >>= _) _ _ s
  refine wpAny_bind (wpAny_typeOf hTs ?_)
  first
    | rw [if_neg (by decide)]
    | refine PySem.W.KFB.if_not (by decide) ?_
  rw [listSliceParts_eq]
  refine wpAny_bind (wpAny_bind (wpAny_field hos hds (x := .none) rfl (wpAny_bind (wpAny_listPart .none ?_))))
  rw [if_neg hstep]
  refine wpAny_bind (wpAny_field hos hds (x := vl) rfl (wpAny_bind (wpAny_listPart pl ?_)))
  refine wpAny_bind (wpAny_field hos hds (x := vu) rfl (wpAny_bind (wpAny_listPart pu (wpAny_pure ?_))))
  first
    | simp only [hsame, Bool.false_eq_true, if_false]
    | refine PySem.W.KFB.if_not hsame ?_
    | (dsimp only
       rw [if_neg (by rw [hsame]; exact Bool.false_ne_true)])
  refine wpAny_bind (m := Builtin.List.listAllItems (.ref b) "must assign iterable to extended slice") ?_
  unfold Builtin.List.listAllItems
  refine wpAny_bind (wpAny_typeOf hb.typeIs ?_)
  first
    | refine PySem.W.KFB.if_so (by decide) ?_
    | rw [if_pos (by decide)]
    | simp only [beq_self_eq_true, Bool.true_or, if_true]
  unfold Builtin.List.listItems
  refine wpAny_bind (wpAny_seqItems e2 rfl (wpAny_pure ?_))
  refine wpAny_bind (wpAny_bind (wpAny_seqItems e rfl (wpAny_pure ?_)))
  refine wpAny_bind (wpAny_of_eq ((sliceIndices_raw (some (a : Int)) (some (c : Int)) none items.size (by simp)).trans (congrArg (pure : Int × Int × Int → Sem (Int × Int × Int)) (bounds_run hac hc))) ?_)
  show wpAny _ _ (if ((1 : Int) == 1) = true then _ else _) _ _ s
  rw [if_pos (by decide)]
  refine wpAny_bind (wpAny_rule ?_)
  first
    | simp only [notLongL hsz, Bool.false_eq_true, if_false]
    | refine PySem.W.KFB.if_not (notLongL hsz) ?_
  first | refine wpAny_bind (wpAny_pure ?_) | skip
  show wpAny _ _ (updateSeq l (fun xs => xs.extract 0 ((a : Int)).toNat ++ new ++ xs.extract (max (a : Int) (c : Int)).toNat xs.size) >>= _) _ _ s
  rw [hmax, Int.toNat_natCast]
  refine wpAny_bind (wpAny_updateSeq (hz := Nat.le_trans (Nat.le_add_right _ _) hsz) (_hz' := hz') e rfl ?_)
  refine wpAny_bind (wpAny_letGo ?_)
  first
    | exact wpAny_bind (wpAny_pure (wpAny_pure ⟨.none, rfl, wpAny_pure h⟩))
    | exact wpAny_pure ⟨.none, rfl, wpAny_pure h⟩
end

section
variable {X : Cx}
/-- xs[a:c] = ys of another list, at the value level: sl is the slice object that was just made -/
theorem set_slice {pins : List (Addr × Obj)} {s : Shared} {σ : St} {H : Hp} {l b sl : Addr} {xs ys : List V} {a c : Int} {vl vu : Value} {Q : Unit → Shared → Prop} (I : Inv X pins σ H s)
    (hH : H l = some (.lst xs)) (hB : H b = some (.lst ys)) (hne : l ≠ b) (hs : s.heap.IsSliceOf sl vl vu .none) (ra : RelV (.int a) vl) (rc : RelV (.int c) vu) (h0 : 0 ≤ a) (hac : a ≤ c) (hc : c ≤ xs.length)
    (hz : xs.length + ys.length ≤ sizeLine) (h : ∀ s', Inv X pins σ (upd H l (.lst (xs.take a.toNat ++ ys ++ xs.drop c.toNat))) s' → Q () s') :
    wpAny (model X.prog X.w) X.A (setItem (.ref l) (.ref sl) (.ref b)) Q X.xe s := by
  obtain ⟨ta, rfl⟩ := ra
  obtain ⟨tc, rfl⟩ := rc
  obtain ⟨z, its, n, r, hl, e⟩ := I.lstM hH
  obtain ⟨z2, its2, n2, r2, hl2, e2⟩ := I.lstM hB
  obtain ⟨a', rfl⟩ := Int.eq_ofNat_of_zero_le h0
  obtain ⟨c', rfl⟩ := Int.eq_ofNat_of_zero_le (Int.le_trans h0 hac)
  simp only [Int.toNat_natCast] at h
  refine setItem_slice (a := a') (c := c') e e2 hne hs (.int _ _) (.int _ _) (by omega) (by rw [List.size_toArray]; omega) (by rw [List.size_toArray, List.size_toArray]; omega) (h _ ?_)
  refine I.lset (its' := its.take a' ++ its2 ++ its.drop c') (t' := s.toks) hH e ?_ (Vals.append (Vals.append (r.take _) r2) (r.drop _)) ?_
  · exact splice_eq its its2 a' c'
  · rw [List.length_append, List.length_append, List.length_take, List.length_drop]
    omega
end
end L2

namespace L2
open PySem PySem.Spec PyProof.Rows

theorem Vals.ints : ∀ {ns : List Int} {us : List Value}, Vals (ns.map V.int) us → IntsAre us ns
  | [], us, h => by
    rw [List.map_nil] at h
    cases h
    exact IntsAre.nil
  | n :: ns, us, h => by
    rw [List.map_cons] at h
    cases h with
    | cons r t =>
      obtain ⟨k, rfl⟩ := r
      exact IntsAre.cons n k (Vals.ints t)
theorem vals_of_ints : ∀ {us : List Value} {ns : List Int}, IntsAre us ns → Vals (ns.map V.int) us
  | _, _, .nil => by rw [List.map_nil]; exact Paired.nil
  | _, _, .cons n t h => by rw [List.map_cons]; exact Paired.cons (show RelV (V.int n) (Value.int n t) from ⟨t, rfl⟩) (vals_of_ints h)
theorem Vals.strs : ∀ {xs : List Str} {us : List Value}, Vals (xs.map V.str) us → StrsAre us xs
  | [], us, h => by
    rw [List.map_nil] at h
    cases h
    exact StrsAre.nil
  | x :: xs, us, h => by
    rw [List.map_cons] at h
    cases h with
    | cons r t =>
      obtain ⟨k, rfl⟩ := r
      exact StrsAre.cons x k (Vals.strs t)
theorem vals_of_strs : ∀ {us : List Value} {xs : List Str}, StrsAre us xs → Vals (xs.map V.str) us
  | _, _, .nil => by rw [List.map_nil]; exact Paired.nil
  | _, _, .cons x t h => by rw [List.map_cons]; exact Paired.cons (show RelV (V.str x) (Value.str x t) from ⟨t, rfl⟩) (vals_of_strs h)
theorem Vals.bls : ∀ {bs : List Bool} {us : List Value}, Vals (bs.map V.bl) us → us = bs.map Value.bool
  | [], us, h => by
    rw [List.map_nil] at h
    cases h
    rfl
  | b :: bs, us, h => by
    rw [List.map_cons] at h
    cases h with
    | cons r t =>
      cases r
      rw [Vals.bls t, List.map_cons]
theorem Vals.ref1 {a : Addr} {us : List Value} (r : Vals [V.ref a] us) : us = [Value.ref a] := by
  cases r with
  | cons r t =>
    cases t
    cases r
    rfl
theorem Vals.int2 {i j : Int} {us : List Value} (r : Vals [V.int i, V.int j] us) : ∃ t u, us = [Value.int i t, Value.int j u] := by
  cases r with
  | cons r t =>
    cases t with
    | cons r2 t2 =>
      cases t2
      obtain ⟨t, rfl⟩ := r
      obtain ⟨u, rfl⟩ := r2
      exact ⟨t, u, rfl⟩

/-! ### the library's walks over a list of ints, kept objects alone -/
section
variable {prog : Program} {w : World} {A : Around} {E : Value → Shared → Prop} {s : Shared} {l : Addr} {its : List Value} {ns : List Int} {Q : Value → Shared → Prop}
theorem sum_raw (hh : A.handled = none) (hl : s.heap.IsList l its.toArray) (hi : IntsAre its ns)
    (h : ∀ h' tk t', (∀ b o, s.heap.get? b = some o → h'.get? b = some o) → Q (.int ns.sum t') { s with heap := h', toks := tk }) : wpAny (model prog w) A (call (.builtin "sum") [.ref l]) Q E s := by
  obtain ⟨xs, e⟩ := hi.allInts.items
  have hn : numsOf (intItems xs).toList = ns := by rw [← e]; exact hi.numsOf
  rw [nums_intItems] at hn
  rw [e] at hl
  refine PySem.sum_intListG hh hl fun h' tk t' hk => ?_
  have := h h' tk t' hk
  rw [preSum_eq, List.take_of_length_le (by simp), hn]; exact this
theorem max_raw (hh : A.handled = none) (hl : s.heap.IsList l its.toArray) (hi : IntsAre its ns) (hne : 0 < ns.length)
    (h : ∀ h' tk M t', (∀ b o, s.heap.get? b = some o → h'.get? b = some o) → M ∈ ns → (∀ a, a ∈ ns → a ≤ M) → Q (.int M t') { s with heap := h', toks := tk }) : wpAny (model prog w) A (call (.builtin "max") [.ref l]) Q E s := by
  obtain ⟨xs, e⟩ := hi.allInts.items
  have hn : numsOf (intItems xs).toList = ns := by rw [← e]; exact hi.numsOf
  rw [nums_intItems] at hn
  subst hn
  rw [e] at hl
  have hsz : 0 < xs.size := by simpa using hne
  refine PySem.max_intList hh hl hsz fun v h' tk hv hk => ?_
  obtain ⟨t, rfl⟩ := intItems_at hv
  obtain ⟨h1, h2⟩ := argBest_gt (numAt xs) (xs.size - 1)
  refine h h' tk _ t hk ?_ fun a ha => ?_
  · rw [numAt_eq]; exact PySem.getD_mem (by rw [List.length_map, Array.length_toList]; omega)
  · obtain ⟨j, hj, rfl⟩ := mem_getD ha
    rw [List.length_map, Array.length_toList] at hj
    rw [← numAt_eq]; exact h2 j (by omega)
theorem min_raw (hh : A.handled = none) (hl : s.heap.IsList l its.toArray) (hi : IntsAre its ns) (hne : 0 < ns.length)
    (h : ∀ h' tk M t', (∀ b o, s.heap.get? b = some o → h'.get? b = some o) → M ∈ ns → (∀ a, a ∈ ns → M ≤ a) → Q (.int M t') { s with heap := h', toks := tk }) : wpAny (model prog w) A (call (.builtin "min") [.ref l]) Q E s := by
  obtain ⟨xs, e⟩ := hi.allInts.items
  have hn : numsOf (intItems xs).toList = ns := by rw [← e]; exact hi.numsOf
  rw [nums_intItems] at hn
  subst hn
  rw [e] at hl
  have hsz : 0 < xs.size := by simpa using hne
  refine PySem.min_intList hh hl hsz fun v h' tk hv hk => ?_
  obtain ⟨t, rfl⟩ := intItems_at hv
  obtain ⟨h1, h2⟩ := argBest_lt (numAt xs) (xs.size - 1)
  refine h h' tk _ t hk ?_ fun a ha => ?_
  · rw [numAt_eq]; exact PySem.getD_mem (by rw [List.length_map, Array.length_toList]; omega)
  · obtain ⟨j, hj, rfl⟩ := mem_getD ha
    rw [List.length_map, Array.length_toList] at hj
    rw [← numAt_eq]; exact h2 j (by omega)
end

/-! ### the calls, by values (CallR of 03t; MtR of 06l) -/
section
variable {X : Cx}
/-- sum(xs) of a list of ints -/
def rSum (K : PySem.W.Frag) : List V → Hp → VK → Prop := fun vs H Q => ∃ (a : Addr) (ns : List Int), vs = [V.ref a] ∧ SqL K H a (ns.map V.int) ∧ Q (.int ns.sum) H
/-- max(xs), min(xs) of a list of ints -/
def rMax (K : PySem.W.Frag) : List V → Hp → VK → Prop := fun vs H Q => ∃ (a : Addr) (ns : List Int), vs = [V.ref a] ∧ SqL K H a (ns.map V.int) ∧ 0 < ns.length ∧ ∀ m, m ∈ ns → (∀ y, y ∈ ns → y ≤ m) → Q (.int m) H
def rMin (K : PySem.W.Frag) : List V → Hp → VK → Prop := fun vs H Q => ∃ (a : Addr) (ns : List Int), vs = [V.ref a] ∧ SqL K H a (ns.map V.int) ∧ 0 < ns.length ∧ ∀ m, m ∈ ns → (∀ y, y ∈ ns → m ≤ y) → Q (.int m) H
theorem cr_sum (hc : X.calm = true) : CallR X (.builtin "sum") (rSum X.K) := by
  intro pins s σ H vs us Q I r h
  obtain ⟨a, ns, rfl, hs, q⟩ := h
  obtain ⟨its, rv, hl, _⟩ := I.list hs
  rw [Vals.ref1 r]
  exact sum_raw (I.ok.hd hc) hl.isList rv.ints fun h' tk t' hk => ⟨.int _, H, I.kept hk, ⟨_, rfl⟩, q⟩
theorem cr_max (hc : X.calm = true) : CallR X (.builtin "max") (rMax X.K) := by
  intro pins s σ H vs us Q I r h
  obtain ⟨a, ns, rfl, hs, hne, q⟩ := h
  obtain ⟨its, rv, hl, _⟩ := I.list hs
  rw [Vals.ref1 r]
  exact max_raw (I.ok.hd hc) hl.isList rv.ints hne fun h' tk m t' hk h1 h2 => ⟨.int _, H, I.kept hk, ⟨_, rfl⟩, q m h1 h2⟩
theorem cr_min (hc : X.calm = true) : CallR X (.builtin "min") (rMin X.K) := by
  intro pins s σ H vs us Q I r h
  obtain ⟨a, ns, rfl, hs, hne, q⟩ := h
  obtain ⟨its, rv, hl, _⟩ := I.list hs
  rw [Vals.ref1 r]
  exact min_raw (I.ok.hd hc) hl.isList rv.ints hne fun h' tk m t' hk h1 h2 => ⟨.int _, H, I.kept hk, ⟨_, rfl⟩, q m h1 h2⟩

/-! sorted, sort (fewer than 64 items: the library's own bound) -/
def rSorted (K : PySem.W.Frag) : List V → Hp → VK → Prop := fun vs H Q => ∃ (a : Addr) (ns : List Int), vs = [V.ref a] ∧ SqL K H a (ns.map V.int) ∧ ns.length < 64 ∧
  ∀ (ns' : List Int) (p : Addr), ns'.Perm ns → ns'.Pairwise (· ≤ ·) → H p = none → Q (.ref p) (upd H p (.lst (ns'.map V.int)))
def rSortedS (K : PySem.W.Frag) : List V → Hp → VK → Prop := fun vs H Q => ∃ (a : Addr) (xs : List Str), vs = [V.ref a] ∧ SqL K H a (xs.map V.str) ∧ xs.length < 64 ∧
  ∀ (ys : List Str) (p : Addr), ys.Perm xs → sortedS ys = true → H p = none → Q (.ref p) (upd H p (.lst (ys.map V.str)))
theorem small64 {n : Nat} (h : n < 64) : n ≤ sizeLine := by rw [sizeLine_eq]; omega
theorem cr_sorted : CallR X (.builtin "sorted") (rSorted X.K) := by
  intro pins s σ H vs us Q I r h
  obtain ⟨a, ns, rfl, hs, h64, q⟩ := h
  obtain ⟨its, rv, hl, _⟩ := I.list hs
  rw [Vals.ref1 r]
  have hi := rv.ints
  refine PyProof.Rows.sorted_ints hl.isList hi (by rw [hi.length]; exact h64) fun out ns' h1 h2 h3 => ?_
  obtain ⟨ep, he'⟩ := PyProof.Rows.sortedAll_at s.heap its out
  have hlen : (ns'.map V.int).length ≤ sizeLine := by rw [List.length_map, h2.length_eq]; exact small64 h64
  exact ⟨.ref _, upd H (s.heap.objs.size + 1) (.lst (ns'.map V.int)), I.laid (t' := s.toks) (fun _ _ => PyProof.Rows.sortedAll_old) (Nat.le_succ _) ⟨hlen, out.toList, ep, vals_of_ints h1, he'⟩, rfl, q ns' _ h2 h3 (I.hok.fresh (Nat.le_succ _))⟩
theorem cr_sortedS : CallR X (.builtin "sorted") (rSortedS X.K) := by
  intro pins s σ H vs us Q I r h
  obtain ⟨a, xs, rfl, hs, h64, q⟩ := h
  obtain ⟨its, rv, hl, _⟩ := I.list hs
  rw [Vals.ref1 r]
  have hlen0 := rv.length
  rw [List.length_map] at hlen0
  refine PyProof.Rows.sorted_strs hl.isList rv.strs (by rw [← hlen0]; exact h64) fun out ys h1 h2 h3 => ?_
  obtain ⟨ep, he'⟩ := PyProof.Rows.sortedAll_at s.heap its out
  have hlen : (ys.map V.str).length ≤ sizeLine := by rw [List.length_map, h2.length_eq]; exact small64 h64
  exact ⟨.ref _, upd H (s.heap.objs.size + 1) (.lst (ys.map V.str)), I.laid (t' := s.toks) (fun _ _ => PyProof.Rows.sortedAll_old) (Nat.le_succ _) ⟨hlen, out.toList, ep, vals_of_strs h1, he'⟩, rfl, q ys _ h2 h3 (I.hok.fresh (Nat.le_succ _))⟩
/-- xs.sort(), ints -/
def rSort : V → List V → Hp → VK → Prop := fun x xs H Q => ∃ (a : Addr) (ns : List Int), x = V.ref a ∧ xs = [] ∧ H a = some (.lst (ns.map V.int)) ∧ ns.length < 64 ∧
  ∀ ns' : List Int, ns'.Perm ns → ns'.Pairwise (· ≤ ·) → Q .non (upd H a (.lst (ns'.map V.int)))
theorem mt_sort : MtR X "list.sort" rSort := by
  intro pins s σ H x xs v us Q I rx rxs h
  obtain ⟨a, ns, rfl, rfl, ha, h64, q⟩ := h
  cases rx
  cases rxs
  obtain ⟨hz, its, n, rv, hob⟩ := I.hok a _ ha
  have hi := rv.ints
  refine wpAny_call_entry PyProof.Rows.slot_list_sort ⟨_, hob, rfl⟩ PyProof.Rows.entry_list_sort
    (PyProof.Rows.list_sort_tree hob hi (by rw [hi.length]; exact h64) fun out ns' h1 h2 h3 => ⟨.none, rfl, ?_⟩) (PyProof.Rows.args_list_sort _)
  obtain ⟨ep, he'⟩ := PyProof.Rows.sortedHeap_at (vs := its) (out := out) hob
  have hlen : (ns'.map V.int).length ≤ sizeLine := by rw [List.length_map, h2.length_eq]; exact small64 h64
  refine ⟨.non, upd H a (.lst (ns'.map V.int)), I.write (e := a) (t' := s.toks) (by rw [ha]; trivial) (.inl rfl) (fun b u hb hu => ?_) ⟨_, he'⟩ ⟨hlen, out.toList, ep, vals_of_ints h1, he'⟩, rfl, q ns' h2 h3⟩
  rw [PyProof.Rows.sortedHeap_old hb (Heap.lt_size hu)]; exact hu
end

/-! ### list.index, flat items -/
section
variable {X : Cx}
def rIndex (K : PySem.W.Frag) : V → List V → Hp → VK → Prop := fun x xs H Q => ∃ (a : Addr) (ys : List V) (y : V) (j : Nat) (z : V), x = V.ref a ∧ xs = [y] ∧ SqL K H a ys ∧ flatV y = true ∧ ys.all flatV = true ∧ ys[j]? = some z ∧ eqV z y = true ∧
  (∀ (m : Nat) (z' : V), m < j → ys[m]? = some z' → eqV z' y = false) ∧ Q (.int (j : Nat)) H
theorem flat_at {ys : List V} (f : ys.all flatV = true) {j : Nat} {z : V} (h : ys[j]? = some z) : flatV z = true := List.all_eq_true.mp f z (List.mem_of_getElem? h)
theorem mt_index : MtR X "list.index" (rIndex X.K) := by
  intro pins s σ H x xs v us Q I rx rxs h
  obtain ⟨a, ys, y, j, z, rfl, rfl, hs, fy, fys, hz, hzj, hno, q⟩ := h
  cases rx
  cases rxs with
  | cons ry rt =>
    rename_i uy ut
    cases rt
    obtain ⟨its, rv, ⟨⟨cls, dd, data, sl⟩, n, ho, hc, hdn, hd⟩, hlen⟩ := I.list hs
    simp only at hc hd
    subst hc hd
    obtain ⟨u, hu, ru⟩ := rv.get hz
    obtain ⟨hjl, hje⟩ := List.getElem?_eq_some_iff.mp hu
    have hvl := rv.length
    have hj : j < its.toArray.size := by simpa using hjl
    have hsl := sizeLine_eq
    refine call_meets PySem.F.slot_list_index ⟨_, ho, rfl⟩ PySem.F.entry_list_index (PySem.F.args_list_index_2 _ _)
      (SeqAt.list_indexAt a its.toArray n dd sl uy (eqU y) j hj (by omega) ?_ ?_) ⟨ho, fun u' hu' => mem_eqAt ry fy rv fys u' (by simpa using hu'), ?_⟩
    · have e1 : its.toArray[j] = u := by simpa using hje
      rw [e1, eqU_of ru (flat_at fys hz)]
      exact hzj
    · intro m hm hmj
      have hml : m < its.length := by simpa using hm
      have hmy : m < ys.length := by omega
      have hy' : ys[m]? = some ys[m] := List.getElem?_eq_getElem hmy
      obtain ⟨u2, hu2, ru2⟩ := rv.get hy'
      obtain ⟨_, hme⟩ := List.getElem?_eq_some_iff.mp hu2
      have e1 : its.toArray[m] = u2 := by simpa using hme
      rw [e1, eqU_of ru2 (flat_at fys hy')]
      exact hno m _ hmj hy'
    · exact ⟨.int (j : Nat), H, I.tok _, ⟨_, rfl⟩, q⟩
end

/-! ### any(xs), all(xs) of a list of bools -/
theorem iter_any {prog : Program} {w : World} {A : Around} {E : Value → Shared → Prop} {s : Shared} {l : Addr} {items : Array Value} {Q : Value → Shared → Prop} (hl : s.heap.IsList l items)
    (h : ∀ s₂ : Shared, s₂ = { s with heap := s.heap.push { cls := .type "list_iterator", data := .fields #[.ref l, .int 0 0] } } →
      (s₂.heap.IsListIter s.heap.objs.size l 0 ∧ s₂.heap.IsList l items) → l ≠ s.heap.objs.size → Q (.ref s.heap.objs.size) s₂) : wpAny (model prog w) A (pyIter (.ref l)) Q E s := by
  have hlt : l < s.heap.objs.size := by obtain ⟨_, e, _⟩ := hl; exact Heap.lt_size e
  exact wpAny_pyIter_list hl (h _ rfl ⟨⟨_, Heap.get?_push_size _ rfl, rfl, rfl⟩, hl.push _⟩ (Nat.ne_of_lt hlt))
theorem truth_bools {prog : Program} {w : World} {A : Around} {bs : List Bool} {its : List Value} (e : its = bs.map Value.bool) :
    TruthOf prog w A (fun i v => its.toArray[i]? = some v) (fun i => bs.getD i false) := fun i v s Q E hv hq => by
  have hv' : its[i]? = some v := by simpa using hv
  rw [e, List.getElem?_map] at hv'
  obtain ⟨b, hb, rfl⟩ := Option.map_eq_some_iff.mp hv'
  have hg : bs.getD i false = b := by rw [List.getD_eq_getElem?_getD, hb] <;> rfl
  have hq' : Q (bs.getD i false) s := hq
  rw [hg] at hq'
  exact wpAny_truthy_bool hq'
theorem any_range : ∀ bs : List Bool, (List.range bs.length).any (fun i => bs.getD i false) = bs.any id
  | [] => rfl
  | b :: bs => by
    rw [List.length_cons, List.range_succ_eq_map, List.any_cons, List.any_map, List.any_cons, ← any_range bs]
    all_goals rfl
theorem all_range : ∀ bs : List Bool, (List.range bs.length).all (fun i => bs.getD i false) = bs.all id
  | [] => rfl
  | b :: bs => by
    rw [List.length_cons, List.range_succ_eq_map, List.all_cons, List.all_map, List.all_cons, ← all_range bs]
    all_goals rfl
section
variable {X : Cx}
def rAny (K : PySem.W.Frag) : List V → Hp → VK → Prop := fun vs H Q => ∃ (a : Addr) (bs : List Bool), vs = [V.ref a] ∧ SqL K H a (bs.map V.bl) ∧ Q (.bl (bs.any id)) H
def rAll (K : PySem.W.Frag) : List V → Hp → VK → Prop := fun vs H Q => ∃ (a : Addr) (bs : List Bool), vs = [V.ref a] ∧ SqL K H a (bs.map V.bl) ∧ Q (.bl (bs.all id)) H
theorem cr_any (hc : X.calm = true) : CallR X (.builtin "any") (rAny X.K) := by
  intro pins s σ H vs us Q I r h
  obtain ⟨a, bs, rfl, hs, q⟩ := h
  obtain ⟨its, rv, hl, _⟩ := I.list hs
  rw [Vals.ref1 r]
  have hb := rv.bls
  refine call_any_walk (iter_any hl.isList fun s₂ e2 st hne => ?_)
  subst e2
  refine ⟨_, _, _, _, _, _, _, rfl, Walks.list (A := X.A.in1) (I.ok.hd hc) _ a hne its.toArray, st, truth_bools hb, fun h' tk hk => ?_⟩
  refine ⟨.bl _, H, I.kept fun b o eo => hk b o (fun hmem => ?_) (Heap.get?_push_of_some _ eo), ?_, q⟩
  · rcases List.mem_cons.mp hmem with e1 | hmem
    · exact absurd (e1 ▸ Heap.lt_size eo) (Nat.lt_irrefl _)
    · cases hmem
  · show Value.bool _ = Value.bool _
    rw [← any_range, hb, List.size_toArray, List.length_map]
theorem cr_all (hc : X.calm = true) : CallR X (.builtin "all") (rAll X.K) := by
  intro pins s σ H vs us Q I r h
  obtain ⟨a, bs, rfl, hs, q⟩ := h
  obtain ⟨its, rv, hl, _⟩ := I.list hs
  rw [Vals.ref1 r]
  have hb := rv.bls
  refine call_all_walk (iter_any hl.isList fun s₂ e2 st hne => ?_)
  subst e2
  refine ⟨_, _, _, _, _, _, _, rfl, Walks.list (A := X.A.in1) (I.ok.hd hc) _ a hne its.toArray, st, truth_bools hb, fun h' tk hk => ?_⟩
  refine ⟨.bl _, H, I.kept fun b o eo => hk b o (fun hmem => ?_) (Heap.get?_push_of_some _ eo), ?_, q⟩
  · rcases List.mem_cons.mp hmem with e1 | hmem
    · exact absurd (e1 ▸ Heap.lt_size eo) (Nat.lt_irrefl _)
    · cases hmem
  · show Value.bool _ = Value.bool _
    rw [← all_range, hb, List.size_toArray, List.length_map]
end

/-! ### == and != of data at any depth: none, bools, ints, texts, lists, tuples -/
mutual
inductive Dp (K : PySem.W.Frag) (H : Hp) : V → PyData → Prop
  | non : Dp K H .non .none
  | bl (b : Bool) : Dp K H (.bl b) (.bool b)
  | int (i : Int) : Dp K H (.int i) (.int i)
  | str (x : Str) : Dp K H (.str x) (.str x)
  | lst {a : Addr} {xs : List V} {ds : List PyData} : SqL K H a xs → DpAll K H xs ds → Dp K H (.ref a) (.list ds)
  | tup {a : Addr} {xs : List V} {ds : List PyData} : SqT K H a xs → DpAll K H xs ds → Dp K H (.ref a) (.tuple ds)
inductive DpAll (K : PySem.W.Frag) (H : Hp) : List V → List PyData → Prop
  | nil : DpAll K H [] []
  | cons {v : V} {vs : List V} {d : PyData} {ds : List PyData} : Dp K H v d → DpAll K H vs ds → DpAll K H (v :: vs) (d :: ds)
end
section
variable {X : Cx} {pins : List (Addr × Obj)} {σ : St} {H : Hp} {s : Shared}
mutual
theorem Dp.reads (I : Inv X pins σ H s) : ∀ (d : PyData) (v : V) (u : Value), Dp X.K H v d → RelV v u → ∃ as, Reads s.heap u d as
  | .none, _, _, h, r => by
    cases h
    cases r
    exact ⟨_, Reads.none⟩
  | .bool b, _, _, h, r => by
    cases h
    cases r
    exact ⟨_, Reads.bool b⟩
  | .int i, _, _, h, r => by
    cases h
    obtain ⟨t, rfl⟩ := r
    exact ⟨_, Reads.int i t⟩
  | .str x, _, _, h, r => by
    cases h
    obtain ⟨t, rfl⟩ := r
    exact ⟨_, Reads.str x t⟩
  | .list ds, _, _, h, r => by
    cases h with
    | lst hs ha =>
      cases r
      obtain ⟨its, rv, ⟨o, n, ho, hc, _, hd⟩, _⟩ := I.list hs
      obtain ⟨as, hr⟩ := Dp.readsAll I ds _ its ha rv
      exact ⟨_, Reads.list ho hc hd hr⟩
  | .tuple ds, _, _, h, r => by
    cases h with
    | tup hs ha =>
      cases r
      obtain ⟨its, rv, ⟨o, ho, hc, n, hd⟩, _⟩ := I.tuple hs
      obtain ⟨as, hr⟩ := Dp.readsAll I ds _ its ha rv
      exact ⟨_, Reads.tuple ho hc hd hr⟩
  | .dict _, _, _, h, _ => by cases h
theorem Dp.readsAll (I : Inv X pins σ H s) : ∀ (ds : List PyData) (vs : List V) (us : List Value), DpAll X.K H vs ds → Vals vs us → ∃ as, ReadsAll s.heap us ds as
  | [], _, _, h, r => by
    cases h
    cases r
    exact ⟨_, ReadsAll.nil⟩
  | d :: ds, _, _, h, r => by
    cases h with
    | cons h1 h2 =>
      cases r with
      | cons r1 r2 =>
        obtain ⟨as, q1⟩ := Dp.reads I d _ _ h1 r1
        obtain ⟨bs, q2⟩ := Dp.readsAll I ds _ _ h2 r2
        exact ⟨_, ReadsAll.cons q1 q2⟩
end
end
section
variable {X : Cx}
def rEqD (K : PySem.W.Frag) : R2 := fun x y H Q => ∃ d e, Dp K H x d ∧ Dp K H y e ∧ SeqAt.shaped d = true ∧ SeqAt.shaped e = true ∧ Q (.bl (PyData.eqv d e)) H
def rNeD (K : PySem.W.Frag) : R2 := fun x y H Q => ∃ d e, Dp K H x d ∧ Dp K H y e ∧ SeqAt.shaped d = true ∧ SeqAt.shaped e = true ∧ Q (.bl (!PyData.eqv d e)) H
theorem op_eqD (hu : X.A.units + 64 < cLine) : OpR X (compareOp .Eq) (rEqD X.K) := by
  intro pins s σ H x y v u Q I rx ry h
  obtain ⟨d, e, hd, he, sd, se, q⟩ := h
  obtain ⟨as, r1⟩ := Dp.reads I d x v hd rx
  obtain ⟨bs, r2⟩ := Dp.reads I e y u he ry
  exact SeqAt.compareEq_shaped r1 r2 sd se hu ⟨.bl _, H, I, rfl, q⟩
theorem op_neD (hu : X.A.units + 64 < cLine) : OpR X (compareOp .NotEq) (rNeD X.K) := by
  intro pins s σ H x y v u Q I rx ry h
  obtain ⟨d, e, hd, he, sd, se, q⟩ := h
  obtain ⟨as, r1⟩ := Dp.reads I d x v hd rx
  obtain ⟨bs, r2⟩ := Dp.reads I e y u he ry
  exact SeqAt.compareNe_shaped r1 r2 sd se hu ⟨.bl _, H, I, rfl, q⟩
end
end L2

namespace L2
open PySem PySem.Spec PyProof.Rows
abbrev CellAt (h : Heap) (c : Addr) (v : Option Value) : Prop := h.IsCell c v
def relS (scope sc : Scope) : Scope :=
  { scope with names := scope.names.map fun (n, k) => if (k == .free && sc.kind == .function && sc.names.lookup n == some .cell) then (n, .cell) else (n, k) }

def cloFrom (cells : List (Str × Addr)) : List (Str × NameKind) → List (Str × Addr) → List (Str × Addr)
  | [], acc => acc
  | (n, k) :: r, acc => if k == .free then cloFrom cells r ((n, (cells.lookup n).getD 0) :: acc) else cloFrom cells r acc

theorem closure_loop (env : Env) (f : Str × NameKind → List (Str × Addr) → Sem (ForInStep (List (Str × Addr))))
    (hf : ∀ n k c, f (n, k) c = if k == .free then (do let a ← cellOf env n; pure (.yield ((n, a) :: c))) else pure (.yield c)) :
    ∀ (names : List (Str × NameKind)) (acc : List (Str × Addr)), (∀ y ∈ names, y.2 = .free → ∃ c, env.cells.lookup y.1 = some c) → forIn names acc f = pure (cloFrom env.cells names acc)
  | [], acc, _ => by rw [List.forIn_nil]; rfl
  | (n, k) :: r, acc, h => by
    rw [List.forIn_cons, hf]
    have ih := fun acc => closure_loop env f hf r acc fun y hy => h y (List.mem_cons_of_mem _ hy)
    unfold cloFrom
    by_cases hk : (k == NameKind.free) = true
    · rw [if_pos hk, if_pos hk]
      obtain ⟨c, hc⟩ := h (n, k) List.mem_cons_self (by simpa using hk)
      have e : cellOf env n = pure c := by unfold cellOf; rw [hc]
      rw [e]
      have e2 : (env.cells.lookup n).getD 0 = c := by rw [hc]; rfl
      rw [e2]
      exact ih _
    · rw [if_neg hk, if_neg hk]
      exact ih _
theorem closure_ok {scope : Scope} {env : Env} (h : ∀ y ∈ scope.names, y.2 = .free → ∃ c, env.cells.lookup y.1 = some c) : closureFor scope env = pure (cloFrom env.cells scope.names []) := by
  simp only [closureFor]
  rw [closure_loop env _ (fun n k c => rfl) scope.names [] h]
  rfl

theorem mem_lookup {α : Type} : ∀ {l : List (Str × α)} {n : Str} {c : α}, (n, c) ∈ l → ∃ c', l.lookup n = some c'
  | (k, v) :: r, n, c, h => by
    rw [List.lookup_cons]
    cases hb : n == k with
    | true => exact ⟨_, rfl⟩
    | false =>
      rcases List.mem_cons.mp h with e | h
      · cases e; simp at hb
      · exact mem_lookup h

theorem cloFrom_mem {cells : List (Str × Addr)} : ∀ {names : List (Str × NameKind)} {acc : List (Str × Addr)} {n : Str} {c : Addr}, (n, c) ∈ cloFrom cells names acc → (n, c) ∈ acc ∨ ((n, .free) ∈ names ∧ c = (cells.lookup n).getD 0)
  | [], _, _, _, h => .inl h
  | (m, k) :: r, acc, n, c, h => by
    unfold cloFrom at h
    split at h
    · rename_i hk
      have hk : k = .free := by simpa using hk
      rcases cloFrom_mem h with h | ⟨h1, h2⟩
      · rcases List.mem_cons.mp h with e | h
        · cases e; exact .inr ⟨hk ▸ List.mem_cons_self, rfl⟩
        · exact .inl h
      · exact .inr ⟨List.mem_cons_of_mem _ h1, h2⟩
    · rcases cloFrom_mem h with h | ⟨h1, h2⟩
      · exact .inl h
      · exact .inr ⟨List.mem_cons_of_mem _ h1, h2⟩
theorem cloFrom_acc {cells : List (Str × Addr)} : ∀ {names : List (Str × NameKind)} {acc : List (Str × Addr)} {p : Str × Addr}, p ∈ acc → p ∈ cloFrom cells names acc
  | [], _, _, h => h
  | (m, k) :: r, acc, p, h => by
    unfold cloFrom
    split
    · exact cloFrom_acc (List.mem_cons_of_mem _ h)
    · exact cloFrom_acc h
theorem cloFrom_has {cells : List (Str × Addr)} : ∀ {names : List (Str × NameKind)} {acc : List (Str × Addr)} {n : Str}, (n, .free) ∈ names → (n, (cells.lookup n).getD 0) ∈ cloFrom cells names acc
  | (m, k) :: r, acc, n, h => by
    unfold cloFrom
    rcases List.mem_cons.mp h with e | h
    · cases e
      exact cloFrom_acc List.mem_cons_self
    · split
      · exact cloFrom_has h
      · exact cloFrom_has h

theorem cells_mem : ∀ {names : List (Str × NameKind)} {h : Heap} {acc : List (Str × Addr)} {x : Str} {c : Addr}, (x, c) ∈ cellsFrom h.objs.size names acc →
    (x, c) ∈ acc ∨ ((x, .cell) ∈ names ∧ h.objs.size ≤ c ∧ CellAt (pushCells h names) c none)
  | [], _, _, _, _, h => .inl h
  | (n, k) :: r, h, acc, x, c, hm => by
    unfold cellsFrom at hm
    unfold pushCells
    split at hm
    · rename_i hk
      rw [if_pos hk]
      have hk : k = .cell := by simpa using hk
      rw [← Heap.size_push h { cls := .type "cell", data := .cell none }] at hm
      rcases cells_mem hm with hm | ⟨h1, h2, h3⟩
      · rcases List.mem_cons.mp hm with e | hm
        · cases e
          exact .inr ⟨hk ▸ List.mem_cons_self, Nat.le_refl _, _, pushCells_keeps r _ _ _ (Heap.get?_push_size _ rfl), rfl⟩
        · exact .inl hm
      · rw [Heap.size_push] at h2
        exact .inr ⟨List.mem_cons_of_mem _ h1, Nat.le_of_succ_le h2, h3⟩
    · rename_i hk
      rw [if_neg hk]
      rcases cells_mem hm with hm | ⟨h1, h2, h3⟩
      · exact .inl hm
      · exact .inr ⟨List.mem_cons_of_mem _ h1, h2, h3⟩
theorem cells_acc : ∀ {names : List (Str × NameKind)} {n : Nat} {acc : List (Str × Addr)} {p : Str × Addr}, p ∈ acc → p ∈ cellsFrom n names acc
  | [], _, _, _, h => h
  | (m, k) :: r, n, acc, p, h => by
    unfold cellsFrom
    split
    · exact cells_acc (List.mem_cons_of_mem _ h)
    · exact cells_acc h
theorem cells_has : ∀ {names : List (Str × NameKind)} {n : Nat} {acc : List (Str × Addr)} {x : Str}, (x, .cell) ∈ names → ∃ c, (x, c) ∈ cellsFrom n names acc
  | (m, k) :: r, n, acc, x, h => by
    unfold cellsFrom
    rcases List.mem_cons.mp h with e | h
    · cases e
      exact ⟨n, cells_acc List.mem_cons_self⟩
    · split
      · exact cells_has h
      · exact cells_has h
theorem cells_inj : ∀ {names : List (Str × NameKind)} {h : Heap} {acc : List (Str × Addr)} {x y : Str} {c : Addr}, (∀ p ∈ acc, p.2 < h.objs.size) → (∀ x y c, (x, c) ∈ acc → (y, c) ∈ acc → x = y) →
    (x, c) ∈ cellsFrom h.objs.size names acc → (y, c) ∈ cellsFrom h.objs.size names acc → x = y
  | [], _, _, _, _, _, _, hi, h1, h2 => hi _ _ _ h1 h2
  | (n, k) :: r, h, acc, x, y, c, hl, hi, h1, h2 => by
    unfold cellsFrom at h1 h2
    split at h1
    · rename_i hk
      rw [if_pos hk] at h2
      rw [← Heap.size_push h { cls := .type "cell", data := .cell none }] at h1 h2
      refine cells_inj (h := h.push _) (fun p hp => ?_) (fun x y c a b => ?_) h1 h2
      · rw [Heap.size_push]
        rcases List.mem_cons.mp hp with rfl | hp
        · exact Nat.lt_succ_self _
        · exact Nat.lt_succ_of_lt (hl p hp)
      · rcases List.mem_cons.mp a with e | a <;> rcases List.mem_cons.mp b with e' | b
        · cases e; cases e'; rfl
        · cases e; exact absurd (hl _ b) (Nat.lt_irrefl _)
        · cases e'; exact absurd (hl _ a) (Nat.lt_irrefl _)
        · exact hi _ _ _ a b
    · rename_i hk
      rw [if_neg hk] at h2
      exact cells_inj hl hi h1 h2

theorem newEnv_comp {M : Model} {A : Around} {E : Value → Shared → Prop} {s : Shared} {scope : Scope} {globals : Addr} {closure : List (Str × Addr)} {qual : Str} {func : Option Addr} {code : Value} {around : Env} {builtins : Addr} {Q : Env → Shared → Prop}
    (h : Q (newEnv scope s.heap.objs.size globals (cellsFrom (s.heap.objs.size + 1) scope.names closure) qual func code (some around) builtins)
      { s with heap := pushCells (s.heap.push { cls := .type "dict", data := .dict #[] }) scope.names }) :
    wpAny M A (newFunctionEnv scope globals closure [] qual func code (some around) builtins) Q E s := by
  simp only [newFunctionEnv, Option.isSome_some, if_true]
  refine wpAny_bind (wpAny_alloc ?_)
  refine wpAny_bind (wpAny_layCells _ (fun n k c => rfl) scope.names closure _ _ ?_)
  rw [show ({ s with heap := s.heap.push { cls := .type "dict", data := .dict #[] } } : Shared).heap.objs.size = s.heap.objs.size + 1 from Heap.size_push ..]
  rw [List.forIn_nil]
  exact wpAny_bind (wpAny_pure (wpAny_pure h))

/-- every name of the written scope, in the scope that runs -/
theorem lookup_relS {sc : Scope} : ∀ {names : List (Str × NameKind)} {x : Str} {k : NameKind},
    (names.map fun (n, k) => if (k == NameKind.free && sc.kind == .function && sc.names.lookup n == some .cell) then (n, NameKind.cell) else (n, k)).lookup x = some k →
    ∃ k', names.lookup x = some k' ∧ (k = k' ∨ (k' = .free ∧ k = .cell))
  | [], _, _, h => by simp at h
  | (n, k₀) :: r, x, k, h => by
    have ih := @lookup_relS sc r x k
    have h' : List.lookup x ((if (k₀ == NameKind.free && sc.kind == .function && sc.names.lookup n == some .cell) = true then (n, NameKind.cell) else (n, k₀)) :: (r.map _)) = some k := h
    cases hx : x == n with
    | true =>
      simp only [List.lookup_cons, hx]
      by_cases hc : (k₀ == NameKind.free && sc.kind == .function && sc.names.lookup n == some .cell) = true
      · rw [if_pos hc] at h'
        simp only [List.lookup_cons, hx] at h'
        cases h'
        simp only [Bool.and_eq_true, beq_iff_eq] at hc
        exact ⟨k₀, rfl, .inr ⟨hc.1.1, rfl⟩⟩
      · rw [if_neg hc] at h'
        simp only [List.lookup_cons, hx] at h'
        cases h'
        exact ⟨_, rfl, .inl rfl⟩
    | false =>
      simp only [List.lookup_cons, hx]
      by_cases hc : (k₀ == NameKind.free && sc.kind == .function && sc.names.lookup n == some .cell) = true
      · rw [if_pos hc] at h'
        simp only [List.lookup_cons, hx] at h'
        exact ih h'
      · rw [if_neg hc] at h'
        simp only [List.lookup_cons, hx] at h'
        exact ih h'
theorem lookup_relS_keep {sc : Scope} : ∀ {names : List (Str × NameKind)} {x : Str} {k : NameKind}, k ≠ .free → names.lookup x = some k →
    (names.map fun (n, k) => if (k == NameKind.free && sc.kind == .function && sc.names.lookup n == some .cell) then (n, NameKind.cell) else (n, k)).lookup x = some k
  | [], _, _, _, h => by simp at h
  | (n, k₀) :: r, x, k, hk, h => by
    have ih := @lookup_relS_keep sc r x k hk
    show List.lookup x ((if (k₀ == NameKind.free && sc.kind == .function && sc.names.lookup n == some .cell) = true then (n, NameKind.cell) else (n, k₀)) :: (r.map _)) = some k
    cases hx : x == n with
    | true =>
      simp only [List.lookup_cons, hx] at h
      cases h
      have : ¬ (k₀ == NameKind.free && sc.kind == .function && sc.names.lookup n == some .cell) = true := by simp [hk]
      rw [if_neg this]
      simp only [List.lookup_cons, hx]
    | false =>
      simp only [List.lookup_cons, hx] at h
      by_cases hc : (k₀ == NameKind.free && sc.kind == .function && sc.names.lookup n == some .cell) = true
      · rw [if_pos hc]; simp only [List.lookup_cons, hx]; exact ih h
      · rw [if_neg hc]; simp only [List.lookup_cons, hx]; exact ih h

theorem pushCells_size : ∀ (names : List (Str × NameKind)) (h : Heap), h.objs.size ≤ (pushCells h names).objs.size
  | [], _ => Nat.le_refl _
  | (_, k) :: r, h => by
    unfold pushCells
    split
    · refine Nat.le_trans ?_ (pushCells_size r _)
      rw [Heap.size_push]; exact Nat.le_succ _
    · exact pushCells_size r h


/-- the names of a comprehension's block: its own (with their places in N), or captured -/
structure BlkOk (N : List Str) (sc scope : Scope) (own : List (Str × Nat)) : Prop where
  kind : scope.kind = .function
  uniq : ∀ y ∈ scope.names, scope.names.lookup y.1 = some y.2
  ix : ∀ p ∈ own, N[p.2]? = some p.1
  free : ∀ y ∈ scope.names, y.2 = .free → sc.names.lookup y.1 = some .cell ∨ sc.names.lookup y.1 = some .free
  own : ∀ y ∈ scope.names, y.2 = .local ∨ y.2 = .cell → y.1 ∈ own.map (·.1) ∨ y.1 ∉ N
/-- the slots of the block's own names forgotten -/
def wipe (σ : St) : List Nat → St
  | [] => σ
  | v :: vs => (wipe σ vs).set v none
theorem wipe_length (σ : St) : ∀ vs : List Nat, (wipe σ vs).length = σ.length
  | [] => rfl
  | v :: vs => by unfold wipe; rw [List.length_set, wipe_length σ vs]
theorem wipe_some {σ : St} {i : Nat} {x : V} : ∀ {vs : List Nat}, (wipe σ vs)[i]? = some (some x) → σ[i]? = some (some x) ∧ i ∉ vs
  | [], h => ⟨h, by simp⟩
  | v :: vs, h => by
    unfold wipe at h
    by_cases hi : v = i
    · subst hi
      by_cases hv : v < (wipe σ vs).length
      · rw [List.getElem?_set_self hv] at h; cases h
      · rw [List.getElem?_eq_none (by simpa using hv)] at h; cases h
    · rw [List.getElem?_set_ne hi] at h
      obtain ⟨h1, h2⟩ := wipe_some h
      exact ⟨h1, by simp only [List.mem_cons, not_or]; exact ⟨fun e => hi e.symm, h2⟩⟩

/-- the context of a block that starts at s, its iterator's objects at fp -/
abbrev Cx.blk (X : Cx) (s : Shared) (H : Hp) (scope : Scope) (cenv : Env) (fp : List Addr) : Cx := { X with s_0 := s, H_0 := H, env := cenv, outer := X.stack, ex := fp, fn := fun x => scope.names.lookup x == some .cell, pn := [], xe := fun _ _ => False }
section
variable {X : Cx} {pins : List (Addr × Obj)} {σ : St} {H : Hp} {s : Shared}
theorem block_start {scope : Scope} {own : List (Str × Nat)} {fp : List Addr} (I : Inv X pins σ H s) (ok : BlkOk X.N X.env.scope scope own) (hN : X.N.Nodup) (hfp : ∀ b ∈ fp, FpOk X pins H b ∧ b < s.heap.objs.size) :
    Inv (X.blk s H scope (compEnvC scope (cellsFrom (s.heap.objs.size + 1) scope.names (cloFrom X.env.cells scope.names [])) s.heap.objs.size X.env) fp) [] (wipe σ (own.map (·.2))) H { s with heap := pushCells (s.heap.push { cls := .type "dict", data := .dict #[] }) scope.names } := by
  have hfree : ∀ y ∈ scope.names, y.2 = .free → ∃ c, X.env.cells.lookup y.1 = some c := fun y hy e => by
    rcases ok.free y hy e with k | k
    · exact I.ok.has _ (.inl k)
    · exact I.ok.has _ (.inr k)
  generalize hcenv : compEnvC scope (cellsFrom (s.heap.objs.size + 1) scope.names (cloFrom X.env.cells scope.names [])) s.heap.objs.size X.env = cenv
  have kp : ∀ b o, s.heap.get? b = some o → (pushCells (s.heap.push { cls := .type "dict", data := .dict #[] }) scope.names).get? b = some o := fun b o e => pushCells_keeps _ _ _ _ (Heap.get?_push_of_some _ e)
  have hL : cenv.locals = s.heap.objs.size := by rw [← hcenv]; rfl
  have hcl : cenv.cells = cellsFrom (s.heap.objs.size + 1) scope.names (cloFrom X.env.cells scope.names []) := by rw [← hcenv]; rfl
  have hsc : cenv.scope = relS scope X.env.scope := by rw [← hcenv]; rfl
  rw [← Heap.size_push s.heap { cls := .type "dict", data := .dict #[] }] at hcl
  have cm : ∀ {y c}, (y, c) ∈ cloFrom X.env.cells scope.names [] → X.env.cells.lookup y = some c ∧ c < s.heap.objs.size := fun {y c} hm => by
    rcases cloFrom_mem hm with hm | ⟨h1, rfl⟩
    · cases hm
    · obtain ⟨c, hc⟩ := hfree _ h1 rfl
      rw [hc]
      obtain ⟨w, z⟩ := I.cell _ _ hc
      exact ⟨rfl, z.lt⟩
  have mem : ∀ {y c}, cenv.cells.lookup y = some c → (X.env.cells.lookup y = some c ∧ c < s.heap.objs.size) ∨ (s.heap.objs.size + 1 ≤ c ∧ CellAt (pushCells (s.heap.push { cls := .type "dict", data := .dict #[] }) scope.names) c none) := fun {y c} e => by
    rw [hcl] at e
    rcases cells_mem (PySem.mem_of_lookup e) with hm | ⟨_, h2, h3⟩
    · exact .inl (cm hm)
    · rw [Heap.size_push] at h2; exact .inr ⟨h2, h3⟩
  have look : ∀ {y}, scope.names.lookup y = some .free → ∃ c, cenv.cells.lookup y = some c ∧ X.env.cells.lookup y = some c := fun {y} hl => by
    have hy : (y, NameKind.free) ∈ scope.names := PySem.mem_of_lookup hl
    obtain ⟨c', e'⟩ := mem_lookup (cells_acc (names := scope.names) (n := (s.heap.push { cls := .type "dict", data := .dict #[] }).objs.size) (cloFrom_has (cells := X.env.cells) (acc := []) hy))
    rw [← hcl] at e'
    refine ⟨c', e', ?_⟩
    rw [hcl] at e'
    rcases cells_mem (PySem.mem_of_lookup e') with hm | ⟨h1, _, _⟩
    · exact (cm hm).1
    · have := ok.uniq _ h1
      rw [hl] at this; cases this
  have okB : (X.blk s H scope cenv fp).Ok := by
    refine ⟨I.ok.mod, by show cenv.scope.kind = _; rw [hsc]; exact ok.kind, by show cenv.globals = _; rw [← hcenv]; exact I.ok.glob, by show cenv.builtins = _; rw [← hcenv]; exact I.ok.blt, by show s.heap.objs.size ≤ cenv.locals; rw [hL]; exact Nat.le_refl _,
      fun y z c e1 e2 => ?_, fun y hy => ?_, fun y c z e => ?_, I.ok.hd, I.ok.frames, .inl rfl, fun b hb => ⟨?_, fun y c e z => ?_⟩, I.bs, Nat.le_trans I.ok.bsz I.sz, fun b o e hb => ?_, fun b hb z => ?_, I.stack, I.stkFree⟩
    · have e1 : cenv.cells.lookup y = some c := e1
      have e2 : cenv.cells.lookup z = some c := e2
      rw [hcl] at e1 e2
      refine cells_inj (fun p hp => ?_) (fun y z c a b => I.ok.inj y z c (cm a).1 (cm b).1) (PySem.mem_of_lookup e1) (PySem.mem_of_lookup e2)
      rw [Heap.size_push]
      exact Nat.lt_succ_of_lt (cm (y := p.1) (c := p.2) hp).2
    · show ∃ c, cenv.cells.lookup y = some c
      have key : ∀ k, cenv.kindOf y = some k → (k = .cell ∨ k = .free) → ∃ c, cenv.cells.lookup y = some c := fun k hk hk' => by
        unfold Env.kindOf at hk
        rw [hsc] at hk
        obtain ⟨k', e, r⟩ := lookup_relS hk
        have : k' = .cell ∨ k' = .free := by
          rcases r with rfl | ⟨rfl, _⟩
          · exact hk'
          · exact .inr rfl
        rcases this with rfl | rfl
        · obtain ⟨c, hm⟩ := cells_has (n := (s.heap.push { cls := .type "dict", data := .dict #[] }).objs.size) (acc := cloFrom X.env.cells scope.names []) (PySem.mem_of_lookup e)
          obtain ⟨c', e'⟩ := mem_lookup hm
          exact ⟨c', by rw [hcl]; exact e'⟩
        · obtain ⟨c, h1, _⟩ := look e
          exact ⟨c, h1⟩
      rcases hy with hy | hy
      · exact key _ hy (.inl rfl)
      · exact key _ hy (.inr rfl)
    · have z : (scope.names.lookup y == some NameKind.cell) = true := z
      have z : scope.names.lookup y = some .cell := by simpa using z
      have e : cenv.cells.lookup y = some c := e
      rw [hcl] at e
      rcases cells_mem (PySem.mem_of_lookup e) with hm | ⟨_, h2, _⟩
      · rcases cloFrom_mem hm with hm | ⟨h1, _⟩
        · cases hm
        · have q := ok.uniq _ h1
          rw [z] at q; cases q
      · rw [Heap.size_push] at h2
        exact Nat.le_of_succ_le h2
    · show b ≠ cenv.locals
      rw [hL]; exact Nat.ne_of_lt (hfp b hb).2
    · have e : cenv.cells.lookup y = some c := e
      rcases mem e with ⟨h1, _⟩ | ⟨h1, _⟩
      · exact (hfp b hb).1.2.2.2.2.1 y c h1 z
      · have h2 : s.heap.objs.size + 1 ≤ b := by rw [← z]; exact h1
        exact absurd (Nat.lt_of_lt_of_le (hfp b hb).2 (Nat.le_of_succ_le h2)) (Nat.lt_irrefl _)
    · rcases (hfp b hb).1.2.2.2.1 with z | z
      · exact I.ok.noex b o e z
      · exact absurd (Nat.lt_of_lt_of_le (Heap.lt_size e) (Nat.le_trans I.ok.bsz z)) (Nat.lt_irrefl _)
    · rcases List.mem_cons.mp (I.stkSub b z) with z | z
      · exact (hfp b hb).1.2.1 z
      · exact (hfp b hb).1.2.2.1 z
  refine ⟨okB, rfl, I.bare, Un.kept kp, ⟨fun _ => none, ?_, fun i y av e1 e2 e3 => ?_⟩, fun y c e => ?_, ?_, fun y c e => ?_, fun p hp => ?_, I.hok.kept kp, by rw [wipe_length]; exact I.len⟩
  · show Heap.Ns _ cenv.locals _
    rw [hL]
    exact Heap.Ns.keeps (Heap.Ns.new ..) fun b o e => pushCells_keeps _ _ _ _ e
  · obtain ⟨e2, hne⟩ := wipe_some e2
    have hfr : scope.names.lookup y = some .free ∧ (cenv.kindOf y = some .cell ∨ cenv.kindOf y = some .free) := by
      have key : ∀ k, cenv.scope.names.lookup y = some k → k = .local ∨ k = .cell ∨ k = .free → scope.names.lookup y = some .free ∧ (cenv.kindOf y = some .cell ∨ cenv.kindOf y = some .free) := fun k hk hk' => by
        have hk0 := hk
        rw [hsc] at hk
        obtain ⟨k', e, r⟩ := lookup_relS hk
        have no : ¬ (k' = .local ∨ k' = .cell) := fun hh => by
          rcases ok.own _ (PySem.mem_of_lookup e) hh with e' | e'
          · obtain ⟨p, hp, hpy⟩ := List.mem_map.mp e'
            have e3 := ok.ix p hp
            have : p.1 = y := hpy
            rw [this] at e3
            exact hne (List.mem_map.mpr ⟨p, hp, nodup_ix hN e3 e1⟩)
          · exact e' (List.mem_of_getElem? e1)
        rcases r with rfl | ⟨rfl, rfl⟩
        · rcases hk' with rfl | rfl | rfl
          · exact absurd (.inl rfl) no
          · exact absurd (.inr rfl) no
          · exact ⟨e, .inr hk0⟩
        · exact ⟨e, .inl hk0⟩
      have e3 : Vis cenv.scope y := e3
      rcases e3 with e3 | e3 | e3
      · exact key _ e3 (.inl rfl)
      · exact key _ e3 (.inr (.inl rfl))
      · exact key _ e3 (.inr (.inr rfl))
    obtain ⟨m, hn, hl⟩ := I.loc
    have hvis : Vis X.env.scope y := (ok.free _ (PySem.mem_of_lookup hfr.1) rfl).elim (fun k => .inr (.inl k)) (fun k => .inr (.inr k))
    obtain ⟨w, r, q⟩ := hl i y av e1 e2 hvis
    refine ⟨w, r, .inr ⟨hfr.2, ?_⟩⟩
    obtain ⟨c, h1, h2⟩ := look hfr.1
    rcases q with ⟨k, _⟩ | ⟨_, c', e', z⟩
    · have k : X.env.scope.names.lookup y = some .local := k
      rcases ok.free _ (PySem.mem_of_lookup hfr.1) rfl with k' | k' <;> rw [show X.env.scope.names.lookup y = _ from k'] at k <;> cases k
    · rw [h2] at e'; cases e'
      exact ⟨c, h1, z.keeps kp⟩
  · have e : cenv.cells.lookup y = some c := e
    rcases mem e with ⟨h1, _⟩ | ⟨_, z⟩
    · obtain ⟨w, z⟩ := I.cell y c h1
      exact ⟨w, z.keeps kp⟩
    · exact ⟨_, z⟩
  · show H cenv.locals = none
    rw [hL]; exact I.hok.fresh (Nat.le_refl _)
  · have e : cenv.cells.lookup y = some c := e
    rcases mem e with ⟨h1, _⟩ | ⟨h1, _⟩
    · exact I.freeC y c h1
    · exact I.hok.fresh (Nat.le_of_succ_le h1)
  · exact absurd (show p ∈ ([] : List (Addr × Obj)) ++ [] from hp) (by simp)

/-- an item appended to a tracked list -/
theorem app_ok {E : Value → Shared → Prop} {D : Addr} {xs : List V} {y : V} {v : Value} {Q : Value → Shared → Prop} (I : Inv X pins σ H s) (hD : H D = some (.lst xs)) (hz : xs.length < sizeLine) (r : RelV y v)
    (h : ∀ s', Inv X pins σ (upd H D (.lst (xs ++ [y]))) s' → Q .none s') : wpAny (model X.prog X.w) X.A (call (.builtin "list.append") [.ref D, v]) Q E s := by
  obtain ⟨hz', its, n, ri, e⟩ := I.hok D _ hD
  have hl := ri.length
  refine append_at (hsz := by rw [List.size_toArray]; omega) e fun h' sb ho' => ?_
  refine h { s with heap := h' } (I.write (t' := s.toks) (by rw [hD]; trivial) (.inl rfl) (fun b u hb q => (sb.2 b hb).trans q) ⟨_, ho'⟩ ⟨by rw [List.length_append]; exact hz, its ++ [v], n + 1, ri.append (.cons r .nil), ?_⟩)
  rw [ho']
  simp

/-- a clause's tests -/
def PTs (X : Cx) (ifs : List Expr) (t : TT) : Prop :=
  ∀ (pins : List (Addr × Obj)) (s : Shared) (σ : St) (H : Hp) (Q : Bool → Hp → Prop), Inv X pins σ H s → t σ H Q →
    wpAny (model X.prog X.w) X.A (forIn ifs true fun c r => if r = true then do let ok ← isTrue c X.env (eval c X.env); pure (ForInStep.yield ok) else pure (ForInStep.yield r)) (TP X pins σ Q) X.xe s
def tYes : TT := fun _ H Q => Q true H
theorem pts_nil : PTs X [] tYes := fun _ _ _ H _ I h => wpAny_tests_nil ⟨H, I, h⟩
theorem pts_one {c : Expr} {t : TT} (h : PT X c t) : PTs X [c] t := fun pins s σ H Q I hw => wpAny_tests_one (h pins s σ H Q I hw)
end

theorem thnF {α : Type} {t : Sem α} {Q Q' : α → Shared → Prop} {M : Model} {A : Around} {E : Value → Shared → Prop} {s : Shared} (h : wpAny M A t Q (fun _ _ => False) s) (hQ : ∀ a s, Q a s → Q' a s) : wpAny M A t Q' E s := wpAny_mono h hQ fun _ _ z => False.elim z

/-- the loop of a list comprehension's block, the target of any form (codeAny_compLoop_tests asks a target that no tuple goes to; statement and proof follow it, PyProof/CompMap.lean:41-61, with the step letOwnedTupleGo kept) -/
theorem compLoop_any {prog : Program} {w : World} {A : Around} {R : Result → Shared → Prop} {s : Shared} {elt target iter : Expr} {ifs : List Expr} {scope : Scope} {pos : Pos} {it acc : Value} {env : Env} (I : Nat → Shared → Prop)
    (turn : ∀ n s, I n s → wpAny (model prog w) A (pyNext it) (fun r s₁ => match r with
      | none => R (.ok .next) s₁
      | some v => wpAny (model prog w) A (letOwnedTupleGo target it v) (fun _ s₁' => wpAny (model prog w) A (assign target env v) (fun _ s₂ =>
          wpAny (model prog w) A (forIn ifs true fun c r => if r = true then do let ok ← isTrue c env (eval c env); pure (ForInStep.yield ok) else pure (ForInStep.yield r)) (fun ok s₃ =>
            if ok = true then wpAny (model prog w) A (eval elt env) (fun x s₄ =>
              wpAny (model prog w) A (call (.builtin "list.append") [acc, x]) (fun _ s₅ => ∃ m, m < n ∧ I m s₅) (notedBy (model prog w) A env fun e s' => R (.error e) s') s₄) (notedBy (model prog w) A env fun e s' => R (.error e) s') s₃
            else ∃ m, m < n ∧ I m s₃) (notedBy (model prog w) A env fun e s' => R (.error e) s') s₂) (notedBy (model prog w) A env fun e s' => R (.error e) s') s₁') (notedBy (model prog w) A env fun e s' => R (.error e) s') s₁) (notedBy (model prog w) A env fun e s' => R (.error e) s') s)
    (n : Nat) (h : I n s) :
    codeAny (model prog w) A (.compLoop (.ListComp elt [⟨target, iter, ifs, 0⟩] scope pos) 0 it acc env) R s := by
  refine codeAny_loop rfl I (fun n s hI => ?_) n h
  show wpAny _ A ((compTurn (.ListComp elt [⟨target, iter, ifs, 0⟩] scope pos) 0 it acc env).onRaise (fun x => do noteFrame x env; theTreesLotGoes x)) _ _ s
  refine wpAny_noted ?_
  rw [compTurn_list]
  refine wpAny_bind (wpAny_standAt (wpAny_bind (wpAny_mono (turn n s hI) (fun r s₁ h₁ => ?_) fun _ _ h' => h')))
  cases r with
  | none => exact wpAny_pure h₁
  | some v =>
    refine wpAny_bind (wpAny_mono h₁ (fun _ s₁' h₁' => ?_) fun _ _ h' => h')
    refine wpAny_bind (wpAny_mono h₁' (fun _ s₂ h₂ => wpAny_bind (wpAny_mono h₂ (fun ok s₃ h₃ => ?_) fun _ _ h' => h')) fun _ _ h' => h')
    cases ok with
    | false => exact wpAny_pure ⟨rfl, h₃⟩
    | true =>
      exact wpAny_bind (wpAny_bind (wpAny_mono h₃ (fun x s₄ h₄ => wpAny_bind (wpAny_mono h₄ (fun _ s₅ h₅ => wpAny_pure (wpAny_pure ⟨rfl, h₅⟩)) fun _ _ h' => h')) fun _ _ h' => h'))

section
variable {X : Cx}
/-- [elt for target in iter if ..]: D the new list; W by the turn and a measure, Nx what a turn is to reach -/
def tLc (wi : TI) (g : TG) (tt : TT) (te : TE) (vs : List Nat) : TE := fun σ H Q => wi σ H fun J H1 => ∀ D, H1 D = none → ∃ W : Nat → Nat → Hp → Prop, (∃ m, W 0 m (upd H1 D (.lst []))) ∧ ∀ i m H, W i m H →
  (J.stop i H ∧ Q (.ref D) H) ∨ (J.go i H ∧ ∃ Nx : Hp → Prop, (∀ H', Nx H' → ∃ m', m' < m ∧ W (i + 1) m' H') ∧ ∀ x H', J.yld i H x H' → g x (wipe σ vs) H' fun σ2 H2 => wipe σ2 vs = wipe σ vs ∧ tt σ2 H2 fun b H3 =>
    if b = true then te σ2 H3 fun y H4 => ∃ acc, H4 D = some (.lst acc) ∧ acc.length < sizeLine ∧ Nx (upd H4 D (.lst (acc ++ [y]))) else Nx H3)
theorem lc_core {pins : List (Addr × Obj)} {s : Shared} {σ : St} {H : Hp} {Q : VK} {elt tg iter : Expr} {ifs : List Expr} {scope : Scope} {own : List (Str × Nat)} {pos pos' : Pos} {wi : TI} {g : TG} {tt : TT} {te : TE} {use : Option (Value → Sem Unit)} {Qf : Value → Shared → Prop}
    (hc : X.calm = true) (hN : X.N.Nodup) (I : Inv X pins σ H s) (hi : PI X tg iter wi) (ok : BlkOk X.N X.env.scope scope own)
    (hg : ∀ (s : Shared) (H : Hp) (C : Addr) (cl : List (Str × Addr)) (fp : List Addr), PG (X.blk s H scope (compEnvC scope cl C X.env) fp) tg g) (ht : ∀ (s : Shared) (H : Hp) (C : Addr) (cl : List (Str × Addr)) (fp : List Addr), PTs (X.blk s H scope (compEnvC scope cl C X.env) fp) ifs tt)
    (he : ∀ (s : Shared) (H : Hp) (C : Addr) (cl : List (Str × Addr)) (fp : List Addr), PE (X.blk s H scope (compEnvC scope cl C X.env) fp) elt te) (hs : ∀ x, foldedSetIterable iter X.env x = pure x)
    (h : tLc wi g tt te (own.map (·.2)) σ H Q)
    (hRR : ∀ D C s' m H', Inv X pins σ H' s' → Q (.ref D) H' → s'.heap.Ns C m → FpOk X pins H' C → compPost (model X.prog X.w) X.A X.xe use Qf (.ref D) C (.ok .next) s') :
    wpAny (model X.prog X.w) X.A (comprehension (.ListComp elt [⟨tg, iter, ifs, 0⟩] scope pos) scope X.env pos' (newList []) false (eval iter X.env) use) Qf X.xe s := by
  have hfree : ∀ y ∈ scope.names, y.2 = .free → ∃ c, X.env.cells.lookup y.1 = some c := fun y hy e => by
    rcases ok.free y hy e with k | k
    · exact I.ok.has _ (.inl k)
    · exact I.ok.has _ (.inr k)
  refine wpAny_comprehension_free (use := use) rfl hs (closure_ok hfree) ok.kind (fun y hy e => by rw [ok.uniq y hy, e])
    (thn (hi pins s σ H _ I h) fun xv s1 hx => thn hx fun itv s2 h2 => ?_)
  obtain ⟨it, fp, tn, J, H2, e, I2, T, st2, f2, q⟩ := h2
  subst e
  refine wpAny_newObj_type (newEnv_comp ?_) (by show 0 ≤ sizeLine; decide)
  generalize hD : s2.heap.objs.size = D
  have hDn : H2 D = none := I2.hok.fresh (Nat.le_of_eq hD)
  obtain ⟨W, ⟨m0, w0⟩, turn⟩ := q D hDn
  -- the new list
  generalize hs3 : ({ s2 with heap := s2.heap.push { cls := .type "list", data := .seq ([] : List Value).toArray } } : Shared) = s3
  have I3 : Inv X pins σ (upd H2 D (.lst [])) s3 := by
    rw [← hs3]
    refine I2.laid (t' := s2.toks) (fun b o e => Heap.get?_push_of_some _ e) (Nat.le_of_eq hD) ⟨Nat.zero_le _, [], 0, .nil, ?_⟩
    rw [← hD]
    exact Heap.get?_push_size _ rfl
  have h3 : s3.heap = s2.heap.push { cls := .type "list", data := .seq ([] : List Value).toArray } := by rw [← hs3]
  have sz : ∀ b ∈ fp, b < s2.heap.objs.size := fun b hb => by
    obtain ⟨o, e, _⟩ := T.obj _ _ st2 b hb
    exact Heap.lt_size e
  have f3 : ∀ b ∈ fp, FpOk X pins (upd H2 D (.lst [])) b ∧ b < s3.heap.objs.size := fun b hb => by
    have hlt := sz b hb
    refine ⟨⟨?_, (f2 b hb).2⟩, by rw [h3, Heap.size_push]; exact Nat.lt_succ_of_lt hlt⟩
    rw [upd_ne (by rw [← hD]; exact Nat.ne_of_lt hlt)]
    exact (f2 b hb).1
  have st3 : tn 0 s3.heap := T.keep _ _ _ st2 fun b _ o e => by rw [h3]; exact Heap.get?_push_of_some _ e
  have I4 := block_start I3 ok hN f3
  have pg := hg s3 (upd H2 D (.lst [])) s3.heap.objs.size (cellsFrom (s3.heap.objs.size + 1) scope.names (cloFrom X.env.cells scope.names [])) fp
  have pt := ht s3 (upd H2 D (.lst [])) s3.heap.objs.size (cellsFrom (s3.heap.objs.size + 1) scope.names (cloFrom X.env.cells scope.names [])) fp
  have pe := he s3 (upd H2 D (.lst [])) s3.heap.objs.size (cellsFrom (s3.heap.objs.size + 1) scope.names (cloFrom X.env.cells scope.names [])) fp
  show codeAny _ _ (.compStart (.ListComp elt [⟨tg, iter, ifs, 0⟩] scope pos) 0 (.ref it) (.ref D) (compEnvC scope (cellsFrom (s3.heap.objs.size + 1) scope.names (cloFrom X.env.cells scope.names [])) s3.heap.objs.size X.env)) (compPost (model X.prog X.w) X.A X.xe use Qf (.ref D) s3.heap.objs.size) { s3 with heap := pushCells (s3.heap.push { cls := .type "dict", data := .dict #[] }) scope.names }
  have nfp : ∀ b ∈ fp, (upd H2 D (.lst [])) b = none := fun b hb => (f3 b hb).1.1
  generalize hce : compEnvC scope (cellsFrom (s3.heap.objs.size + 1) scope.names (cloFrom X.env.cells scope.names [])) s3.heap.objs.size X.env = ce at I4 pg pt pe ⊢
  have cL : ce.locals = s3.heap.objs.size := by subst hce; rfl
  generalize hH3 : upd H2 D (.lst []) = H3 at I3 I4 pg pt pe w0 nfp f3
  generalize hs4 : ({ s3 with heap := pushCells (s3.heap.push { cls := .type "dict", data := .dict #[] }) scope.names } : Shared) = s4 at I4 ⊢
  have st4 : tn 0 s4.heap := T.keep _ _ _ st3 fun b _ o e => by rw [← hs4]; exact pushCells_keeps _ _ _ _ (Heap.get?_push_of_some _ e)
  have stat : ∀ {σ' : St} {H' : Hp} {s' : Shared}, Inv (X.blk s3 H3 scope ce fp) [] σ' H' s' → (∀ b ∈ fp, H' b = none) → ∀ b ∈ fp, FpOk (X.blk s3 H3 scope ce fp) [] H' b := fun {σ' H' s'} I' hn b hb =>
    ⟨hn b hb, (I'.ok.exf b hb).1, I'.ok.exfs b hb, .inl hb, fun x c e => (I'.ok.exf b hb).2 x c e, fun p hp => absurd (show p ∈ ([] : List (Addr × Obj)) ++ [] from hp) (by simp)⟩
  have loop : codeAny (model X.prog X.w) X.A (.compLoop (.ListComp elt [⟨tg, iter, ifs, 0⟩] scope pos) 0 (.ref it) (.ref D) ce) (compPost (model X.prog X.w) X.A X.xe use Qf (.ref D) s3.heap.objs.size) s4 := by
    refine compLoop_any (fun n s' => ∃ i H', Inv (X.blk s3 H3 scope ce fp) [] (wipe σ (own.map (·.2))) H' s' ∧ tn i s'.heap ∧ (∀ b ∈ fp, H' b = none) ∧ W i n H') ?_ m0 ⟨0, H3, I4, st4, nfp, w0⟩
    rintro n s5 ⟨i, H5, I5, st5, n5, w5⟩
    rcases turn i n H5 w5 with ⟨stop, qq⟩ | ⟨go, Nx, hNx, step⟩
    · have td := T.done (X.blk s3 H3 scope ce fp) rfl rfl rfl hc i [] s5 _ H5 (fun _ _ => False) I5 (stat I5 n5) st5 stop
      refine thnF td fun r s6 ⟨hr, I6⟩ => ?_
      subst hr
      -- back in the def's context
      have I7 : Inv X pins σ H5 s6 := I3.call' (ch := fp) I6.os I6.base I6.hok I6.bare fun b hb => ⟨(f3 b hb).1.2.2.2.1, (f3 b hb).1.2.1, (f3 b hb).1.2.2.2.2.1, (f3 b hb).1.2.2.2.2.2⟩
      have nC : H5 s3.heap.objs.size = none := by
        have z : H5 ce.locals = none := I6.free
        rw [cL] at z
        exact z
      obtain ⟨m, hn, _⟩ := I6.loc
      have hn : s6.heap.Ns ce.locals m := hn
      rw [cL] at hn
      exact hRR D s3.heap.objs.size s6 m H5 I7 qq hn (I3.fpOk (Nat.le_refl _) nC)
    · have ti := T.item (X.blk s3 H3 scope ce fp) rfl rfl rfl hc i [] s5 _ H5 (fun _ _ => False) I5 (stat I5 n5) st5 go
      refine thnF ti fun r s6 ⟨u, hr, h6⟩ => ?_
      subst hr
      refine thnF h6 fun _ s7 ⟨x, H7, I7, r7, y7, st7, n7⟩ => ?_
      have I7' := I7.pinned (stat I7 n7) (T.obj _ _ st7)
      refine thnF (pg _ s7 _ H7 x u _ I7' r7 (step x H7 y7)) fun _ s8 ⟨σ8, H8, I8, hw8, q8⟩ => ?_
      refine thnF (pt _ s8 σ8 H8 _ I8 q8) fun b s9 ⟨H9, I9, q9⟩ => ?_
      -- the turn's end
      have fin : ∀ {s' : Shared} {H' : Hp}, Inv (X.blk s3 H3 scope ce fp) ([] ++ pinsAt fp s7.heap) σ8 H' s' → Nx H' → ∃ m, m < n ∧ ∃ i H', Inv (X.blk s3 H3 scope ce fp) [] (wipe σ (own.map (·.2))) H' s' ∧ tn i s'.heap ∧ (∀ b ∈ fp, H' b = none) ∧ W i m H' := fun {s' H'} I' nx => by
        obtain ⟨m', hm, w'⟩ := hNx H' nx
        have pin' : ∀ b ∈ fp, ∀ o, s7.heap.get? b = some o → s'.heap.get? b = some o ∧ H' b = none := fun b hb o e =>
          let z := I'.pin (b, o) (List.mem_append_right _ (List.mem_append_right _ (mem_pinsAt hb e)))
          ⟨z.1, z.2.1⟩
        have hl : (wipe σ (own.map (·.2))).length = σ8.length := by rw [← hw8, wipe_length]
        refine ⟨m', hm, i + 1, H', (I'.unpinned (pins := [])).weak hl (fun j v e => ?_), T.keep _ _ _ st7 fun b hb o e => (pin' b hb o e).1, fun b hb => ?_, w'⟩
        · rw [← hw8] at e
          exact (wipe_some e).1
        · obtain ⟨o, e, _⟩ := T.obj _ _ st7 b hb
          exact (pin' b hb o e).2
      cases b with
      | false =>
        simp only [Bool.false_eq_true, if_false] at q9 ⊢
        exact fin I9 q9
      | true =>
        simp only [if_true] at q9 ⊢
        refine thnF (pe _ s9 σ8 H9 _ I9 q9) fun z s10 ⟨yv, H10, I10, r10, acc, hD10, hz10, nx⟩ => ?_
        exact app_ok (X := X.blk s3 H3 scope ce fp) I10 hD10 hz10 r10 fun s11 I11 => fin I11 nx
  exact codeAny_compStart_list loop (T.self X.A 0 _ _ _ st4 loop)
/-- as a value -/
theorem pe_lc {elt tg iter : Expr} {ifs : List Expr} {scope : Scope} {own : List (Str × Nat)} {pos : Pos} {wi : TI} {g : TG} {tt : TT} {te : TE} (hc : X.calm = true) (hN : X.N.Nodup) (hi : PI X tg iter wi) (ok : BlkOk X.N X.env.scope scope own)
    (hg : ∀ (s : Shared) (H : Hp) (C : Addr) (cl : List (Str × Addr)) (fp : List Addr), PG (X.blk s H scope (compEnvC scope cl C X.env) fp) tg g) (ht : ∀ (s : Shared) (H : Hp) (C : Addr) (cl : List (Str × Addr)) (fp : List Addr), PTs (X.blk s H scope (compEnvC scope cl C X.env) fp) ifs tt)
    (he : ∀ (s : Shared) (H : Hp) (C : Addr) (cl : List (Str × Addr)) (fp : List Addr), PE (X.blk s H scope (compEnvC scope cl C X.env) fp) elt te) (hs : ∀ x, foldedSetIterable iter X.env x = pure x := by intro _; rfl) :
    PE X (.ListComp elt [⟨tg, iter, ifs, 0⟩] scope pos) (tLc wi g tt te (own.map (·.2))) := by
  intro pins s σ H Q I h
  rw [eval_ListComp]
  refine lc_core hc hN I hi ok hg ht he hs h fun D C s' m H' I' q hn f => ⟨m, hn, fun h'' sb => ?_⟩
  obtain ⟨f0, f1, f2, f3, f4, f5⟩ := f
  exact ⟨.ref D, H', I'.turned (t' := s'.toks) (fun b o hb e => (sb.2 b hb).trans e) f0 f1 f3 f4 f5, rfl, q⟩
/-- name = [..] on one line, the name a local -/
theorem ps_setLc {i : Nat} {y : Str} {py : Pos} {elt tg iter : Expr} {ifs : List Expr} {scope : Scope} {own : List (Str × Nat)} {pos spos : Pos} {wi : TI} {g : TG} {tt : TT} {te : TE} (hc : X.calm = true) (hN : X.N.Nodup) (hy : X.N[i]? = some y) (hyl : X.env.scope.names.lookup y = some .local)
    (hsw : swapsWith (.ListComp elt [⟨tg, iter, ifs, 0⟩] scope pos) (some (.Name y py)) spos.line X.env = pure true) (hi : PI X tg iter wi) (ok : BlkOk X.N X.env.scope scope own)
    (hg : ∀ (s : Shared) (H : Hp) (C : Addr) (cl : List (Str × Addr)) (fp : List Addr), PG (X.blk s H scope (compEnvC scope cl C X.env) fp) tg g) (ht : ∀ (s : Shared) (H : Hp) (C : Addr) (cl : List (Str × Addr)) (fp : List Addr), PTs (X.blk s H scope (compEnvC scope cl C X.env) fp) ifs tt)
    (he : ∀ (s : Shared) (H : Hp) (C : Addr) (cl : List (Str × Addr)) (fp : List Addr), PE (X.blk s H scope (compEnvC scope cl C X.env) fp) elt te) (hs : ∀ x, foldedSetIterable iter X.env x = pure x := by intro _; rfl) :
    PS X (.Assign [.Name y py] (.ListComp elt [⟨tg, iter, ifs, 0⟩] scope pos) spos) (tAsg (tLc wi g tt te (own.map (·.2))) (gName i)) := by
  intro pins s σ H D I h
  rw [exec_Assign_Name_used _ _ _ _ hsw]
  refine wpAny_bind (wpAny_standAt (wpAny_bind ?_))
  show wpAny _ X.A (do let _ ← comprehension (.ListComp elt [⟨tg, iter, ifs, 0⟩] scope pos) scope X.env (firstIterPos [⟨tg, iter, ifs, 0⟩] pos) (newList []) false (eval iter X.env) (some (assign (.Name y py) X.env))) _ _ s
  have h : tLc wi g tt te (own.map (·.2)) σ H (fun x H1 => gName i x σ H1 D.nx) := h
  refine wpAny_bind (thn (lc_core (Qf := fun _ s' => SP X pins D .next s') hc hN I hi ok hg ht he hs h fun L C s' m H' I' q hn f => ?_) fun _ s' hq => wpAny_pure (wpAny_pure hq))
  show wpAny _ _ (assign (.Name y py) X.env (.ref L)) _ _ _
  refine wpAny_assign_Name (store_ok2 (v := V.ref L) I' hN hy (.inl hyl) rfl (fun s2 I2 ⟨a, sb, ha⟩ => ?_) (.inr hyl))
  obtain ⟨f0, f1, f2, f3, f4, f5⟩ := f
  have haC : C ≠ a := by
    rcases ha with z | z
    · rw [z]; exact f1
    · exact fun e => f4 y a z e.symm
  refine ⟨m, hn.sameBut sb haC, fun h3 sb3 => ?_⟩
  exact ⟨_, H', I2.turned (t' := s2.toks) (fun b o hb e => (sb3.2 b hb).trans e) f0 f1 f3 f4 f5, q⟩
theorem sw_true {elt : Expr} {gs : List Comprehension} {scope : Scope} {pos py : Pos} {y : Str} {l : Nat} {env : Env} (hk : env.scope.kind = .function) (hy : env.scope.names.lookup y = some .local) (hl : (py.line == pos.line) = true)
    (ha : (scope.names.any fun (n, k) => n == y && (k == .local || k == .cell)) = false) : swapsWith (.ListComp elt gs scope pos) (some (.Name y py)) l env = pure true := by
  have ky : env.kindOf y = some .local := hy
  have hb : env.blockKind = .function := by unfold Env.blockKind; rw [hk]; rfl
  unfold swapsWith
  simp only [hb, ky, ha, Expr.pos, hl]
  rfl
end

/-! ### the forms one uses -/
/-- over a range: Pv by the turn and the heap (the new list at D within) -/
theorem lc_range {lo : Int} {n : Nat} {g : TG} {tt : TT} {te : TE} {vs : List Nat} {σ : St} {H1 : Hp} {D : Addr} {Qd : Hp → Prop} (Pv : Nat → Hp → Prop) (h0 : Pv 0 (upd H1 D (.lst [])))
    (hs : ∀ i H, i < n → Pv i H → g (.int (lo + i)) (wipe σ vs) H fun σ2 H2 => wipe σ2 vs = wipe σ vs ∧ tt σ2 H2 fun b H3 =>
      if b = true then te σ2 H3 fun y H4 => ∃ acc, H4 D = some (.lst acc) ∧ acc.length < sizeLine ∧ Pv (i + 1) (upd H4 D (.lst (acc ++ [y]))) else Pv (i + 1) H3) (hd : ∀ H, Pv n H → Qd H) :
    ∃ W : Nat → Nat → Hp → Prop, (∃ m, W 0 m (upd H1 D (.lst []))) ∧ ∀ i m H, W i m H →
      ((Itr lo n).stop i H ∧ Qd H) ∨ ((Itr lo n).go i H ∧ ∃ Nx : Hp → Prop, (∀ H', Nx H' → ∃ m', m' < m ∧ W (i + 1) m' H') ∧ ∀ x H', (Itr lo n).yld i H x H' → g x (wipe σ vs) H' fun σ2 H2 => wipe σ2 vs = wipe σ vs ∧ tt σ2 H2 fun b H3 =>
        if b = true then te σ2 H3 fun y H4 => ∃ acc, H4 D = some (.lst acc) ∧ acc.length < sizeLine ∧ Nx (upd H4 D (.lst (acc ++ [y]))) else Nx H3) := by
  refine ⟨fun i m H => m = n - i ∧ i ≤ n ∧ Pv i H, ⟨n, by simp, Nat.zero_le _, h0⟩, ?_⟩
  rintro i m H ⟨rfl, hi, p⟩
  by_cases hlt : i < n
  · refine .inr ⟨hlt, Pv (i + 1), fun H' p' => ⟨n - (i + 1), by omega, rfl, hlt, p'⟩, fun x H' y => ?_⟩
    obtain ⟨e, y⟩ := y
    subst e y
    exact hs i _ hlt p
  · have e : i = n := by omega
    subst e
    exact .inl ⟨Nat.le_refl _, hd H p⟩
/-- over a list that the block leaves as it is -/
theorem lc_list {K : PySem.W.Frag} {a : Addr} {xs : List V} {g : TG} {tt : TT} {te : TE} {vs : List Nat} {σ : St} {H1 : Hp} {D : Addr} {Qd : Hp → Prop} (Pv : Nat → Hp → Prop) (h0 : Pv 0 (upd H1 D (.lst []))) (hl : ∀ i H, i ≤ xs.length → Pv i H → SqL K H a xs)
    (hs : ∀ i x H, xs[i]? = some x → Pv i H → g x (wipe σ vs) H fun σ2 H2 => wipe σ2 vs = wipe σ vs ∧ tt σ2 H2 fun b H3 =>
      if b = true then te σ2 H3 fun y H4 => ∃ acc, H4 D = some (.lst acc) ∧ acc.length < sizeLine ∧ Pv (i + 1) (upd H4 D (.lst (acc ++ [y]))) else Pv (i + 1) H3) (hd : ∀ H, Pv xs.length H → Qd H) :
    ∃ W : Nat → Nat → Hp → Prop, (∃ m, W 0 m (upd H1 D (.lst []))) ∧ ∀ i m H, W i m H →
      ((Itl K a).stop i H ∧ Qd H) ∨ ((Itl K a).go i H ∧ ∃ Nx : Hp → Prop, (∀ H', Nx H' → ∃ m', m' < m ∧ W (i + 1) m' H') ∧ ∀ x H', (Itl K a).yld i H x H' → g x (wipe σ vs) H' fun σ2 H2 => wipe σ2 vs = wipe σ vs ∧ tt σ2 H2 fun b H3 =>
        if b = true then te σ2 H3 fun y H4 => ∃ acc, H4 D = some (.lst acc) ∧ acc.length < sizeLine ∧ Nx (upd H4 D (.lst (acc ++ [y]))) else Nx H3) := by
  refine ⟨fun i m H => m = xs.length - i ∧ i ≤ xs.length ∧ Pv i H, ⟨xs.length, by simp, Nat.zero_le _, h0⟩, ?_⟩
  rintro i m H ⟨rfl, hi, p⟩
  have q := hl i H hi p
  by_cases hlt : i < xs.length
  · refine .inr ⟨⟨xs, xs[i], q, by simp [hlt]⟩, Pv (i + 1), fun H' p' => ⟨xs.length - (i + 1), by omega, rfl, hlt, p'⟩, fun x H' y => ?_⟩
    obtain ⟨e, y⟩ := y
    subst e
    exact hs i x _ (y xs q) p
  · have e : i = xs.length := by omega
    subst e
    exact .inl ⟨⟨xs, q, Nat.le_refl _⟩, hd H p⟩
/-- over a tuple -/
theorem lc_tup {K : PySem.W.Frag} {a : Addr} {xs : List V} {g : TG} {tt : TT} {te : TE} {vs : List Nat} {σ : St} {H1 : Hp} {D : Addr} {Qd : Hp → Prop} (Pv : Nat → Hp → Prop) (h0 : Pv 0 (upd H1 D (.lst []))) (hl : ∀ i H, i ≤ xs.length → Pv i H → SqT K H a xs)
    (hs : ∀ i x H, xs[i]? = some x → Pv i H → g x (wipe σ vs) H fun σ2 H2 => wipe σ2 vs = wipe σ vs ∧ tt σ2 H2 fun b H3 =>
      if b = true then te σ2 H3 fun y H4 => ∃ acc, H4 D = some (.lst acc) ∧ acc.length < sizeLine ∧ Pv (i + 1) (upd H4 D (.lst (acc ++ [y]))) else Pv (i + 1) H3) (hd : ∀ H, Pv xs.length H → Qd H) :
    ∃ W : Nat → Nat → Hp → Prop, (∃ m, W 0 m (upd H1 D (.lst []))) ∧ ∀ i m H, W i m H →
      ((Itt K a).stop i H ∧ Qd H) ∨ ((Itt K a).go i H ∧ ∃ Nx : Hp → Prop, (∀ H', Nx H' → ∃ m', m' < m ∧ W (i + 1) m' H') ∧ ∀ x H', (Itt K a).yld i H x H' → g x (wipe σ vs) H' fun σ2 H2 => wipe σ2 vs = wipe σ vs ∧ tt σ2 H2 fun b H3 =>
        if b = true then te σ2 H3 fun y H4 => ∃ acc, H4 D = some (.lst acc) ∧ acc.length < sizeLine ∧ Nx (upd H4 D (.lst (acc ++ [y]))) else Nx H3) := by
  refine ⟨fun i m H => m = xs.length - i ∧ i ≤ xs.length ∧ Pv i H, ⟨xs.length, by simp, Nat.zero_le _, h0⟩, ?_⟩
  rintro i m H ⟨rfl, hi, p⟩
  have q := hl i H hi p
  by_cases hlt : i < xs.length
  · refine .inr ⟨⟨xs, xs[i], q, by simp [hlt]⟩, Pv (i + 1), fun H' p' => ⟨xs.length - (i + 1), by omega, rfl, hlt, p'⟩, fun x H' y => ?_⟩
    obtain ⟨e, y⟩ := y
    subst e
    exact hs i x _ (y xs q) p
  · have e : i = xs.length := by omega
    subst e
    exact .inl ⟨⟨xs, q, Nat.le_refl _⟩, hd H p⟩
def blkC (N : List Str) (sc scope : Scope) (own : List (Str × Nat)) : Bool :=
  (match scope.kind with | .function => true | _ => false) && (scope.names.all fun y => decide (scope.names.lookup y.1 = some y.2)) && (own.all fun p => decide (N[p.2]? = some p.1)) &&
    (scope.names.all fun y => match y.2 with
      | .free => (match sc.names.lookup y.1 with | some .cell => true | some .free => true | _ => false)
      | .local => decide (y.1 ∈ own.map (·.1)) || decide (y.1 ∉ N)
      | .cell => decide (y.1 ∈ own.map (·.1)) || decide (y.1 ∉ N)
      | _ => true)
theorem blkOk_by {N : List Str} {sc scope : Scope} {own : List (Str × Nat)} (h : blkC N sc scope own = true) : BlkOk N sc scope own := by
  unfold blkC at h
  simp only [Bool.and_eq_true, List.all_eq_true, decide_eq_true_eq] at h
  obtain ⟨⟨⟨h1, h2⟩, h3⟩, h4⟩ := h
  refine ⟨?_, h2, h3, fun y hy e => ?_, fun y hy e => ?_⟩
  · split at h1
    · assumption
    · cases h1
  · have q := h4 y hy
    simp only [e] at q
    split at q <;> first | exact .inl (by assumption) | exact .inr (by assumption) | cases q
  · have q := h4 y hy
    rcases e with e | e <;> (simp only [e, Bool.or_eq_true, decide_eq_true_eq] at q; exact q)
end L2
namespace L2
open PySem PySem.Spec PyProof.Rows
section
variable {X : Cx}
/-! ### one iterator just laid -/
theorem pi_one {tg : Expr} {pins : List (Addr × Obj)} {σ : St} {H : Hp} {s : Shared} {R : It → Hp → Prop} {J : It} {tn : Nat → Heap → Prop} {tk : Nat} (I : Inv X pins σ H s) (o : Obj)
    (T : Turn X.prog X.w X.K tg J [s.heap.objs.size] s.heap.objs.size tn) (st : tn 0 (s.heap.push o)) (q : R J H) : PIE X pins σ tg R (.ref s.heap.objs.size) { s with heap := s.heap.push o, toks := tk } := by
  refine ⟨s.heap.objs.size, [s.heap.objs.size], tn, J, H, rfl, I.kept fun b ob e => Heap.get?_push_of_some _ e, T, st, fun b hb => ?_, q⟩
  have e : b = s.heap.objs.size := by simpa using hb
  subst e
  exact I.fpOk (Nat.le_refl _) (I.hok.fresh (Nat.le_refl _))
end
/-! ### a str -/
def Its (x : Str) : It := ⟨fun i _ => i < x.cps.size, fun i H v H' => H' = H ∧ ∃ c, x.cps[i]? = some c ∧ v = .str ⟨#[c]⟩, fun i _ => x.cps.size ≤ i⟩
theorem turn_str {P : Program} {w : World} {K : PySem.W.Frag} {tg : Expr} (it : Addr) (x : Str) (t : Tok) (ty : String) (hty : ty = "str_ascii_iterator" ∨ ty = "str_iterator") :
    Turn P w K tg (Its x) [it] it (fun i h => h.IsStrIter it ty x t i) where
  mem := by simp
  obj := fun i h st b hb => by
    have e : b = it := by simpa using hb
    subst e
    obtain ⟨o, e, c, d⟩ := st
    exact ⟨o, e, fun v z => by rw [d] at z; cases z⟩
  keep := fun i h h' st k => let ⟨o, ho, r⟩ := st; ⟨o, k it (by simp) o ho, r⟩
  item := by
    intro X hP hw hK hc i pins s σ H E I hf st hg
    subst hP hw hK
    obtain ⟨f0, f1, f2, f3, f4, f5⟩ := hf it (by simp)
    have W : Walks X.prog X.w X.A it [it] [it] x.cps.size (SignAt x) (fun i h => h.IsStrIter it ty x t i) := by
      rcases hty with e | e
      · rw [e]; exact Walks.strAscii (I.ok.hd hc) it x t
      · rw [e]; exact Walks.strWide (I.ok.hd hc) it x t
    have hno : ["enumerate", "zip", "dict_itemiterator", "dict_reverseitemiterator", "odict_iterator", "itertools.zip_longest", "itertools.pairwise"].contains ty = false := by
      rcases hty with e | e
      · rw [e]; decide
      · rw [e]; decide
    refine W.item i s _ _ hg st fun v h' tk hv st' kk => ?_
    obtain ⟨c, u, hcx, rfl⟩ := hv
    have I1 : Inv X pins σ H { s with heap := h', toks := tk } := I.turned (fun b o hb e => kk b o (by simpa using hb) e) f0 f1 f3 f4 f5
    obtain ⟨oi, e, cc, dd⟩ := id st'
    exact ⟨_, rfl, go_of (s := { s with heap := h', toks := tk }) e cc dd hno ⟨.str ⟨#[c]⟩, H, I1, ⟨u, rfl⟩, ⟨rfl, c, hcx, rfl⟩, st', fun b hb => (hf b hb).1⟩⟩
  done := by
    intro X hP hw hK hc i pins s σ H E I hf st hg
    subst hP hw hK
    obtain ⟨f0, f1, f2, f3, f4, f5⟩ := hf it (by simp)
    have hx : x.cps[i]? = none := Array.getElem?_eq_none hg
    rcases hty with e | e
    · rw [e] at st
      exact wpAny_pyNext_ascii_end (I.ok.hd hc) st hx fun h' eb => ⟨rfl, I.turned (t' := s.toks) (fun b o hb e => eb b o hb e) f0 f1 f3 f4 f5⟩
    · rw [e] at st
      exact wpAny_pyNext_wide_end (I.ok.hd hc) st hx fun h' eb => ⟨rfl, I.turned (t' := s.toks) (fun b o hb e => eb b o hb e) f0 f1 f3 f4 f5⟩
  self := fun A i s Q E st h => by
    rcases hty with e | e
    · rw [e] at st; exact wpAny_pyIter_striter_ascii st h
    · rw [e] at st; exact wpAny_pyIter_striter_wide st h
def iStr (te : TE) : TI := fun σ H R => te σ H fun v H1 => ∃ x, v = .str x ∧ R (Its x) H1
theorem pi_str {X : Cx} {tg e : Expr} {te : TE} (he : PE X e te) : PI X tg e (iStr te) := by
  intro pins s σ H R I h
  refine thn (he pins s σ H _ I h) fun v s1 ⟨y, H1, I1, r1, x, ex, q⟩ => ?_
  subst ex
  obtain ⟨t, rfl⟩ := r1
  cases ha : x.cps.all (· < 128)
  · exact wpAny_pyIter_wide ha (pi_one (tk := s1.toks) I1 _ (turn_str _ x t "str_iterator" (.inr rfl)) ⟨_, Heap.get?_push_size _ rfl, rfl, rfl⟩ q)
  · exact wpAny_pyIter_ascii ha (pi_one (tk := s1.toks) I1 _ (turn_str _ x t "str_ascii_iterator" (.inl rfl)) ⟨_, Heap.get?_push_size _ rfl, rfl, rfl⟩ q)
end L2
/-! SHORT WORDS over the layer: a def of the text, its body, what a loop and a test want. -/
namespace L2
open PySem PySem.Spec PyProof.Rows

/-! ### the text by places -/
/-- the j-th statement of a class's body -/
def inClass (s : Stmt) (j : Nat) : Stmt := match s with
  | .ClassDef _ _ _ body _ _ _ _ _ _ _ => body.getD j (.Pass ⟨0, 0, 0, 0⟩)
  | _ => .Pass ⟨0, 0, 0, 0⟩
def defArgs (s : Stmt) : Arguments := match s with
  | .FunctionDef _ a _ _ _ _ _ _ _ _ => a
  | _ => { posonlyargs := [], args := [], vararg := none, kwonlyargs := [], kw_defaults := [], kwarg := none, defaults := [] }
def defBody (s : Stmt) : List Stmt := match s with
  | .FunctionDef _ _ b _ _ _ _ _ _ _ => b
  | _ => []
def defScope (s : Stmt) : Scope := match s with
  | .FunctionDef _ _ _ _ _ _ sc _ _ _ => sc
  | _ => { kind := .function, names := [], isGenerator := false, isCoroutine := false }

/-! ### no exception leaves a def -/
abbrev CX0 : CXT := fun _ _ _ _ _ _ => False
abbrev E0 : XK := fun _ _ _ => False
theorem pass0 {X : Cx} : Passes CX0 X E0 := fun _ _ _ _ _ _ _ h => h.elim

/-! ### a def (or method) of the text as it stands behind the top -/
structure Fun (K : PySem.W.Frag) (x qual : Str) (st : Stmt) (f : Addr) (fd : FuncData) : Prop where
  ex : ∃ (oc : Value) (od : Option Addr) (kV doc pm : Value) (an : Option Addr) (cdv ct : Value) (osl : Array (Option Value)),
    fd = PySem.W.fnOf x qual (defArgs st) (defBody st) (defScope st) .none kV doc pm an cdv ct ∧ K.lookup f = some ⟨oc, od, .func fd, osl⟩ ∧ PySem.W.codeIn K cdv qual = true
  kp : PySem.W.keepIn K (.ref f) = true
section
variable {P : Program} {w : World} {K : PySem.W.Frag} {mg : Str → Option Value} {base : Heap}
/-- THE RULE for a def: its body as a term of rules, and the reading of that term -/
theorem Fun.ok {x qual : Str} {st : Stmt} {f : Addr} {fd : FuncData} {N ps : List Str} {k : Nat} {sp : Sp} (F : Fun K x qual st f fd) (S : FnScope N ps (defScope st)) (len : ∀ vs H Q E, sp vs H Q E → vs.length = ps.length)
    (hbody : ∀ (cdv : Value) (A : Around) (outer : List Env) (s : Shared) (H : Hp) (vs : List V) (Q : VK) (E : XK), Room k (A.deeper (envOfC qual (defScope st) s.heap.objs.size f cdv)) → sp vs H Q E →
      ∃ t, PSs (cxOf CX0 P w K mg base N qual (defScope st) f cdv A outer s H E).nox (defBody st) t ∧ t { nx := fun _ H' => Q .non H', rt := Q } (start N vs) H) : FnOk P w K mg base CX0 (k + 1) f fd ps sp := by
  obtain ⟨oc, od, kV, doc, pm, an, cdv, ct, osl, rfl, lk, hcd⟩ := F.ex
  refine fn_of lk hcd S len fun A outer s H vs Q E hr hsp => ?_
  obtain ⟨t, h, q⟩ := hbody cdv A outer s H vs Q E hr hsp
  exact ⟨t, h.nox, q⟩
/-- how its arguments bind (no defaults): h is «fun _ _ _ _ _ _ us hl => match us, hl with | [_, _], _ => rfl», one _ a parameter -/
theorem Fun.binds {x qual : Str} {st : Stmt} {f : Addr} {fd : FuncData} {ps : List Str} (F : Fun K x qual st f fd)
    (h : ∀ (kV doc pm : Value) (an : Option Addr) (cdv ct : Value) (us : List Value), us.length = ps.length → bindArgs (PySem.W.fnOf x qual (defArgs st) (defBody st) (defScope st) .none kV doc pm an cdv ct) ⟨us, []⟩ = pure (ps.zip us)) : Binds K fd ps [] := by
  obtain ⟨oc, od, kV, doc, pm, an, cdv, ct, osl, rfl, lk, hcd⟩ := F.ex
  exact .all (h kV doc pm an cdv ct)
theorem fun_mk {x qual : Str} {st : Stmt} {f : Addr} {oc : Value} {od an : Option Addr} {osl : Array (Option Value)} {kV doc pm cdv ct : Value} (l : K.lookup f = some ⟨oc, od, .func (PySem.W.fnOf x qual (defArgs st) (defBody st) (defScope st) .none kV doc pm an cdv ct), osl⟩)
    (c : PySem.W.codeIn K cdv qual = true) (k : PySem.W.keepIn K (.ref f) = true) : Fun K x qual st f (PySem.W.fnOf x qual (defArgs st) (defBody st) (defScope st) .none kV doc pm an cdv ct) := ⟨⟨oc, od, kV, doc, pm, an, cdv, ct, osl, rfl, l, c⟩, k⟩
end
theorem hu_of {A : Around} {k : Nat} (hr : Room k A) : A.units + 1 < cLine := Nat.lt_of_le_of_lt (Nat.add_le_add_left (by decide : 1 ≤ 64) _) hr.units
theorem small1000 {n : Nat} (h : n ≤ 1000) : n < sizeLine := Nat.lt_of_le_of_lt h (by decide)

/-! ### expressions in short: the name that stands in the i-th slot -/
section
variable {X : Cx}
theorem pv (i : Nat) {x : Str} {pos : Pos} (hN : X.N[i]? = some x := by rfl) (hv : Vis X.env.scope x := by first | exact Or.inl rfl | exact Or.inr (Or.inl rfl) | exact Or.inr (Or.inr rfl)) (hd : (x == ("__debug__" : Str)) = false := by decide)
    (hcd : (x == ("__classdict__" : Str)) = false := by decide) : PE X (.Name x pos) (tVar i) := pe_var hN hv hd hcd
end

/-! ### tests -/
theorem iteF {A B : Prop} (h : B) : if false = true then A else B := by
  rw [if_neg Bool.false_ne_true]
  exact h
theorem iteT {A B : Prop} (h : A) : if true = true then A else B := by
  rw [if_pos rfl]
  exact h
theorem ite2 {c A B : Prop} [Decidable c] (h1 : c → A) (h2 : ¬ c → B) : if c then A else B := by
  by_cases h : c
  · rw [if_pos h]
    exact h1 h
  · rw [if_neg h]
    exact h2 h
theorem iteNS {c A B : Prop} [Decidable c] (hc : c) (h : B) : if (!decide c) = true then A else B := by
  rw [decide_eq_true hc]
  exact iteF h

/-! ### heaps -/
/-- all that was tracked is as it was -/
def Same (H H' : Hp) : Prop := ∀ b o, H b = some o → H' b = some o
theorem Same.refl (H : Hp) : Same H H := fun _ _ h => h
theorem Same.trans {H H1 H2 : Hp} (a : Same H H1) (b : Same H1 H2) : Same H H2 := fun c o h => b c o (a c o h)
theorem Same.free {H H' : Hp} (e : Same H H') {l : Addr} (h : H' l = Option.none) : H l = Option.none := by
  cases q : H l with
  | none => rfl
  | some o =>
    rw [e l o q] at h
    cases h
theorem Same.seq {K : PySem.W.Frag} {H H' : Hp} {a : Addr} {xs : List V} (e : Same H H') (h : SqL K H a xs) : SqL K H' a xs := by
  rcases h with (h | ⟨o, h⟩) | h
  · exact .inl (.inl (e _ _ h))
  · exact .inl (.inr ⟨o, e _ _ h⟩)
  · exact .inr h

/-! ### lists -/
theorem at_of {xs : List V} {z : Int} {j : Nat} {v : V} (e : z = (j : Int)) (h : xs[j]? = some v) : atI xs z = some v := by
  rw [e]
  exact atI_nat h
theorem nd_ix {α : Type} {l : List α} (hN : l.Nodup) {i j : Nat} {x : α} (a : l[i]? = some x) (b : l[j]? = some x) : i = j := by
  obtain ⟨h1, e1⟩ := List.getElem?_eq_some_iff.mp a
  obtain ⟨h2, e2⟩ := List.getElem?_eq_some_iff.mp b
  exact (List.getElem_inj hN).mp (e1.trans e2.symm)
theorem sum_set : ∀ {l : List Int} {j : Nat} {z y : Int}, l[j]? = some z → (l.set j y).sum = l.sum - z + y
  | [], j, z, y, h => by simp at h
  | a :: r, 0, z, y, h => by
    have e : a = z := Option.some.inj h
    subst e
    show (y :: r).sum = (a :: r).sum - a + y
    rw [List.sum_cons, List.sum_cons]
    omega
  | a :: r, j + 1, z, y, h => by
    have ih := sum_set (l := r) (j := j) (z := z) (y := y) h
    show (a :: r.set j y).sum = (a :: r).sum - z + y
    rw [List.sum_cons, List.sum_cons, ih]
    omega
theorem sum_take : ∀ {l : List Int} {i : Nat} {z : Int}, l[i]? = some z → (l.take (i + 1)).sum = (l.take i).sum + z
  | [], i, z, h => by simp at h
  | a :: r, 0, z, h => by
    have e : a = z := Option.some.inj h
    subst e
    show ([a] : List Int).sum = ([] : List Int).sum + a
    rw [List.sum_cons]
    exact Int.add_comm _ _
  | a :: r, i + 1, z, h => by
    have ih := sum_take (l := r) (i := i) (z := z) h
    show (a :: r.take (i + 1)).sum = (a :: r.take i).sum + z
    rw [List.sum_cons, List.sum_cons, ih]
    omega
/-- a new instance and its __init__ leave all that was tracked as it was -/
theorem Same.made {H H1 : Hp} {x dx C : Addr} (nx : H x = Option.none) (nd : H dx = Option.none) (k : ∀ b o, (upd (upd H dx (.own x)) x (.ins C dx [])) b = some o → b ≠ x → H1 b = some o) : Same H H1 := fun b o e =>
  k b o (by rw [upd_ne (ne_of_none e nx), upd_ne (ne_of_none e nd)]; exact e) (ne_of_none e nx)
end L2

end

section
set_option Elab.async false
set_option linter.all false
set_option maxRecDepth 100000
set_option maxHeartbeats 2000000
namespace L2
open PySem PySem.Spec PyProof.Rows
open PySem.W (WData Codec OpenSpec Well WellAll ReadsW ReadsAllW)
/-! ### an answer as data -/
mutual
/-- x stands for the datum d, lists and tuples all the way -/
inductive Dw (K : PySem.W.Frag) (H : Hp) : V → WData → Prop
  | non : Dw K H .non .none
  | bl (b : Bool) : Dw K H (.bl b) (.bool b)
  | int (i : Int) : Dw K H (.int i) (.int i)
  | str (x : Str) : Dw K H (.str x) (.str x)
  | byt (b : Array UInt8) : Dw K H (.byt b) (.bytes b.toList)
  | lst {a : Addr} {xs : List V} {ds : List WData} : SqL K H a xs → DwAll K H xs ds → Dw K H (.ref a) (.list ds)
  | tup {a : Addr} {xs : List V} {ds : List WData} : SqT K H a xs → DwAll K H xs ds → Dw K H (.ref a) (.tuple ds)
inductive DwAll (K : PySem.W.Frag) (H : Hp) : List V → List WData → Prop
  | nil : DwAll K H [] []
  | cons {v : V} {vs : List V} {d : WData} {ds : List WData} : Dw K H v d → DwAll K H vs ds → DwAll K H (v :: vs) (d :: ds)
end
theorem dw_ints {K : PySem.W.Frag} {H : Hp} : ∀ ns : List Int, DwAll K H (ns.map V.int) (ns.map WData.int)
  | [] => .nil
  | n :: r => .cons (.int n) (dw_ints r)
theorem ints_dw {K : PySem.W.Frag} {H : Hp} : ∀ (ns : List Int) (xs : List V), DwAll K H xs (ns.map WData.int) → xs = ns.map V.int
  | [], xs, h => by
    cases h
    rfl
  | n :: r, xs, h => by
    cases h with
    | cons h1 h2 =>
      cases h1
      rw [ints_dw r _ h2] <;> rfl
section
variable {P : Program} {w : World} {K : PySem.W.Frag} {H : Hp} {h : Heap} {R : PySem.W.WRecords} {cl : Str → Option Addr}
theorem sqL_at {a : Addr} {xs : List V} (hok : HOk P w H h) (KX : K.In h) (q : SqL K H a xs) : ∃ (its : List Value) (o : Obj) (n : Nat), Vals xs its ∧ h.get? a = some o ∧ o.cls = .type "list" ∧ o.data = .seq its.toArray n := by
  rcases q with q | ⟨o, its, n, e, hc, _, hd, _, hv⟩
  · obtain ⟨_, its, n, hv, e⟩ := (show ObjOk P w H h a (.lst xs) from q.ok hok)
    exact ⟨its, _, n, hv, e, rfl, rfl⟩
  · exact ⟨its.toList, o, n, hv, KX _ _ e, hc, by simp [hd]⟩
theorem sqT_at {a : Addr} {xs : List V} (hok : HOk P w H h) (KX : K.In h) (q : SqT K H a xs) : ∃ (its : List Value) (o : Obj) (n : Nat), Vals xs its ∧ h.get? a = some o ∧ o.cls = .type "tuple" ∧ o.data = .seq its.toArray n := by
  rcases q with q | ⟨o, its, n, e, hc, hd, _, hv⟩
  · obtain ⟨_, its, hv, o, e, hc, n, hd⟩ := (show ObjOk P w H h a (.tup xs) from q.ok hok)
    exact ⟨its, o, n, hv, e, hc, hd⟩
  · exact ⟨its.toList, o, n, hv, KX _ _ e, hc, by simp [hd]⟩
mutual
theorem Dw.reads (hok : HOk P w H h) (KX : K.In h) : ∀ (d : WData) (v : V) (u : Value), Dw K H v d → RelV v u → ∃ as, ReadsW R cl h u d as
  | .none, _, _, x, r => by
    cases x
    cases r
    exact ⟨_, ReadsW.none⟩
  | .bool b, _, _, x, r => by
    cases x
    cases r
    exact ⟨_, ReadsW.bool b⟩
  | .int i, _, _, x, r => by
    cases x
    obtain ⟨t, rfl⟩ := r
    exact ⟨_, ReadsW.int i t⟩
  | .str s, _, _, x, r => by
    cases x
    obtain ⟨t, rfl⟩ := r
    exact ⟨_, ReadsW.str s t⟩
  | .bytes b, _, _, x, r => by
    cases x
    obtain ⟨t, rfl⟩ := r
    exact ⟨_, ReadsW.bytes _ t⟩
  | .list ds, _, _, x, r => by
    cases x with
    | lst hs ha =>
      cases r
      obtain ⟨its, o, n, rv, ho, hc, hd⟩ := sqL_at hok KX hs
      obtain ⟨as, hr⟩ := Dw.readsAll hok KX ds _ its ha rv
      exact ⟨_, ReadsW.list ho hc hd hr⟩
  | .tuple ds, _, _, x, r => by
    cases x with
    | tup hs ha =>
      cases r
      obtain ⟨its, o, n, rv, ho, hc, hd⟩ := sqT_at hok KX hs
      obtain ⟨as, hr⟩ := Dw.readsAll hok KX ds _ its ha rv
      exact ⟨_, ReadsW.tuple ho hc hd hr⟩
  | .float _, _, _, x, _ => by cases x
  | .dict _, _, _, x, _ => by cases x
  | .bytearray _, _, _, x, _ => by cases x
  | .set _, _, _, x, _ => by cases x
  | .frozenset _, _, _, x, _ => by cases x
  | .obj _ _, _, _, x, _ => by cases x
theorem Dw.readsAll (hok : HOk P w H h) (KX : K.In h) : ∀ (ds : List WData) (vs : List V) (us : List Value), DwAll K H vs ds → Vals vs us → ∃ as, ReadsAllW R cl h us ds as
  | [], _, _, x, r => by
    cases x
    cases r
    exact ⟨_, ReadsAllW.nil⟩
  | d :: ds, _, _, x, r => by
    cases x with
    | cons h1 h2 =>
      cases r with
      | cons r1 r2 =>
        obtain ⟨as, q1⟩ := Dw.reads hok KX d _ _ h1 r1
        obtain ⟨bs, q2⟩ := Dw.readsAll hok KX ds _ _ h2 r2
        exact ⟨_, ReadsAllW.cons q1 q2⟩
end
end
/-! ### the arguments -/
mutual
/-- data that a codec tells -/
def plW : WData → Bool
  | .none => true
  | .bool _ => true
  | .int _ => true
  | .str _ => true
  | .bytes _ => true
  | .list xs => plWs xs
  | .tuple xs => plWs xs
  | _ => false
def plWs : List WData → Bool
  | [] => true
  | x :: r => plW x && plWs r
end
theorem plWs_map {α : Type} {f : α → WData} (h : ∀ a, plW (f a) = true) : ∀ l : List α, plWs (l.map f) = true
  | [] => rfl
  | x :: r => by
    show (plW (f x) && plWs (r.map f)) = true
    rw [h x, plWs_map h r] <;> rfl
theorem pl_enc : ∀ (c : Codec) (a : c.denote), plW (c.enc a) = true
  | .unit, _ => rfl
  | .bool, _ => rfl
  | .int _ _, _ => rfl
  | .nat _ _, _ => rfl
  | .u8, _ => rfl
  | .bytes _ _, _ => rfl
  | .text _ _ _ _, _ => rfl
  | .list _ _ c, a => plWs_map (fun x => pl_enc c x) a
  | .pair c d, a => by
    show (plW (c.enc a.1) && (plW (d.enc a.2) && true)) = true
    rw [pl_enc c a.1, pl_enc d a.2] <;> rfl
  | .triple c d e, a => by
    show (plW (c.enc a.1) && (plW (d.enc a.2.1) && (plW (e.enc a.2.2) && true))) = true
    rw [pl_enc c a.1, pl_enc d a.2.1, pl_enc e a.2.2] <;> rfl
  | .option c, none => rfl
  | .option c, some x => pl_enc c x
theorem pl_encAll : ∀ (cs : List Codec) (a : Codec.denoteAll cs), plWs (Codec.encAll cs a) = true
  | [], _ => rfl
  | c :: cs, a => by
    show (plW (c.enc a.1) && plWs (Codec.encAll cs a.2)) = true
    rw [pl_enc c a.1, pl_encAll cs a.2] <;> rfl
theorem weight_mem : ∀ {xs : List WData} {d : WData}, d ∈ xs → d.weight ≤ WData.weightAll xs
  | [], d, h => absurd h (by simp)
  | x :: r, d, h => by
    show d.weight ≤ x.weight + 1 + WData.weightAll r
    rcases List.mem_cons.mp h with e | m
    · rw [e]
      omega
    · have z := weight_mem m
      omega
def toV : Value → V
  | .none => .non
  | .bool b => .bl b
  | .int i _ => .int i
  | .str x _ => .str x
  | .bytes b _ => .byt b
  | .ref a => .ref a
  | _ => .non
/-- a value of the arguments, its objects among A -/
def OkU (A : List Addr) : Value → Prop
  | .none => True
  | .bool _ => True
  | .int _ _ => True
  | .str _ _ => True
  | .bytes _ _ => True
  | .ref a => a ∈ A
  | _ => False
theorem OkU.mono {A B : List Addr} (h : ∀ a ∈ A, a ∈ B) : ∀ {u : Value}, OkU A u → OkU B u := fun {u} x => by
  cases u with
  | ref a => exact h a x
  | none => trivial
  | bool b => trivial
  | int i t => trivial
  | str s t => trivial
  | bytes b t => trivial
  | _ => exact False.elim x
theorem relV_toV {A : List Addr} {u : Value} (x : OkU A u) : RelV (toV u) u := by
  cases u with
  | ref a => rfl
  | none => rfl
  | bool b => rfl
  | int i t => exact ⟨t, rfl⟩
  | str s t => exact ⟨t, rfl⟩
  | bytes b t => exact ⟨t, rfl⟩
  | _ => exact False.elim x
theorem vals_toV {A : List Addr} : ∀ {vs : List Value}, (∀ u ∈ vs, OkU A u) → Vals (vs.map toV) vs
  | [], _ => .nil
  | u :: r, h => .cons (relV_toV (h u (List.mem_cons_self ..))) (vals_toV fun x hx => h x (List.mem_cons_of_mem _ hx))
/-- an object of the arguments -/
def ArgOb (h : Heap) (A : List Addr) (a : Addr) : Prop := ∃ vs : List Value, vs.length ≤ sizeLine ∧ (∀ u ∈ vs, OkU A u) ∧
  (h.get? a = some { cls := .type "list", data := .seq vs.toArray } ∨ h.get? a = some { cls := .type "tuple", data := .seq vs.toArray })
theorem ArgOb.mono {h : Heap} {A B : List Addr} {a : Addr} (k : ∀ a ∈ A, a ∈ B) (x : ArgOb h A a) : ArgOb h B a := by
  obtain ⟨vs, h1, h2, h3⟩ := x
  exact ⟨vs, h1, fun u hu => (h2 u hu).mono k, h3⟩
theorem wellAll_len {P : Params} {h : Heap} : ∀ {vs : List Value} {ds : List WData}, WellAll P h vs ds → vs.length = ds.length
  | _, _, .nil => rfl
  | _, _, .cons _ b => by
    show _ + 1 = _ + 1
    rw [wellAll_len b]
theorem well_list {P : Params} {h : Heap} {v : Value} {ds : List WData} (x : Well P h v (.list ds)) : ∃ (a : Addr) (vs : List Value), v = .ref a ∧ h.get? a = some { cls := .type "list", data := .seq vs.toArray } ∧ WellAll P h vs ds := by
  cases x with
  | list ho hall => exact ⟨_, _, rfl, ho, hall⟩
theorem well_tuple {P : Params} {h : Heap} {v : Value} {ds : List WData} (x : Well P h v (.tuple ds)) : ∃ (a : Addr) (vs : List Value), v = .ref a ∧ h.get? a = some { cls := .type "tuple", data := .seq vs.toArray } ∧ WellAll P h vs ds := by
  cases x with
  | tuple ho hall => exact ⟨_, _, rfl, ho, hall⟩
theorem well_cons {P : Params} {h : Heap} {us : List Value} {d : WData} {ds : List WData} (x : WellAll P h us (d :: ds)) : ∃ (v : Value) (vs : List Value), us = v :: vs ∧ Well P h v d ∧ WellAll P h vs ds := by
  cases x with
  | cons a b => exact ⟨_, _, rfl, a, b⟩
theorem line_of {n : Nat} (h : n ≤ 1048576) : n ≤ sizeLine := Nat.le_trans h (by decide)
section
variable {P : Params} {h : Heap}
mutual
theorem area_one : ∀ (d : WData) (v : Value), Well P h v d → plW d = true → d.weight ≤ 1048576 → ∃ A : List Addr, OkU A v ∧ ∀ a ∈ A, ArgOb h A a
  | .none, _, x, _, _ => by
    cases x
    exact ⟨[], trivial, fun a m => absurd m (by simp)⟩
  | .bool b, _, x, _, _ => by
    cases x
    exact ⟨[], trivial, fun a m => absurd m (by simp)⟩
  | .int i, _, x, _, _ => by
    cases x
    exact ⟨[], trivial, fun a m => absurd m (by simp)⟩
  | .str s, _, x, _, _ => by
    cases x
    exact ⟨[], trivial, fun a m => absurd m (by simp)⟩
  | .bytes b, _, x, _, _ => by
    cases x
    exact ⟨[], trivial, fun a m => absurd m (by simp)⟩
  | .list ds, _, x, p, z => by
    obtain ⟨a, vs, rfl, ho, hall⟩ := well_list x
    have z2 : WData.weightAll ds ≤ 1048576 := z
    obtain ⟨A, h1, h2⟩ := area_all ds _ hall p fun d hd => Nat.le_trans (weight_mem hd) z2
    have k : ∀ b ∈ A, b ∈ a :: A := fun b hb => List.mem_cons_of_mem _ hb
    refine ⟨a :: A, List.mem_cons_self .., fun b hb => ?_⟩
    rcases List.mem_cons.mp hb with e | m
    · rw [e]
      exact ⟨vs, line_of (by rw [wellAll_len hall]; exact Nat.le_trans (PySem.W.length_le_weightAllW ds) z2), fun u hu => (h1 u hu).mono k, .inl ho⟩
    · exact (h2 b m).mono k
  | .tuple ds, _, x, p, z => by
    obtain ⟨a, vs, rfl, ho, hall⟩ := well_tuple x
    have z2 : WData.weightAll ds ≤ 1048576 := z
    obtain ⟨A, h1, h2⟩ := area_all ds _ hall p fun d hd => Nat.le_trans (weight_mem hd) z2
    have k : ∀ b ∈ A, b ∈ a :: A := fun b hb => List.mem_cons_of_mem _ hb
    refine ⟨a :: A, List.mem_cons_self .., fun b hb => ?_⟩
    rcases List.mem_cons.mp hb with e | m
    · rw [e]
      exact ⟨vs, line_of (by rw [wellAll_len hall]; exact Nat.le_trans (PySem.W.length_le_weightAllW ds) z2), fun u hu => (h1 u hu).mono k, .inr ho⟩
    · exact (h2 b m).mono k
  | .float _, _, _, p, _ => Bool.noConfusion (show false = true from p)
  | .dict _, _, _, p, _ => Bool.noConfusion (show false = true from p)
  | .bytearray _, _, _, p, _ => Bool.noConfusion (show false = true from p)
  | .set _, _, _, p, _ => Bool.noConfusion (show false = true from p)
  | .frozenset _, _, _, p, _ => Bool.noConfusion (show false = true from p)
  | .obj _ _, _, _, p, _ => Bool.noConfusion (show false = true from p)
theorem area_all : ∀ (ds : List WData) (vs : List Value), WellAll P h vs ds → plWs ds = true → (∀ d ∈ ds, d.weight ≤ 1048576) → ∃ A : List Addr, (∀ u ∈ vs, OkU A u) ∧ ∀ a ∈ A, ArgOb h A a
  | [], _, x, _, _ => by
    cases x
    exact ⟨[], fun u m => absurd m (by simp), fun a m => absurd m (by simp)⟩
  | d :: ds, _, x, p, z => by
    obtain ⟨v, vs, rfl, x1, x2⟩ := well_cons x
    have q : plW d = true ∧ plWs ds = true := Bool.and_eq_true_iff.mp p
    obtain ⟨A, a1, a2⟩ := area_one d v x1 q.1 (z d (List.mem_cons_self ..))
    obtain ⟨B, b1, b2⟩ := area_all ds vs x2 q.2 fun e he => z e (List.mem_cons_of_mem _ he)
    have kA : ∀ b ∈ A, b ∈ A ++ B := fun b hb => List.mem_append.mpr (.inl hb)
    have kB : ∀ b ∈ B, b ∈ A ++ B := fun b hb => List.mem_append.mpr (.inr hb)
    refine ⟨A ++ B, fun u hu => ?_, fun b hb => ?_⟩
    · rcases List.mem_cons.mp hu with e | m
      · rw [e]
        exact a1.mono kA
      · exact (b1 u m).mono kB
    · rcases List.mem_append.mp hb with m | m
      · exact (a2 b m).mono kA
      · exact (b2 b m).mono kB
end
end
/-- what is tracked of an argument's object -/
def hoOf (o : Obj) : Option HO := match o.data with
  | .seq vs _ => if (o.cls == Value.type "list") = true then some (.frz o (.lst (vs.toList.map toV))) else some (.frz o (.tup (vs.toList.map toV)))
  | _ => none
def argH (K : PySem.W.Frag) (h : Heap) (A : List Addr) : Hp := fun b => if b ∈ A then (if (K.lookup b).isNone = true then (h.get? b).bind hoOf else none) else none
/-- nothing is tracked but what is known to the object -/
def OnlyF (H : Hp) : Prop := ∀ b, H b = none ∨ ∃ o u, H b = some (.frz o u)
theorem hoOf_lst (vs : List Value) : hoOf { cls := .type "list", data := .seq vs.toArray } = some (.frz { cls := .type "list", data := .seq vs.toArray } (.lst (vs.map toV))) := by
  show (if (Value.type "list" == Value.type "list") = true then some (HO.frz { cls := .type "list", data := .seq vs.toArray } (.lst (vs.toArray.toList.map toV))) else some (HO.frz { cls := .type "list", data := .seq vs.toArray } (.tup (vs.toArray.toList.map toV)))) = _
  rw [if_pos (beq_self_eq_true _)]
theorem hoOf_tup (vs : List Value) : hoOf { cls := .type "tuple", data := .seq vs.toArray } = some (.frz { cls := .type "tuple", data := .seq vs.toArray } (.tup (vs.map toV))) := by
  show (if (Value.type "tuple" == Value.type "list") = true then some (HO.frz { cls := .type "tuple", data := .seq vs.toArray } (.lst (vs.toArray.toList.map toV))) else some (HO.frz { cls := .type "tuple", data := .seq vs.toArray } (.tup (vs.toArray.toList.map toV)))) = _
  rw [if_neg (by decide)]
section
variable {P : Program} {w : World} {K : PySem.W.Frag} {h : Heap} {A : List Addr}
theorem argH_at {b : Addr} {o : Obj} (hb : b ∈ A) (hk : K.lookup b = none) (e : h.get? b = some o) : argH K h A b = hoOf o := by
  unfold argH
  rw [if_pos hb, hk, if_pos (show (none : Option Obj).isNone = true from rfl), e] <;> rfl
theorem of_argH {b : Addr} {u : HO} (q : argH K h A b = some u) : b ∈ A ∧ K.lookup b = none := by
  unfold argH at q
  by_cases hb : b ∈ A
  · rw [if_pos hb] at q
    cases hk : K.lookup b with
    | none => exact ⟨hb, rfl⟩
    | some o =>
      rw [hk, if_neg (by simp)] at q
      cases q
  · rw [if_neg hb] at q
    cases q
/-- what stands tracked -/
theorem argH_is (ar : ∀ a ∈ A, ArgOb h A a) {b : Addr} {u : HO} (q : argH K h A b = some u) : K.lookup b = none ∧ ∃ vs : List Value, vs.length ≤ sizeLine ∧ (∀ u ∈ vs, OkU A u) ∧
    ((h.get? b = some { cls := .type "list", data := .seq vs.toArray } ∧ u = .frz { cls := .type "list", data := .seq vs.toArray } (.lst (vs.map toV))) ∨
     (h.get? b = some { cls := .type "tuple", data := .seq vs.toArray } ∧ u = .frz { cls := .type "tuple", data := .seq vs.toArray } (.tup (vs.map toV)))) := by
  obtain ⟨hb, hk⟩ := of_argH q
  obtain ⟨vs, h1, h2, h3⟩ := ar b hb
  refine ⟨hk, vs, h1, h2, ?_⟩
  rcases h3 with e | e
  · rw [argH_at hb hk e, hoOf_lst] at q
    exact .inl ⟨e, (Option.some.inj q).symm⟩
  · rw [argH_at hb hk e, hoOf_tup] at q
    exact .inr ⟨e, (Option.some.inj q).symm⟩
theorem argH_only (ar : ∀ a ∈ A, ArgOb h A a) : OnlyF (argH K h A) := fun b => by
  cases q : argH K h A b with
  | none => exact .inl rfl
  | some u =>
    obtain ⟨_, vs, _, _, ⟨_, e⟩ | ⟨_, e⟩⟩ := argH_is ar q
    · exact .inr ⟨_, _, by rw [e]⟩
    · exact .inr ⟨_, _, by rw [e]⟩
theorem argH_ok (ar : ∀ a ∈ A, ArgOb h A a) : HOk P w (argH K h A) h := fun b u q => by
  obtain ⟨_, vs, h1, h2, ⟨e, rfl⟩ | ⟨e, rfl⟩⟩ := argH_is ar q
  · exact ⟨e, by rw [List.length_map]; exact h1, vs, _, vals_toV h2, e⟩
  · exact ⟨e, by rw [List.length_map]; exact h1, vs, vals_toV h2, _, e, rfl, _, rfl⟩
theorem seq_inj {c c' : Value} {vs us : List Value} (e : (some { cls := c, data := .seq vs.toArray } : Option Obj) = some { cls := c', data := .seq us.toArray }) : c = c' ∧ vs = us := by
  have e1 := Option.some.inj e
  have e2 : c = c' := congrArg Obj.cls e1
  have e3 : Data.seq vs.toArray = Data.seq us.toArray := congrArg Obj.data e1
  injection e3 with e4
  refine ⟨e2, ?_⟩
  have e5 := congrArg Array.toList e4
  simpa using e5
/-- a list argument -/
theorem argL (KX : K.In h) (ar : ∀ a ∈ A, ArgOb h A a) {a : Addr} {vs : List Value} (ha : a ∈ A) (e : h.get? a = some { cls := .type "list", data := .seq vs.toArray }) : (∀ u ∈ vs, OkU A u) ∧ SqL K (argH K h A) a (vs.map toV) := by
  obtain ⟨us, h1, h2, h3⟩ := ar a ha
  have hu : us = vs := by
    rcases h3 with q | q
    · rw [e] at q
      exact (seq_inj q).2.symm
    · rw [e] at q
      exact absurd (Value.type.inj (seq_inj q).1) (by decide)
  subst hu
  refine ⟨h2, ?_⟩
  cases hk : K.lookup a with
  | none => exact .inl (.inr ⟨_, by rw [argH_at ha hk e, hoOf_lst]⟩)
  | some o =>
    have e2 := KX a o hk
    rw [e] at e2
    obtain rfl := Option.some.inj e2
    exact .inr ⟨_, us.toArray, _, hk, rfl, rfl, rfl, by rw [List.size_toArray]; exact h1, by simpa using vals_toV h2⟩
theorem argT (KX : K.In h) (ar : ∀ a ∈ A, ArgOb h A a) {a : Addr} {vs : List Value} (ha : a ∈ A) (e : h.get? a = some { cls := .type "tuple", data := .seq vs.toArray }) : (∀ u ∈ vs, OkU A u) ∧ SqT K (argH K h A) a (vs.map toV) := by
  obtain ⟨us, h1, h2, h3⟩ := ar a ha
  have hu : us = vs := by
    rcases h3 with q | q
    · rw [e] at q
      exact absurd (Value.type.inj (seq_inj q).1) (by decide)
    · rw [e] at q
      exact (seq_inj q).2.symm
  subst hu
  refine ⟨h2, ?_⟩
  cases hk : K.lookup a with
  | none => exact .inl (.inr ⟨_, by rw [argH_at ha hk e, hoOf_tup]⟩)
  | some o =>
    have e2 := KX a o hk
    rw [e] at e2
    obtain rfl := Option.some.inj e2
    exact .inr ⟨_, us.toArray, _, hk, rfl, rfl, by rw [List.size_toArray]; exact h1, by simpa using vals_toV h2⟩
mutual
theorem dw_one {Pm : Params} (KX : K.In h) (ar : ∀ a ∈ A, ArgOb h A a) : ∀ (d : WData) (v : Value), Well Pm h v d → plW d = true → OkU A v → Dw K (argH K h A) (toV v) d
  | .none, _, x, _, _ => by
    cases x
    exact .non
  | .bool b, _, x, _, _ => by
    cases x
    exact .bl b
  | .int i, _, x, _, _ => by
    cases x
    exact .int i
  | .str s, _, x, _, _ => by
    cases x
    exact .str s
  | .bytes b, _, x, _, _ => by
    cases x
    have z := Dw.byt (K := K) (H := argH K h A) b.toArray
    exact z
  | .list ds, _, x, p, hu => by
    obtain ⟨a, vs, rfl, ho, hall⟩ := well_list x
    obtain ⟨h2, hs⟩ := argL KX ar hu ho
    exact .lst hs (dw_all KX ar ds _ hall p h2)
  | .tuple ds, _, x, p, hu => by
    obtain ⟨a, vs, rfl, ho, hall⟩ := well_tuple x
    obtain ⟨h2, hs⟩ := argT KX ar hu ho
    exact .tup hs (dw_all KX ar ds _ hall p h2)
  | .float _, _, _, p, _ => Bool.noConfusion (show false = true from p)
  | .dict _, _, _, p, _ => Bool.noConfusion (show false = true from p)
  | .bytearray _, _, _, p, _ => Bool.noConfusion (show false = true from p)
  | .set _, _, _, p, _ => Bool.noConfusion (show false = true from p)
  | .frozenset _, _, _, p, _ => Bool.noConfusion (show false = true from p)
  | .obj _ _, _, _, p, _ => Bool.noConfusion (show false = true from p)
theorem dw_all {Pm : Params} (KX : K.In h) (ar : ∀ a ∈ A, ArgOb h A a) : ∀ (ds : List WData) (vs : List Value), WellAll Pm h vs ds → plWs ds = true → (∀ u ∈ vs, OkU A u) → DwAll K (argH K h A) (vs.map toV) ds
  | [], _, x, _, _ => by
    cases x
    exact .nil
  | d :: ds, _, x, p, hu => by
    obtain ⟨v, vs, rfl, x1, x2⟩ := well_cons x
    have q : plW d = true ∧ plWs ds = true := Bool.and_eq_true_iff.mp p
    exact .cons (dw_one KX ar d v x1 q.1 (hu _ (List.mem_cons_self ..))) (dw_all KX ar ds vs x2 q.2 fun u m => hu u (List.mem_cons_of_mem _ m))
end
end
/-! ### the call -/
theorem spec_call {P : Program} {w : World} {K : PySem.W.Frag} {mg mb : Str → Option Value} {CX : CXT} {k : Nat} {fa : Addr} {fd : FuncData} {ps : List Str} {sp : Sp} {s₁ : Shared} {vals : List Value} {ds : List WData} {R : PySem.W.WRecords} {cl : Str → Option Addr} {d0 : WData}
    (KX : K.In s₁.heap) (hns : s₁.heap.Ns mainGlobals mg) (hb : s₁.heap.Ns builtinsNs mb) (hbb : ∀ x : Str, x ≠ "__name__" → mb x = bootBuiltins x) (hlim : s₁.heap.NoLimit) (hsee : s₁.heap.NoSeer) (hdg : s₁.heap.NoDigits) (hg : s₁.gens = #[])
    (hwl : WellAll w.params s₁.heap vals ds) (hpl : plWs ds = true) (hwt : ∀ d ∈ ds, d.weight ≤ 1048576) (hr : Room k callerA)
    (F : ∀ base : Heap, K.In base → base.Ns mainGlobals mg → FnOk P w K mg base CX k fa fd ps sp) (hbind : ∀ (s : Shared) (us : List Value), us.length = ps.length → BindsTo s fd ⟨us, []⟩ (ps.zip us)) (hlen : ds.length = ps.length)
    (hsp : ∀ (H : Hp) (xs : List V), OnlyF H → DwAll K H xs ds → sp xs H (fun v H' => Dw K H' v d0) fun _ _ _ => False)
    (hCX : ∀ H e s', CX [] H s₁ (fun _ _ _ => False) e s' → False) :
    codeAny (model P w) callerA (.call (.ref fa) ⟨vals, []⟩) (fun r s' => ∃ u as, r = .ok (.ret u) ∧ ReadsW R cl s'.heap u d0 as ∧ OldK s₁.heap s'.heap ∧ s'.os = s₁.os ∧ AllBare s'.gens) s₁ := by
  obtain ⟨A, ho, ar⟩ := area_all ds vals hwl hpl hwt
  have hO : OnlyF (argH K s₁.heap A) := argH_only ar
  have hok : HOk P w (argH K s₁.heap A) s₁.heap := argH_ok ar
  have hS := dw_all KX ar ds vals hwl hpl ho
  have hV := vals_toV ho
  have hK : ∀ b u, argH K s₁.heap A b = some u → K.lookup b = none := fun b u q => (argH_is ar q).1
  have noA : ∀ {b : Addr} {o : Obj} {es : Array DictEntry} {ep : Nat}, s₁.heap.get? b = some o → o.data = .dict es ep → argH K s₁.heap A b = none := fun {b o es ep} e d => by
    cases q : argH K s₁.heap A b with
    | none => rfl
    | some u =>
      obtain ⟨_, vs, _, _, ⟨e2, _⟩ | ⟨e2, _⟩⟩ := argH_is ar q
      · rw [e2] at e
        cases e
        have d' : Data.seq vs.toArray _ = Data.dict es ep := d
        cases d'
      · rw [e2] at e
        cases e
        have d' : Data.seq vs.toArray _ = Data.dict es ep := d
        cases d'
  have noM : ∀ {b : Addr} {o : Obj}, s₁.heap.get? b = some o → o.cls = .type "module" → argH K s₁.heap A b = none := fun {b o} e d => by
    cases q : argH K s₁.heap A b with
    | none => rfl
    | some u =>
      obtain ⟨_, vs, _, _, ⟨e2, _⟩ | ⟨e2, _⟩⟩ := argH_is ar q
      · rw [e2] at e
        cases e
        exact absurd (Value.type.inj d) (by decide)
      · rw [e2] at e
        cases e
        exact absurd (Value.type.inj d) (by decide)
  generalize argH K s₁.heap A = H at hO hok hS hK noA noM
  have base_of : ∀ {b : Addr} {o : Obj}, s₁.heap.get? b = some o → H b = none → (hidT s₁.heap H).get? b = some o := fun e n => hidT_get e n
  have nsK : ∀ {b : Addr} {m : Str → Option Value}, s₁.heap.Ns b m → (hidT s₁.heap H).Ns b m := fun {b m} ⟨o, es, ep, e, d, r⟩ => ⟨o, es, ep, base_of e (noA e d), d, r⟩
  have nK : ∀ b o, K.lookup b = some o → H b = none := fun b o e => by
    cases q : H b with
    | none => rfl
    | some u =>
      rw [hK b u q] at e
      cases e
  have hKb : K.In (hidT s₁.heap H) := fun b o e => base_of (KX b o e) (nK b o e)
  have seeK : (hidT s₁.heap H).NoSeer :=
    ⟨let ⟨mc, h1, h2⟩ := hsee.statics; ⟨mc, nsK h1, h2⟩, let ⟨mc, h1, h2⟩ := hsee.mods; ⟨mc, nsK h1, h2⟩, let ⟨mc, h1, h2⟩ := hsee.imp; ⟨mc, nsK h1, h2⟩,
     let ⟨mg', bm, ob, h1, h2, h3, h4, h5⟩ := hsee.main; ⟨mg', bm, ob, nsK h1, h2, base_of h3 (noM h3 h4), h4, h5⟩⟩
  have hM : Mod K mg (hidT s₁.heap H) := ⟨hKb, nsK hns, ⟨mb, nsK hb, hbb⟩, (let ⟨mc, h1, h2⟩ := hlim; ⟨mc, nsK h1, h2⟩), seeK, (let ⟨mc, h1, h2⟩ := hdg; ⟨mc, nsK h1, h2⟩)⟩
  have e0 : Env0 P w K mg (hidT s₁.heap H) callerA [] s₁ H := ⟨rfl, hM, fun b o e => of_hidT e, Nat.le_of_eq (hidT_size _ _), trivial, fun b hb => absurd (show b ∈ ([] : List Addr) from hb) (by simp), hok, .of_eq hg⟩
  have hl : vals.length = ps.length := by rw [wellAll_len hwl]; exact hlen
  refine codeAny_mono ((F _ hKb (nsK hns)).run callerA [] s₁ H ⟨vals, []⟩ vals (vals.map toV) _ _ hr e0 (hbind s₁ vals hl) hV (hsp H _ hO hS)) fun r s' x => ?_
  cases r with
  | error e => exact (hCX H e s' x).elim
  | ok fl =>
    cases fl with
    | next => exact False.elim x
    | brk => exact False.elim x
    | cont => exact False.elim x
    | ret u =>
      obtain ⟨v, H', os, bare, un, hok', r', q⟩ := x
      have kept : ∀ b o, s₁.heap.get? b = some o → s'.heap.get? b = some o := fun b o e => by
        cases q2 : H b with
        | none => exact un.keep b o e q2 (by intro z; exact absurd (show b ∈ ([] : List Addr) from z) (by simp)) (by simp)
        | some u2 =>
          rcases hO b with z | ⟨ob, u3, z⟩
          · rw [q2] at z
            cases z
          · have z2 := un.frzs b ob _ z
            obtain ⟨e1, _⟩ := hok b _ z
            obtain ⟨e2, _⟩ := hok' b _ z2
            rw [e] at e1
            cases e1
            exact e2
      have KX' : K.In s'.heap := fun b o e => kept b o (KX b o e)
      obtain ⟨as, hrd⟩ := Dw.reads (R := R) (cl := cl) hok' KX' d0 v u q r'
      exact ⟨u, as, rfl, hrd, OldK.of_keep kept, os, bare⟩
/-! ### the row -/
theorem layable_weight {ds : List WData} (h : WData.layableAll ds = true) : ∀ d ∈ ds, d.weight ≤ 1048576 := fun d hd =>
  (PySem.W.layableW_iff.mp (List.all_eq_true.mp h d hd)).2.2
theorem encAll_len : ∀ (cs : List Codec) (a : Codec.denoteAll cs), (Codec.encAll cs a).length = cs.length
  | [], _ => rfl
  | c :: cs, a => by
    show (Codec.encAll cs a.2).length + 1 = cs.length + 1
    rw [encAll_len cs a.2]
/-- the goal that k_headS leaves (case hc), from the promise of the row's def: whatever the arguments that the codecs let and the row asks for, the def gives what stands for enc (f ..) -/
theorem walk_spec {r : OpenSpec} {k : Nat} {q : Program} {loose : List Str} {XP : (Str → Option Value) → Heap → Prop} {YP : World → Heap → Prop} {d : DefRec} {K : Params → PySem.W.Frag} {CX : World → CXT} {ps : List Str} {sp : World → Sp}
    (hwell : r.wellSaid = true) (himp : importsNone q = true) (hdf : d.params.defaults = []) (hlen : r.args.length = ps.length) (hr : Room k callerA)
    (hY : ∀ (w : World) (h : Heap), YP w h → (K w.params).In h)
    (F : ∀ (w : World) (mg : Str → Option Value) (fa : Addr) (h : Heap), YP w h → (K w.params).In h → h.Ns mainGlobals mg → mg d.name = some (.ref fa) →
      ∃ fd : FuncData, (∀ (s : Shared) (us : List Value), us.length = ps.length → BindsTo s fd ⟨us, []⟩ (ps.zip us)) ∧
        ∀ base : Heap, (K w.params).In base → base.Ns mainGlobals mg → FnOk r.prog w (K w.params) mg base (CX w) k fa fd ps (sp w))
    (hsp : ∀ (w : World) (H : Hp) (xs : List V) (a : Codec.denoteAll r.args), OnlyF H → Codec.withinAll r.args a = true → Codec.app r.args r.asked a = true → DwAll (K w.params) H xs (Codec.encAll r.args a) →
      sp w xs H (fun v H' => Dw (K w.params) H' v (r.ret.enc (Codec.app r.args r.f a))) fun _ _ _ => False)
    (hCX : ∀ (w : World) (H : Hp) (s : Shared) (e : Value) (s' : Shared), CX w [] H s (fun _ _ _ => False) e s' → False) :
    PySem.W.WalkOS q loose XP YP r d [] (fun f vs => PySem.call f vs) := by
  intro w s_0 s₁ mg mb G Y fa o pm cd doc dV kV ho hd hcd hD hmg hg args vals as hpre hlay hrd hwl hlo
  obtain ⟨a, e1, e2⟩ := PySem.W.os_pre_some hpre
  obtain ⟨e3, hwi⟩ := Codec.encAll_of_decAll r.args args a e1
  subst e3
  have KX := hY w _ Y
  obtain ⟨fd, hb, hF⟩ := F w mg fa _ Y KX G.T.g hmg
  refine PySem.W.enter_call (codeAny_mono (spec_call (R := []) (cl := classAt s_0.heap) (d0 := r.ret.enc (Codec.app r.args r.f a)) KX G.T.g G.T.b G.T.builtins G.T.nolimit (G.T.seer himp) G.T.nodigits hg hwl (pl_encAll _ _) (layable_weight hlay) hr hF hb (by rw [encAll_len]; exact hlen)
    (fun H xs hO hS => hsp w H xs a hO hwi e2 hS) fun H e s' => hCX w H s₁ e s') fun r' s' hq => ?_)
  obtain ⟨u, as', rfl, h1, h2, h3, h4⟩ := hq
  exact ⟨.inl ⟨u, _, as', rfl, fun _ => rfl, h1, (OpenSpec.post_iff hwell hwi _ _).mpr rfl, fun z => Bool.noConfusion (show false = true from z)⟩, h2, h3, h4⟩
/-- the same where the promise hangs on the written part alone -/
theorem walk_specK {r : OpenSpec} {k : Nat} {q : Program} {loose : List Str} {XP : (Str → Option Value) → Heap → Prop} {YP : World → Heap → Prop} {d : DefRec} {K : Params → PySem.W.Frag} {CX : CXT} {ps : List Str} {sp : PySem.W.Frag → Sp}
    (hwell : r.wellSaid = true) (himp : importsNone q = true) (hdf : d.params.defaults = []) (hlen : r.args.length = ps.length) (hr : Room k callerA)
    (hY : ∀ (w : World) (h : Heap), YP w h → (K w.params).In h)
    (F : ∀ (w : World) (mg : Str → Option Value) (fa : Addr) (h : Heap), YP w h → (K w.params).In h → h.Ns mainGlobals mg → mg d.name = some (.ref fa) →
      ∃ fd : FuncData, (∀ (s : Shared) (us : List Value), us.length = ps.length → BindsTo s fd ⟨us, []⟩ (ps.zip us)) ∧
        ∀ base : Heap, (K w.params).In base → base.Ns mainGlobals mg → FnOk r.prog w (K w.params) mg base CX k fa fd ps (sp (K w.params)))
    (hsp : ∀ (K : PySem.W.Frag) (H : Hp) (xs : List V) (a : Codec.denoteAll r.args), OnlyF H → Codec.withinAll r.args a = true → Codec.app r.args r.asked a = true → DwAll K H xs (Codec.encAll r.args a) →
      sp K xs H (fun v H' => Dw K H' v (r.ret.enc (Codec.app r.args r.f a))) fun _ _ _ => False)
    (hCX : ∀ (H : Hp) (s : Shared) (e : Value) (s' : Shared), CX [] H s (fun _ _ _ => False) e s' → False) :
    PySem.W.WalkOS q loose XP YP r d [] (fun f vs => PySem.call f vs) :=
  walk_spec (K := K) (CX := fun _ => CX) (sp := fun w => sp (K w.params)) hwell himp hdf hlen hr hY F (fun w H xs a h1 h2 h3 h4 => hsp (K w.params) H xs a h1 h2 h3 h4) fun _ H s e s' => hCX H s e s'
end L2
-- rests on (row put in by the clerk, for the bench that shows a file only what it spells): KE.SpHead KE.OsShapes
end

section
namespace My
open Eb Eb.Balance

theorem size_mul (a b : Rat) : size (a * b) = size a * size b := by
  unfold size
  by_cases ha : a < 0 <;> by_cases hb : b < 0
  · have : 0 < (-a) * (-b) := Rat.mul_pos (by grind) (by grind)
    have h : ¬ a * b < 0 := by grind
    simp only [if_pos ha, if_pos hb, if_neg h]; grind
  · have : 0 ≤ (-a) * b := Rat.mul_nonneg (by grind) (by grind)
    by_cases h : a * b < 0
    · simp only [if_pos ha, if_neg hb, if_pos h]; grind
    · simp only [if_pos ha, if_neg hb, if_neg h]; grind
  · have : 0 ≤ a * (-b) := Rat.mul_nonneg (by grind) (by grind)
    by_cases h : a * b < 0
    · simp only [if_neg ha, if_pos hb, if_pos h]; grind
    · simp only [if_neg ha, if_pos hb, if_neg h]; grind
  · have : 0 ≤ a * b := Rat.mul_nonneg (by grind) (by grind)
    have h : ¬ a * b < 0 := by grind
    simp only [if_neg ha, if_neg hb, if_neg h]
theorem size_zero : size 0 = 0 := by rfl
theorem size_one : size 1 = 1 := by decide +kernel

/-- a sum over a form -/
def fsum (g : Bytes → Rat → Rat) (f : Form) : Rat := total (f.map fun x => g x.1 x.2)
theorem fsum_cons (g : Bytes → Rat → Rat) (x : Bytes × Rat) (f : Form) : fsum g (x :: f) = g x.1 x.2 + fsum g f := rfl
theorem fsum_nil (g : Bytes → Rat → Rat) : fsum g [] = 0 := rfl
def nam (f : Form) : List Bytes := f.map (·.1)

theorem put_names (w : Bytes) (q : Rat) : ∀ (f : Form) (n : Bytes), n ∈ nam (Form.put w q f) → n = w ∨ n ∈ nam f
  | [], n, h => by
    unfold Form.put at h
    split at h
    · exact .inr h
    · simp [nam] at h; exact .inl h
  | x :: r, n, h => by
    unfold Form.put at h
    split at h
    · split at h
      · exact .inr h
      · simp [nam] at h ⊢
        rcases h with h | h | h
        · exact .inl h
        · exact .inr (.inl h)
        · exact .inr (.inr h)
    · split at h
      · rename_i _ e
        split at h
        · simp [nam] at h ⊢; exact .inr (.inr h)
        · simp [nam] at h ⊢
          rcases h with h | h
          · exact .inl h
          · exact .inr (.inr h)
      · have h' : n ∈ x.1 :: nam (Form.put w q r) := h
        rcases List.mem_cons.mp h' with h' | h'
        · exact .inr (by rw [h']; exact List.mem_cons_self)
        · rcases put_names w q r n h' with h2 | h2
          · exact .inl h2
          · exact .inr (List.mem_cons_of_mem _ h2)

theorem fsum_put {g : Bytes → Rat → Rat} (g0 : ∀ w, g w 0 = 0) (w : Bytes) (q : Rat) : ∀ (f : Form), w ∉ nam f → fsum g (Form.put w q f) = g w q + fsum g f
  | [], _ => by
    unfold Form.put
    split
    · rename_i e; subst e; rw [g0]; exact (Rat.zero_add _).symm
    · rfl
  | x :: r, h => by
    have hx : x.1 ≠ w := fun e => h (by rw [← e]; exact List.mem_cons_self)
    have hr : w ∉ nam r := fun e => h (List.mem_cons_of_mem _ e)
    unfold Form.put
    split
    · split
      · rename_i e; subst e; rw [g0]; exact (Rat.zero_add _).symm
      · rfl
    · rw [fsum_cons, fsum_put g0 w q r hr, fsum_cons]
      grind

theorem fsum_plus {g : Bytes → Rat → Rat} (g0 : ∀ w, g w 0 = 0) (f' : Form) : ∀ (f : Form), (nam f).Nodup → (∀ n ∈ nam f, n ∉ nam f') → fsum g (Form.plus f f') = fsum g f + fsum g f' ∧ ∀ n ∈ nam (Form.plus f f'), n ∈ nam f ∨ n ∈ nam f'
  | [], _, _ => ⟨(Rat.zero_add _).symm, fun n h => .inr h⟩
  | x :: r, hd, hn => by
    have hd' : x.1 ∉ nam r ∧ (nam r).Nodup := List.nodup_cons.mp hd
    obtain ⟨e, m⟩ := fsum_plus g0 f' r hd'.2 (fun n h => hn n (List.mem_cons_of_mem _ h))
    have hx : x.1 ∉ nam (Form.plus r f') := fun h => by
      rcases m _ h with h | h
      · exact hd'.1 h
      · exact hn _ List.mem_cons_self h
    refine ⟨?_, fun n h => ?_⟩
    · show fsum g (Form.put x.1 x.2 (Form.plus r f')) = _
      rw [fsum_put g0 _ _ _ hx, e, fsum_cons]; grind
    · rcases put_names _ _ _ _ h with h | h
      · exact .inl (by rw [h]; exact List.mem_cons_self)
      · rcases m _ h with h | h
        · exact .inl (List.mem_cons_of_mem _ h)
        · exact .inr h

theorem fsum_times {g : Bytes → Rat → Rat} (g0 : ∀ w, g w 0 = 0) (q : Rat) (f : Form) : fsum g (Form.times q f) = fsum (fun w a => g w (q * a)) f := by
  unfold Form.times
  split
  · rename_i e; subst e
    induction f with
    | nil => rfl
    | cons x r ih => rw [fsum_cons, ← ih, Rat.zero_mul, g0, fsum_nil, Rat.add_zero]
  · unfold fsum
    rw [List.map_map]; rfl
theorem times_names (q : Rat) (f : Form) : nam (Form.times q f) = if q = 0 then [] else nam f := by
  unfold Form.times
  split
  · rfl
  · unfold nam; rw [List.map_map]; rfl
theorem times_names_sub (q : Rat) (f : Form) (n : Bytes) (h : n ∈ nam (Form.times q f)) : n ∈ nam f := by
  rw [times_names] at h
  split at h
  · cases h
  · exact h
theorem times_nodup (q : Rat) (f : Form) (h : (nam f).Nodup) : (nam (Form.times q f)).Nodup := by
  rw [times_names]
  split
  · exact List.nodup_nil
  · exact h

theorem put_nodup (w : Bytes) (q : Rat) : ∀ (f : Form), (nam f).Nodup → w ∉ nam f → (nam (Form.put w q f)).Nodup
  | [], _, _ => by
    unfold Form.put
    split
    · exact List.nodup_nil
    · simp [nam]
  | x :: r, hd, h => by
    have hx : x.1 ≠ w := fun e => h (by rw [← e]; exact List.mem_cons_self)
    have hr : w ∉ nam r := fun e => h (List.mem_cons_of_mem _ e)
    have hd' : x.1 ∉ nam r ∧ (nam r).Nodup := List.nodup_cons.mp hd
    unfold Form.put
    split
    · split
      · exact hd
      · exact List.nodup_cons.mpr ⟨h, hd⟩
    · refine List.nodup_cons.mpr ⟨fun e => ?_, put_nodup w q r hd'.2 hr⟩
      rcases put_names w q r _ e with e | e
      · exact hx e
      · exact hd'.1 e

/-! the counted divisions, from a step's number on -/
def cnt (w : Bytes) (i : Nat) (l : List (Rat × Int)) : Measured := combined ((l.zipIdx i).map fun (z : (Rat × Reading) × Nat) => (z.1.1, ⟨(z.1.2 : Rat), [(readingName w z.2, 1)]⟩))
theorem cnt_nil (w i) : cnt w i [] = ⟨0, []⟩ := rfl
theorem cnt_cons (w i) (c : Rat) (r : Int) (l) : cnt w i ((c, r) :: l) = (Measured.times c ⟨(r : Rat), [(readingName w i, 1)]⟩).plus (cnt w (i + 1) l) := rfl

def cN (l : List (Rat × Int)) : Rat := total (l.map fun z => z.1 * (z.2 : Rat))
theorem cnt_num (w) : ∀ (l : List (Rat × Int)) (i : Nat), (cnt w i l).num = cN l
  | [], i => rfl
  | (c, r) :: l, i => by
    rw [cnt_cons]
    show c * (r : Rat) + (cnt w (i + 1) l).num = _
    rw [cnt_num w l (i + 1)]; rfl

theorem own_inj : ∀ i, i < 64 → ∀ j, j < 64 → readingName EvenG.OWN i = readingName EvenG.OWN j → i = j := by decide +kernel
theorem own_ne : ∀ i, i < 64 → readingName EvenG.OWN i ≠ EvenG.OWN := by decide +kernel
theorem own_ne2 : ∀ i, i < 64 → readingName EvenG.OWN i ≠ EvenG.WORTH := by decide +kernel
theorem worth_ne : EvenG.WORTH ≠ EvenG.OWN := by decide +kernel

theorem cnt_form {g : Bytes → Rat → Rat} (g0 : ∀ w, g w 0 = 0) (G : Rat → Rat) : ∀ (l : List (Rat × Int)) (i : Nat), i + l.length ≤ 64 → (∀ k, i ≤ k → k < i + l.length → ∀ a, g (readingName EvenG.OWN k) a = G a) →
    fsum g (cnt EvenG.OWN i l).form = total (l.map fun z => G z.1) ∧ (nam (cnt EvenG.OWN i l).form).Nodup ∧ ∀ n ∈ nam (cnt EvenG.OWN i l).form, ∃ k, i ≤ k ∧ k < i + l.length ∧ n = readingName EvenG.OWN k
  | [], i, _, _ => ⟨rfl, List.nodup_nil, fun n h => by cases h⟩
  | (c, r) :: l, i, hl, hg => by
    have hl' : i + 1 + l.length ≤ 64 := by simp at hl; omega
    obtain ⟨e, nd, m⟩ := cnt_form g0 G l (i + 1) hl' (fun k h1 h2 => hg k (by omega) (by simp; omega))
    have hm : readingName EvenG.OWN i ∉ nam (cnt EvenG.OWN (i + 1) l).form := fun h => by
      obtain ⟨k, h1, h2, h3⟩ := m _ h
      have := own_inj i (by omega) k (by omega) h3
      omega
    have hi : ∀ a, g (readingName EvenG.OWN i) a = G a := hg i (Nat.le_refl _) (by simp)
    rw [cnt_cons]
    show fsum g (Form.plus (Form.times c [(readingName EvenG.OWN i, 1)]) _) = _ ∧ (nam (Form.plus (Form.times c [(readingName EvenG.OWN i, 1)]) _)).Nodup ∧ ∀ n ∈ nam (Form.plus (Form.times c [(readingName EvenG.OWN i, 1)]) _), _
    by_cases hc : c = 0
    · subst hc
      have h0 : Form.times 0 [(readingName EvenG.OWN i, 1)] = [] := rfl
      rw [h0]
      refine ⟨?_, nd, fun n h => ?_⟩
      · show fsum g (cnt EvenG.OWN (i + 1) l).form = G 0 + total (l.map fun z => G z.1)
        rw [e, ← hi, g0, Rat.zero_add]
      · obtain ⟨k, h1, h2, h3⟩ := m n h
        exact ⟨k, by omega, by simp; omega, h3⟩
    · have h0 : Form.times c [(readingName EvenG.OWN i, 1)] = [(readingName EvenG.OWN i, c * 1)] := by
        unfold Form.times; rw [if_neg hc]; rfl
      rw [h0]
      show fsum g (Form.put (readingName EvenG.OWN i) (c * 1) (cnt EvenG.OWN (i + 1) l).form) = _ ∧ (nam (Form.put (readingName EvenG.OWN i) (c * 1) (cnt EvenG.OWN (i + 1) l).form)).Nodup ∧ ∀ n ∈ nam (Form.put (readingName EvenG.OWN i) (c * 1) (cnt EvenG.OWN (i + 1) l).form), _
      refine ⟨?_, put_nodup _ _ _ nd hm, fun n h => ?_⟩
      · rw [fsum_put g0 _ _ _ hm, e, hi, Rat.mul_one]; rfl
      · rcases put_names _ _ _ _ h with h | h
        · exact ⟨i, Nat.le_refl _, by simp, h⟩
        · obtain ⟨k, h1, h2, h3⟩ := m n h
          exact ⟨k, by omega, by simp; omega, h3⟩

theorem find_mem (S : Sources) (w : Bytes) (P : Source → Prop) (h1 : ∃ s ∈ S, s.name = w) (h2 : ∀ s ∈ S, s.name = w → P s) : P (S.find w) := by
  unfold Sources.find
  cases e : S.find? fun (s : Source) => s.name == w with
  | none =>
    obtain ⟨s, hs, hn⟩ := h1
    have := List.find?_eq_none.mp e s hs
    simp [hn] at this
  | some x =>
    have hx := List.mem_of_find?_eq_some e
    have hp := List.find?_some e
    exact h2 x hx (by simpa using hp)

def cA (c : List Rat) : Rat := total (c.map size)
def cS (c : List Rat) : Rat := total (c.map fun q => q * q)
theorem total_mul (k : Rat) (G : Rat → Rat) (F : Rat → Rat) (h : ∀ a, F a = k * G a) : ∀ (l : List (Rat × Int)), total (l.map fun z => F z.1) = k * total (l.map fun z => G z.1)
  | [] => (Rat.mul_zero _).symm
  | z :: l => by
    show F z.1 + total (l.map fun z => F z.1) = k * (G z.1 + total (l.map fun z => G z.1))
    rw [total_mul k G F h l, h, Rat.mul_add]
theorem total_fst (G : Rat → Rat) : ∀ (c : List Rat) (r : List Int), c.length = r.length → total ((c.zip r).map fun z => G z.1) = total (c.map G)
  | [], [], _ => rfl
  | a :: c, b :: r, h => by
    show G a + total ((c.zip r).map fun z => G z.1) = G a + total (c.map G)
    rw [total_fst G c r (by simpa using h)]

/-- what a product's form comes to: each of the two, and the remainder -/
theorem prod_form {g : Bytes → Rat → Rat} (g0 : ∀ w, g w 0 = 0) (G : Rat → Rat) (q u b rr : Rat) (l : List (Rat × Int)) (hl : l.length ≤ 64) (hg : ∀ k, k < l.length → ∀ a, g (readingName EvenG.OWN k) a = G a) :
    fsum g (((Form.times b (EvenG.worthOf q u).form).plus (Form.times q (cnt EvenG.OWN 0 l).form)).plus (if rr = 0 then [] else [(EvenG.OWN, 1)])) =
      (if u = 0 then 0 else g EvenG.WORTH b) + total (l.map fun z => G (q * z.1)) + (if rr = 0 then 0 else g EvenG.OWN 1) := by
  have g0' : ∀ w, (fun w a => g w (q * a)) w 0 = 0 := fun w => by
    show g w (q * 0) = 0
    rw [Rat.mul_zero, g0]
  obtain ⟨e, nd, m⟩ := cnt_form (g := fun w a => g w (q * a)) g0' (fun a => G (q * a)) l 0 (by omega) (fun k _ h a => hg k (by omega) _)
  have hW : ∀ n ∈ nam (EvenG.worthOf q u).form, n = EvenG.WORTH := fun n h => by
    unfold EvenG.worthOf at h
    by_cases hu : u = 0
    · simp [hu, nam] at h
    · simp [hu, nam] at h; exact h
  have ndW : (nam (EvenG.worthOf q u).form).Nodup := by
    unfold EvenG.worthOf
    by_cases hu : u = 0
    · simp [hu, nam]
    · simp [hu, nam]
  have sW : fsum g (Form.times b (EvenG.worthOf q u).form) = if u = 0 then 0 else g EvenG.WORTH b := by
    rw [fsum_times g0]
    unfold EvenG.worthOf
    by_cases hu : u = 0
    · simp only [if_pos hu]; rfl
    · simp only [if_neg hu]
      show g EvenG.WORTH (b * 1) + 0 = _
      rw [Rat.mul_one, Rat.add_zero]
  have dis : ∀ n ∈ nam (Form.times b (EvenG.worthOf q u).form), n ∉ nam (Form.times q (cnt EvenG.OWN 0 l).form) := fun n h h2 => by
    have h3 := hW n (times_names_sub _ _ _ h)
    obtain ⟨k, _, h4, h5⟩ := m n (times_names_sub _ _ _ h2)
    exact own_ne2 k (by omega) (h5.symm.trans h3)
  obtain ⟨e1, m1⟩ := fsum_plus g0 (Form.times q (cnt EvenG.OWN 0 l).form) (Form.times b (EvenG.worthOf q u).form) (times_nodup _ _ ndW) dis
  have e2 : fsum g (Form.times q (cnt EvenG.OWN 0 l).form) = total (l.map fun z => G (q * z.1)) := by rw [fsum_times g0, e]
  rw [e2, sW] at e1
  have nd1 : (nam ((Form.times b (EvenG.worthOf q u).form).plus (Form.times q (cnt EvenG.OWN 0 l).form))).Nodup := by
    have ht : Form.times b (EvenG.worthOf q u).form = [] ∨ ∃ a, Form.times b (EvenG.worthOf q u).form = [(EvenG.WORTH, a)] := by
      unfold EvenG.worthOf Form.times
      by_cases hb : b = 0
      · left; simp [hb]
      · by_cases hu : u = 0
        · left; simp [hu]
        · right; exact ⟨b * 1, by simp [hb, hu]⟩
    rcases ht with ht | ⟨a, ht⟩
    · rw [ht]; exact times_nodup _ _ nd
    · rw [ht]
      show (nam (Form.put EvenG.WORTH a _)).Nodup
      refine put_nodup _ _ _ (times_nodup _ _ nd) (fun h2 => ?_)
      obtain ⟨k, _, h4, h5⟩ := m _ (times_names_sub _ _ _ h2)
      exact own_ne2 k (by omega) h5.symm
  have dis2 : ∀ n ∈ nam ((Form.times b (EvenG.worthOf q u).form).plus (Form.times q (cnt EvenG.OWN 0 l).form)), n ∉ nam (if rr = 0 then [] else [(EvenG.OWN, (1 : Rat))]) := fun n h h2 => by
    have h3 : n = EvenG.OWN := by
      by_cases hr : rr = 0
      · simp [hr, nam] at h2
      · simp [hr, nam] at h2; exact h2
    rcases m1 n h with h | h
    · exact worth_ne ((hW n (times_names_sub _ _ _ h)).symm.trans h3)
    · obtain ⟨k, _, h4, h5⟩ := m n (times_names_sub _ _ _ h)
      exact own_ne k (by omega) (h5.symm.trans h3)
  obtain ⟨e3, _⟩ := fsum_plus g0 (if rr = 0 then [] else [(EvenG.OWN, (1 : Rat))]) _ nd1 dis2
  rw [e3, e1]
  by_cases hr : rr = 0
  · simp only [if_pos hr]; rfl
  · simp only [if_neg hr]
    show _ + (g EvenG.OWN 1 + 0) = _
    rw [Rat.add_zero]

theorem src_find (s0 : Source) (h0 : s0.name = EvenG.OWN) (u v w : Rat) (p : Plan) (pre : Sources) (hpre : pre = [] ∨ pre = [s0]) (k : Nat) (hk : k < p.steps.length) (h64 : p.steps.length ≤ 64) :
    let S := pre ++ (EvenG.sourcesOf u ++ readingSources EvenG.OWN p v w)
    (S.find (readingName EvenG.OWN k)).most = v ∧ (S.find (readingName EvenG.OWN k)).square = w := by
  intro S
  refine find_mem S (readingName EvenG.OWN k) (fun s => s.most = v ∧ s.square = w) ⟨⟨readingName EvenG.OWN k, v, w⟩, ?_, rfl⟩ (fun s hs hn => ?_)
  · refine List.mem_append_right _ (List.mem_append_right _ ?_)
    exact List.mem_map.mpr ⟨k, List.mem_range.mpr hk, rfl⟩
  · rcases List.mem_append.mp hs with hs | hs
    · rcases hpre with e | e
      · rw [e] at hs; cases hs
      · rw [e] at hs
        have : s = s0 := by simpa using hs
        subst this
        exact absurd (hn.symm.trans h0) (own_ne k (by omega))
    · rcases List.mem_append.mp hs with hs | hs
      · have : s = ⟨EvenG.WORTH, u, u * u / 3⟩ := by simpa [EvenG.sourcesOf] using hs
        subst this
        exact absurd hn.symm (own_ne2 k (by omega))
      · obtain ⟨j, _, rfl⟩ := List.mem_map.mp hs
        exact ⟨rfl, rfl⟩

theorem said_closed (x : EvenG.Held) (q u v w : Rat) (h1 : x.plan.counts.length = x.plan.steps.length) (h2 : x.readings.length = x.plan.steps.length) (h64 : x.plan.steps.length ≤ 64) :
    EvenG.saidNum x 0 q u v w = q * cN (x.plan.counts.zip x.readings) ∧
    EvenG.saidNum x 1 q u v w = size (cN (x.plan.counts.zip x.readings)) * u + size q * (v * cA x.plan.counts) + u * (v * cA x.plan.counts) ∧
    EvenG.saidNum x 2 q u v w = cN (x.plan.counts.zip x.readings) * cN (x.plan.counts.zip x.readings) * (u * u / 3) + q * q * (w * cS x.plan.counts) + (u * (v * cA x.plan.counts)) * (u * (v * cA x.plan.counts)) / 3 := by
  have hlen : (x.plan.counts.zip x.readings).length = x.plan.steps.length := by rw [List.length_zip]; omega
  have hcnt : counted EvenG.OWN x.plan x.readings = cnt EvenG.OWN 0 (x.plan.counts.zip x.readings) := rfl
  generalize hL : x.plan.counts.zip x.readings = L at *
  have hb : (cnt EvenG.OWN 0 L).num = cN L := cnt_num _ L 0
  have hA : total (L.map fun z => size z.1) = cA x.plan.counts := by rw [← hL]; exact total_fst size _ _ (by omega)
  have hS : total (L.map fun z => z.1 * z.1) = cS x.plan.counts := by rw [← hL]; exact total_fst (fun q => q * q) _ _ (by omega)
  -- the two reaches of the product
  have rx : (EvenG.worthOf q u).form.reach (EvenG.sourcesOf u ++ readingSources EvenG.OWN x.plan v w) = u := by
    unfold EvenG.worthOf
    by_cases hu : u = 0
    · simp only [if_pos hu]; rw [hu]; rfl
    · simp only [if_neg hu]
      show size 1 * u + 0 = u
      rw [size_one, Rat.one_mul, Rat.add_zero]
  have ry : (cnt EvenG.OWN 0 L).form.reach (EvenG.sourcesOf u ++ readingSources EvenG.OWN x.plan v w) = v * cA x.plan.counts := by
    have := (cnt_form (g := fun n a => size a * (Sources.find (EvenG.sourcesOf u ++ readingSources EvenG.OWN x.plan v w) n).most) (fun w => by rw [size_zero, Rat.zero_mul]) (fun a => size a * v) L 0 (by omega) (fun k _ hk a => by
      have := (src_find ⟨EvenG.OWN, 0, 0⟩ rfl u v w x.plan [] (.inl rfl) k (by omega) h64).1
      exact congrArg (fun z => size a * z) this)).1
    rw [← hA, ← total_mul v size (fun a => size a * v) (fun a => Rat.mul_comm _ _) L, ← this]
    rfl
  have hm : Eb.Balance.says (EvenG.sourcesOf u) EvenG.OWN x.plan x.readings (EvenG.worthOf q u) v w =
      (⟨q * cN L, ((Form.times (cN L) (EvenG.worthOf q u).form).plus (Form.times q (cnt EvenG.OWN 0 L).form)).plus (if u * (v * cA x.plan.counts) = 0 then [] else [(EvenG.OWN, 1)])⟩,
        ⟨EvenG.OWN, u * (v * cA x.plan.counts), (u * (v * cA x.plan.counts)) * (u * (v * cA x.plan.counts)) / 3⟩) := by
    unfold Eb.Balance.says product
    rw [hcnt, rx, ry, hb]; rfl
  refine ⟨?_, ?_, ?_⟩
  · unfold EvenG.saidNum; rw [hm]; rfl
  · unfold EvenG.saidNum; rw [hm]
    generalize hr : u * (v * cA x.plan.counts) = rr at *
    show fsum (fun n a => size a * (Sources.find ([(⟨EvenG.OWN, rr, rr * rr / 3⟩ : Source)] ++ (EvenG.sourcesOf u ++ readingSources EvenG.OWN x.plan v w)) n).most) _ = _
    rw [prod_form (fun w => by rw [size_zero, Rat.zero_mul]) (fun a => size a * v) q u (cN L) rr L (by omega) (fun k hk a => by
      have := (src_find ⟨EvenG.OWN, rr, rr * rr / 3⟩ rfl u v w x.plan _ (.inr rfl) k (by omega) h64).1
      exact congrArg (fun z => size a * z) this)]
    have fW : (Sources.find ([(⟨EvenG.OWN, rr, rr * rr / 3⟩ : Source)] ++ (EvenG.sourcesOf u ++ readingSources EvenG.OWN x.plan v w)) EvenG.WORTH).most = u := rfl
    have fO : (Sources.find ([(⟨EvenG.OWN, rr, rr * rr / 3⟩ : Source)] ++ (EvenG.sourcesOf u ++ readingSources EvenG.OWN x.plan v w)) EvenG.OWN).most = rr := rfl
    rw [fW, fO, total_mul (size q * v) size (fun a => size (q * a) * v) (fun a => by rw [size_mul]; grind) L, hA, size_one]
    by_cases hu : u = 0 <;> by_cases hr0 : rr = 0 <;> simp only [hu, hr0, if_true, if_false] <;> grind
  · unfold EvenG.saidNum; rw [hm]
    generalize hr : u * (v * cA x.plan.counts) = rr at *
    show fsum (fun n a => a * a * (Sources.find ([(⟨EvenG.OWN, rr, rr * rr / 3⟩ : Source)] ++ (EvenG.sourcesOf u ++ readingSources EvenG.OWN x.plan v w)) n).square) _ = _
    rw [prod_form (fun w => by rw [Rat.zero_mul, Rat.zero_mul]) (fun a => a * a * w) q u (cN L) rr L (by omega) (fun k hk a => by
      have := (src_find ⟨EvenG.OWN, rr, rr * rr / 3⟩ rfl u v w x.plan _ (.inr rfl) k (by omega) h64).2
      exact congrArg (fun z => a * a * z) this)]
    have fW : (Sources.find ([(⟨EvenG.OWN, rr, rr * rr / 3⟩ : Source)] ++ (EvenG.sourcesOf u ++ readingSources EvenG.OWN x.plan v w)) EvenG.WORTH).square = u * u / 3 := rfl
    have fO : (Sources.find ([(⟨EvenG.OWN, rr, rr * rr / 3⟩ : Source)] ++ (EvenG.sourcesOf u ++ readingSources EvenG.OWN x.plan v w)) EvenG.OWN).square = rr * rr / 3 := rfl
    rw [fW, fO, total_mul (q * q * w) (fun a => a * a) (fun a => (q * a) * (q * a) * w) (fun a => by grind) L, hS]
    by_cases hu : u = 0 <;> by_cases hr0 : rr = 0 <;> simp only [hu, hr0, if_true, if_false] <;> grind
end My
end

section
namespace My
open Eb Eb.Num

/-- a size: digits, and what stands behind them -/
def sizeB (a r : List UInt8) : Option Rat := match r with
  | [] => some (((number a : Nat) : Rat))
  | c :: d => if d = [] ∨ (d.takeWhile isDigit).length < d.length then none
    else if c = 46 then some (((number (a ++ d) : Nat) : Rat) / ((10 ^ d.length : Nat) : Rat))
    else if c = 47 ∧ number d ≠ 0 then some (((number a : Nat) : Rat) / ((number d : Nat) : Rat)) else none

theorem tw_all {d : List UInt8} (h : ¬ (d.takeWhile isDigit).length < d.length) : d.takeWhile isDigit = d := by
  have h1 : (d.takeWhile isDigit) <+: d := List.takeWhile_prefix _
  exact h1.eq_of_length (Nat.le_antisymm h1.length_le (Nat.not_lt.mp h))
theorem tw_le (d : List UInt8) : (d.takeWhile isDigit).length ≤ d.length := (List.takeWhile_prefix _).length_le

/-- what a part says, if nothing stands behind it -/
def whole? (x : Except Nat (Rat × List UInt8)) : Option Rat := match x with
  | .error _ => none
  | .ok x => if x.2 = [] then some x.1 else none

theorem part_eq (p : Nat) (s : List UInt8) (hs : s.length ≤ 512) : whole? (partAt p s) = if s.takeWhile isDigit = [] then none else sizeB (s.takeWhile isDigit) (s.drop (s.takeWhile isDigit).length) := by
  have hl := tw_le s
  unfold partAt
  simp only []
  by_cases ha : s.takeWhile isDigit = []
  · simp only [if_pos ha]; rfl
  · simp only [if_neg ha]
    have h1 : ¬ DIGITS < (s.takeWhile isDigit).length := by unfold DIGITS; omega
    rw [if_neg h1]
    have hr : (s.drop (s.takeWhile isDigit).length).length ≤ 512 := by rw [List.length_drop]; omega
    generalize s.drop (s.takeWhile isDigit).length = r at hr
    match r, hr with
    | [], _ => rfl
    | c :: t, hr =>
      have hb := tw_le t
      have ht : t.length ≤ 512 := by simp at hr; omega
      have h2 : ¬ DIGITS < (t.takeWhile isDigit).length := by unfold DIGITS; omega
      by_cases h46 : c = 46
      · subst h46
        simp only [if_neg h2, sizeB]
        by_cases hb0 : t.takeWhile isDigit = []
        · rw [if_pos hb0]
          by_cases ht0 : t = []
          · rw [if_pos (.inl ht0)]; rfl
          · rw [if_pos (.inr (by rw [hb0]; exact List.length_pos_iff.mpr ht0))]; rfl
        · rw [if_neg hb0]
          by_cases hlt : (t.takeWhile isDigit).length < t.length
          · rw [if_pos (.inr hlt)]
            show (if t.drop (t.takeWhile isDigit).length = [] then _ else none) = none
            rw [if_neg]
            intro e
            have := congrArg List.length e
            rw [List.length_drop] at this
            simp at this; omega
          · have e := tw_all hlt
            rw [e] at hb0
            rw [if_neg (by rw [e]; simp [hb0])]
            show (if t.drop (t.takeWhile isDigit).length = [] then some (((number (_ ++ t.takeWhile isDigit) : Nat) : Rat) / ((10 ^ (t.takeWhile isDigit).length : Nat) : Rat)) else none) = _
            rw [e, if_pos (by simp), if_pos trivial]
      · by_cases h47 : c = 47
        · subst h47
          simp only [if_neg h2, sizeB]
          by_cases hb0 : t.takeWhile isDigit = []
          · rw [if_pos hb0]
            by_cases ht0 : t = []
            · rw [if_pos (.inl ht0)]; rfl
            · rw [if_pos (.inr (by rw [hb0]; exact List.length_pos_iff.mpr ht0))]; rfl
          · rw [if_neg hb0]
            by_cases hlt : (t.takeWhile isDigit).length < t.length
            · by_cases hz : number (t.takeWhile isDigit) = 0
              · rw [if_pos hz, if_pos (.inr hlt)]; rfl
              · rw [if_neg hz, if_pos (.inr hlt)]
                show (if t.drop (t.takeWhile isDigit).length = [] then _ else none) = none
                rw [if_neg]
                intro e
                have := congrArg List.length e
                rw [List.length_drop] at this
                simp at this; omega
            · have e := tw_all hlt
              rw [e] at hb0
              rw [if_neg (show ¬ (t = [] ∨ (t.takeWhile isDigit).length < t.length) by rw [e]; simp [hb0]), if_neg (show ¬ ((47 : UInt8) = 46) by decide), e]
              by_cases hz : number t = 0
              · rw [if_pos hz, if_neg (by simp [hz])]; rfl
              · rw [if_neg hz, if_pos ⟨trivial, hz⟩]
                show (if t.drop t.length = [] then some (((number _ : Nat) : Rat) / ((number t : Nat) : Rat)) else none) = _
                rw [if_pos (by simp)]
        · have e1 : sizeB (s.takeWhile isDigit) (c :: t) = none := by
            unfold sizeB
            simp only []
            split
            · rfl
            · simp [h46, h47]
          rw [e1]
          split
          · rename_i e; injection e with e _; exact absurd e h46
          · rename_i e; injection e with e _; exact absurd e h47
          · rfl

theorem numOf_eq (s : List UInt8) : EvenG.numOf s = if 512 < s.length then none else
    if (s.drop (if s.take 1 = [45] then 1 else 0)).takeWhile isDigit = [] then none
    else (sizeB ((s.drop (if s.take 1 = [45] then 1 else 0)).takeWhile isDigit) (s.drop ((if s.take 1 = [45] then 1 else 0) + ((s.drop (if s.take 1 = [45] then 1 else 0)).takeWhile isDigit).length))).map fun q => if s.take 1 = [45] then -q else q := by
  unfold EvenG.numOf
  by_cases hl : 512 < s.length
  · rw [if_pos hl]; exact if_pos hl
  · rw [if_neg hl]
    show (if 512 < s.length then none else _) = _
    rw [if_neg hl]
    have e0 : (match readNum s with | .ok q => some q | .error _ => none) = whole? (signedAt 0 s) := by
      unfold readNum whole?
      cases signedAt 0 s with
      | error k => rfl
      | ok x =>
        simp only []
        by_cases h : x.2 = []
        · simp only [if_pos h]
        · simp only [if_neg h]
    refine Eq.trans (b := whole? (signedAt 0 s)) e0 ?_
    clear e0
    match s, hl with
    | [], _ => rfl
    | c :: t, hl =>
      by_cases h45 : c = 45
      · subst h45
        have e1 : (45 :: t : List UInt8).take 1 = [45] := rfl
        simp only [e1, if_true]
        have e2 := part_eq 1 t (by simp at hl; omega)
        show whole? ((partAt 1 t).map fun (x : Rat × List UInt8) => (-x.1, x.2)) = if t.takeWhile isDigit = [] then none else (sizeB (t.takeWhile isDigit) ((45 :: t).drop (1 + (t.takeWhile isDigit).length))).map _
        have e3 : whole? ((partAt 1 t).map fun (x : Rat × List UInt8) => (-x.1, x.2)) = (whole? (partAt 1 t)).map fun q => -q := by
          cases partAt 1 t with
          | error k => rfl
          | ok x =>
            show (if x.2 = [] then some (-x.1) else none) = (if x.2 = [] then some x.1 else none).map fun q => -q
            by_cases h : x.2 = []
            · rw [if_pos h, if_pos h]; rfl
            · rw [if_neg h, if_neg h]; rfl
        rw [e3, e2]
        have e4 : (45 :: t : List UInt8).drop (1 + (t.takeWhile isDigit).length) = t.drop (t.takeWhile isDigit).length := by
          rw [Nat.add_comm]; rfl
        rw [e4]
        by_cases h : t.takeWhile isDigit = []
        · rw [if_pos h, if_pos h]; rfl
        · rw [if_neg h, if_neg h]
      · have e1 : ¬ (c :: t : List UInt8).take 1 = [45] := by simp [h45]
        simp only [if_neg e1, List.drop_zero, Nat.zero_add]
        have e2 : signedAt 0 (c :: t) = partAt 0 (c :: t) := by
          unfold signedAt
          split
          · rename_i e; injection e with e _; exact absurd e h45
          · rfl
        rw [e2, part_eq 0 (c :: t) (by omega)]
        by_cases h : (c :: t).takeWhile isDigit = []
        · rw [if_pos h, if_pos h]
        · rw [if_neg h, if_neg h]
          simp
end My
end

section
namespace My
open Eb Eb.Balance EvenG

/-! ### all of them, or none -/
theorem allOf_snoc {q : Rat} : ∀ {A : List (Option Rat)} {qs : List Rat}, allOf A = some qs → allOf (A ++ [some q]) = some (qs ++ [q])
  | [], qs, h => by cases h; rfl
  | none :: A, qs, h => by cases h
  | some a :: A, qs, h => by
    have h' : (allOf A).map (fun (l : List Rat) => a :: l) = some qs := h
    cases e : allOf A with
    | none => rw [e] at h'; cases h'
    | some r =>
      rw [e] at h'
      cases h'
      show (allOf (A ++ [some q])).map (fun (l : List Rat) => a :: l) = _
      rw [allOf_snoc e]; rfl
theorem allOf_none : ∀ {A : List (Option Rat)}, none ∈ A → allOf A = none
  | none :: A, _ => rfl
  | some a :: A, h => by
    have h' : none ∈ A := by simpa using h
    show (allOf A).map (fun (l : List Rat) => a :: l) = none
    rw [allOf_none h']; rfl
/-- a count that's handed over -/
def cntOf (p : List UInt8) : Option Rat := match numOf p with
  | none => none
  | some q => if countFits q = true then some q else none
theorem allOf_fits : ∀ (ps : List (List UInt8)), allOf (ps.map cntOf) = match allOf (ps.map numOf) with
    | none => none
    | some l => if l.all countFits = true then some l else none
  | [] => rfl
  | p :: ps => by
    have ih := allOf_fits ps
    show allOf (cntOf p :: ps.map cntOf) = match allOf (numOf p :: ps.map numOf) with
      | none => none
      | some l => if l.all countFits = true then some l else none
    cases e : numOf p with
    | none =>
      have : cntOf p = none := by unfold cntOf; rw [e]
      rw [this]; rfl
    | some q =>
      show _ = match (allOf (ps.map numOf)).map (fun (l : List Rat) => q :: l) with
        | none => none
        | some l => if l.all countFits = true then some l else none
      by_cases hq : countFits q = true
      · have : cntOf p = some q := by unfold cntOf; rw [e]; simp only [hq, if_true]
        rw [this]
        show (allOf (ps.map cntOf)).map (fun (l : List Rat) => q :: l) = _
        rw [ih]
        cases allOf (ps.map numOf) with
        | none => rfl
        | some l =>
          show (if l.all countFits = true then some l else none).map (fun (l : List Rat) => q :: l) = if (countFits q && l.all countFits) = true then some (q :: l) else none
          rw [hq, Bool.true_and]
          by_cases h : l.all countFits = true
          · rw [if_pos h, if_pos h]; rfl
          · rw [if_neg h, if_neg h]; rfl
      · have : cntOf p = none := by unfold cntOf; rw [e]; simp only [hq]; rfl
        rw [this]
        cases allOf (ps.map numOf) with
        | none => rfl
        | some l =>
          show none = if (countFits q && l.all countFits) = true then some (q :: l) else none
          rw [if_neg]
          simp [hq]
/-- the counts that a text tells -/
def countsOf (t : List UInt8) : Option (List Rat) := if 4096 < t.length then none else allOf ((partsOf t []).map cntOf)
def goesOut (l : List Rat) (degree : Nat) : Prop := ∀ k, k ≤ degree → (⟨[], l, 0⟩ : Plan).moment k = 0
instance (l d) : Decidable (goesOut l d) := decidable_of_iff (∀ k, k < d + 1 → (⟨[], l, 0⟩ : Plan).moment k = 0) ⟨fun h k hk => h k (by omega), fun h k hk => h k (by omega)⟩
theorem planOf_eq (loads : List Nat) (t : List UInt8) (degree : Nat) : planOf loads t degree =
    if degree ≤ 8 ∧ 1 ≤ loads.length ∧ loads.length ≤ 64 ∧ (∀ j ∈ loads, j ≤ 15) then
      match countsOf t with
      | none => none
      | some l => if l.length = loads.length ∧ goesOut l degree then some ⟨loads, l, degree⟩ else none
    else none := by
  have hR : ∀ l : List Rat, (⟨loads, l, degree⟩ : Plan).right = true ↔ (degree ≤ 8 ∧ 1 ≤ loads.length ∧ loads.length ≤ 64 ∧ (∀ j ∈ loads, j ≤ 15)) ∧ l.length = loads.length ∧ goesOut l degree := fun l => by
    unfold Plan.right
    rw [Bool.and_eq_true, Bool.and_eq_true, Bool.and_eq_true, Bool.and_eq_true, Bool.and_eq_true]
    constructor
    · rintro ⟨⟨⟨⟨⟨h1, h2⟩, h3⟩, h4⟩, h5⟩, h6⟩
      refine ⟨⟨of_decide_eq_true h4, of_decide_eq_true h1, of_decide_eq_true h2, fun j hj => Nat.le_of_lt_succ (of_decide_eq_true (List.all_eq_true.mp h5 j hj))⟩, of_decide_eq_true h3, fun k hk => ?_⟩
      exact beq_iff_eq.mp (List.all_eq_true.mp h6 k (List.mem_range.mpr (Nat.lt_succ_of_le hk)))
    · rintro ⟨⟨h4, h1, h2, h5⟩, h3, h6⟩
      refine ⟨⟨⟨⟨⟨decide_eq_true h1, decide_eq_true h2⟩, decide_eq_true h3⟩, decide_eq_true h4⟩, List.all_eq_true.mpr fun j hj => decide_eq_true (Nat.lt_succ_of_le (h5 j hj))⟩, List.all_eq_true.mpr fun k hk => ?_⟩
      exact beq_iff_eq.mpr (h6 k (Nat.le_of_lt_succ (List.mem_range.mp hk)))
  unfold planOf countsOf
  show (if 4096 < t.length then none else _) = _
  by_cases hl : 4096 < t.length
  · simp only [if_pos hl]
    split <;> rfl
  · simp only [if_neg hl]
    rw [allOf_fits]
    cases allOf ((partsOf t []).map numOf) with
    | none => simp only []; split <;> rfl
    | some l =>
      simp only []
      by_cases hf : l.all countFits = true
      · rw [if_pos hf]
        simp only [hf, Bool.and_true]
        by_cases hr : (⟨loads, l, degree⟩ : Plan).right = true
        · have h := (hR l).mp hr
          rw [if_pos hr, if_pos h.1, if_pos h.2]
        · rw [if_neg hr]
          by_cases h1 : degree ≤ 8 ∧ 1 ≤ loads.length ∧ loads.length ≤ 64 ∧ (∀ j ∈ loads, j ≤ 15)
          · rw [if_pos h1, if_neg (fun h2 => hr ((hR l).mpr ⟨h1, h2⟩))]
          · rw [if_neg h1]
      · rw [if_neg hf]
        have : ((⟨loads, l, degree⟩ : Plan).right && l.all countFits) = false := by simp [hf]
        rw [if_neg (by rw [this]; decide)]
        split <;> rfl
theorem countsOf_fits {t : List UInt8} {l : List Rat} (h : countsOf t = some l) : ∀ q ∈ l, countFits q = true := by
  unfold countsOf at h
  by_cases hl : 4096 < t.length
  · rw [if_pos hl] at h; cases h
  · rw [if_neg hl, allOf_fits] at h
    cases e : allOf ((partsOf t []).map numOf) with
    | none => rw [e] at h; cases h
    | some l' =>
      rw [e] at h
      simp only [] at h
      by_cases hf : l'.all countFits = true
      · rw [if_pos hf] at h
        cases h
        exact List.all_eq_true.mp hf
      · rw [if_neg hf] at h; cases h

/-! ### the powers' sums over one denominator -/
def comm (qs : List Rat) : Nat := qs.foldl (fun m q => Nat.lcm m q.den) 1
theorem foldl_lcm_dvd : ∀ (qs : List Rat) (m : Nat), m ∣ qs.foldl (fun m q => Nat.lcm m q.den) m ∧ (∀ q ∈ qs, q.den ∣ qs.foldl (fun m q => Nat.lcm m q.den) m) ∧ (0 < m → 0 < qs.foldl (fun m q => Nat.lcm m q.den) m)
  | [], m => ⟨Nat.dvd_refl _, ⟨fun q h => (by cases h), fun h => h⟩⟩
  | q :: qs, m => by
    obtain ⟨h1, h2, h3⟩ := foldl_lcm_dvd qs (Nat.lcm m q.den)
    refine ⟨Nat.dvd_trans (Nat.dvd_lcm_left _ _) h1, fun r hr => ?_, fun hm => h3 (Nat.lcm_pos hm q.den_pos)⟩
    rcases List.mem_cons.mp hr with rfl | hr
    · exact Nat.dvd_trans (Nat.dvd_lcm_right _ _) h1
    · exact h2 r hr
theorem comm_dvd {qs : List Rat} {q : Rat} (h : q ∈ qs) : q.den ∣ comm qs := (foldl_lcm_dvd qs 1).2.1 q h
theorem comm_pos (qs : List Rat) : 0 < comm qs := (foldl_lcm_dvd qs 1).2.2 (by decide)

theorem mul_den (q : Rat) : q * (q.den : Rat) = (q.num : Rat) := by
  have h : (q.num : Rat) / (q.den : Rat) = q := (Rat.mkRat_eq_div q.num q.den).symm.trans (Rat.mkRat_self q)
  have hd : (q.den : Rat) ≠ 0 := fun e => q.den_nz (Rat.natCast_eq_zero_iff.mp e)
  have h2 := Rat.div_mul_cancel (a := (q.num : Rat)) hd
  rw [h] at h2
  exact h2
theorem cast_top (q : Rat) (M : Nat) (h : q.den ∣ M) : ((q.num * ((M : Int) / (q.den : Int)) : Int) : Rat) = q * (M : Rat) := by
  obtain ⟨c, rfl⟩ := h
  have hd : (q.den : Int) ≠ 0 := by have := q.den_pos; omega
  have h1 : (((q.den * c : Nat) : Int) / (q.den : Int)) = (c : Int) := by
    rw [Int.natCast_mul]
    exact Int.mul_ediv_cancel_left _ hd
  rw [h1, Rat.intCast_mul, Rat.natCast_mul]
  have h2 : q * (q.den : Rat) = (q.num : Rat) := mul_den q
  rw [Rat.intCast_natCast]
  grind
/-- the terms of the k-th sum -/
def termsAt (M : Nat) (qs : List Rat) (i k : Nat) : List Int := (qs.zipIdx i).map fun z => z.1.num * ((M : Int) / (z.1.den : Int)) * ((z.2 ^ k : Nat) : Int)
theorem terms_sum (M k : Nat) : ∀ (qs : List Rat) (i : Nat), (∀ q ∈ qs, q.den ∣ M) → (((termsAt M qs i k).sum : Int) : Rat) = total ((qs.zipIdx i).map fun (z : Rat × Nat) => z.1 * (((z.2 ^ k : Nat) : Nat) : Rat)) * (M : Rat)
  | [], i, _ => (Rat.zero_mul _).symm
  | q :: qs, i, h => by
    have ih := terms_sum M k qs (i + 1) (fun r hr => h r (List.mem_cons_of_mem _ hr))
    have e1 : (termsAt M (q :: qs) i k).sum = q.num * ((M : Int) / (q.den : Int)) * ((i ^ k : Nat) : Int) + (termsAt M qs (i + 1) k).sum := by
      unfold termsAt; rw [List.zipIdx_cons, List.map_cons, List.sum_cons]
    have e2 : total (((q :: qs).zipIdx i).map fun (z : Rat × Nat) => z.1 * (((z.2 ^ k : Nat) : Nat) : Rat)) = q * ((i ^ k : Nat) : Rat) + total ((qs.zipIdx (i + 1)).map fun (z : Rat × Nat) => z.1 * (((z.2 ^ k : Nat) : Nat) : Rat)) := rfl
    rw [e1, e2, Rat.intCast_add, ih, Rat.intCast_mul, cast_top q M (h q List.mem_cons_self)]
    have h3 : (((i ^ k : Nat) : Int) : Rat) = ((i ^ k : Nat) : Rat) := Rat.intCast_natCast _
    rw [h3]
    generalize ((i ^ k : Nat) : Rat) = y
    grind
theorem moment_iff (qs : List Rat) (k : Nat) (s : List Nat) (d : Nat) : (termsAt (comm qs) qs 0 k).sum = 0 ↔ (⟨s, qs, d⟩ : Plan).moment k = 0 := by
  have h := terms_sum (comm qs) k qs 0 (fun q hq => comm_dvd hq)
  have hM : ((comm qs : Nat) : Rat) ≠ 0 := by
    have := comm_pos qs
    have h2 := Rat.natCast_pos.mpr this
    grind
  have e : (⟨s, qs, d⟩ : Plan).moment k = total ((qs.zipIdx 0).map fun (z : Rat × Nat) => z.1 * (((z.2 ^ k : Nat) : Nat) : Rat)) := rfl
  rw [e]
  constructor
  · intro h0
    rw [h0] at h
    have : total ((qs.zipIdx 0).map fun (z : Rat × Nat) => z.1 * (((z.2 ^ k : Nat) : Nat) : Rat)) * ((comm qs : Nat) : Rat) = 0 := h.symm
    rcases Rat.mul_eq_zero.mp this with h | h
    · exact h
    · exact absurd h hM
  · intro h0
    rw [h0, Rat.zero_mul] at h
    exact Rat.intCast_eq_zero_iff.mp h
theorem terms_zero (M : Nat) : ∀ (qs : List Rat) (i : Nat), termsAt M qs i 0 = qs.map fun q => q.num * ((M : Int) / (q.den : Int))
  | [], _ => rfl
  | q :: qs, i => by
    have ih := terms_zero M qs (i + 1)
    unfold termsAt at ih ⊢
    rw [List.zipIdx_cons, List.map_cons, ih, List.map_cons]
    simp
theorem terms_next (M k : Nat) : ∀ (qs : List Rat) (i : Nat), termsAt M qs i (k + 1) = ((termsAt M qs i k).zipIdx i).map fun z => z.1 * (z.2 : Int)
  | [], _ => rfl
  | q :: qs, i => by
    have ih := terms_next M k qs (i + 1)
    unfold termsAt at ih ⊢
    rw [List.zipIdx_cons, List.map_cons, ih, List.map_cons, List.zipIdx_cons, List.map_cons]
    congr 1
    simp only [Nat.pow_succ, Int.natCast_mul, Int.mul_assoc]
theorem terms_len (M : Nat) (qs : List Rat) (i k : Nat) : (termsAt M qs i k).length = qs.length := by
  unfold termsAt; rw [List.length_map, List.length_zipIdx]
end My
end

section
namespace My
open PyWqbbbk

def putR (x : List Int) : List Int := (x.length : Int) :: x
/-- a call as it lies ahead of a rest -/
inductive Lies : List Int → List (List Int) → List Int → Prop
  | begin_ (d : Int) (r0 r1 t : List Int) : Lies (0 :: d :: (putR r0 ++ (putR r1 ++ t))) [[0, d], r0, r1] t
  | take (x : Int) (t : List Int) : Lies (1 :: x :: t) [[1, x]] t
  | state (t : List Int) : Lies (2 :: t) [[2]] t
  | reading (x : Int) (t : List Int) : Lies (3 :: x :: t) [[3, x]] t
  | back (x : Int) (t : List Int) : Lies (4 :: x :: t) [[4, x]] t
  | comes (x : Int) (t : List Int) : Lies (5 :: x :: t) [[5, x]] t
  | says (x : Int) (r0 r1 r2 r3 t : List Int) : Lies (6 :: x :: (putR r0 ++ (putR r1 ++ (putR r2 ++ (putR r3 ++ t))))) [[6, x], r0, r1, r2, r3] t

theorem row_lies {l x s : List Int} (h : PyFlat.row l = some (x, s)) : l = putR x ++ s := by
  match l, h with
  | n :: r, h =>
    unfold PyFlat.row at h
    simp only [] at h
    split at h
    · rename_i hn
      have h' := Option.some.inj h
      injection h' with e1 e2
      subst e1 e2
      unfold putR
      rw [List.length_take, List.cons_append, List.take_append_drop, Nat.min_eq_left hn.2]
      congr 1; omega
    · cases h
theorem rows_lies : ∀ {k : Nat} {l : List Int} {xs : List (List Int)} {t : List Int}, PyFlat.rows k l = some (xs, t) → xs.length = k ∧ l = (xs.map putR).flatten ++ t
  | 0, l, xs, t, h => by
    unfold PyFlat.rows at h
    injection h with h
    injection h with e1 e2
    subst e1 e2
    exact ⟨rfl, rfl⟩
  | k + 1, l, xs, t, h => by
    unfold PyFlat.rows at h
    cases e : PyFlat.row l with
    | none => rw [e] at h; cases h
    | some xs1 =>
      obtain ⟨x, s⟩ := xs1
      rw [e] at h
      simp only [] at h
      cases e2 : PyFlat.rows k s with
      | none => rw [e2] at h; cases h
      | some ys =>
        obtain ⟨ys, t'⟩ := ys
        rw [e2] at h
        injection h with h
        injection h with h1 h2
        subst h1 h2
        obtain ⟨a, b⟩ := rows_lies e2
        refine ⟨by simp [a], ?_⟩
        rw [row_lies e, b]
        simp
theorem call_lies {l : List Int} {c : List (List Int)} {t : List Int} (h : PyFlat.call shape l = some (c, t)) : Lies l c t := by
  match l, h with
  | p :: r, h =>
    unfold PyFlat.call at h
    simp only [] at h
    have key : ∀ n k, shape p = some (n, k) → n ≤ r.length ∧ ∃ xs : List (List Int), xs.length = k ∧ c = (p :: r.take n) :: xs ∧ r = r.take n ++ ((xs.map putR).flatten ++ t) := fun n k hs => by
      rw [hs] at h
      simp only [] at h
      split at h
      · cases h
      · rename_i hn
        cases e : PyFlat.rows k (r.drop n) with
        | none => rw [e] at h; cases h
        | some ys =>
          obtain ⟨xs, t'⟩ := ys
          rw [e] at h
          injection h with h
          injection h with h1 h2
          subst h1 h2
          obtain ⟨a, b⟩ := rows_lies e
          exact ⟨Nat.le_of_not_lt hn, xs, a, rfl, by rw [← b, List.take_append_drop]⟩
    by_cases h0 : p = 0
    · subst h0
      obtain ⟨hn, xs, hx, hc, hr⟩ := key 1 2 rfl
      match r, hn, xs, hx with
      | d :: r', _, [r0, r1], _ =>
        rw [hc, hr]
        have := Lies.begin_ d r0 r1 t
        simpa using this
    · by_cases h1 : p = 1
      · subst h1
        obtain ⟨hn, xs, hx, hc, hr⟩ := key 1 0 rfl
        match r, hn, xs, hx with
        | d :: r', _, [], _ => rw [hc, hr]; exact Lies.take d t
      · by_cases h2 : p = 2
        · subst h2
          obtain ⟨hn, xs, hx, hc, hr⟩ := key 0 0 rfl
          match xs, hx with
          | [], _ => rw [hc, hr]; exact Lies.state t
        · by_cases h3 : p = 3
          · subst h3
            obtain ⟨hn, xs, hx, hc, hr⟩ := key 1 0 rfl
            match r, hn, xs, hx with
            | d :: r', _, [], _ => rw [hc, hr]; exact Lies.reading d t
          · by_cases h4 : p = 4
            · subst h4
              obtain ⟨hn, xs, hx, hc, hr⟩ := key 1 0 rfl
              match r, hn, xs, hx with
              | d :: r', _, [], _ => rw [hc, hr]; exact Lies.back d t
            · by_cases h5 : p = 5
              · subst h5
                obtain ⟨hn, xs, hx, hc, hr⟩ := key 1 0 rfl
                match r, hn, xs, hx with
                | d :: r', _, [], _ => rw [hc, hr]; exact Lies.comes d t
              · by_cases h6 : p = 6
                · subst h6
                  obtain ⟨hn, xs, hx, hc, hr⟩ := key 1 4 rfl
                  match r, hn, xs, hx with
                  | d :: r', _, [r0, r1, r2, r3], _ =>
                    rw [hc, hr]
                    have := Lies.says d r0 r1 r2 r3 t
                    simpa using this
                · have : shape p = none := by
                    unfold shape
                    rw [if_neg h0, if_neg h1, if_neg h2, if_neg h3, if_neg h4, if_neg h5, if_neg h6]
                  rw [this] at h
                  cases h
theorem calls_next {f : Nat} {l : List Int} {cs : List (List (List Int))} (h : PyFlat.calls shape f l = some cs) (hl : l ≠ []) : ∃ c t cs' f', cs = c :: cs' ∧ PyFlat.calls shape f' t = some cs' ∧ Lies l c t := by
  match f, l, h with
  | f, [], _ => exact absurd rfl hl
  | 0, _ :: _, h => cases h
  | f + 1, p :: r, h =>
    unfold PyFlat.calls at h
    cases e : PyFlat.call shape (p :: r) with
    | none => rw [e] at h; cases h
    | some ct =>
      obtain ⟨c, t⟩ := ct
      rw [e] at h
      simp only [] at h
      cases e2 : PyFlat.calls shape f t with
      | none => rw [e2] at h; cases h
      | some cs' =>
        rw [e2] at h
        injection h with h
        exact ⟨c, t, cs', f, h.symm, e2, call_lies e⟩
theorem calls_nil {f : Nat} {cs : List (List (List Int))} (h : PyFlat.calls shape f [] = some cs) : cs = [] := by
  cases f <;> (unfold PyFlat.calls at h; injection h with h; exact h.symm)
theorem whole_id (c : List (List Int)) : whole c = c := by
  unfold whole
  split <;> rfl
/-- what the calls that are left answer, from a state on -/
def rest (s : EvenGNeutral.S) (cs : List (List (List Int))) : List Int := PyFlat.told (PyFlat.played EvenGNeutral.step s cs)
theorem rest_cons (s c cs) : rest s (c :: cs) = (((EvenGNeutral.step s c).2.length : Int) :: (EvenGNeutral.step s c).2) ++ rest (EvenGNeutral.step s c).1 cs := rfl
theorem rest_nil (s) : rest s [] = [] := rfl
theorem asked_start {l : List Int} (h : answers_asked l = true) : ∃ cs, PyFlat.calls shape l.length l = some cs ∧ cs.length ≤ 400 ∧ (∀ c ∈ cs, EvenGNeutral.asked1 c = true) ∧ answers l = rest EvenGNeutral.start cs := by
  unfold answers_asked at h
  have hw : ∀ cs : List (List (List Int)), cs.map whole = cs := fun cs => by
    have : whole = id := funext whole_id
    rw [this, List.map_id]
  cases e : PyFlat.calls shape l.length l with
  | none =>
    have : calls l = none := by unfold calls; rw [e]
    rw [this] at h; cases h
  | some cs =>
    have hc : calls l = some cs := by unfold calls; rw [e]; simp only []; rw [hw]
    rw [hc] at h
    simp only [Bool.and_eq_true] at h
    refine ⟨cs, rfl, of_decide_eq_true h.1, fun c hc => List.all_eq_true.mp h.2 c hc, ?_⟩
    unfold answers
    rw [hc]; rfl

/-! bytes -/
def bI (c : UInt8) : Int := (c.toNat : Int)
theorem text_back {l : List Int} (h : l.all (fun (z : Int) => EvenGNeutral.natural z 8) = true) : (EvenGNeutral.text l).map bI = l := by
  induction l with
  | nil => rfl
  | cons z l ih =>
    have h' : EvenGNeutral.natural z 8 = true ∧ l.all (fun (z : Int) => EvenGNeutral.natural z 8) = true := by simpa using h
    have hz : 0 ≤ z ∧ z < 256 := by
      have := h'.1
      unfold EvenGNeutral.natural at this
      rw [Bool.and_eq_true] at this
      exact ⟨of_decide_eq_true this.1, of_decide_eq_true this.2⟩
    show bI (UInt8.ofNat z.toNat) :: (EvenGNeutral.text l).map bI = z :: l
    rw [ih h'.2]
    congr 1
    unfold bI
    have : (UInt8.ofNat z.toNat).toNat = z.toNat := by
      rw [UInt8.toNat_ofNat']
      exact Nat.mod_eq_of_lt (by omega)
    rw [this]; omega
theorem nats_back {l : List Int} (h : l.all (fun (z : Int) => EvenGNeutral.natural z 32) = true) : (EvenGNeutral.nats l).map (fun (n : Nat) => (n : Int)) = l := by
  induction l with
  | nil => rfl
  | cons z l ih =>
    have h' : EvenGNeutral.natural z 32 = true ∧ l.all (fun (z : Int) => EvenGNeutral.natural z 32) = true := by simpa using h
    have hz : 0 ≤ z := by
      have := h'.1
      unfold EvenGNeutral.natural at this
      rw [Bool.and_eq_true] at this
      exact of_decide_eq_true this.1
    show ((z.toNat : Nat) : Int) :: (EvenGNeutral.nats l).map _ = z :: l
    rw [ih h'.2]
    congr 1; omega
end My
end

section
namespace My
open Eb Eb.Num

theorem digits_fuel : ∀ (k j n : Nat), n < 2 ^ (k + 1) → n < 2 ^ (j + 1) → digitsIn (k + 1) n = digitsIn (j + 1) n
  | 0, j, n, h1, h2 => by
    have hn : n < 10 := by omega
    unfold digitsIn
    rw [if_pos hn, if_pos hn]
  | k + 1, 0, n, h1, h2 => by
    have hn : n < 10 := by omega
    unfold digitsIn
    rw [if_pos hn, if_pos hn]
  | k + 1, j + 1, n, h1, h2 => by
    have e1 : ∀ m, digitsIn (m + 1 + 1) n = (if n < 10 then [] else digitsIn (m + 1) (n / 10)) ++ [UInt8.ofNat (48 + n % 10)] := fun m => rfl
    rw [e1, e1]
    by_cases hn : n < 10
    · rw [if_pos hn, if_pos hn]
    · rw [if_neg hn, if_neg hn, digits_fuel k j (n / 10) (by rw [Nat.pow_succ] at h1; omega) (by rw [Nat.pow_succ] at h2; omega)]
theorem decimal_rec (n : Nat) : decimal n = (if n < 10 then [] else decimal (n / 10)) ++ [UInt8.ofNat (48 + n % 10)] := by
  unfold decimal
  rw [digitsIn]
  by_cases hn : n < 10
  · rw [if_pos hn, if_pos hn]
  · rw [if_neg hn, if_neg hn]
    congr 1
    have h0 := @Nat.lt_log2_self n
    cases e : Nat.log2 n with
    | zero => rw [e] at h0; omega
    | succ m =>
      rw [e] at h0
      exact digits_fuel m _ (n / 10) (by rw [Nat.pow_succ] at h0; omega) Nat.lt_log2_self
theorem digits_len : ∀ (k n : Nat), (digitsIn k n).length ≤ k
  | 0, n => Nat.le_refl _
  | k + 1, n => by
    rw [digitsIn, List.length_append]
    have := digits_len k (n / 10)
    split
    · simp
    · simp; omega
theorem decimal_len {n m : Nat} (h : n < 2 ^ m) (hm : 0 < m) : (decimal n).length ≤ m := by
  unfold decimal
  refine Nat.le_trans (digits_len _ _) ?_
  by_cases h0 : n = 0
  · subst h0; exact hm
  · exact (Nat.log2_lt h0).mpr h
theorem exact_len {q : Rat} (h : fits q = true) : (exactText q).length ≤ 8194 := by
  unfold fits at h
  rw [Bool.and_eq_true] at h
  have h1 := decimal_len (of_decide_eq_true h.1) (by decide)
  have h2 := decimal_len (of_decide_eq_true h.2) (by decide)
  unfold exactText
  rw [List.length_append, List.length_append]
  have e1 : (if q < 0 then Num.ascii "-" else []).length ≤ 1 := by split <;> decide
  have e2 : (if q.den = 1 then [] else Num.ascii "/" ++ decimal q.den).length ≤ 1 + 4096 := by
    split
    · decide
    · rw [List.length_append]
      have : (Num.ascii "/").length = 1 := rfl
      omega
  omega
end My
end

section
namespace My
open Eb Eb.Balance
/-! Sums of the counts' numerators over one denominator. -/
def tp (M : Nat) (q : Rat) : Int := q.num * ((M : Int) / (q.den : Int))
theorem cast_tp {M : Nat} {q : Rat} (h : q.den ∣ M) : ((tp M q : Int) : Rat) = q * (M : Rat) := cast_top q M h
theorem mk_of {S : Int} {M : Nat} {X : Rat} (hM : 0 < M) (h : (S : Rat) = X * (M : Rat)) : mkRat S M = X := by
  have hM0 : (M : Rat) ≠ 0 := by
    intro e
    have : M = 0 := by exact_mod_cast e
    omega
  rw [Rat.mkRat_eq_div, h]
  exact Rat.mul_div_cancel hM0
theorem cN_cons (q : Rat) (r : Int) (l : List (Rat × Int)) : cN ((q, r) :: l) = q * (r : Rat) + cN l := rfl
theorem sum_cN (M : Nat) : ∀ (qs : List Rat) (rs : List Int), (∀ q ∈ qs, q.den ∣ M) → (((List.zipWith (fun t r => t * r) (qs.map (tp M)) rs).sum : Int) : Rat) = cN (qs.zip rs) * (M : Rat)
  | [], _, _ => by
    show ((0 : Int) : Rat) = 0 * _
    rw [Rat.zero_mul]
    rfl
  | _ :: _, [], _ => by
    show ((0 : Int) : Rat) = 0 * _
    rw [Rat.zero_mul]
    rfl
  | q :: qs, r :: rs, h => by
    have ih := sum_cN M qs rs fun q hq => h q (List.mem_cons_of_mem _ hq)
    have e := cast_tp (h q (List.mem_cons_self ..))
    show (((tp M q * r + (List.zipWith (fun t r => t * r) (qs.map (tp M)) rs).sum : Int)) : Rat) = (q * (r : Rat) + cN (qs.zip rs)) * _
    rw [Rat.intCast_add, Rat.intCast_mul, ih, e]
    grind
theorem tp_size {M : Nat} (hM : 0 < M) {q : Rat} (h : q.den ∣ M) : (((if tp M q < 0 then -tp M q else tp M q : Int)) : Rat) = size q * (M : Rat) := by
  have hk : 0 < (M : Int) / (q.den : Int) := by
    obtain ⟨k, rfl⟩ := h
    rw [Int.natCast_mul, Int.mul_ediv_cancel_left _ (by have := q.den_pos; omega)]
    have : k ≠ 0 := fun e => by rw [e, Nat.mul_zero] at hM; omega
    omega
  have hn : tp M q < 0 ↔ q < 0 := by
    unfold tp
    constructor
    · intro hlt
      refine Rat.not_le.mp fun z => ?_
      have := Int.mul_nonneg (Rat.num_nonneg.mpr z) (Int.le_of_lt hk)
      omega
    · intro hlt
      have hq : q.num < 0 := Int.not_le.mp fun z => Rat.not_le.mpr hlt (Rat.num_nonneg.mp z)
      exact Int.mul_neg_of_neg_of_pos hq hk
  have e := cast_tp h
  unfold size
  by_cases hq : q < 0
  · rw [if_pos (hn.mpr hq), if_pos hq, Rat.intCast_neg, e, Rat.neg_mul]
  · rw [if_neg (fun z => hq (hn.mp z)), if_neg hq, e]
theorem sum_cA (M : Nat) (hM : 0 < M) : ∀ (qs : List Rat), (∀ q ∈ qs, q.den ∣ M) → ((((qs.map (tp M)).map fun t => if t < 0 then -t else t).sum : Int) : Rat) = cA qs * (M : Rat)
  | [], _ => by
    show ((0 : Int) : Rat) = 0 * _
    rw [Rat.zero_mul]
    rfl
  | q :: qs, h => by
    have ih := sum_cA M hM qs fun q hq => h q (List.mem_cons_of_mem _ hq)
    have e := tp_size hM (h q (List.mem_cons_self ..))
    show ((((if tp M q < 0 then -tp M q else tp M q) + ((qs.map (tp M)).map fun t => if t < 0 then -t else t).sum : Int)) : Rat) = (size q + cA qs) * _
    rw [Rat.intCast_add, ih, e]
    grind
theorem sum_cS (M : Nat) : ∀ (qs : List Rat), (∀ q ∈ qs, q.den ∣ M) → ((((qs.map (tp M)).map fun t => t * t).sum : Int) : Rat) = cS qs * ((M * M : Nat) : Rat)
  | [], _ => by
    show ((0 : Int) : Rat) = 0 * _
    rw [Rat.zero_mul]
    rfl
  | q :: qs, h => by
    have ih := sum_cS M qs fun q hq => h q (List.mem_cons_of_mem _ hq)
    have e := cast_tp (h q (List.mem_cons_self ..))
    show (((tp M q * tp M q + ((qs.map (tp M)).map fun t => t * t).sum : Int)) : Rat) = (q * q + cS qs) * _
    rw [Rat.intCast_add, Rat.intCast_mul, ih, e, Rat.natCast_mul]
    grind
theorem pick_sum (j : Nat) : ∀ (t : List Int) (st : List Nat), t.length = st.length → (((List.range t.length).filter fun i => decide (st.getD i 0 = j)).map fun i => t.getD i 0).sum = ((t.zip st).map fun (z : Int × Nat) => if z.2 = j then z.1 else 0).sum
  | [], _, _ => rfl
  | _ :: _, [], h => by cases h
  | t :: ts, n :: st, h => by
    have ih := pick_sum j ts st (by simpa using h)
    have e : (((List.range ts.length).map Nat.succ).filter fun i => decide ((n :: st).getD i 0 = j)) = ((List.range ts.length).filter fun i => decide (st.getD i 0 = j)).map Nat.succ := by
      rw [List.filter_map]
      rfl
    show (((List.range (ts.length + 1)).filter fun i => decide ((n :: st).getD i 0 = j)).map fun i => (t :: ts).getD i 0).sum = (if n = j then t else 0) + ((ts.zip st).map fun (z : Int × Nat) => if z.2 = j then z.1 else 0).sum
    rw [← ih, List.range_succ_eq_map, List.filter_cons]
    have e0 : (decide ((n :: st).getD 0 0 = j)) = decide (n = j) := rfl
    have e1 : ((((List.range ts.length).filter fun i => decide (st.getD i 0 = j)).map Nat.succ).map fun i => (t :: ts).getD i 0) = ((List.range ts.length).filter fun i => decide (st.getD i 0 = j)).map fun i => ts.getD i 0 := by
      rw [List.map_map]
      rfl
    rw [e0, e]
    by_cases hj : n = j
    · rw [if_pos (decide_eq_true hj), if_pos hj, List.map_cons, e1]
      rfl
    · rw [if_neg (by simpa using hj), if_neg hj, e1]
      omega
theorem sum_load (M j : Nat) : ∀ (qs : List Rat) (st : List Nat), (∀ q ∈ qs, q.den ∣ M) → (((((qs.map (tp M)).zip st).map fun (z : Int × Nat) => if z.2 = j then z.1 else 0).sum : Int) : Rat) = total ((qs.zip st).map fun (z : Rat × Nat) => if z.2 = j then z.1 else 0) * (M : Rat)
  | [], _, _ => by
    show ((0 : Int) : Rat) = 0 * _
    rw [Rat.zero_mul]
    rfl
  | _ :: _, [], _ => by
    show ((0 : Int) : Rat) = 0 * _
    rw [Rat.zero_mul]
    rfl
  | q :: qs, n :: st, h => by
    have ih := sum_load M j qs st fun q hq => h q (List.mem_cons_of_mem _ hq)
    have e := cast_tp (h q (List.mem_cons_self ..))
    show ((((if n = j then tp M q else 0) + (((qs.map (tp M)).zip st).map fun (z : Int × Nat) => if z.2 = j then z.1 else 0).sum : Int)) : Rat) = ((if n = j then q else 0) + total ((qs.zip st).map fun (z : Rat × Nat) => if z.2 = j then z.1 else 0)) * _
    rw [Rat.intCast_add, ih]
    by_cases hj : n = j
    · rw [if_pos hj, if_pos hj, e]
      grind
    · rw [if_neg hj, if_neg hj]
      have : ((0 : Int) : Rat) = 0 := rfl
      rw [this]
      grind
end My
end

section
set_option maxHeartbeats 4000000
namespace Pb
open PySem PySem.Spec PyProof.Rows L2
/-- the program -/
abbrev P : Program := PySem.Challenge.pw_planbeam_s01_answers
/-! ### rules for ints of any size -/
section
variable {X : Cx}
theorem pe_gi {x : Str} {i : Int} {pos : Pos} (hg : Gl X x) (h : ∃ t, X.mg x = some (.int i t)) (hd : (x == ("__debug__" : Str)) = false := by decide) : PE X (.Name x pos) (tC (.int i)) := by
  obtain ⟨t, h⟩ := h
  exact pe_glob (v := .int i) hg h ⟨t, rfl⟩ hd
theorem op_mulK : OpR X (binaryOp .Mult) (rI IntMulOk fun i j => .int (i * j)) := opI fun _ _ _ _ _ _ _ hc q => mul_int q hc
def CDivL (_i j : Int) : Prop := 0 < j ∧ j.natAbs.log2 < 9000
theorem op_fdivL : OpR X (binaryOp .FloorDiv) (rI CDivL fun i j => .int (i / j)) := opI fun i j _ _ _ _ _ hc q => by
  have h1 : (0 : Int) < j := hc.1
  exact floordiv_int (by omega) (by rw [Int.fdiv_eq_ediv_of_nonneg i (by omega)]; exact q) (.inl (PyProof.noPylong_of_log2 hc.2))
end
theorem room_py {k : Nat} {A : Around} (hr : Room k A) (hk : 32 ≤ k := by decide) : A.depth + Builtin.pylongFrames < recursionLimit := by
  have h1 := hr.dp
  have h2 : Builtin.pylongFrames = 100 := rfl
  omega
/-- // by a positive divisor of any size -/
theorem op_fdivP {X : Cx} (hd : X.A.depth + Builtin.pylongFrames < recursionLimit) (hp : X.prog.given.tree = none)
    (hst : ∃ e l, X.stack = e :: l ∧ e.scope.isGenerator = false ∧ e.scope.isCoroutine = false ∧ e.builtins = builtinsNs ∧ e.globals = mainGlobals) :
    OpR X (binaryOp .FloorDiv) (rI (fun _ j => 0 < j) fun i j => .int (i / j)) := by
  intro pins s σ H x y v u Q I rx ry h
  obtain ⟨i, j, rfl, rfl, hc, q⟩ := h
  obtain ⟨t, rfl⟩ := rx
  obtain ⟨t', rfl⟩ := ry
  obtain ⟨e, l, e1, e2, e3, e4, e5⟩ := hst
  have hj : (0 : Int) < j := hc
  have hs : SeerAt (model X.prog X.w) X.A s.heap := SeerAt.of (I.mod.seer.keeps I.bk) hp (by rw [I.ok.frames, e1]) e2 e3 e4 e5
  exact floordiv_int (by omega) (by rw [Int.fdiv_eq_ediv_of_nonneg i (by omega)]; exact ⟨.int _, H, I.tok _, ⟨_, rfl⟩, q⟩) (.inr (PylongRoom.of I.nolimit hd hs))
/-! ### heaps -/
/-- all but what stands at p is as it was -/
def Keep (p : Addr) (H H' : Hp) : Prop := ∀ b o, H b = some o → b ≠ p → H' b = some o
theorem Keep.upd {p : Addr} {H : Hp} {o : HO} : Keep p H (upd H p o) := fun b u e h => by rw [upd_ne h]; exact e
theorem Keep.trans {p : Addr} {H H1 H2 : Hp} (a : Keep p H H1) (b : Keep p H1 H2) : Keep p H H2 := fun c o e h => b c o (a c o e h) h
theorem Keep.same {p : Addr} {H H1 H2 : Hp} (a : Keep p H H1) (b : Same H1 H2) : Keep p H H2 := fun c o e h => b c o (a c o e h)
theorem Same.keep {p : Addr} {H H1 H2 : Hp} (a : Same H H1) (b : Keep p H1 H2) : Keep p H H2 := fun c o e h => b c o (a c o e) h
theorem Same.upd {H : Hp} {p : Addr} {o : HO} (h : H p = none) : Same H (L2.upd H p o) := fun b u e => by rw [upd_ne (ne_of_none e h)]; exact e
theorem Keep.seq {K : PySem.W.Frag} {p : Addr} {H H' : Hp} {a C dx : Addr} {fs : List (Str × V)} {xs : List V} (e : Keep p H H') (hp : H p = some (.ins C dx fs)) (h : SqL K H a xs) : SqL K H' a xs := by
  rcases h with (h | ⟨o, h⟩) | h
  · exact .inl (.inl (e _ _ h (ne_of h hp (by intro z; cases z))))
  · exact .inl (.inr ⟨o, e _ _ h (ne_of h hp (by intro z; cases z))⟩)
  · exact .inr h
/-- the int of a byte -/
def bV (c : UInt8) : V := .int (c.toNat : Int)
/-! ### while, by a word and a measure -/
def Go (Pv : L2.St → Hp → Prop) (μ : L2.St → Nat) (tb : TS) (D : Ends) (σ : L2.St) (H1 : Hp) : Prop :=
  ∃ N : L2.St → Hp → Prop, (∀ σ' H', N σ' H' → ∃ m', m' < μ σ ∧ (m' = μ σ' ∧ Pv σ' H')) ∧ tb { D with nx := N, ct := N, bk := D.nx } σ H1
theorem while_w {c : TT} {tb : TS} {D : Ends} {σ : L2.St} {H : Hp} (Pv : L2.St → Hp → Prop) (μ : L2.St → Nat) (h0 : Pv σ H)
    (hs : ∀ σ H, Pv σ H → c σ H fun b H1 => if b = true then Go Pv μ tb D σ H1 else D.nx σ H1) : tWhile c tb D σ H :=
  ⟨fun m σ H => m = μ σ ∧ Pv σ H, ⟨_, rfl, h0⟩, fun m σ H ⟨e, p⟩ => by subst e; exact hs σ H p⟩
theorem go_on {tb : TS} {D : Ends} {σ : L2.St} {H1 : Hp} {Pv : L2.St → Hp → Prop} {μ : L2.St → Nat}
    (h : tb { D with nx := fun σ' H' => Pv σ' H' ∧ μ σ' < μ σ, ct := fun σ' H' => Pv σ' H' ∧ μ σ' < μ σ, bk := D.nx } σ H1) : Go Pv μ tb D σ H1 :=
  ⟨_, fun _ _ ⟨p, l⟩ => ⟨_, l, rfl, p⟩, h⟩
/-! ### tests -/
theorem ifD {c A B : Prop} [Decidable c] (h1 : c → A) (h2 : ¬ c → B) : if decide c = true then A else B := by
  by_cases h : c
  · rw [decide_eq_true h]; exact iteT (h1 h)
  · rw [decide_eq_false h]; exact iteF (h2 h)
theorem ifN {c A B : Prop} [Decidable c] (h1 : ¬ c → A) (h2 : c → B) : if (!decide c) = true then A else B := by
  by_cases h : c
  · rw [decide_eq_true h]; exact iteF (h2 h)
  · rw [decide_eq_false h]; exact iteT (h1 h)
theorem ifEq {i j : Int} {A B : Prop} (h1 : i = j → A) (h2 : i ≠ j → B) : if decide (V.int i = V.int j) = true then A else B :=
  ifD (fun h => h1 (V.int.inj h)) fun h => h2 fun e => h (congrArg V.int e)
theorem ifNe {i j : Int} {A B : Prop} (h1 : i ≠ j → A) (h2 : i = j → B) : if (!decide (V.int i = V.int j)) = true then A else B :=
  ifN (fun h => h1 fun e => h (congrArg V.int e)) fun h => h2 (V.int.inj h)
theorem ifB {b : Bool} {A B : Prop} (h1 : b = true → A) (h2 : b = false → B) : if b = true then A else B := by
  cases b with
  | true => exact iteT (h1 rfl)
  | false => exact iteF (h2 rfl)
/-! ### built-in names -/
theorem bt_len : bootBuiltins "len" = some (.builtin "len") := by decide +kernel
theorem bt_abs : bootBuiltins "abs" = some (.builtin "abs") := by decide +kernel
theorem bt_max : bootBuiltins "max" = some (.builtin "max") := by decide +kernel
theorem bt_min : bootBuiltins "min" = some (.builtin "min") := by decide +kernel
theorem bt_sum : bootBuiltins "sum" = some (.builtin "sum") := by decide +kernel
/-! ### the text by places (written by tools/gen.py from the linked text) -/
def top (i : Nat) : Stmt := PySem.Challenge.pw_planbeam_s01_answers.main.body.getD i (.Pass ⟨0, 0, 0, 0⟩)
abbrev s_CallReader_init : Stmt := inClass (top 1) 0
abbrev s_CallReader_at_end : Stmt := inClass (top 1) 1
abbrev s_CallReader_next_number : Stmt := inClass (top 1) 2
abbrev s_CallReader_next_row : Stmt := inClass (top 1) 3
abbrev s_common_factor : Stmt := top 3
abbrev s_Ratio_init : Stmt := inClass (top 4) 0
abbrev s_Ratio_plus : Stmt := inClass (top 4) 1
abbrev s_Ratio_times : Stmt := inClass (top 4) 2
abbrev s_Ratio_size : Stmt := inClass (top 4) 3
abbrev s_digits_end : Stmt := top 12
abbrev s_digits_value : Stmt := top 13
abbrev s_power_of_ten : Stmt := top 14
abbrev s_read_size : Stmt := top 15
abbrev s_read_number : Stmt := top 16
abbrev s_exact_text : Stmt := top 17
abbrev s_Plan_init : Stmt := inClass (top 26) 0
abbrev s_Plan_comes_out : Stmt := inClass (top 26) 1
abbrev s_split_at_blanks : Stmt := top 27
abbrev s_may_count : Stmt := top 28
abbrev s_read_counts : Stmt := top 29
abbrev s_loads_fit : Stmt := top 30
abbrev s_common_bottom : Stmt := top 31
abbrev s_drift_goes_out : Stmt := top 32
abbrev s_read_plan : Stmt := top 33
abbrev s_Basis_init : Stmt := inClass (top 38) 0
abbrev s_Measured_init : Stmt := inClass (top 39) 0
abbrev s_read_unsigned : Stmt := top 40
abbrev s_read_basis : Stmt := top 41
abbrev s_bound_square : Stmt := top 42
abbrev s_counted_divisions : Stmt := top 43
abbrev s_division_worth : Stmt := top 44
abbrev s_told_reach : Stmt := top 45
abbrev s_told_square : Stmt := top 46
abbrev s_told : Stmt := top 47
abbrev s_Weighing_init : Stmt := inClass (top 64) 0
abbrev s_Weighing_steps : Stmt := inClass (top 64) 1
abbrev s_Weighing_finished : Stmt := inClass (top 64) 2
abbrev s_Weighing_next_load : Stmt := inClass (top 64) 3
abbrev s_text_answer : Stmt := top 65
abbrev s_Line_init : Stmt := inClass (top 66) 0
abbrev s_Line_begin : Stmt := inClass (top 66) 1
abbrev s_Line_take : Stmt := inClass (top 66) 2
abbrev s_Line_state : Stmt := inClass (top 66) 3
abbrev s_Line_told_reading : Stmt := inClass (top 66) 4
abbrev s_Line_back : Stmt := inClass (top 66) 5
abbrev s_Line_comes : Stmt := inClass (top 66) 6
abbrev s_Line_says : Stmt := inClass (top 66) 7
abbrev s_answer_begin : Stmt := top 67
abbrev s_answer_says : Stmt := top 68
abbrev s_answer_call : Stmt := top 69
abbrev s_answers : Stmt := top 70
/-! ### scopes -/
theorem sc_CallReader_init : FnScope ["self", "calls"] ["self", "calls"] (defScope s_CallReader_init) := ⟨rfl, rfl, rfl, by decide +kernel, rfl, by decide +kernel, by decide +kernel⟩
theorem sc_CallReader_at_end : FnScope ["self"] ["self"] (defScope s_CallReader_at_end) := ⟨rfl, rfl, rfl, by decide +kernel, rfl, by decide +kernel, by decide +kernel⟩
theorem sc_CallReader_next_number : FnScope ["self", "place"] ["self"] (defScope s_CallReader_next_number) := ⟨rfl, rfl, rfl, by decide +kernel, rfl, by decide +kernel, by decide +kernel⟩
theorem sc_CallReader_next_row : FnScope ["self", "length", "start"] ["self"] (defScope s_CallReader_next_row) := ⟨rfl, rfl, rfl, by decide +kernel, rfl, by decide +kernel, by decide +kernel⟩
theorem sc_common_factor : FnScope ["first", "second", "larger", "smaller", "rest"] ["first", "second"] (defScope s_common_factor) := ⟨rfl, rfl, rfl, by decide +kernel, rfl, by decide +kernel, by decide +kernel⟩
theorem sc_Ratio_init : FnScope ["self", "top", "bottom", "shared"] ["self", "top", "bottom"] (defScope s_Ratio_init) := ⟨rfl, rfl, rfl, by decide +kernel, rfl, by decide +kernel, by decide +kernel⟩
theorem sc_Ratio_plus : FnScope ["self", "other"] ["self", "other"] (defScope s_Ratio_plus) := ⟨rfl, rfl, rfl, by decide +kernel, rfl, by decide +kernel, by decide +kernel⟩
theorem sc_Ratio_times : FnScope ["self", "other"] ["self", "other"] (defScope s_Ratio_times) := ⟨rfl, rfl, rfl, by decide +kernel, rfl, by decide +kernel, by decide +kernel⟩
theorem sc_Ratio_size : FnScope ["self"] ["self"] (defScope s_Ratio_size) := ⟨rfl, rfl, rfl, by decide +kernel, rfl, by decide +kernel, by decide +kernel⟩
theorem sc_digits_end : FnScope ["text", "start", "place"] ["text", "start"] (defScope s_digits_end) := ⟨rfl, rfl, rfl, by decide +kernel, rfl, by decide +kernel, by decide +kernel⟩
theorem sc_digits_value : FnScope ["digits", "value", "digit"] ["digits"] (defScope s_digits_value) := ⟨rfl, rfl, rfl, by decide +kernel, rfl, by decide +kernel, by decide +kernel⟩
theorem sc_power_of_ten : FnScope ["exponent", "value", "place"] ["exponent"] (defScope s_power_of_ten) := ⟨rfl, rfl, rfl, by decide +kernel, rfl, by decide +kernel, by decide +kernel⟩
theorem sc_read_size : FnScope ["whole", "tail", "digits"] ["whole", "tail"] (defScope s_read_size) := ⟨rfl, rfl, rfl, by decide +kernel, rfl, by decide +kernel, by decide +kernel⟩
theorem sc_read_number : FnScope ["text", "start", "whole_end", "size"] ["text"] (defScope s_read_number) := ⟨rfl, rfl, rfl, by decide +kernel, rfl, by decide +kernel, by decide +kernel⟩
theorem sc_exact_text : FnScope ["ratio", "text", "sign"] ["ratio"] (defScope s_exact_text) := ⟨rfl, rfl, rfl, by decide +kernel, rfl, by decide +kernel, by decide +kernel⟩
theorem sc_Plan_init : FnScope ["self", "loads", "tops", "bottom"] ["self", "loads", "tops", "bottom"] (defScope s_Plan_init) := ⟨rfl, rfl, rfl, by decide +kernel, rfl, by decide +kernel, by decide +kernel⟩
theorem sc_Plan_comes_out : FnScope ["self", "load", "step"] ["self", "load"] (defScope s_Plan_comes_out) := ⟨rfl, rfl, rfl, by decide +kernel, rfl, by decide +kernel, by decide +kernel⟩
theorem sc_split_at_blanks : FnScope ["text", "pieces", "piece", "byte"] ["text"] (defScope s_split_at_blanks) := ⟨rfl, rfl, rfl, by decide +kernel, rfl, by decide +kernel, by decide +kernel⟩
theorem sc_may_count : FnScope ["ratio"] ["ratio"] (defScope s_may_count) := ⟨rfl, rfl, rfl, by decide +kernel, rfl, by decide +kernel, by decide +kernel⟩
theorem sc_read_counts : FnScope ["text", "counts", "piece", "count"] ["text"] (defScope s_read_counts) := ⟨rfl, rfl, rfl, by decide +kernel, rfl, by decide +kernel, by decide +kernel⟩
theorem sc_loads_fit : FnScope ["loads"] ["loads"] (defScope s_loads_fit) := ⟨rfl, rfl, rfl, by decide +kernel, rfl, by decide +kernel, by decide +kernel⟩
theorem sc_common_bottom : FnScope ["counts", "common", "count"] ["counts"] (defScope s_common_bottom) := ⟨rfl, rfl, rfl, by decide +kernel, rfl, by decide +kernel, by decide +kernel⟩
theorem sc_drift_goes_out : FnScope ["tops", "degree", "terms", "power", "step"] ["tops", "degree"] (defScope s_drift_goes_out) := ⟨rfl, rfl, rfl, by decide +kernel, rfl, by decide +kernel, by decide +kernel⟩
theorem sc_read_plan : FnScope ["degree", "loads", "counts_text", "counts", "bottom", "tops", "count"] ["degree", "loads", "counts_text"] (defScope s_read_plan) := ⟨rfl, rfl, rfl, by decide +kernel, rfl, by decide +kernel, by decide +kernel⟩
theorem sc_Basis_init : FnScope ["self", "worth", "bound", "nearness", "square"] ["self", "worth", "bound", "nearness", "square"] (defScope s_Basis_init) := ⟨rfl, rfl, rfl, by decide +kernel, rfl, by decide +kernel, by decide +kernel⟩
theorem sc_Measured_init : FnScope ["self", "number", "reach", "square"] ["self", "number", "reach", "square"] (defScope s_Measured_init) := ⟨rfl, rfl, rfl, by decide +kernel, rfl, by decide +kernel, by decide +kernel⟩
theorem sc_read_unsigned : FnScope ["text", "ratio"] ["text"] (defScope s_read_unsigned) := ⟨rfl, rfl, rfl, by decide +kernel, rfl, by decide +kernel, by decide +kernel⟩
theorem sc_read_basis : FnScope ["worth_text", "bound_text", "nearness_text", "square_text", "worth", "bound", "nearness", "square"] ["worth_text", "bound_text", "nearness_text", "square_text"] (defScope s_read_basis) := ⟨rfl, rfl, rfl, by decide +kernel, rfl, by decide +kernel, by decide +kernel⟩
theorem sc_bound_square : FnScope ["bound"] ["bound"] (defScope s_bound_square) := ⟨rfl, rfl, rfl, by decide +kernel, rfl, by decide +kernel, by decide +kernel⟩
theorem sc_counted_divisions : FnScope ["plan", "readings", "basis", "tops", "number", "sizes", "squares", "step", "top"] ["plan", "readings", "basis"] (defScope s_counted_divisions) := ⟨rfl, rfl, rfl, by decide +kernel, rfl, by decide +kernel, by decide +kernel⟩
theorem sc_division_worth : FnScope ["basis"] ["basis"] (defScope s_division_worth) := ⟨rfl, rfl, rfl, by decide +kernel, rfl, by decide +kernel, by decide +kernel⟩
theorem sc_told_reach : FnScope ["first", "second", "of_first", "of_second", "of_both"] ["first", "second"] (defScope s_told_reach) := ⟨rfl, rfl, rfl, by decide +kernel, rfl, by decide +kernel, by decide +kernel⟩
theorem sc_told_square : FnScope ["first", "second", "of_first", "of_second", "of_both"] ["first", "second"] (defScope s_told_square) := ⟨rfl, rfl, rfl, by decide +kernel, rfl, by decide +kernel, by decide +kernel⟩
theorem sc_told : FnScope ["which", "plan", "readings", "basis", "counted", "worth"] ["which", "plan", "readings", "basis"] (defScope s_told) := ⟨rfl, rfl, rfl, by decide +kernel, rfl, by decide +kernel, by decide +kernel⟩
theorem sc_Weighing_init : FnScope ["self", "plan"] ["self", "plan"] (defScope s_Weighing_init) := ⟨rfl, rfl, rfl, by decide +kernel, rfl, by decide +kernel, by decide +kernel⟩
theorem sc_Weighing_steps : FnScope ["self"] ["self"] (defScope s_Weighing_steps) := ⟨rfl, rfl, rfl, by decide +kernel, rfl, by decide +kernel, by decide +kernel⟩
theorem sc_Weighing_finished : FnScope ["self"] ["self"] (defScope s_Weighing_finished) := ⟨rfl, rfl, rfl, by decide +kernel, rfl, by decide +kernel, by decide +kernel⟩
theorem sc_Weighing_next_load : FnScope ["self"] ["self"] (defScope s_Weighing_next_load) := ⟨rfl, rfl, rfl, by decide +kernel, rfl, by decide +kernel, by decide +kernel⟩
theorem sc_text_answer : FnScope ["ratio", "text"] ["ratio"] (defScope s_text_answer) := ⟨rfl, rfl, rfl, by decide +kernel, rfl, by decide +kernel, by decide +kernel⟩
theorem sc_Line_init : FnScope ["self"] ["self"] (defScope s_Line_init) := ⟨rfl, rfl, rfl, by decide +kernel, rfl, by decide +kernel, by decide +kernel⟩
theorem sc_Line_begin : FnScope ["self", "degree", "loads", "counts_text", "plan"] ["self", "degree", "loads", "counts_text"] (defScope s_Line_begin) := ⟨rfl, rfl, rfl, by decide +kernel, rfl, by decide +kernel, by decide +kernel⟩
theorem sc_Line_take : FnScope ["self", "reading", "weighing"] ["self", "reading"] (defScope s_Line_take) := ⟨rfl, rfl, rfl, by decide +kernel, rfl, by decide +kernel, by decide +kernel⟩
theorem sc_Line_state : FnScope ["self", "weighing"] ["self"] (defScope s_Line_state) := ⟨rfl, rfl, rfl, by decide +kernel, rfl, by decide +kernel, by decide +kernel⟩
theorem sc_Line_told_reading : FnScope ["self", "k", "weighing"] ["self", "k"] (defScope s_Line_told_reading) := ⟨rfl, rfl, rfl, by decide +kernel, rfl, by decide +kernel, by decide +kernel⟩
theorem sc_Line_back : FnScope ["self", "k", "weighing"] ["self", "k"] (defScope s_Line_back) := ⟨rfl, rfl, rfl, by decide +kernel, rfl, by decide +kernel, by decide +kernel⟩
theorem sc_Line_comes : FnScope ["self", "load", "weighing"] ["self", "load"] (defScope s_Line_comes) := ⟨rfl, rfl, rfl, by decide +kernel, rfl, by decide +kernel, by decide +kernel⟩
theorem sc_Line_says : FnScope ["self", "which", "basis", "weighing"] ["self", "which", "basis"] (defScope s_Line_says) := ⟨rfl, rfl, rfl, by decide +kernel, rfl, by decide +kernel, by decide +kernel⟩
theorem sc_answer_begin : FnScope ["line", "reader", "degree", "loads", "counts_text"] ["line", "reader"] (defScope s_answer_begin) := ⟨rfl, rfl, rfl, by decide +kernel, rfl, by decide +kernel, by decide +kernel⟩
theorem sc_answer_says : FnScope ["line", "reader", "which", "worth_text", "bound_text", "nearness_text", "square_text"] ["line", "reader"] (defScope s_answer_says) := ⟨rfl, rfl, rfl, by decide +kernel, rfl, by decide +kernel, by decide +kernel⟩
theorem sc_answer_call : FnScope ["line", "reader", "call"] ["line", "reader"] (defScope s_answer_call) := ⟨rfl, rfl, rfl, by decide +kernel, rfl, by decide +kernel, by decide +kernel⟩
theorem sc_answers : FnScope ["calls", "reader", "line", "given", "answer"] ["calls"] (defScope s_answers) := ⟨rfl, rfl, rfl, by decide +kernel, rfl, by decide +kernel, by decide +kernel⟩
/-! ### addresses, and what the top has written -/
structure Ads where
  c_CallReader : Addr
  c_Ratio : Addr
  c_Plan : Addr
  c_Basis : Addr
  c_Measured : Addr
  c_Weighing : Addr
  c_Line : Addr
  f_CallReader_init : Addr
  d_CallReader_init : FuncData
  f_CallReader_at_end : Addr
  d_CallReader_at_end : FuncData
  f_CallReader_next_number : Addr
  d_CallReader_next_number : FuncData
  f_CallReader_next_row : Addr
  d_CallReader_next_row : FuncData
  f_common_factor : Addr
  d_common_factor : FuncData
  f_Ratio_init : Addr
  d_Ratio_init : FuncData
  f_Ratio_plus : Addr
  d_Ratio_plus : FuncData
  f_Ratio_times : Addr
  d_Ratio_times : FuncData
  f_Ratio_size : Addr
  d_Ratio_size : FuncData
  f_digits_end : Addr
  d_digits_end : FuncData
  f_digits_value : Addr
  d_digits_value : FuncData
  f_power_of_ten : Addr
  d_power_of_ten : FuncData
  f_read_size : Addr
  d_read_size : FuncData
  f_read_number : Addr
  d_read_number : FuncData
  f_exact_text : Addr
  d_exact_text : FuncData
  f_Plan_init : Addr
  d_Plan_init : FuncData
  f_Plan_comes_out : Addr
  d_Plan_comes_out : FuncData
  f_split_at_blanks : Addr
  d_split_at_blanks : FuncData
  f_may_count : Addr
  d_may_count : FuncData
  f_read_counts : Addr
  d_read_counts : FuncData
  f_loads_fit : Addr
  d_loads_fit : FuncData
  f_common_bottom : Addr
  d_common_bottom : FuncData
  f_drift_goes_out : Addr
  d_drift_goes_out : FuncData
  f_read_plan : Addr
  d_read_plan : FuncData
  f_Basis_init : Addr
  d_Basis_init : FuncData
  f_Measured_init : Addr
  d_Measured_init : FuncData
  f_read_unsigned : Addr
  d_read_unsigned : FuncData
  f_read_basis : Addr
  d_read_basis : FuncData
  f_bound_square : Addr
  d_bound_square : FuncData
  f_counted_divisions : Addr
  d_counted_divisions : FuncData
  f_division_worth : Addr
  d_division_worth : FuncData
  f_told_reach : Addr
  d_told_reach : FuncData
  f_told_square : Addr
  d_told_square : FuncData
  f_told : Addr
  d_told : FuncData
  f_Weighing_init : Addr
  d_Weighing_init : FuncData
  f_Weighing_steps : Addr
  d_Weighing_steps : FuncData
  f_Weighing_finished : Addr
  d_Weighing_finished : FuncData
  f_Weighing_next_load : Addr
  d_Weighing_next_load : FuncData
  f_text_answer : Addr
  d_text_answer : FuncData
  f_Line_init : Addr
  d_Line_init : FuncData
  f_Line_begin : Addr
  d_Line_begin : FuncData
  f_Line_take : Addr
  d_Line_take : FuncData
  f_Line_state : Addr
  d_Line_state : FuncData
  f_Line_told_reading : Addr
  d_Line_told_reading : FuncData
  f_Line_back : Addr
  d_Line_back : FuncData
  f_Line_comes : Addr
  d_Line_comes : FuncData
  f_Line_says : Addr
  d_Line_says : FuncData
  f_answer_begin : Addr
  d_answer_begin : FuncData
  f_answer_says : Addr
  d_answer_says : FuncData
  f_answer_call : Addr
  d_answer_call : FuncData
  f_answers : Addr
  d_answers : FuncData
structure Tx (K : PySem.W.Frag) (mg : Str → Option Value) (a : Ads) : Prop where
  cl_CallReader : Cls K a.c_CallReader
  m_CallReader : mg "CallReader" = some (.ref a.c_CallReader)
  mk_CallReader : Mk K a.c_CallReader a.f_CallReader_init
  me_CallReader_at_end : Meth K a.c_CallReader "at_end" a.f_CallReader_at_end
  me_CallReader_next_number : Meth K a.c_CallReader "next_number" a.f_CallReader_next_number
  me_CallReader_next_row : Meth K a.c_CallReader "next_row" a.f_CallReader_next_row
  no_CallReader_calls : NoAttr K a.c_CallReader "calls"
  no_CallReader_place : NoAttr K a.c_CallReader "place"
  cl_Ratio : Cls K a.c_Ratio
  m_Ratio : mg "Ratio" = some (.ref a.c_Ratio)
  mk_Ratio : Mk K a.c_Ratio a.f_Ratio_init
  me_Ratio_plus : Meth K a.c_Ratio "plus" a.f_Ratio_plus
  me_Ratio_times : Meth K a.c_Ratio "times" a.f_Ratio_times
  me_Ratio_size : Meth K a.c_Ratio "size" a.f_Ratio_size
  no_Ratio_top : NoAttr K a.c_Ratio "top"
  no_Ratio_bottom : NoAttr K a.c_Ratio "bottom"
  cl_Plan : Cls K a.c_Plan
  m_Plan : mg "Plan" = some (.ref a.c_Plan)
  mk_Plan : Mk K a.c_Plan a.f_Plan_init
  me_Plan_comes_out : Meth K a.c_Plan "comes_out" a.f_Plan_comes_out
  no_Plan_loads : NoAttr K a.c_Plan "loads"
  no_Plan_tops : NoAttr K a.c_Plan "tops"
  no_Plan_bottom : NoAttr K a.c_Plan "bottom"
  cl_Basis : Cls K a.c_Basis
  m_Basis : mg "Basis" = some (.ref a.c_Basis)
  mk_Basis : Mk K a.c_Basis a.f_Basis_init
  no_Basis_worth : NoAttr K a.c_Basis "worth"
  no_Basis_bound : NoAttr K a.c_Basis "bound"
  no_Basis_nearness : NoAttr K a.c_Basis "nearness"
  no_Basis_square : NoAttr K a.c_Basis "square"
  cl_Measured : Cls K a.c_Measured
  m_Measured : mg "Measured" = some (.ref a.c_Measured)
  mk_Measured : Mk K a.c_Measured a.f_Measured_init
  no_Measured_number : NoAttr K a.c_Measured "number"
  no_Measured_reach : NoAttr K a.c_Measured "reach"
  no_Measured_square : NoAttr K a.c_Measured "square"
  cl_Weighing : Cls K a.c_Weighing
  m_Weighing : mg "Weighing" = some (.ref a.c_Weighing)
  mk_Weighing : Mk K a.c_Weighing a.f_Weighing_init
  me_Weighing_steps : Meth K a.c_Weighing "steps" a.f_Weighing_steps
  me_Weighing_finished : Meth K a.c_Weighing "finished" a.f_Weighing_finished
  me_Weighing_next_load : Meth K a.c_Weighing "next_load" a.f_Weighing_next_load
  no_Weighing_plan : NoAttr K a.c_Weighing "plan"
  no_Weighing_readings : NoAttr K a.c_Weighing "readings"
  cl_Line : Cls K a.c_Line
  m_Line : mg "Line" = some (.ref a.c_Line)
  mk_Line : Mk K a.c_Line a.f_Line_init
  me_Line_begin : Meth K a.c_Line "begin" a.f_Line_begin
  me_Line_take : Meth K a.c_Line "take" a.f_Line_take
  me_Line_state : Meth K a.c_Line "state" a.f_Line_state
  me_Line_told_reading : Meth K a.c_Line "told_reading" a.f_Line_told_reading
  me_Line_back : Meth K a.c_Line "back" a.f_Line_back
  me_Line_comes : Meth K a.c_Line "comes" a.f_Line_comes
  me_Line_says : Meth K a.c_Line "says" a.f_Line_says
  no_Line_weighing : NoAttr K a.c_Line "weighing"
  F_CallReader_init : Fun K "__init__" "CallReader.__init__" s_CallReader_init a.f_CallReader_init a.d_CallReader_init
  F_CallReader_at_end : Fun K "at_end" "CallReader.at_end" s_CallReader_at_end a.f_CallReader_at_end a.d_CallReader_at_end
  F_CallReader_next_number : Fun K "next_number" "CallReader.next_number" s_CallReader_next_number a.f_CallReader_next_number a.d_CallReader_next_number
  F_CallReader_next_row : Fun K "next_row" "CallReader.next_row" s_CallReader_next_row a.f_CallReader_next_row a.d_CallReader_next_row
  F_common_factor : Fun K "common_factor" "common_factor" s_common_factor a.f_common_factor a.d_common_factor
  m_common_factor : mg "common_factor" = some (.ref a.f_common_factor)
  F_Ratio_init : Fun K "__init__" "Ratio.__init__" s_Ratio_init a.f_Ratio_init a.d_Ratio_init
  F_Ratio_plus : Fun K "plus" "Ratio.plus" s_Ratio_plus a.f_Ratio_plus a.d_Ratio_plus
  F_Ratio_times : Fun K "times" "Ratio.times" s_Ratio_times a.f_Ratio_times a.d_Ratio_times
  F_Ratio_size : Fun K "size" "Ratio.size" s_Ratio_size a.f_Ratio_size a.d_Ratio_size
  F_digits_end : Fun K "digits_end" "digits_end" s_digits_end a.f_digits_end a.d_digits_end
  m_digits_end : mg "digits_end" = some (.ref a.f_digits_end)
  F_digits_value : Fun K "digits_value" "digits_value" s_digits_value a.f_digits_value a.d_digits_value
  m_digits_value : mg "digits_value" = some (.ref a.f_digits_value)
  F_power_of_ten : Fun K "power_of_ten" "power_of_ten" s_power_of_ten a.f_power_of_ten a.d_power_of_ten
  m_power_of_ten : mg "power_of_ten" = some (.ref a.f_power_of_ten)
  F_read_size : Fun K "read_size" "read_size" s_read_size a.f_read_size a.d_read_size
  m_read_size : mg "read_size" = some (.ref a.f_read_size)
  F_read_number : Fun K "read_number" "read_number" s_read_number a.f_read_number a.d_read_number
  m_read_number : mg "read_number" = some (.ref a.f_read_number)
  F_exact_text : Fun K "exact_text" "exact_text" s_exact_text a.f_exact_text a.d_exact_text
  m_exact_text : mg "exact_text" = some (.ref a.f_exact_text)
  F_Plan_init : Fun K "__init__" "Plan.__init__" s_Plan_init a.f_Plan_init a.d_Plan_init
  F_Plan_comes_out : Fun K "comes_out" "Plan.comes_out" s_Plan_comes_out a.f_Plan_comes_out a.d_Plan_comes_out
  F_split_at_blanks : Fun K "split_at_blanks" "split_at_blanks" s_split_at_blanks a.f_split_at_blanks a.d_split_at_blanks
  m_split_at_blanks : mg "split_at_blanks" = some (.ref a.f_split_at_blanks)
  F_may_count : Fun K "may_count" "may_count" s_may_count a.f_may_count a.d_may_count
  m_may_count : mg "may_count" = some (.ref a.f_may_count)
  F_read_counts : Fun K "read_counts" "read_counts" s_read_counts a.f_read_counts a.d_read_counts
  m_read_counts : mg "read_counts" = some (.ref a.f_read_counts)
  F_loads_fit : Fun K "loads_fit" "loads_fit" s_loads_fit a.f_loads_fit a.d_loads_fit
  m_loads_fit : mg "loads_fit" = some (.ref a.f_loads_fit)
  F_common_bottom : Fun K "common_bottom" "common_bottom" s_common_bottom a.f_common_bottom a.d_common_bottom
  m_common_bottom : mg "common_bottom" = some (.ref a.f_common_bottom)
  F_drift_goes_out : Fun K "drift_goes_out" "drift_goes_out" s_drift_goes_out a.f_drift_goes_out a.d_drift_goes_out
  m_drift_goes_out : mg "drift_goes_out" = some (.ref a.f_drift_goes_out)
  F_read_plan : Fun K "read_plan" "read_plan" s_read_plan a.f_read_plan a.d_read_plan
  m_read_plan : mg "read_plan" = some (.ref a.f_read_plan)
  F_Basis_init : Fun K "__init__" "Basis.__init__" s_Basis_init a.f_Basis_init a.d_Basis_init
  F_Measured_init : Fun K "__init__" "Measured.__init__" s_Measured_init a.f_Measured_init a.d_Measured_init
  F_read_unsigned : Fun K "read_unsigned" "read_unsigned" s_read_unsigned a.f_read_unsigned a.d_read_unsigned
  m_read_unsigned : mg "read_unsigned" = some (.ref a.f_read_unsigned)
  F_read_basis : Fun K "read_basis" "read_basis" s_read_basis a.f_read_basis a.d_read_basis
  m_read_basis : mg "read_basis" = some (.ref a.f_read_basis)
  F_bound_square : Fun K "bound_square" "bound_square" s_bound_square a.f_bound_square a.d_bound_square
  m_bound_square : mg "bound_square" = some (.ref a.f_bound_square)
  F_counted_divisions : Fun K "counted_divisions" "counted_divisions" s_counted_divisions a.f_counted_divisions a.d_counted_divisions
  m_counted_divisions : mg "counted_divisions" = some (.ref a.f_counted_divisions)
  F_division_worth : Fun K "division_worth" "division_worth" s_division_worth a.f_division_worth a.d_division_worth
  m_division_worth : mg "division_worth" = some (.ref a.f_division_worth)
  F_told_reach : Fun K "told_reach" "told_reach" s_told_reach a.f_told_reach a.d_told_reach
  m_told_reach : mg "told_reach" = some (.ref a.f_told_reach)
  F_told_square : Fun K "told_square" "told_square" s_told_square a.f_told_square a.d_told_square
  m_told_square : mg "told_square" = some (.ref a.f_told_square)
  F_told : Fun K "told" "told" s_told a.f_told a.d_told
  m_told : mg "told" = some (.ref a.f_told)
  F_Weighing_init : Fun K "__init__" "Weighing.__init__" s_Weighing_init a.f_Weighing_init a.d_Weighing_init
  F_Weighing_steps : Fun K "steps" "Weighing.steps" s_Weighing_steps a.f_Weighing_steps a.d_Weighing_steps
  F_Weighing_finished : Fun K "finished" "Weighing.finished" s_Weighing_finished a.f_Weighing_finished a.d_Weighing_finished
  F_Weighing_next_load : Fun K "next_load" "Weighing.next_load" s_Weighing_next_load a.f_Weighing_next_load a.d_Weighing_next_load
  F_text_answer : Fun K "text_answer" "text_answer" s_text_answer a.f_text_answer a.d_text_answer
  m_text_answer : mg "text_answer" = some (.ref a.f_text_answer)
  F_Line_init : Fun K "__init__" "Line.__init__" s_Line_init a.f_Line_init a.d_Line_init
  F_Line_begin : Fun K "begin" "Line.begin" s_Line_begin a.f_Line_begin a.d_Line_begin
  F_Line_take : Fun K "take" "Line.take" s_Line_take a.f_Line_take a.d_Line_take
  F_Line_state : Fun K "state" "Line.state" s_Line_state a.f_Line_state a.d_Line_state
  F_Line_told_reading : Fun K "told_reading" "Line.told_reading" s_Line_told_reading a.f_Line_told_reading a.d_Line_told_reading
  F_Line_back : Fun K "back" "Line.back" s_Line_back a.f_Line_back a.d_Line_back
  F_Line_comes : Fun K "comes" "Line.comes" s_Line_comes a.f_Line_comes a.d_Line_comes
  F_Line_says : Fun K "says" "Line.says" s_Line_says a.f_Line_says a.d_Line_says
  F_answer_begin : Fun K "answer_begin" "answer_begin" s_answer_begin a.f_answer_begin a.d_answer_begin
  m_answer_begin : mg "answer_begin" = some (.ref a.f_answer_begin)
  F_answer_says : Fun K "answer_says" "answer_says" s_answer_says a.f_answer_says a.d_answer_says
  m_answer_says : mg "answer_says" = some (.ref a.f_answer_says)
  F_answer_call : Fun K "answer_call" "answer_call" s_answer_call a.f_answer_call a.d_answer_call
  m_answer_call : mg "answer_call" = some (.ref a.f_answer_call)
  F_answers : Fun K "answers" "answers" s_answers a.f_answers a.d_answers
  m_answers : mg "answers" = some (.ref a.f_answers)
  g_MINUS : ∃ t, mg "MINUS" = some (.int (45) t)
  g_POINT : ∃ t, mg "POINT" = some (.int (46) t)
  g_SLASH : ∃ t, mg "SLASH" = some (.int (47) t)
  g_NOUGHT : ∃ t, mg "NOUGHT" = some (.int (48) t)
  g_NINE : ∃ t, mg "NINE" = some (.int (57) t)
  g_LONGEST_NUMBER : ∃ t, mg "LONGEST_NUMBER" = some (.int (512) t)
  g_MOST_STEPS : ∃ t, mg "MOST_STEPS" = some (.int (64) t)
  g_HIGHEST_LOAD : ∃ t, mg "HIGHEST_LOAD" = some (.int (15) t)
  g_HIGHEST_DEGREE : ∃ t, mg "HIGHEST_DEGREE" = some (.int (8) t)
  g_LONGEST_COUNTS : ∃ t, mg "LONGEST_COUNTS" = some (.int (4096) t)
  g_BLANK : ∃ t, mg "BLANK" = some (.int (32) t)
  g_TOP_LIMIT : ∃ t, mg "TOP_LIMIT" = some (.int (18446744073709551616) t)
  g_BOTTOM_LIMIT : ∃ t, mg "BOTTOM_LIMIT" = some (.int (4294967296) t)
  g_NUMBER : ∃ t, mg "NUMBER" = some (.int (0) t)
  g_REACH : ∃ t, mg "REACH" = some (.int (1) t)
  g_SQUARE : ∃ t, mg "SQUARE" = some (.int (2) t)
  g_BEGIN : ∃ t, mg "BEGIN" = some (.int (0) t)
  g_TAKE : ∃ t, mg "TAKE" = some (.int (1) t)
  g_STATE : ∃ t, mg "STATE" = some (.int (2) t)
  g_READING : ∃ t, mg "READING" = some (.int (3) t)
  g_BACK : ∃ t, mg "BACK" = some (.int (4) t)
  g_COMES : ∃ t, mg "COMES" = some (.int (5) t)
  g_SAYS : ∃ t, mg "SAYS" = some (.int (6) t)
  g_DONE : ∃ t, mg "DONE" = some (.int (0) t)
  g_WRONG_CALL : ∃ t, mg "WRONG_CALL" = some (.int (-1) t)
  g_NOT_RIGHT : ∃ t, mg "NOT_RIGHT" = some (.int (-2) t)
  g_OUT_OF_PLACE : ∃ t, mg "OUT_OF_PLACE" = some (.int (-5) t)
  g_TOO_LARGE : ∃ t, mg "TOO_LARGE" = some (.int (-6) t)
  g_NO_LOAD : ∃ t, mg "NO_LOAD" = some (.int (-1) t)
  g_MOST_BITS : ∃ t, mg "MOST_BITS" = some (.int (4096) t)
  b_abs : mg "abs" = none
  b_len : mg "len" = none
  b_max : mg "max" = none
  b_ord : mg "ord" = none
  b_range : mg "range" = none
  b_str : mg "str" = none
  b_sum : mg "sum" = none
section
variable {K : PySem.W.Frag} {mg : Str → Option Value} {a : Ads}
theorem Tx.bd_CallReader_init (T : Tx K mg a) : Binds K a.d_CallReader_init ["self", "calls"] [] := T.F_CallReader_init.binds fun _ _ _ _ _ _ us hl => match us, hl with | [_, _], _ => rfl
theorem Tx.bd_CallReader_at_end (T : Tx K mg a) : Binds K a.d_CallReader_at_end ["self"] [] := T.F_CallReader_at_end.binds fun _ _ _ _ _ _ us hl => match us, hl with | [_], _ => rfl
theorem Tx.bd_CallReader_next_number (T : Tx K mg a) : Binds K a.d_CallReader_next_number ["self"] [] := T.F_CallReader_next_number.binds fun _ _ _ _ _ _ us hl => match us, hl with | [_], _ => rfl
theorem Tx.bd_CallReader_next_row (T : Tx K mg a) : Binds K a.d_CallReader_next_row ["self"] [] := T.F_CallReader_next_row.binds fun _ _ _ _ _ _ us hl => match us, hl with | [_], _ => rfl
theorem Tx.bd_common_factor (T : Tx K mg a) : Binds K a.d_common_factor ["first", "second"] [] := T.F_common_factor.binds fun _ _ _ _ _ _ us hl => match us, hl with | [_, _], _ => rfl
theorem Tx.bd_Ratio_init (T : Tx K mg a) : Binds K a.d_Ratio_init ["self", "top", "bottom"] [] := T.F_Ratio_init.binds fun _ _ _ _ _ _ us hl => match us, hl with | [_, _, _], _ => rfl
theorem Tx.bd_Ratio_plus (T : Tx K mg a) : Binds K a.d_Ratio_plus ["self", "other"] [] := T.F_Ratio_plus.binds fun _ _ _ _ _ _ us hl => match us, hl with | [_, _], _ => rfl
theorem Tx.bd_Ratio_times (T : Tx K mg a) : Binds K a.d_Ratio_times ["self", "other"] [] := T.F_Ratio_times.binds fun _ _ _ _ _ _ us hl => match us, hl with | [_, _], _ => rfl
theorem Tx.bd_Ratio_size (T : Tx K mg a) : Binds K a.d_Ratio_size ["self"] [] := T.F_Ratio_size.binds fun _ _ _ _ _ _ us hl => match us, hl with | [_], _ => rfl
theorem Tx.bd_digits_end (T : Tx K mg a) : Binds K a.d_digits_end ["text", "start"] [] := T.F_digits_end.binds fun _ _ _ _ _ _ us hl => match us, hl with | [_, _], _ => rfl
theorem Tx.bd_digits_value (T : Tx K mg a) : Binds K a.d_digits_value ["digits"] [] := T.F_digits_value.binds fun _ _ _ _ _ _ us hl => match us, hl with | [_], _ => rfl
theorem Tx.bd_power_of_ten (T : Tx K mg a) : Binds K a.d_power_of_ten ["exponent"] [] := T.F_power_of_ten.binds fun _ _ _ _ _ _ us hl => match us, hl with | [_], _ => rfl
theorem Tx.bd_read_size (T : Tx K mg a) : Binds K a.d_read_size ["whole", "tail"] [] := T.F_read_size.binds fun _ _ _ _ _ _ us hl => match us, hl with | [_, _], _ => rfl
theorem Tx.bd_read_number (T : Tx K mg a) : Binds K a.d_read_number ["text"] [] := T.F_read_number.binds fun _ _ _ _ _ _ us hl => match us, hl with | [_], _ => rfl
theorem Tx.bd_exact_text (T : Tx K mg a) : Binds K a.d_exact_text ["ratio"] [] := T.F_exact_text.binds fun _ _ _ _ _ _ us hl => match us, hl with | [_], _ => rfl
theorem Tx.bd_Plan_init (T : Tx K mg a) : Binds K a.d_Plan_init ["self", "loads", "tops", "bottom"] [] := T.F_Plan_init.binds fun _ _ _ _ _ _ us hl => match us, hl with | [_, _, _, _], _ => rfl
theorem Tx.bd_Plan_comes_out (T : Tx K mg a) : Binds K a.d_Plan_comes_out ["self", "load"] [] := T.F_Plan_comes_out.binds fun _ _ _ _ _ _ us hl => match us, hl with | [_, _], _ => rfl
theorem Tx.bd_split_at_blanks (T : Tx K mg a) : Binds K a.d_split_at_blanks ["text"] [] := T.F_split_at_blanks.binds fun _ _ _ _ _ _ us hl => match us, hl with | [_], _ => rfl
theorem Tx.bd_may_count (T : Tx K mg a) : Binds K a.d_may_count ["ratio"] [] := T.F_may_count.binds fun _ _ _ _ _ _ us hl => match us, hl with | [_], _ => rfl
theorem Tx.bd_read_counts (T : Tx K mg a) : Binds K a.d_read_counts ["text"] [] := T.F_read_counts.binds fun _ _ _ _ _ _ us hl => match us, hl with | [_], _ => rfl
theorem Tx.bd_loads_fit (T : Tx K mg a) : Binds K a.d_loads_fit ["loads"] [] := T.F_loads_fit.binds fun _ _ _ _ _ _ us hl => match us, hl with | [_], _ => rfl
theorem Tx.bd_common_bottom (T : Tx K mg a) : Binds K a.d_common_bottom ["counts"] [] := T.F_common_bottom.binds fun _ _ _ _ _ _ us hl => match us, hl with | [_], _ => rfl
theorem Tx.bd_drift_goes_out (T : Tx K mg a) : Binds K a.d_drift_goes_out ["tops", "degree"] [] := T.F_drift_goes_out.binds fun _ _ _ _ _ _ us hl => match us, hl with | [_, _], _ => rfl
theorem Tx.bd_read_plan (T : Tx K mg a) : Binds K a.d_read_plan ["degree", "loads", "counts_text"] [] := T.F_read_plan.binds fun _ _ _ _ _ _ us hl => match us, hl with | [_, _, _], _ => rfl
theorem Tx.bd_Basis_init (T : Tx K mg a) : Binds K a.d_Basis_init ["self", "worth", "bound", "nearness", "square"] [] := T.F_Basis_init.binds fun _ _ _ _ _ _ us hl => match us, hl with | [_, _, _, _, _], _ => rfl
theorem Tx.bd_Measured_init (T : Tx K mg a) : Binds K a.d_Measured_init ["self", "number", "reach", "square"] [] := T.F_Measured_init.binds fun _ _ _ _ _ _ us hl => match us, hl with | [_, _, _, _], _ => rfl
theorem Tx.bd_read_unsigned (T : Tx K mg a) : Binds K a.d_read_unsigned ["text"] [] := T.F_read_unsigned.binds fun _ _ _ _ _ _ us hl => match us, hl with | [_], _ => rfl
theorem Tx.bd_read_basis (T : Tx K mg a) : Binds K a.d_read_basis ["worth_text", "bound_text", "nearness_text", "square_text"] [] := T.F_read_basis.binds fun _ _ _ _ _ _ us hl => match us, hl with | [_, _, _, _], _ => rfl
theorem Tx.bd_bound_square (T : Tx K mg a) : Binds K a.d_bound_square ["bound"] [] := T.F_bound_square.binds fun _ _ _ _ _ _ us hl => match us, hl with | [_], _ => rfl
theorem Tx.bd_counted_divisions (T : Tx K mg a) : Binds K a.d_counted_divisions ["plan", "readings", "basis"] [] := T.F_counted_divisions.binds fun _ _ _ _ _ _ us hl => match us, hl with | [_, _, _], _ => rfl
theorem Tx.bd_division_worth (T : Tx K mg a) : Binds K a.d_division_worth ["basis"] [] := T.F_division_worth.binds fun _ _ _ _ _ _ us hl => match us, hl with | [_], _ => rfl
theorem Tx.bd_told_reach (T : Tx K mg a) : Binds K a.d_told_reach ["first", "second"] [] := T.F_told_reach.binds fun _ _ _ _ _ _ us hl => match us, hl with | [_, _], _ => rfl
theorem Tx.bd_told_square (T : Tx K mg a) : Binds K a.d_told_square ["first", "second"] [] := T.F_told_square.binds fun _ _ _ _ _ _ us hl => match us, hl with | [_, _], _ => rfl
theorem Tx.bd_told (T : Tx K mg a) : Binds K a.d_told ["which", "plan", "readings", "basis"] [] := T.F_told.binds fun _ _ _ _ _ _ us hl => match us, hl with | [_, _, _, _], _ => rfl
theorem Tx.bd_Weighing_init (T : Tx K mg a) : Binds K a.d_Weighing_init ["self", "plan"] [] := T.F_Weighing_init.binds fun _ _ _ _ _ _ us hl => match us, hl with | [_, _], _ => rfl
theorem Tx.bd_Weighing_steps (T : Tx K mg a) : Binds K a.d_Weighing_steps ["self"] [] := T.F_Weighing_steps.binds fun _ _ _ _ _ _ us hl => match us, hl with | [_], _ => rfl
theorem Tx.bd_Weighing_finished (T : Tx K mg a) : Binds K a.d_Weighing_finished ["self"] [] := T.F_Weighing_finished.binds fun _ _ _ _ _ _ us hl => match us, hl with | [_], _ => rfl
theorem Tx.bd_Weighing_next_load (T : Tx K mg a) : Binds K a.d_Weighing_next_load ["self"] [] := T.F_Weighing_next_load.binds fun _ _ _ _ _ _ us hl => match us, hl with | [_], _ => rfl
theorem Tx.bd_text_answer (T : Tx K mg a) : Binds K a.d_text_answer ["ratio"] [] := T.F_text_answer.binds fun _ _ _ _ _ _ us hl => match us, hl with | [_], _ => rfl
theorem Tx.bd_Line_init (T : Tx K mg a) : Binds K a.d_Line_init ["self"] [] := T.F_Line_init.binds fun _ _ _ _ _ _ us hl => match us, hl with | [_], _ => rfl
theorem Tx.bd_Line_begin (T : Tx K mg a) : Binds K a.d_Line_begin ["self", "degree", "loads", "counts_text"] [] := T.F_Line_begin.binds fun _ _ _ _ _ _ us hl => match us, hl with | [_, _, _, _], _ => rfl
theorem Tx.bd_Line_take (T : Tx K mg a) : Binds K a.d_Line_take ["self", "reading"] [] := T.F_Line_take.binds fun _ _ _ _ _ _ us hl => match us, hl with | [_, _], _ => rfl
theorem Tx.bd_Line_state (T : Tx K mg a) : Binds K a.d_Line_state ["self"] [] := T.F_Line_state.binds fun _ _ _ _ _ _ us hl => match us, hl with | [_], _ => rfl
theorem Tx.bd_Line_told_reading (T : Tx K mg a) : Binds K a.d_Line_told_reading ["self", "k"] [] := T.F_Line_told_reading.binds fun _ _ _ _ _ _ us hl => match us, hl with | [_, _], _ => rfl
theorem Tx.bd_Line_back (T : Tx K mg a) : Binds K a.d_Line_back ["self", "k"] [] := T.F_Line_back.binds fun _ _ _ _ _ _ us hl => match us, hl with | [_, _], _ => rfl
theorem Tx.bd_Line_comes (T : Tx K mg a) : Binds K a.d_Line_comes ["self", "load"] [] := T.F_Line_comes.binds fun _ _ _ _ _ _ us hl => match us, hl with | [_, _], _ => rfl
theorem Tx.bd_Line_says (T : Tx K mg a) : Binds K a.d_Line_says ["self", "which", "basis"] [] := T.F_Line_says.binds fun _ _ _ _ _ _ us hl => match us, hl with | [_, _, _], _ => rfl
theorem Tx.bd_answer_begin (T : Tx K mg a) : Binds K a.d_answer_begin ["line", "reader"] [] := T.F_answer_begin.binds fun _ _ _ _ _ _ us hl => match us, hl with | [_, _], _ => rfl
theorem Tx.bd_answer_says (T : Tx K mg a) : Binds K a.d_answer_says ["line", "reader"] [] := T.F_answer_says.binds fun _ _ _ _ _ _ us hl => match us, hl with | [_, _], _ => rfl
theorem Tx.bd_answer_call (T : Tx K mg a) : Binds K a.d_answer_call ["line", "reader"] [] := T.F_answer_call.binds fun _ _ _ _ _ _ us hl => match us, hl with | [_, _], _ => rfl
theorem Tx.bd_answers (T : Tx K mg a) : Binds K a.d_answers ["calls"] [] := T.F_answers.binds fun _ _ _ _ _ _ us hl => match us, hl with | [_], _ => rfl
end
/-! ### the objects -/
def rdF (c : Addr) (p : Int) : List (Str × V) := [("calls", .ref c), ("place", .int p)]
def RdAt (C : Addr) (H : Hp) (r c : Addr) (p : Int) : Prop := ∃ dx, H r = some (.ins C dx (rdF c p))
def ratF (t b : Int) : List (Str × V) := [("top", .int t), ("bottom", .int b)]
def RatAt (C : Addr) (H : Hp) (p : Addr) (q : Rat) : Prop := ∃ dx, H p = some (.ins C dx (ratF q.num q.den))
/-- a number or none -/
def OptAt (C : Addr) (H : Hp) (v : V) : Option Rat → Prop
  | none => v = .non
  | some q => ∃ p, v = .ref p ∧ RatAt C H p q
theorem RatAt.same {C : Addr} {H H' : Hp} {p : Addr} {q : Rat} (h : RatAt C H p q) (s : Same H H') : RatAt C H' p q := let ⟨dx, e⟩ := h; ⟨dx, s _ _ e⟩
/-! ### promises -/
def sp_CallReader_init (C : Addr) : Sp := fun vs H Q _ => ∃ (p dx c : Addr), vs = [.ref p, .ref c] ∧ H p = some (.ins C dx []) ∧ ∀ H' : Hp, RdAt C H' p c 0 → Keep p H H' → Q .non H'
def sp_CallReader_at_end (K : PySem.W.Frag) (C : Addr) : Sp := fun vs H Q _ => ∃ (r c : Addr) (p : Nat) (l : List Int), vs = [.ref r] ∧ RdAt C H r c p ∧ SqL K H c (l.map V.int) ∧ Q (.bl (decide (l.length ≤ p))) H
def sp_CallReader_next_number (K : PySem.W.Frag) (C : Addr) : Sp := fun vs H Q _ => ∃ (r c : Addr) (p : Nat) (l : List Int) (z : Int), vs = [.ref r] ∧ RdAt C H r c p ∧ SqL K H c (l.map V.int) ∧ l[p]? = some z ∧
  ∀ H' : Hp, RdAt C H' r c (p + 1 : Nat) → Keep r H H' → Q (.int z) H'
def sp_CallReader_next_row (K : PySem.W.Frag) (C : Addr) : Sp := fun vs H Q _ => ∃ (r c : Addr) (p : Nat) (l x t : List Int), vs = [.ref r] ∧ RdAt C H r c p ∧ SqL K H c (l.map V.int) ∧ l.drop p = My.putR x ++ t ∧
  ∀ (H' : Hp) (q : Addr), RdAt C H' r c (p + (x.length + 1) : Nat) → Keep r H H' → H q = none → H' q = some (.lst (x.map V.int)) → Q (.ref q) H'
def sp_common_factor : Sp := fun vs H Q _ => ∃ m n : Nat, vs = [.int m, .int n] ∧ Q (.int (Nat.gcd m n : Nat)) H
def sp_Ratio_init (C : Addr) : Sp := fun vs H Q _ => ∃ (p dx : Addr) (t : Int) (b : Nat), vs = [.ref p, .int t, .int b] ∧ H p = some (.ins C dx []) ∧ 0 < b ∧ ∀ H' : Hp, RatAt C H' p (mkRat t b) → Keep p H H' → Q .non H'
section
variable {w : World} {K : PySem.W.Frag} {mg : Str → Option Value} {base : Heap} {a : Ads}
theorem ok_CallReader_init (T : Tx K mg a) : FnOk P w K mg base CX0 1 a.f_CallReader_init a.d_CallReader_init ["self", "calls"] (sp_CallReader_init a.c_CallReader) := by
  refine T.F_CallReader_init.ok sc_CallReader_init (fun vs H Q E h => ?_) (fun cdv A outer s H vs Q E hr h => ?_)
  · obtain ⟨_, _, _, rfl, _⟩ := h
    rfl
  · obtain ⟨p, dx, c, rfl, hp, k⟩ := h
    refine ⟨_, (pss_cons (ps_fld (pv 0) (pv 1) rfl)
      (pss_one (ps_fld (pv 0) pe_int rfl))), ?_⟩
    refine ⟨_, rfl, _, rfl, p, _, dx, _, rfl, hp, T.cl_CallReader, T.no_CallReader_calls, (by show 0 < 1000; decide), ?_⟩
    refine ⟨_, rfl, p, _, dx, _, rfl, upd_same, T.cl_CallReader, T.no_CallReader_place, (by show 1 < 1000; decide), ?_⟩
    exact k _ ⟨dx, upd_same⟩ (Keep.upd.trans Keep.upd)
theorem ok_CallReader_at_end (T : Tx K mg a) : FnOk P w K mg base CX0 1 a.f_CallReader_at_end a.d_CallReader_at_end ["self"] (sp_CallReader_at_end K a.c_CallReader) := by
  refine T.F_CallReader_at_end.ok sc_CallReader_at_end (fun vs H Q E h => ?_) (fun cdv A outer s H vs Q E hr h => ?_)
  · obtain ⟨_, _, _, _, rfl, _⟩ := h
    rfl
  · obtain ⟨r, c, p, l, rfl, ⟨dx, hr1⟩, hc, k⟩ := h
    refine ⟨_, (pss_one (ps_ret (pe_cmpR op_ge (pe_fld (pv 0) rfl) (pe_callB call_len_seq rfl T.b_len bt_len (pa_cons (pe_fld (pv 0) rfl) pa_nil)) (nomark _)))), ?_⟩
    refine ⟨_, rfl, r, _, dx, _, _, rfl, hr1, T.cl_CallReader, T.no_CallReader_place, rfl, ?_⟩
    refine ⟨_, rfl, r, _, dx, _, _, rfl, hr1, T.cl_CallReader, T.no_CallReader_calls, rfl, ?_⟩
    refine ⟨c, _, rfl, .inl hc, _, _, rfl, rfl, ?_⟩
    have e : decide (((l.map V.int).length : Int) ≤ (p : Int)) = decide (l.length ≤ p) := by
      rw [List.length_map]
      exact decide_eq_decide.mpr Int.ofNat_le
    rw [← e] at k
    exact k
theorem ok_CallReader_next_number (T : Tx K mg a) : FnOk P w K mg base CX0 1 a.f_CallReader_next_number a.d_CallReader_next_number ["self"] (sp_CallReader_next_number K a.c_CallReader) := by
  refine T.F_CallReader_next_number.ok sc_CallReader_next_number (fun vs H Q E h => ?_) (fun cdv A outer s H vs Q E hr h => ?_)
  · obtain ⟨_, _, _, _, _, rfl, _⟩ := h
    rfl
  · obtain ⟨r, c, p, l, z, rfl, ⟨dx, hr1⟩, hc, hz, k⟩ := h
    refine ⟨_, (pss_cons (ps_set (i := 1) sc_CallReader_next_number.nd rfl (Or.inl rfl) (pe_fld (pv 0) rfl))
      (pss_cons (ps_fld (pv 0) (pe_op op_add (pv 1) pe_int) rfl)
      (pss_one (ps_ret (pe_ix ix_list (pe_fld (pv 0) rfl) (pv 1) (fun _ _ => rfl)))))), ?_⟩
    refine ⟨_, rfl, r, _, dx, _, _, rfl, hr1, T.cl_CallReader, T.no_CallReader_place, rfl, ?_⟩
    refine ⟨_, rfl, _, _, rfl, rfl, _, rfl, r, _, dx, _, rfl, hr1, T.cl_CallReader, T.no_CallReader_place, (by show 2 < 1000; decide), ?_⟩
    have kp : Keep r H (upd H r (.ins a.c_CallReader dx (rdF c (p + 1 : Nat)))) := Keep.upd
    refine ⟨_, rfl, r, _, dx, _, _, rfl, upd_same, T.cl_CallReader, T.no_CallReader_calls, rfl, ?_⟩
    refine ⟨_, rfl, c, _, _, _, rfl, rfl, kp.seq hr1 hc, atI_nat (v := .int z) (by rw [List.getElem?_map, hz]; rfl), ?_⟩
    exact k _ ⟨dx, upd_same⟩ kp
theorem ok_CallReader_next_row (T : Tx K mg a) : FnOk P w K mg base CX0 2 a.f_CallReader_next_row a.d_CallReader_next_row ["self"] (sp_CallReader_next_row K a.c_CallReader) := by
  have G_CallReader_next_number := ok_CallReader_next_number (w := w) (base := base) T
  refine T.F_CallReader_next_row.ok sc_CallReader_next_row (fun vs H Q E h => ?_) (fun cdv A outer s H vs Q E hr h => ?_)
  · obtain ⟨_, _, _, _, _, _, rfl, _⟩ := h
    rfl
  · obtain ⟨r, c, p, l, x, t, rfl, ⟨dx, hr1⟩, hc, hl, k⟩ := h
    refine ⟨_, (pss_cons (ps_set (i := 1) sc_CallReader_next_row.nd rfl (Or.inl rfl) (pe_meth0 (pv 0) T.cl_CallReader T.me_CallReader_next_number G_CallReader_next_number (hr.mono (by decide)) T.bd_CallReader_next_number .nil pass0))
      (pss_cons (ps_set (i := 2) sc_CallReader_next_row.nd rfl (Or.inl rfl) (pe_fld (pv 0) rfl))
      (pss_cons (ps_fld (pv 0) (pe_op op_add (pv 2) (pv 1)) rfl)
      (pss_one (ps_ret (pe_slice sl_list (pe_fld (pv 0) rfl) (po_some (pv 2)) (po_some (pe_op op_add (pv 2) (pv 1))))))))), ?_⟩
    have h0 : l[p]? = some (x.length : Int) := by
      have := congrArg (fun y => y[0]?) hl
      simpa [My.putR] using this
    refine ⟨_, rfl, r, dx, _, rfl, hr1, rfl, r, c, p, l, _, rfl, ⟨dx, hr1⟩, hc, h0, fun H1 ⟨dx1, hr2⟩ kp1 => ?_⟩
    refine ⟨_, rfl, r, _, dx1, _, _, rfl, hr2, T.cl_CallReader, T.no_CallReader_place, rfl, ?_⟩
    refine ⟨_, rfl, _, rfl, _, _, rfl, rfl, _, rfl, r, _, dx1, _, rfl, hr2, T.cl_CallReader, T.no_CallReader_place, (by show 2 < 1000; decide), ?_⟩
    have hc1 := kp1.seq hr1 hc
    have kp2 : Keep r H1 (upd H1 r (.ins a.c_CallReader dx1 (rdF c (((p + 1 : Nat) : Int) + (x.length : Int))))) := Keep.upd
    refine ⟨_, rfl, r, _, dx1, _, _, rfl, upd_same, T.cl_CallReader, T.no_CallReader_calls, rfl, ?_⟩
    refine ⟨_, rfl, _, rfl, _, rfl, _, rfl, _, _, rfl, rfl, _, rfl, c, _, rfl, kp2.seq hr2 hc1, fun q hq => ?_⟩
    have hq : (upd H1 r (.ins a.c_CallReader dx1 (rdF c (((p + 1 : Nat) : Int) + (x.length : Int))))) q = none := hq
    have kp3 := kp1.trans kp2
    have hq0 : H q = none := by
      cases e : H q with
      | none => rfl
      | some o =>
        by_cases hqr : q = r
        · rw [hqr, upd_same] at hq; cases hq
        · rw [kp3 q o e hqr] at hq; cases hq
    have ne : r ≠ q := fun e => by rw [e] at hr1; rw [hr1] at hq0; cases hq0
    refine k _ q ⟨dx1, ?_⟩ (fun b o e hb => ?_) hq0 ?_
    · rw [upd_ne ne, upd_same]
      have : ((p + 1 : Nat) : Int) + (x.length : Int) = ((p + (x.length + 1) : Nat) : Int) := by omega
      rw [← this]
      rfl
    · rw [upd_ne (ne_of_none e hq0)]
      exact kp3 b o e hb
    · rw [upd_same]
      have hlen : p + 1 + x.length ≤ l.length := by
        have := congrArg List.length hl
        rw [List.length_drop] at this
        simp [My.putR] at this
        omega
      have e1 : cutV (l.map V.int) (some ((p + 1 : Nat) : Int)) (some (((p + 1 : Nat) : Int) + (x.length : Int))) = x.map V.int := by
        unfold cutV
        have e2 : ((p + 1 : Nat) : Int) + (x.length : Int) = ((p + 1 + x.length : Nat) : Int) := by omega
        rw [e2, HT.sIx_nat, HT.sIx_nat, List.length_map, Nat.min_eq_left (by omega), Nat.min_eq_left (by omega), ← List.map_drop, ← List.map_take]
        congr 1
        have e3 : l.drop (p + 1) = x ++ t := by
          have := congrArg (List.drop 1) hl
          rw [List.drop_drop] at this
          simpa [My.putR] using this
        rw [e3, show p + 1 + x.length - (p + 1) = x.length by omega, List.take_left]
      rw [e1]
/-- slots: 0 first, 1 second, 2 larger, 3 smaller, 4 rest -/
theorem ok_common_factor (T : Tx K mg a) : FnOk P w K mg base CX0 1 a.f_common_factor a.d_common_factor ["first", "second"] sp_common_factor := by
  refine T.F_common_factor.ok sc_common_factor (fun vs H Q E h => ?_) (fun cdv A outer s H vs Q E hr h => ?_)
  · obtain ⟨_, _, rfl, _⟩ := h
    rfl
  · obtain ⟨m, n, rfl, k⟩ := h
    refine ⟨_, (pss_cons (ps_set (i := 2) sc_common_factor.nd rfl (Or.inl rfl) (pv 0))
      (pss_cons (ps_set (i := 3) sc_common_factor.nd rfl (Or.inl rfl) (pv 1))
      (pss_cons (ps_while PassesOwn.never (pt_cmpR op_ne (pv 3) pe_int (nomark _))
        (pss_cons (ps_set (i := 4) sc_common_factor.nd rfl (Or.inl rfl) (pe_op op_mod (pv 2) (pv 3)))
        (pss_cons (ps_set (i := 2) sc_common_factor.nd rfl (Or.inl rfl) (pv 3))
        (pss_one (ps_set (i := 3) sc_common_factor.nd rfl (Or.inl rfl) (pv 4))))))
      (pss_one (ps_ret (pv 2)))))), ?_⟩
    refine ⟨_, rfl, _, rfl, ?_⟩
    refine while_w (fun σ H' => ∃ (x y : Nat) (v : Option V), σ = [some (.int m), some (.int n), some (.int x), some (.int y), v] ∧ H' = H ∧ Nat.gcd x y = Nat.gcd m n)
      (fun σ => match σ with | [_, _, _, some (.int y), _] => y.toNat | _ => 0) ⟨m, n, none, rfl, rfl, rfl⟩ ?_
    rintro σ H' ⟨x, y, v, rfl, rfl, e⟩
    refine ⟨_, rfl, rfl, _, rfl, ifNe (fun hy => go_on ?_) (fun hy => ?_)⟩
    · have hy0 : 0 < y := by omega
      refine ⟨_, rfl, _, rfl, _, _, rfl, rfl, (by show (0 : Int) < (y : Int); omega), ?_⟩
      refine ⟨_, rfl, _, rfl, ?_⟩
      refine ⟨⟨y, x % y, some (.int ((x : Int) % (y : Int))), rfl, rfl, ?_⟩, ?_⟩
      · rw [← e, Nat.gcd_comm x y, Nat.gcd_rec y x, Nat.gcd_comm]
      · show ((x : Int) % (y : Int)).toNat < (y : Int).toNat
        rw [← Int.natCast_emod]
        exact Nat.mod_lt _ hy0
    · have hy0 : y = 0 := by omega
      subst hy0
      refine ⟨_, rfl, ?_⟩
      rw [Nat.gcd_zero_right] at e
      rw [e]
      exact k
end
/-! ### sizes -/
theorem log2_le {m n : Nat} {k : Nat} (h : m ≤ n) (hn : n.log2 < k) : m.log2 < k := by
  by_cases h0 : m = 0
  · subst h0
    have : Nat.log2 0 = 0 := by decide
    omega
  · have hn0 : n ≠ 0 := by omega
    exact (Nat.log2_lt h0).mpr (Nat.lt_of_le_of_lt h ((Nat.log2_lt hn0).mp hn))
theorem natAbs_abs (i : Int) : (if i < 0 then -i else i) = (i.natAbs : Int) := by
  by_cases h : i < 0
  · rw [if_pos h]; omega
  · rw [if_neg h]; omega
/-! ### promises -/
def sp_digits_end (K : PySem.W.Frag) : Sp := fun vs H Q _ => ∃ (p : Addr) (s : List UInt8) (i : Nat), vs = [.ref p, .int i] ∧ SqL K H p (s.map bV) ∧ i ≤ s.length ∧ Q (.int ((i + ((s.drop i).takeWhile Eb.Num.isDigit).length : Nat) : Int)) H
def sp_digits_value (K : PySem.W.Frag) : Sp := fun vs H Q _ => ∃ (p : Addr) (s : List UInt8), vs = [.ref p] ∧ SqL K H p (s.map bV) ∧ (∀ c ∈ s, Eb.Num.isDigit c = true) ∧ Q (.int ((Eb.Num.number s : Nat) : Int)) H
def sp_power_of_ten : Sp := fun vs H Q _ => ∃ n : Nat, vs = [.int n] ∧ n ≤ 16000 ∧ Q (.int ((10 ^ n : Nat) : Int)) H
def sp_read_size (C : Addr) : Sp := fun vs H Q _ => ∃ (p q : Addr) (s t : List UInt8), vs = [.ref p, .ref q] ∧ H p = some (.lst (s.map bV)) ∧ H q = some (.lst (t.map bV)) ∧ (∀ c ∈ s, Eb.Num.isDigit c = true) ∧ s.length ≤ 512 ∧ t.length ≤ 512 ∧
  ∀ (H' : Hp) (v : V), Same H H' → OptAt C H' v (My.sizeB s t) → Q v H'
def sp_read_number (K : PySem.W.Frag) (C : Addr) : Sp := fun vs H Q _ => ∃ (p : Addr) (s : List UInt8), vs = [.ref p] ∧ SqL K H p (s.map bV) ∧ ∀ (H' : Hp) (v : V), Same H H' → OptAt C H' v (EvenG.numOf s) → Q v H'
section
variable {w : World} {K : PySem.W.Frag} {mg : Str → Option Value} {base : Heap} {a : Ads}
/-- slots: 0 self, 1 top, 2 bottom, 3 shared -/
theorem ok_Ratio_init (T : Tx K mg a) : FnOk P w K mg base CX0 41 a.f_Ratio_init a.d_Ratio_init ["self", "top", "bottom"] (sp_Ratio_init a.c_Ratio) := by
  have G_common_factor := ok_common_factor (w := w) (base := base) T
  refine T.F_Ratio_init.ok sc_Ratio_init (fun vs H Q E h => ?_) (fun cdv A outer s H vs Q E hr h => ?_)
  · obtain ⟨_, _, _, _, rfl, _⟩ := h
    rfl
  · obtain ⟨p, dx, t, b, rfl, hp, hb, k⟩ := h
    have od := op_fdivP (X := (cxOf CX0 P w K mg base ["self", "top", "bottom", "shared"] "Ratio.__init__" (defScope s_Ratio_init) a.f_Ratio_init cdv A outer s H E).nox) (room_py hr) rfl ⟨_, _, rfl, rfl, rfl, rfl, rfl⟩
    refine ⟨_, (pss_cons (ps_set (i := 3) sc_Ratio_init.nd rfl (Or.inl rfl) (pe_call G_common_factor (hr.mono (by decide)) rfl T.m_common_factor T.F_common_factor.kp T.bd_common_factor .nil pass0 (pa_cons (pe_callB call_abs rfl T.b_abs bt_abs (pa_cons (pv 1) pa_nil)) (pa_cons (pv 2) pa_nil))))
      (pss_cons (ps_fld (pv 0) (pe_op od (pv 1) (pv 3)) rfl)
      (pss_one (ps_fld (pv 0) (pe_op od (pv 2) (pv 3)) rfl)))), ?_⟩
    refine ⟨_, rfl, _, rfl, _, rfl, t.natAbs, b, by rw [natAbs_abs]; rfl, ?_⟩
    have g0 : 0 < Nat.gcd t.natAbs b := Nat.gcd_pos_of_pos_right _ hb
    have gc : (0 : Int) < ((Nat.gcd t.natAbs b : Nat) : Int) := by omega
    refine ⟨_, rfl, _, rfl, _, _, rfl, rfl, gc, _, rfl, p, _, dx, _, rfl, hp, T.cl_Ratio, T.no_Ratio_top, (by show 0 < 1000; decide), ?_⟩
    refine ⟨_, rfl, _, rfl, _, _, rfl, rfl, gc, _, rfl, p, _, dx, _, rfl, upd_same, T.cl_Ratio, T.no_Ratio_bottom, (by show 1 < 1000; decide), ?_⟩
    refine k _ ⟨dx, ?_⟩ (Keep.upd.trans Keep.upd)
    rw [upd_same]
    have hb0 : b ≠ 0 := by omega
    have e1 : (mkRat t b).num = t / ((Nat.gcd t.natAbs b : Nat) : Int) := by rw [Rat.num_mkRat, if_neg hb0, Nat.gcd_comm]
    have e2 : ((mkRat t b).den : Int) = (b : Int) / ((Nat.gcd t.natAbs b : Nat) : Int) := by rw [Rat.den_mkRat, if_neg hb0, Nat.gcd_comm, Int.natCast_ediv]
    rw [e1, e2]
    rfl
/-- slots: 0 text, 1 start, 2 place -/
theorem ok_digits_end (T : Tx K mg a) : FnOk P w K mg base CX0 1 a.f_digits_end a.d_digits_end ["text", "start"] (sp_digits_end K) := by
  refine T.F_digits_end.ok sc_digits_end (fun vs H Q E h => ?_) (fun cdv A outer s H vs Q E hr h => ?_)
  · obtain ⟨_, _, _, rfl, _⟩ := h
    rfl
  · obtain ⟨p, t, i, rfl, hp, hi, k⟩ := h
    refine ⟨_, (pss_cons (ps_set (i := 2) sc_digits_end.nd rfl (Or.inl rfl) (pv 1))
      (pss_cons (ps_while PassesOwn.never (PW.pt (pw_and (pt_cmpR op_lt (pv 2) (pe_callB call_len_seq rfl T.b_len bt_len (pa_cons (pv 0) pa_nil)) (nomark _)) (pw_and1 (pt_chain op_le op_le (pe_gi rfl T.g_NOUGHT) (pe_ix ix_list (pv 0) (pv 2) (fun _ _ => rfl)) (pe_gi rfl T.g_NINE)))))
        (pss_one (ps_set (i := 2) sc_digits_end.nd rfl (Or.inl rfl) (pe_op op_add (pv 2) pe_int))))
      (pss_one (ps_ret (pv 2))))), ?_⟩
    refine ⟨_, rfl, ?_⟩
    refine while_w (fun σ H' => ∃ j : Nat, σ = [some (.ref p), some (.int i), some (.int j)] ∧ H' = H ∧ j ≤ t.length ∧ i + ((t.drop i).takeWhile Eb.Num.isDigit).length = j + ((t.drop j).takeWhile Eb.Num.isDigit).length)
      (fun σ => match σ with | [_, _, some (.int j)] => t.length - j.toNat | _ => 0) ⟨i, rfl, rfl, hi, rfl⟩ ?_
    rintro σ H' ⟨j, rfl, rfl, hj, e⟩
    refine ⟨_, rfl, _, rfl, p, _, rfl, .inl hp, _, _, rfl, rfl, _, rfl, ?_⟩
    have fin : ((t.drop j).takeWhile Eb.Num.isDigit).length = 0 → ∃ v, ([some (V.ref p), some (.int i), some (.int (j : Int))] : L2.St)[2]? = some (some v) ∧ Q v H' := fun h0 => by
      refine ⟨_, rfl, ?_⟩
      rw [h0] at e
      rw [← Nat.add_zero j, ← e]
      exact k
    refine ifD (fun h => ?_) (fun h => ?_)
    · have hjl : j < t.length := by rw [List.length_map] at h; omega
      obtain ⟨c, hc⟩ : ∃ c, t[j]? = some c := ⟨_, List.getElem?_eq_getElem hjl⟩
      have hd : t.drop j = c :: t.drop (j + 1) := by
        rw [List.drop_eq_getElem_cons hjl]
        congr 1
        exact Option.some.inj ((List.getElem?_eq_getElem hjl).symm.trans hc)
      refine ⟨_, rfl, _, rfl, p, _, _, _, rfl, rfl, hp, atI_nat (v := bV c) (by rw [List.getElem?_map, hc]; rfl), _, _, rfl, rfl, _, rfl, ?_⟩
      refine ifD (fun h1 => ?_) (fun h1 => ?_)
      · refine ⟨_, _, rfl, rfl, _, rfl, ?_⟩
        refine ifD (fun h2 => ?_) (fun h2 => ?_)
        · have hdig : Eb.Num.isDigit c = true := by
            unfold Eb.Num.isDigit
            rw [decide_eq_true (by omega), decide_eq_true (by omega)]
            rfl
          refine go_on ?_
          refine ⟨_, rfl, _, _, rfl, rfl, ?_⟩
          refine ⟨⟨j + 1, ?_, rfl, hjl, ?_⟩, ?_⟩
          · rfl
          · rw [e, hd, List.takeWhile_cons, if_pos hdig, List.length_cons]
            omega
          · show t.length - ((j : Int) + 1).toNat < t.length - (j : Int).toNat
            omega
        · refine fin ?_
          rw [hd, List.takeWhile_cons, if_neg]
          · rfl
          · unfold Eb.Num.isDigit
            rw [decide_eq_false (p := c.toNat ≤ 57) (by omega)]
            simp
      · refine ⟨_, rfl, iteF (fin ?_)⟩
        rw [hd, List.takeWhile_cons, if_neg]
        · rfl
        · unfold Eb.Num.isDigit
          rw [decide_eq_false (p := 48 ≤ c.toNat) (by omega)]
          simp
    · refine iteF (fin ?_)
      have : t.length ≤ j := by rw [List.length_map] at h; omega
      rw [List.drop_eq_nil_of_le this]
      rfl
/-- slots: 0 digits, 1 value, 2 digit -/
theorem ok_digits_value (T : Tx K mg a) : FnOk P w K mg base CX0 1 a.f_digits_value a.d_digits_value ["digits"] (sp_digits_value K) := by
  refine T.F_digits_value.ok sc_digits_value (fun vs H Q E h => ?_) (fun cdv A outer s H vs Q E hr h => ?_)
  · obtain ⟨_, _, rfl, _⟩ := h
    rfl
  · obtain ⟨p, t, rfl, hp, hd, k⟩ := h
    refine ⟨_, (pss_cons (ps_set (i := 1) sc_digits_value.nd rfl (Or.inl rfl) pe_int)
      (pss_cons (ps_for PassesOwn.never rfl (pi_list (pv 0)) (pg_name (i := 2) sc_digits_value.nd rfl (Or.inl rfl))
        (pss_one (ps_set (i := 1) sc_digits_value.nd rfl (Or.inl rfl) (pe_op op_sub (pe_op op_add (pe_op op_mulK (pv 1) pe_int) (pv 2)) (pe_gi rfl T.g_NOUGHT)))))
      (pss_one (ps_ret (pv 1))))), ?_⟩
    refine ⟨_, rfl, p, rfl, ⟨_, hp⟩, for_list (K := K) (a := p) (xs := t.map bV) (fun i σ H' => ∃ v : Option V, σ = [some (.ref p), some (.int ((Eb.Num.number (t.take i) : Nat) : Int)), v] ∧ H' = H)
      ⟨none, rfl, rfl⟩ (fun i σ H' _ ⟨_, _, e⟩ => by rw [e]; exact hp) ?_ ?_⟩
    · rintro i y σ H' hi ⟨v, rfl, rfl⟩
      obtain ⟨c, hc, rfl⟩ : ∃ c, t[i]? = some c ∧ y = bV c := by
        rw [List.getElem?_map] at hi
        cases e : t[i]? with
        | none => rw [e] at hi; cases hi
        | some c => rw [e] at hi; exact ⟨c, rfl, (Option.some.inj hi).symm⟩
      refine ⟨_, rfl, _, _, rfl, rfl, IntMulOk.of_right (by decide), _, rfl, _, _, rfl, rfl, _, _, rfl, rfl, ?_⟩
      refine ⟨some (bV c), ?_, rfl⟩
      have hg : Eb.Num.isDigit c = true := hd c (List.mem_of_getElem? hc)
      have h48 : 48 ≤ c.toNat := by
        unfold Eb.Num.isDigit at hg
        rw [Bool.and_eq_true] at hg
        exact of_decide_eq_true hg.1
      have e1 : t.take (i + 1) = t.take i ++ [c] := by rw [List.take_add_one, hc]; rfl
      have e2 : Eb.Num.number (t.take (i + 1)) = 10 * Eb.Num.number (t.take i) + (c.toNat - 48) := by
        rw [e1]
        unfold Eb.Num.number
        rw [List.foldl_append]
        rfl
      have e3 : ((Eb.Num.number (t.take (i + 1)) : Nat) : Int) = ((Eb.Num.number (t.take i) : Nat) : Int) * 10 + (c.toNat : Int) - 48 := by rw [e2]; omega
      rw [e3]
      rfl
    · rintro σ H' ⟨v, rfl, rfl⟩
      rw [List.length_map, List.take_length]
      exact ⟨_, rfl, k⟩
/-- slots: 0 exponent, 1 value, 2 place -/
theorem ok_power_of_ten (T : Tx K mg a) : FnOk P w K mg base CX0 1 a.f_power_of_ten a.d_power_of_ten ["exponent"] sp_power_of_ten := by
  refine T.F_power_of_ten.ok sc_power_of_ten (fun vs H Q E h => ?_) (fun cdv A outer s H vs Q E hr h => ?_)
  · obtain ⟨_, rfl, _⟩ := h
    rfl
  · obtain ⟨n, rfl, hn, k⟩ := h
    refine ⟨_, (pss_cons (ps_set (i := 1) sc_power_of_ten.nd rfl (Or.inl rfl) pe_int)
      (pss_cons (ps_for PassesOwn.never rfl (pi_range1 rfl T.b_range (pa_cons (pv 0) pa_nil)) (pg_name (i := 2) sc_power_of_ten.nd rfl (Or.inl rfl))
        (pss_one (ps_set (i := 1) sc_power_of_ten.nd rfl (Or.inl rfl) (pe_op op_mulK (pv 1) pe_int))))
      (pss_one (ps_ret (pv 1))))), ?_⟩
    refine ⟨_, rfl, (n : Int), rfl, by omega, by omega, for_range (n := (n : Int).toNat) (fun i σ H' => ∃ v : Option V, σ = [some (.int n), some (.int ((10 ^ i : Nat) : Int)), v] ∧ H' = H) ⟨none, rfl, rfl⟩ ?_ ?_⟩
    · rintro i σ H' hi ⟨v, rfl, rfl⟩
      refine ⟨_, rfl, _, _, rfl, rfl, IntMulOk.of_right (by decide), ?_⟩
      refine ⟨some (.int (0 + (i : Int))), ?_, rfl⟩
      rw [Nat.pow_succ, Int.natCast_mul]
      rfl
    · rintro σ H' ⟨v, rfl, rfl⟩
      refine ⟨_, rfl, ?_⟩
      rw [Int.toNat_natCast]
      exact k
end
/-! ### slices -/
theorem cut_from (xs : List V) (k : Nat) : cutV xs (some (k : Int)) none = xs.drop k := by
  unfold cutV
  rw [HT.sIx_nat, HT.sIx_none]
  by_cases h : k ≤ xs.length
  · rw [Nat.min_eq_left h, List.take_of_length_le]
    rw [List.length_drop]
    exact Nat.le_refl _
  · rw [Nat.min_eq_right (by omega), Nat.sub_self, List.take_zero, List.drop_eq_nil_of_le (by omega)]
theorem cut_to (xs : List V) (k : Nat) : cutV xs none (some (k : Int)) = xs.take k := by
  unfold cutV
  rw [HT.sIx_nat, HT.sIx_none, List.drop_zero, Nat.sub_zero]
  by_cases h : k ≤ xs.length
  · rw [Nat.min_eq_left h]
  · rw [Nat.min_eq_right (by omega), List.take_of_length_le (Nat.le_refl _), List.take_of_length_le (by omega)]
theorem cut_mid (xs : List V) (i j : Nat) (h1 : i ≤ j) (h2 : j ≤ xs.length) : cutV xs (some (i : Int)) (some (j : Int)) = (xs.drop i).take (j - i) := by
  unfold cutV
  rw [HT.sIx_nat, HT.sIx_nat, Nat.min_eq_left (show i ≤ xs.length by omega), Nat.min_eq_left h2]
/-! ### the ratios of number texts -/
theorem tw_digits (s : List UInt8) : ∀ c ∈ s.takeWhile Eb.Num.isDigit, Eb.Num.isDigit c = true := fun c h => by
  induction s with
  | nil => cases h
  | cons d r ih =>
    rw [List.takeWhile_cons] at h
    by_cases hd : Eb.Num.isDigit d = true
    · rw [if_pos hd] at h
      rcases List.mem_cons.mp h with rfl | h
      · exact hd
      · exact ih h
    · rw [if_neg hd] at h
      cases h
theorem fold_lt : ∀ (s : List UInt8) (n : Nat), (∀ c ∈ s, Eb.Num.isDigit c = true) → s.foldl (fun (n : Nat) (c : UInt8) => 10 * n + (c.toNat - 48)) n < (n + 1) * 10 ^ s.length
  | [], n, _ => by simp
  | c :: s, n, h => by
    have ih := fold_lt s (10 * n + (c.toNat - 48)) fun d hd => h d (List.mem_cons_of_mem _ hd)
    have h2 : Eb.Num.isDigit c = true := h c (List.mem_cons_self ..)
    have h3 : c.toNat ≤ 57 := by
      unfold Eb.Num.isDigit at h2
      rw [Bool.and_eq_true] at h2
      exact of_decide_eq_true h2.2
    rw [List.foldl_cons, List.length_cons]
    refine Nat.lt_of_lt_of_le ih ?_
    have h4 : 10 * n + (c.toNat - 48) + 1 ≤ (n + 1) * 10 := by omega
    calc (10 * n + (c.toNat - 48) + 1) * 10 ^ s.length ≤ ((n + 1) * 10) * 10 ^ s.length := Nat.mul_le_mul_right _ h4
      _ = (n + 1) * 10 ^ (s.length + 1) := by rw [Nat.pow_succ, Nat.mul_assoc, Nat.mul_comm 10]
theorem number_lt (s : List UInt8) (h : ∀ c ∈ s, Eb.Num.isDigit c = true) : Eb.Num.number s < 10 ^ s.length := by
  have := fold_lt s 0 h
  rw [Nat.zero_add, Nat.one_mul] at this
  exact this
theorem log_512 : (10 ^ 512 : Nat).log2 < 9000 := by decide +kernel
theorem pow_512 {n : Nat} (h : n ≤ 512) : 10 ^ n ≤ 10 ^ 512 := Nat.pow_le_pow_right (by decide) h
theorem mkRat_den_le (t : Int) {b : Nat} (hb : 0 < b) : (mkRat t b).den ≤ b := by
  rw [Rat.den_mkRat, if_neg (by omega)]
  exact Nat.div_le_self _ _
theorem rat_div (m n : Nat) : ((m : Nat) : Rat) / ((n : Nat) : Rat) = mkRat (m : Int) n := by
  rw [Rat.mkRat_eq_div, Rat.intCast_natCast]
theorem mkRat_one (m : Nat) : mkRat (m : Int) 1 = ((m : Nat) : Rat) := by
  rw [Rat.mkRat_eq_div, Rat.intCast_natCast, show ((1 : Nat) : Rat) = 1 from rfl]
  grind
theorem sizeB_den {s t : List UInt8} {q : Rat} (ht : t.length ≤ 512) (hq : My.sizeB s t = some q) : q.den ≤ 10 ^ 512 := by
  match t, ht, hq with
  | [], _, hq =>
    have e : some ((Eb.Num.number s : Nat) : Rat) = some q := hq
    rw [← Option.some.inj e]
    show 1 ≤ 10 ^ 512
    exact Nat.pow_pos (by decide)
  | c :: d, ht, hq =>
    have hd : d.length ≤ 512 := by simp at ht; omega
    unfold My.sizeB at hq
    simp only [] at hq
    split at hq
    · cases hq
    · rename_i h0
      split at hq
      · rw [rat_div] at hq
        rw [← Option.some.inj hq]
        exact Nat.le_trans (mkRat_den_le _ (Nat.pow_pos (by decide))) (pow_512 hd)
      · split at hq
        · rename_i h1
          rw [rat_div] at hq
          rw [← Option.some.inj hq]
          have hall : d.takeWhile Eb.Num.isDigit = d := My.tw_all (fun h => h0 (.inr h))
          have hlt := number_lt d (fun c hc => tw_digits d c (by rw [hall]; exact hc))
          exact Nat.le_trans (mkRat_den_le _ (Nat.pos_of_ne_zero h1.2)) (Nat.le_trans (Nat.le_of_lt hlt) (pow_512 hd))
        · cases hq
theorem neg_mk (q : Rat) : mkRat (-q.num) q.den = -q := by
  rw [← Rat.neg_mkRat, Rat.mkRat_self]
section
variable {w : World} {K : PySem.W.Frag} {mg : Str → Option Value} {base : Heap} {a : Ads}
/-- slots: 0 whole, 1 tail, 2 digits -/
theorem ok_read_size (T : Tx K mg a) : FnOk P w K mg base CX0 43 a.f_read_size a.d_read_size ["whole", "tail"] (sp_read_size a.c_Ratio) := by
  have G_Ratio_init := ok_Ratio_init (w := w) (base := base) T
  have G_digits_value := ok_digits_value (w := w) (base := base) T
  have G_digits_end := ok_digits_end (w := w) (base := base) T
  have G_power_of_ten := ok_power_of_ten (w := w) (base := base) T
  refine T.F_read_size.ok sc_read_size (fun vs H Q E h => ?_) (fun cdv A outer s H vs Q E hr h => ?_)
  · obtain ⟨_, _, _, _, rfl, _⟩ := h
    rfl
  · obtain ⟨p, q, s1, s2, rfl, hp, hq, hd1, hl1, hl2, k⟩ := h
    refine ⟨_, (pss_cons (ps_if (pt_cmpR op_eq (pe_callB call_len_seq rfl T.b_len bt_len (pa_cons (pv 1) pa_nil)) pe_int (nomark _))
        (pss_one (ps_ret (pe_make T.mk_Ratio G_Ratio_init (hr.mono (by decide)) rfl T.m_Ratio T.bd_Ratio_init .nil pass0 (pa_cons (pe_call G_digits_value (hr.mono (by decide)) rfl T.m_digits_value T.F_digits_value.kp T.bd_digits_value .nil pass0 (pa_cons (pv 0) pa_nil)) (pa_cons pe_int pa_nil)))))
        pss_nil)
      (pss_cons (ps_set (i := 2) sc_read_size.nd rfl (Or.inl rfl) (pe_slice sl_list (pv 1) (po_some pe_int) po_none))
      (pss_cons (ps_if (PW.pt (pw_or (pt_cmpR op_eq (pe_callB call_len_seq rfl T.b_len bt_len (pa_cons (pv 2) pa_nil)) pe_int (nomark _)) (pw_or1 (pt_cmpR op_lt (pe_call G_digits_end (hr.mono (by decide)) rfl T.m_digits_end T.F_digits_end.kp T.bd_digits_end .nil pass0 (pa_cons (pv 2) (pa_cons pe_int pa_nil))) (pe_callB call_len_seq rfl T.b_len bt_len (pa_cons (pv 2) pa_nil)) (nomark _)))))
        (pss_one (ps_ret pe_non))
        pss_nil)
      (pss_cons (ps_if (pt_cmpR op_eq (pe_ix ix_list (pv 1) pe_int (fun _ _ => rfl)) (pe_gi rfl T.g_POINT) (nomark _))
        (pss_one (ps_ret (pe_make T.mk_Ratio G_Ratio_init (hr.mono (by decide)) rfl T.m_Ratio T.bd_Ratio_init .nil pass0 (pa_cons (pe_call G_digits_value (hr.mono (by decide)) rfl T.m_digits_value T.F_digits_value.kp T.bd_digits_value .nil pass0 (pa_cons (pe_op op_cat (pv 0) (pv 2)) pa_nil)) (pa_cons (pe_call G_power_of_ten (hr.mono (by decide)) rfl T.m_power_of_ten T.F_power_of_ten.kp T.bd_power_of_ten .nil pass0 (pa_cons (pe_callB call_len_seq rfl T.b_len bt_len (pa_cons (pv 2) pa_nil)) pa_nil)) pa_nil)))))
        pss_nil)
      (pss_cons (ps_if (PW.pt (pw_and (pt_cmpR op_eq (pe_ix ix_list (pv 1) pe_int (fun _ _ => rfl)) (pe_gi rfl T.g_SLASH) (nomark _)) (pw_and1 (pt_cmpR op_ne (pe_call G_digits_value (hr.mono (by decide)) rfl T.m_digits_value T.F_digits_value.kp T.bd_digits_value .nil pass0 (pa_cons (pv 2) pa_nil)) pe_int (nomark _)))))
        (pss_one (ps_ret (pe_make T.mk_Ratio G_Ratio_init (hr.mono (by decide)) rfl T.m_Ratio T.bd_Ratio_init .nil pass0 (pa_cons (pe_call G_digits_value (hr.mono (by decide)) rfl T.m_digits_value T.F_digits_value.kp T.bd_digits_value .nil pass0 (pa_cons (pv 0) pa_nil)) (pa_cons (pe_call G_digits_value (hr.mono (by decide)) rfl T.m_digits_value T.F_digits_value.kp T.bd_digits_value .nil pass0 (pa_cons (pv 2) pa_nil)) pa_nil)))))
        pss_nil)
      (pss_one (ps_ret pe_non))))))), ?_⟩
    -- if len(tail) == 0: return Ratio(digits_value(whole), 1)
    refine ⟨_, rfl, q, _, rfl, .inl (SqL.of hq), rfl, _, rfl, ifEq (fun h0 => ?_) (fun h0 => ?_)⟩
    · have e2 : s2 = [] := by
        rw [List.length_map] at h0
        exact List.eq_nil_of_length_eq_zero (by omega)
      refine ⟨_, rfl, p, s1, rfl, SqL.of hp, hd1, fun x dx nx nd ne => ?_⟩
      refine ⟨x, dx, _, 1, rfl, upd_same, by decide, fun H' hat kp => ⟨rfl, k H' _ (Same.made nx nd kp) ?_⟩⟩
      rw [e2]
      rw [mkRat_one] at hat
      exact ⟨x, rfl, hat⟩
    -- digits = tail[1:]
    match s2, hq, hl2, h0, k with
    | [], _, _, h0, _ => exact absurd rfl h0
    | c :: d, hq, hl2, _, k =>
      have hld : d.length ≤ 512 := by simp at hl2; omega
      refine ⟨_, rfl, _, rfl, q, _, rfl, SqL.of hq, fun z hz => ?_⟩
      have ec : cutV ((c :: d).map bV) (some 1) none = d.map bV := cut_from _ 1
      rw [ec]
      have s1' : Same H (upd H z (.lst (d.map bV))) := Same.upd hz
      have hz' : (upd H z (.lst (d.map bV))) z = some (.lst (d.map bV)) := upd_same
      have hp' := s1' _ _ hp
      have hq' := s1' _ _ hq
      generalize upd H z (.lst (d.map bV)) = H1 at s1' hz' hp' hq'
      -- if len(digits) == 0 or digits_end(digits, 0) < len(digits): return None
      have bad : (d = [] ∨ (d.takeWhile Eb.Num.isDigit).length < d.length) → Q .non H1 := fun hb => by
        refine k H1 .non s1' ?_
        have e : My.sizeB s1 (c :: d) = none := by
          unfold My.sizeB
          simp only []
          rw [if_pos hb]
        rw [e]
        rfl
      refine ⟨_, rfl, z, _, rfl, .inl (SqL.of hz'), rfl, _, rfl, ifEq (fun h1 => iteT ?_) (fun h1 => ?_)⟩
      · exact bad (.inl (List.eq_nil_of_length_eq_zero (by rw [List.length_map] at h1; omega)))
      have hd0 : d ≠ [] := fun e => h1 (by rw [e]; rfl)
      refine ⟨_, rfl, z, d, 0, rfl, SqL.of hz', Nat.zero_le _, _, rfl, z, _, rfl, .inl (SqL.of hz'), _, _, rfl, rfl, _, rfl, ifD (fun h2 => ?_) (fun h2 => ?_)⟩
      · refine bad (.inr ?_)
        rw [List.length_map, Nat.zero_add, List.drop_zero] at h2
        omega
      have hnl : ¬ (d.takeWhile Eb.Num.isDigit).length < d.length := fun h => h2 (by rw [List.length_map, Nat.zero_add, List.drop_zero]; omega)
      have hall : d.takeWhile Eb.Num.isDigit = d := My.tw_all hnl
      have hdd : ∀ c ∈ d, Eb.Num.isDigit c = true := fun c hc => tw_digits d c (by rw [hall]; exact hc)
      have hno : ¬ (d = [] ∨ (d.takeWhile Eb.Num.isDigit).length < d.length) := fun h => h.elim hd0 hnl
      -- if tail[0] == POINT
      refine ⟨_, rfl, q, _, 0, bV c, rfl, rfl, SqL.of hq', at_of (j := 0) rfl rfl, rfl, _, rfl, ifEq (fun h3 => ?_) (fun h3 => ?_)⟩
      · have hc : c = 46 := by
          apply UInt8.toNat_inj.mp
          show c.toNat = 46
          omega
        refine ⟨_, rfl, _, rfl, p, z, _, _, rfl, rfl, hp', hz', ?_, fun y hy => ?_⟩
        · rw [List.length_map, List.length_map, sizeLine_eq]
          omega
        have s2' : Same H1 (upd H1 y (.lst (s1.map bV ++ d.map bV))) := Same.upd hy
        have hy' : (upd H1 y (.lst (s1.map bV ++ d.map bV))) y = some (.lst ((s1 ++ d).map bV)) := by rw [upd_same, List.map_append]
        have hz2 := s2' _ _ hz'
        generalize upd H1 y (.lst (s1.map bV ++ d.map bV)) = H2 at s2' hy' hz2
        refine ⟨y, s1 ++ d, rfl, SqL.of hy', (fun c hc => (List.mem_append.mp hc).elim (hd1 c) (hdd c)), _, rfl, z, _, rfl, .inl (SqL.of hz2), d.length, ?_, by omega, fun x dx nx nd ne => ?_⟩
        · rw [List.length_map]
          rfl
        refine ⟨x, dx, _, 10 ^ d.length, rfl, upd_same, Nat.pow_pos (by decide), fun H' hat kp => ⟨rfl, k H' _ ((s1'.trans s2').trans (Same.made nx nd kp)) ?_⟩⟩
        have e : My.sizeB s1 (c :: d) = some (mkRat ((Eb.Num.number (s1 ++ d) : Nat) : Int) (10 ^ d.length)) := by
          unfold My.sizeB
          simp only []
          rw [if_neg hno, if_pos hc, rat_div]
        rw [e]
        exact ⟨x, rfl, hat⟩
      have hc46 : c ≠ 46 := fun e => h3 (by rw [e]; rfl)
      -- if tail[0] == SLASH and digits_value(digits) != 0
      have none2 : ¬ (c = 47 ∧ Eb.Num.number d ≠ 0) → Q .non H1 := fun hn => by
        refine k H1 .non s1' ?_
        have e : My.sizeB s1 (c :: d) = none := by
          unfold My.sizeB
          simp only []
          rw [if_neg hno, if_neg hc46, if_neg hn]
        rw [e]
        rfl
      refine ⟨_, rfl, q, _, 0, bV c, rfl, rfl, SqL.of hq', at_of (j := 0) rfl rfl, rfl, _, rfl, ifEq (fun h4 => ?_) (fun h4 => iteF ?_)⟩
      · have hc : c = 47 := by
          apply UInt8.toNat_inj.mp
          show c.toNat = 47
          omega
        refine ⟨_, rfl, z, d, rfl, SqL.of hz', hdd, rfl, _, rfl, ifNe (fun h5 => ?_) (fun h5 => ?_)⟩
        · have hn0 : Eb.Num.number d ≠ 0 := fun e => h5 (by rw [e]; rfl)
          have hlt := number_lt d hdd
          refine ⟨_, rfl, p, s1, rfl, SqL.of hp', hd1, _, rfl, z, d, rfl, SqL.of hz', hdd, fun x dx nx nd ne => ?_⟩
          refine ⟨x, dx, _, Eb.Num.number d, rfl, upd_same, Nat.pos_of_ne_zero hn0, fun H' hat kp => ⟨rfl, k H' _ (s1'.trans (Same.made nx nd kp)) ?_⟩⟩
          have e : My.sizeB s1 (c :: d) = some (mkRat ((Eb.Num.number s1 : Nat) : Int) (Eb.Num.number d)) := by
            unfold My.sizeB
            simp only []
            rw [if_neg hno, if_neg hc46, if_pos ⟨hc, hn0⟩, rat_div]
          rw [e]
          exact ⟨x, rfl, hat⟩
        · exact none2 fun h => h.2 (by omega)
      · exact none2 fun h => h4 (by rw [h.1]; rfl)
end
/-! ### pairs of lists -/
theorem pr_imp {α β : Type} {R S : α → β → Prop} : ∀ {as : List α} {bs : List β}, Paired R as bs → (∀ x y, x ∈ as → R x y → S x y) → Paired S as bs
  | _, _, .nil, _ => .nil
  | _, _, .cons r t, h => .cons (h _ _ (List.mem_cons_self ..) r) (pr_imp t fun x y hx => h x y (List.mem_cons_of_mem _ hx))
theorem pr_snoc {α β : Type} {R : α → β → Prop} {x : α} {y : β} : ∀ {as : List α} {bs : List β}, Paired R as bs → R x y → Paired R (as ++ [x]) (bs ++ [y])
  | _, _, .nil, r => .cons r .nil
  | _, _, .cons q t, r => .cons q (pr_snoc t r)
theorem pr_get {α β : Type} {R : α → β → Prop} : ∀ {as : List α} {bs : List β} {i : Nat} {x : α}, Paired R as bs → as[i]? = some x → ∃ y, bs[i]? = some y ∧ R x y
  | _, _, _, _, .nil, e => by simp at e
  | _, _, 0, _, .cons r _, e => by simp at e; subst e; exact ⟨_, rfl, r⟩
  | _, _, i + 1, x, .cons _ t, e => by
    obtain ⟨y, h1, h2⟩ := pr_get (i := i) (x := x) t (by simpa using e)
    exact ⟨y, by simpa using h1, h2⟩
/-- the int of a number from 0 on -/
def nV (n : Nat) : V := .int (n : Int)
theorem map_at {α : Type} {f : α → V} {l : List α} {i : Nat} {y : V} (h : (l.map f)[i]? = some y) : ∃ x, l[i]? = some x ∧ y = f x := by
  rw [List.getElem?_map] at h
  cases e : l[i]? with
  | none => rw [e] at h; cases h
  | some x => rw [e] at h; exact ⟨x, rfl, (Option.some.inj h).symm⟩
/-! ### the data of plans -/
/-- the list at p holds lists of bytes -/
def PiecesAt (H : Hp) (p : Addr) (as : List Addr) (ps : List (List UInt8)) : Prop := H p = some (.lst (as.map V.ref)) ∧ Paired (fun x s => H x = some (.lst (s.map bV))) as ps
/-- the list at p holds ratios -/
def RatsAt (C : Addr) (H : Hp) (p : Addr) (qs : List Rat) : Prop := ∃ as : List Addr, H p = some (.lst (as.map V.ref)) ∧ Paired (RatAt C H) as qs
theorem RatsAt.same {C : Addr} {H H' : Hp} {p : Addr} {qs : List Rat} (h : RatsAt C H p qs) (s : Same H H') : RatsAt C H' p qs :=
  let ⟨as, e, r⟩ := h
  ⟨as, s _ _ e, pr_imp r fun _ _ _ z => z.same s⟩
def OptRatsAt (C : Addr) (H0 H : Hp) (v : V) : Option (List Rat) → Prop
  | none => v = .non
  | some qs => ∃ p, v = .ref p ∧ H0 p = none ∧ RatsAt C H p qs
def plF (l c : Addr) (b : Int) : List (Str × V) := [("loads", .ref l), ("tops", .ref c), ("bottom", .int b)]
/-- the numerators over one denominator -/
def tops (qs : List Rat) : List Int := My.termsAt (My.comm qs) qs 0 0
/-- a plan whose loads stand at l -/
def PlanAt (CP : Addr) (H : Hp) (p l c : Addr) (qs : List Rat) : Prop := (∃ dx, H p = some (.ins CP dx (plF l c ((My.comm qs : Nat) : Int)))) ∧ H c = some (.lst ((tops qs).map V.int))
def OptPlanAt (CP : Addr) (H0 H : Hp) (l : Addr) (v : V) : Option Eb.Balance.Plan → Prop
  | none => v = .non
  | some P => ∃ p c, v = .ref p ∧ H0 p = none ∧ H0 c = none ∧ PlanAt CP H p l c P.counts
/-! ### promises -/
def sp_Plan_init (C : Addr) : Sp := fun vs H Q _ => ∃ (p dx l c : Addr) (b : Int), vs = [.ref p, .ref l, .ref c, .int b] ∧ H p = some (.ins C dx []) ∧ ∀ H' : Hp, (∃ dx, H' p = some (.ins C dx (plF l c b))) → Keep p H H' → Q .non H'
def sp_split_at_blanks (K : PySem.W.Frag) : Sp := fun vs H Q _ => ∃ (p : Addr) (s : List UInt8), vs = [.ref p] ∧ SqL K H p (s.map bV) ∧ s.length ≤ 4096 ∧
  ∀ (H' : Hp) (q : Addr) (as : List Addr), Same H H' → H q = none → (∀ x ∈ as, H x = none) → PiecesAt H' q as (EvenG.partsOf s []) → as.length ≤ 4097 → Q (.ref q) H'
def sp_may_count (C : Addr) : Sp := fun vs H Q _ => ∃ (p : Addr) (q : Rat), vs = [.ref p] ∧ RatAt C H p q ∧ Q (.bl (Eb.Balance.countFits q)) H
def sp_read_counts (K : PySem.W.Frag) (C : Addr) : Sp := fun vs H Q _ => ∃ (p : Addr) (s : List UInt8), vs = [.ref p] ∧ SqL K H p (s.map bV) ∧ ∀ (H' : Hp) (v : V), Same H H' → OptRatsAt C H H' v (My.countsOf s) → Q v H'
def sp_loads_fit (K : PySem.W.Frag) : Sp := fun vs H Q _ => ∃ (p : Addr) (ns : List Nat), vs = [.ref p] ∧ SqL K H p (ns.map nV) ∧ Q (.bl (decide (1 ≤ ns.length ∧ ns.length ≤ 64 ∧ ∀ j ∈ ns, j ≤ 15))) H
def sp_common_bottom (C : Addr) : Sp := fun vs H Q _ => ∃ (p : Addr) (qs : List Rat), vs = [.ref p] ∧ RatsAt C H p qs ∧ (∀ q ∈ qs, Eb.Balance.countFits q = true) ∧ Q (.int ((My.comm qs : Nat) : Int)) H
def sp_drift_goes_out : Sp := fun vs H Q _ => ∃ (p : Addr) (qs : List Rat) (d : Nat), vs = [.ref p, .int d] ∧ H p = some (.lst ((tops qs).map V.int)) ∧ qs.length ≤ 64 ∧ d ≤ 8 ∧
  ∀ H' : Hp, Same H H' → Q (.bl (decide (My.goesOut qs d))) H'
def sp_read_plan (K : PySem.W.Frag) (CP : Addr) : Sp := fun vs H Q _ => ∃ (d : Nat) (l t : Addr) (ns : List Nat) (s : List UInt8), vs = [.int d, .ref l, .ref t] ∧ SqL K H l (ns.map nV) ∧ SqL K H t (s.map bV) ∧
  ∀ (H' : Hp) (v : V), Same H H' → OptPlanAt CP H H' l v (EvenG.planOf ns s d) → Q v H'
section
variable {w : World} {K : PySem.W.Frag} {mg : Str → Option Value} {base : Heap} {a : Ads}
theorem ok_Plan_init (T : Tx K mg a) : FnOk P w K mg base CX0 1 a.f_Plan_init a.d_Plan_init ["self", "loads", "tops", "bottom"] (sp_Plan_init a.c_Plan) := by
  refine T.F_Plan_init.ok sc_Plan_init (fun vs H Q E h => ?_) (fun cdv A outer s H vs Q E hr h => ?_)
  · obtain ⟨_, _, _, _, _, rfl, _⟩ := h
    rfl
  · obtain ⟨p, dx, l, c, b, rfl, hp, k⟩ := h
    refine ⟨_, (pss_cons (ps_fld (pv 0) (pv 1) rfl)
      (pss_cons (ps_fld (pv 0) (pv 2) rfl)
      (pss_one (ps_fld (pv 0) (pv 3) rfl)))), ?_⟩
    refine ⟨_, rfl, _, rfl, p, _, dx, _, rfl, hp, T.cl_Plan, T.no_Plan_loads, (by show 0 < 1000; decide), ?_⟩
    refine ⟨_, rfl, _, rfl, p, _, dx, _, rfl, upd_same, T.cl_Plan, T.no_Plan_tops, (by show 1 < 1000; decide), ?_⟩
    refine ⟨_, rfl, _, rfl, p, _, dx, _, rfl, upd_same, T.cl_Plan, T.no_Plan_bottom, (by show 2 < 1000; decide), ?_⟩
    exact k _ ⟨dx, upd_same⟩ ((Keep.upd.trans Keep.upd).trans Keep.upd)
/-- slots: 0 text, 1 pieces, 2 piece, 3 byte -/
theorem ok_split_at_blanks (T : Tx K mg a) : FnOk P w K mg base CX0 1 a.f_split_at_blanks a.d_split_at_blanks ["text"] (sp_split_at_blanks K) := by
  refine T.F_split_at_blanks.ok sc_split_at_blanks (fun vs H Q E h => ?_) (fun cdv A outer s H vs Q E hr h => ?_)
  · obtain ⟨_, _, rfl, _⟩ := h
    rfl
  · obtain ⟨p, t, rfl, hp, hl, k⟩ := h
    refine ⟨_, (pss_cons (ps_set (i := 1) sc_split_at_blanks.nd rfl (Or.inl rfl) (pe_lst pa_nil))
      (pss_cons (ps_set (i := 2) sc_split_at_blanks.nd rfl (Or.inl rfl) (pe_lst pa_nil))
      (pss_cons (ps_for PassesOwn.never rfl (pi_list (pv 0)) (pg_name (i := 3) sc_split_at_blanks.nd rfl (Or.inl rfl))
        (pss_one (ps_if (pt_cmpR op_eq (pv 3) (pe_gi rfl T.g_BLANK) (nomark _))
          (pss_cons (ps_expr (pe_bm PySem.F.plainAttrs_list PySem.F.slot_list_append PySem.F.type_list_append mt_append (pv 1) (pa_cons (pv 2) pa_nil)))
          (pss_one (ps_set (i := 2) sc_split_at_blanks.nd rfl (Or.inl rfl) (pe_lst pa_nil))))
          (pss_one (ps_expr (pe_bm PySem.F.plainAttrs_list PySem.F.slot_list_append PySem.F.type_list_append mt_append (pv 2) (pa_cons (pv 3) pa_nil)))))))
      (pss_cons (ps_expr (pe_bm PySem.F.plainAttrs_list PySem.F.slot_list_append PySem.F.type_list_append mt_append (pv 1) (pa_cons (pv 2) pa_nil)))
      (pss_one (ps_ret (pv 1))))))), ?_⟩
    refine ⟨Nat.zero_le _, fun L hL => ?_⟩
    refine ⟨Nat.zero_le _, fun c0 hc0 => ?_⟩
    have sL : Same H (upd H L (.lst [])) := Same.upd hL
    have hLc : L ≠ c0 := fun e => by rw [← e, upd_same] at hc0; cases hc0
    have hc0' : H c0 = none := sL.free hc0
    have s0 : Same H (upd (upd H L (.lst [])) c0 (.lst [])) := sL.trans (Same.upd hc0)
    -- the word of the loop
    refine ⟨_, rfl, p, rfl, ⟨_, s0.seq hp⟩, for_list (K := K) (a := p) (xs := t.map bV) (fun i σ H' => ∃ (v : Option V) (c : Addr) (as : List Addr) (ps : List (List UInt8)) (cur : List UInt8),
        σ = [some (.ref p), some (.ref L), some (.ref c), v] ∧ Same H H' ∧ PiecesAt H' L as ps ∧ H' c = some (.lst (cur.map bV)) ∧ H c = none ∧ (∀ x ∈ as, H x = none) ∧ L ≠ c ∧ L ∉ as ∧ c ∉ as ∧
        as.length ≤ i ∧ cur.length ≤ i ∧ i ≤ t.length ∧ EvenG.partsOf t [] = ps ++ EvenG.partsOf (t.drop i) cur)
      ⟨none, c0, [], [], [], rfl, s0, ⟨?_, .nil⟩, upd_same, hc0', fun _ h => (by cases h), hLc, fun h => (by cases h), fun h => (by cases h), Nat.le_refl _, Nat.le_refl _, Nat.zero_le _, rfl⟩
      (fun i σ H' _ ⟨_, _, _, _, _, _, s, _⟩ => s.seq hp) ?_ ?_⟩
    · rw [upd_ne hLc]
      exact upd_same
    · rintro i y σ H' hi ⟨v, c, as, ps, cur, rfl, sm, ⟨hp1, hp2⟩, hc, hcn, hasn, h1, h2, h3, h4, h5, h6, e⟩
      obtain ⟨b, hb, rfl⟩ := map_at hi
      have hit : i < t.length := (List.getElem?_eq_some_iff.mp hb).1
      have hd : t.drop i = b :: t.drop (i + 1) := by
        rw [List.drop_eq_getElem_cons hit]
        congr 1
        exact Option.some.inj ((List.getElem?_eq_getElem hit).symm.trans hb)
      rw [hd] at e
      refine ⟨_, rfl, rfl, _, rfl, ifEq (fun hb32 => ?_) (fun hb32 => ?_)⟩
      · have hb' : b = 32 := by
          apply UInt8.toNat_inj.mp
          show b.toNat = 32
          omega
        refine ⟨_, rfl, .inl ⟨rfl, _, SqL.of hp1⟩, _, rfl, L, _, _, rfl, rfl, hp1, ?_, ?_⟩
        · rw [List.length_map, sizeLine_eq]
          omega
        refine ⟨Nat.zero_le _, fun z hz => ?_⟩
        have sm1 : Same H (upd H' L (.lst (as.map V.ref ++ [V.ref c]))) := fun b o eo => by
          rw [upd_ne (ne_of_none eo hL)]
          exact sm b o eo
        have hzL : L ≠ z := fun e => by rw [← e, upd_same] at hz; cases hz
        have old : ∀ x o, H' x = some o → x ≠ L → (upd (upd H' L (.lst (as.map V.ref ++ [V.ref c]))) z (.lst [])) x = some o := fun x o eo hx => by
          have e1 : (upd H' L (.lst (as.map V.ref ++ [V.ref c]))) x = some o := by rw [upd_ne hx]; exact eo
          rw [upd_ne (ne_of_none e1 hz)]
          exact e1
        have zn : ∀ x o, H' x = some o → x ≠ L → x ≠ z := fun x o eo hx => by
          have e1 : (upd H' L (.lst (as.map V.ref ++ [V.ref c]))) x = some o := by rw [upd_ne hx]; exact eo
          exact ne_of_none e1 hz
        have hasH : ∀ x ∈ as, ∃ o, H' x = some o := fun x hx => by
          obtain ⟨i, hi⟩ := List.mem_iff_getElem?.mp hx
          obtain ⟨s, _, hs⟩ := pr_get hp2 hi
          exact ⟨_, hs⟩
        refine ⟨_, z, as ++ [c], ps ++ [cur], [], rfl, sm1.trans (Same.upd hz), ⟨?_, ?_⟩, upd_same, sm1.free hz, ?_, hzL, ?_, ?_, ?_, Nat.zero_le _, hit, ?_⟩
        · rw [upd_ne hzL, upd_same, List.map_append]
          rfl
        · refine pr_snoc (pr_imp hp2 fun x s hx hs => old x _ hs fun q => h2 (q ▸ hx)) (old c _ hc (fun q => h1 q.symm))
        · intro x hx
          rcases List.mem_append.mp hx with hx | hx
          · exact hasn x hx
          · rw [List.mem_singleton.mp hx]
            exact hcn
        · intro hx
          rcases List.mem_append.mp hx with hx | hx
          · exact h2 hx
          · exact h1 (List.mem_singleton.mp hx)
        · intro hx
          rcases List.mem_append.mp hx with hx | hx
          · obtain ⟨o, ho⟩ := hasH z hx
            exact zn z o ho (fun q => hzL q.symm) rfl
          · rw [List.mem_singleton.mp hx] at hz hzL
            exact zn c _ hc (fun q => h1 q.symm) (List.mem_singleton.mp hx).symm
        · rw [List.length_append, List.length_singleton]
          omega
        · rw [e, hb']
          show ps ++ (if (32 : UInt8) = 32 then cur :: EvenG.partsOf (t.drop (i + 1)) [] else _) = _
          rw [if_pos rfl, List.append_assoc]
          rfl
      · have hb' : ¬ b = 32 := fun q => hb32 (by rw [q]; rfl)
        refine ⟨_, rfl, .inl ⟨rfl, _, SqL.of hc⟩, _, rfl, c, _, _, rfl, rfl, hc, ?_, ?_⟩
        · rw [List.length_map, sizeLine_eq]
          omega
        refine ⟨_, c, as, ps, cur ++ [b], rfl, fun x o eo => ?_, ⟨?_, ?_⟩, ?_, hcn, hasn, h1, h2, h3, by omega, ?_, hit, ?_⟩
        · rw [upd_ne (ne_of_none eo hcn)]
          exact sm x o eo
        · rw [upd_ne h1]
          exact hp1
        · refine pr_imp hp2 fun x s hx hs => ?_
          rw [upd_ne (show x ≠ c from fun q => h3 (q ▸ hx))]
          exact hs
        · rw [upd_same, List.map_append]
          rfl
        · rw [List.length_append, List.length_singleton]
          omega
        · rw [e]
          show ps ++ (if b = 32 then _ else EvenG.partsOf (t.drop (i + 1)) (cur ++ [b])) = _
          rw [if_neg hb']
    · rintro σ H' ⟨v, c, as, ps, cur, rfl, sm, ⟨hp1, hp2⟩, hc, hcn, hasn, h1, h2, h3, h4, h5, h6, e⟩
      rw [List.length_map] at h4 e
      rw [List.drop_length] at e
      refine ⟨_, rfl, .inl ⟨rfl, _, SqL.of hp1⟩, _, rfl, L, _, _, rfl, rfl, hp1, ?_, ?_⟩
      · rw [List.length_map, sizeLine_eq]
        omega
      refine ⟨_, rfl, ?_⟩
      refine k _ L (as ++ [c]) (fun b o eo => ?_) hL ?_ ⟨?_, ?_⟩ ?_
      · rw [upd_ne (ne_of_none eo hL)]
        exact sm b o eo
      · intro x hx
        rcases List.mem_append.mp hx with hx | hx
        · exact hasn x hx
        · rw [List.mem_singleton.mp hx]
          exact hcn
      · rw [upd_same, List.map_append]
        rfl
      · rw [e]
        show Paired _ _ (ps ++ [cur])
        refine pr_snoc (pr_imp hp2 fun x s hx hs => ?_) ?_
        · rw [upd_ne (show x ≠ L from fun q => h2 (q ▸ hx))]
          exact hs
        · rw [upd_ne (fun q => h1 q.symm)]
          exact hc
      · rw [List.length_append, List.length_singleton]
        omega
end
theorem dp_bytes {K : PySem.W.Frag} {H : Hp} : ∀ (l : List UInt8), DpAll K H (l.map bV) (l.map fun c => PyData.int (c.toNat : Int))
  | [] => .nil
  | c :: l => .cons (.int _) (dp_bytes l)
/-- 1 if text[:1] == [45] else 0 -/
theorem start_is {K : PySem.W.Frag} {H : Hp} {p : Addr} {t : List UInt8} {σ : L2.St} {R : VK} (h0 : σ[0]? = some (some (.ref p))) (hp : SqL K H p (t.map bV))
    (h : ∀ (H2 : Hp) (st : Nat), Same H H2 → st = (if t.take 1 = [45] then 1 else 0) → st ≤ t.length → R (.int st) H2) :
    tIf (tTest (tOp (rEqD K) (tSl (rSlL K) (tVar 0) tNoPart (tPart (tC (.int 1)))) (tLst (tCons (tC (.int 45)) tNil)))) (tC (.int 1)) (tC (.int 0)) σ H R := by
  refine ⟨_, h0, _, rfl, p, _, rfl, hp, fun z hz => ?_⟩
  have ec : cutV (t.map bV) none (some 1) = (t.take 1).map bV := by
    rw [List.map_take]
    exact cut_to _ 1
  rw [ec]
  have s1 : Same H (upd H z (.lst ((t.take 1).map bV))) := Same.upd hz
  have hz1 : (upd H z (.lst ((t.take 1).map bV))) z = some (.lst ((t.take 1).map bV)) := upd_same
  generalize upd H z (.lst ((t.take 1).map bV)) = H1 at s1 hz1
  refine ⟨by rw [sizeLine_eq]; decide, fun y hy => ?_⟩
  have s2 : Same H1 (upd H1 y (.lst [V.int 45])) := Same.upd hy
  have hy1 : (upd H1 y (.lst [V.int 45])) y = some (.lst [V.int 45]) := upd_same
  have hz2 := s2 _ _ hz1
  generalize upd H1 y (.lst [V.int 45]) = H2 at s2 hy1 hz2
  have s3 := s1.trans s2
  match t, hz2, h with
  | [], hz2, h =>
    refine ⟨.list [], .list [.int 45], .lst (SqL.of hz2) .nil, .lst (SqL.of hy1) (.cons (.int _) .nil), rfl, rfl, _, rfl, ?_⟩
    exact h H2 0 s3 rfl (Nat.le_refl _)
  | c :: t, hz2, h =>
    refine ⟨.list [.int (c.toNat : Int)], .list [.int 45], .lst (SqL.of hz2) (.cons (.int _) .nil), .lst (SqL.of hy1) (.cons (.int _) .nil), rfl, rfl, _, rfl, ?_⟩
    have ee : PyData.eqv (.list [.int (c.toNat : Int)]) (.list [.int 45]) = decide ((c.toNat : Int) = 45) := by
      show (((c.toNat : Int) == 45) && true) = _
      rw [Bool.and_true]
      rfl
    rw [ee]
    refine ifD (fun hc => ?_) (fun hc => ?_)
    · have hc' : c = 45 := by
        apply UInt8.toNat_inj.mp
        show c.toNat = 45
        omega
      exact h H2 1 s3 (by rw [hc']; rfl) (by simp)
    · have hc' : ¬ c = 45 := fun e => hc (by rw [e]; rfl)
      refine h H2 0 s3 ?_ (Nat.zero_le _)
      rw [if_neg]
      intro e
      exact hc' (List.head_eq_of_cons_eq e)
section
variable {w : World} {K : PySem.W.Frag} {mg : Str → Option Value} {base : Heap} {a : Ads}
/-- slots: 0 text, 1 start, 2 whole_end, 3 size -/
theorem ok_read_number (T : Tx K mg a) : FnOk P w K mg base CX0 44 a.f_read_number a.d_read_number ["text"] (sp_read_number K a.c_Ratio) := by
  have G_digits_end := ok_digits_end (w := w) (base := base) T
  have G_read_size := ok_read_size (w := w) (base := base) T
  have G_Ratio_init := ok_Ratio_init (w := w) (base := base) T
  refine T.F_read_number.ok sc_read_number (fun vs H Q E h => ?_) (fun cdv A outer s H vs Q E hr h => ?_)
  · obtain ⟨_, _, rfl, _⟩ := h
    rfl
  · obtain ⟨p, t, rfl, hp, k⟩ := h
    refine ⟨_, (pss_cons (ps_if (pt_cmpR op_gt (pe_callB call_len_seq rfl T.b_len bt_len (pa_cons (pv 0) pa_nil)) (pe_gi rfl T.g_LONGEST_NUMBER) (nomark _))
        (pss_one (ps_ret pe_non))
        pss_nil)
      (pss_cons (ps_set (i := 1) sc_read_number.nd rfl (Or.inl rfl) (pe_ifExp (pt_cmpR (op_eqD hr.units) (pe_slice sl_list (pv 0) po_none (po_some pe_int)) (pe_lst (pa_cons (pe_gi rfl T.g_MINUS) pa_nil)) (nomark _)) pe_int pe_int))
      (pss_cons (ps_set (i := 2) sc_read_number.nd rfl (Or.inl rfl) (pe_call G_digits_end (hr.mono (by decide)) rfl T.m_digits_end T.F_digits_end.kp T.bd_digits_end .nil pass0 (pa_cons (pv 0) (pa_cons (pv 1) pa_nil))))
      (pss_cons (ps_if (pt_cmpR op_eq (pv 2) (pv 1) (nomark _))
        (pss_one (ps_ret pe_non))
        pss_nil)
      (pss_cons (ps_set (i := 3) sc_read_number.nd rfl (Or.inl rfl) (pe_call G_read_size (hr.mono (by decide)) rfl T.m_read_size T.F_read_size.kp T.bd_read_size .nil pass0 (pa_cons (pe_slice sl_list (pv 0) (po_some (pv 1)) (po_some (pv 2))) (pa_cons (pe_slice sl_list (pv 0) (po_some (pv 2)) po_none) pa_nil))))
      (pss_cons (ps_if (PW.pt (pw_or (pt_cmpR op_isN (pv 3) pe_non (nomark _)) (pw_or1 (pt_cmpR op_eq (pv 1) pe_int (nomark _)))))
        (pss_one (ps_ret (pv 3)))
        pss_nil)
      (pss_one (ps_ret (pe_make T.mk_Ratio G_Ratio_init (hr.mono (by decide)) rfl T.m_Ratio T.bd_Ratio_init .nil pass0 (pa_cons (pe_un un_neg (pe_fld (pv 3) rfl)) (pa_cons (pe_fld (pv 3) rfl) pa_nil))))))))))), ?_⟩
    have en := My.numOf_eq t
    refine ⟨_, rfl, p, _, rfl, .inl hp, _, _, rfl, rfl, _, rfl, ifD (fun h0 => ?_) (fun h0 => ?_)⟩
    · refine k H .non (Same.refl H) ?_
      rw [en, if_pos (by rw [List.length_map] at h0; omega)]
      rfl
    have hlen : t.length ≤ 512 := by rw [List.length_map] at h0; omega
    rw [if_neg (by omega)] at en
    -- start = ..
    refine start_is (K := K) rfl hp fun H2 st s2 est hst => ?_
    have hp2 := s2.seq hp
    -- whole_end = digits_end(text, start)
    refine ⟨_, rfl, _, rfl, p, t, st, rfl, hp2, hst, ?_⟩
    rw [← est] at en
    have enm : (fun q : Rat => if t.take 1 = [45] then -q else q) = fun q : Rat => if st = 0 then q else -q := by
      funext q
      by_cases h : t.take 1 = [45]
      · rw [if_pos h] at est ⊢
        rw [if_neg (by omega)]
      · rw [if_neg h] at est ⊢
        rw [if_pos est]
    rw [enm] at en
    generalize hA : (t.drop st).takeWhile Eb.Num.isDigit = dg at en ⊢
    have hdl : dg.length + st ≤ t.length := by
      have h1 := My.tw_le (t.drop st)
      rw [hA, List.length_drop] at h1
      omega
    -- if whole_end == start: return None
    refine ⟨_, rfl, _, rfl, rfl, _, rfl, ifEq (fun h1 => ?_) (fun h1 => ?_)⟩
    · refine k H2 .non s2 ?_
      rw [en, if_pos (List.eq_nil_of_length_eq_zero (by omega))]
      rfl
    have hdn : dg ≠ [] := fun e => h1 (by rw [e]; rfl)
    rw [if_neg hdn] at en
    -- size = read_size(text[start:whole_end], text[whole_end:])
    refine ⟨_, rfl, _, rfl, _, rfl, _, rfl, _, rfl, p, _, rfl, hp2, fun z hz => ?_⟩
    have ec1 : cutV (t.map bV) (some (st : Int)) (some ((st + dg.length : Nat) : Int)) = dg.map bV := by
      rw [cut_mid _ _ _ (by omega) (by rw [List.length_map]; omega), ← List.map_drop, ← List.map_take]
      congr 1
      rw [show st + dg.length - st = dg.length by omega, ← hA]
      exact (List.prefix_iff_eq_take.mp (List.takeWhile_prefix _)).symm
    rw [ec1]
    have s3 : Same H2 (upd H2 z (.lst (dg.map bV))) := Same.upd hz
    have hz1 : (upd H2 z (.lst (dg.map bV))) z = some (.lst (dg.map bV)) := upd_same
    generalize upd H2 z (.lst (dg.map bV)) = H3 at s3 hz1
    refine ⟨_, rfl, _, rfl, _, rfl, p, _, rfl, s3.seq hp2, fun y hy => ?_⟩
    have ec2 : cutV (t.map bV) (some ((st + dg.length : Nat) : Int)) none = (t.drop (st + dg.length)).map bV := by rw [cut_from, List.map_drop]
    rw [ec2]
    have s4 : Same H3 (upd H3 y (.lst ((t.drop (st + dg.length)).map bV))) := Same.upd hy
    have hy1 : (upd H3 y (.lst ((t.drop (st + dg.length)).map bV))) y = some (.lst ((t.drop (st + dg.length)).map bV)) := upd_same
    have hz2 := s4 _ _ hz1
    generalize upd H3 y (.lst ((t.drop (st + dg.length)).map bV)) = H4 at s4 hy1 hz2
    refine ⟨z, y, dg, _, rfl, hz2, hy1, (by rw [← hA]; exact tw_digits _), by omega, by rw [List.length_drop]; omega, fun H5 v s5 hv => ?_⟩
    have s25 : Same H H5 := ((s2.trans s3).trans s4).trans s5
    generalize ho : My.sizeB dg (t.drop (st + dg.length)) = o at hv en
    -- if size is None or start == 0: return size
    cases o with
    | none =>
      have hv' : v = .non := hv
      subst hv'
      refine ⟨_, rfl, rfl, _, rfl, iteT (iteT ?_)⟩
      refine ⟨_, rfl, k H5 _ s25 ?_⟩
      rw [en]
      rfl
    | some q =>
      obtain ⟨r, rfl, hr5⟩ := hv
      refine ⟨_, rfl, rfl, _, rfl, iteF ?_⟩
      refine ⟨_, rfl, rfl, _, rfl, ifEq (fun h2 => ?_) (fun h2 => ?_)⟩
      · refine ⟨_, rfl, k H5 _ s25 ?_⟩
        rw [en]
        refine ⟨r, rfl, ?_⟩
        show RatAt a.c_Ratio H5 r (if st = 0 then q else -q)
        rw [if_pos (by omega)]
        exact hr5
      · obtain ⟨dx, hr5⟩ := hr5
        refine ⟨_, rfl, r, _, dx, _, _, rfl, hr5, T.cl_Ratio, T.no_Ratio_top, rfl, _, rfl, _, rfl, r, _, dx, _, _, rfl, hr5, T.cl_Ratio, T.no_Ratio_bottom, rfl, fun x dy nx nd ne => ?_⟩
        have hden : q.den ≤ 10 ^ 512 := sizeB_den (by rw [List.length_drop]; omega) ho
        refine ⟨x, dy, -q.num, q.den, rfl, upd_same, q.den_pos, fun H' hat kp => ⟨rfl, k H' _ (s25.trans (Same.made nx nd kp)) ?_⟩⟩
        rw [en]
        refine ⟨x, rfl, ?_⟩
        show RatAt a.c_Ratio H' x (if st = 0 then q else -q)
        rw [if_neg (by omega)]
        rw [neg_mk] at hat
        exact hat
end
theorem lim_test {A B : Prop} {n : Nat} {L : Int} (h1 : (n : Int) < L → A) (h2 : ¬ (n : Int) < L → B) : if decide ((n : Int) < L) = true then A else B := ifD h1 h2
theorem fits_l (q : Rat) : decide (q.num.natAbs < 2 ^ 64) = true ↔ (q.num.natAbs : Int) < 18446744073709551616 := by
  rw [decide_eq_true_iff]
  generalize q.num.natAbs = n
  omega
theorem fits_n (q : Rat) : decide (q.num.natAbs < 2 ^ 64) = false ↔ ¬ (q.num.natAbs : Int) < 18446744073709551616 := by
  rw [decide_eq_false_iff_not]
  generalize q.num.natAbs = n
  omega
theorem fits_r (q : Rat) : decide ((q.den : Int) < 4294967296) = decide (q.den < 2 ^ 32) := by
  generalize q.den = n
  exact decide_eq_decide.mpr (by omega)
/-! ### comprehensions that map -/
theorem lc_list {K : PySem.W.Frag} {p D : Addr} {xs : List V} {g : TG} {te : TE} {vs : List Nat} {σ : L2.St} {H : Hp} {Q : VK} (f : Nat → V → V) (hD : H D = none) (hp : SqL K H p xs) (hz : xs.length < sizeLine)
    (step : ∀ i x acc (R : VK), xs[i]? = some x → R (f i x) (upd H D (.lst acc)) → g x (wipe σ vs) (upd H D (.lst acc)) fun σ2 H2 => wipe σ2 vs = wipe σ vs ∧ te σ2 H2 R)
    (fin : Q (.ref D) (upd H D (.lst (xs.mapIdx f)))) :
    ∃ W : Nat → Nat → Hp → Prop, (∃ m, W 0 m (upd H D (.lst []))) ∧ ∀ i m H, W i m H →
      ((Itl K p).stop i H ∧ Q (.ref D) H) ∨ ((Itl K p).go i H ∧ ∃ Nx : Hp → Prop, (∀ H', Nx H' → ∃ m', m' < m ∧ W (i + 1) m' H') ∧ ∀ x H', (Itl K p).yld i H x H' → g x (wipe σ vs) H' fun σ2 H2 => wipe σ2 vs = wipe σ vs ∧ tYes σ2 H2 fun b H3 =>
        if b = true then te σ2 H3 fun y H4 => ∃ acc, H4 D = some (.lst acc) ∧ acc.length < sizeLine ∧ Nx (upd H4 D (.lst (acc ++ [y]))) else Nx H3) := by
  refine ⟨fun i m H' => m = xs.length - i ∧ i ≤ xs.length ∧ H' = upd H D (.lst ((xs.take i).mapIdx f)), ⟨_, rfl, Nat.zero_le _, rfl⟩, ?_⟩
  rintro i m H' ⟨rfl, hi, rfl⟩
  have hp' : SqL K (upd H D (.lst ((xs.take i).mapIdx f))) p xs := (Same.upd hD).seq hp
  by_cases hlt : i < xs.length
  · refine .inr ⟨⟨xs, xs[i], hp', List.getElem?_eq_getElem hlt⟩, fun H' => H' = upd H D (.lst ((xs.take (i + 1)).mapIdx f)), fun H' e => ⟨xs.length - (i + 1), by omega, rfl, hlt, e⟩, fun x H' y => ?_⟩
    obtain ⟨rfl, y⟩ := y
    have hx := y xs hp'
    refine step i x _ _ hx ?_
    refine ⟨_, upd_same, ?_, ?_⟩
    · rw [List.length_mapIdx, List.length_take]
      omega
    · rw [upd_upd]
      congr 2
      rw [List.take_add_one, hx]
      show _ = List.mapIdx f (xs.take i ++ [x])
      rw [List.mapIdx_append]
      congr 1
      show [f i x] = [f (0 + (xs.take i).length) x]
      rw [List.length_take, Nat.min_eq_left hi, Nat.zero_add]
  · have e : i = xs.length := by omega
    subst e
    refine .inl ⟨⟨xs, hp', Nat.le_refl _⟩, ?_⟩
    rw [List.take_length]
    exact fin
theorem lc_range {D : Addr} {n : Nat} {g : TG} {te : TE} {vs : List Nat} {σ : L2.St} {H : Hp} {Q : VK} (f : Nat → V) (hz : n < sizeLine)
    (step : ∀ i acc (R : VK), i < n → R (f i) (upd H D (.lst acc)) → g (.int (0 + (i : Int))) (wipe σ vs) (upd H D (.lst acc)) fun σ2 H2 => wipe σ2 vs = wipe σ vs ∧ te σ2 H2 R)
    (fin : Q (.ref D) (upd H D (.lst ((List.range n).map f)))) :
    ∃ W : Nat → Nat → Hp → Prop, (∃ m, W 0 m (upd H D (.lst []))) ∧ ∀ i m H, W i m H →
      ((Itr 0 n).stop i H ∧ Q (.ref D) H) ∨ ((Itr 0 n).go i H ∧ ∃ Nx : Hp → Prop, (∀ H', Nx H' → ∃ m', m' < m ∧ W (i + 1) m' H') ∧ ∀ x H', (Itr 0 n).yld i H x H' → g x (wipe σ vs) H' fun σ2 H2 => wipe σ2 vs = wipe σ vs ∧ tYes σ2 H2 fun b H3 =>
        if b = true then te σ2 H3 fun y H4 => ∃ acc, H4 D = some (.lst acc) ∧ acc.length < sizeLine ∧ Nx (upd H4 D (.lst (acc ++ [y]))) else Nx H3) := by
  refine ⟨fun i m H' => m = n - i ∧ i ≤ n ∧ H' = upd H D (.lst ((List.range i).map f)), ⟨_, rfl, Nat.zero_le _, rfl⟩, ?_⟩
  rintro i m H' ⟨rfl, hi, rfl⟩
  by_cases hlt : i < n
  · refine .inr ⟨hlt, fun H' => H' = upd H D (.lst ((List.range (i + 1)).map f)), fun H' e => ⟨n - (i + 1), by omega, rfl, hlt, e⟩, fun x H' y => ?_⟩
    obtain ⟨rfl, rfl⟩ := y
    refine step i _ _ hlt ?_
    refine ⟨_, upd_same, ?_, ?_⟩
    · rw [List.length_map, List.length_range]
      omega
    · rw [upd_upd, List.range_succ, List.map_append]
      rfl
  · have e : i = n := by omega
    subst e
    exact .inl ⟨Nat.le_refl _, fin⟩
section
variable {w : World} {K : PySem.W.Frag} {mg : Str → Option Value} {base : Heap} {a : Ads}
theorem ok_may_count (T : Tx K mg a) : FnOk P w K mg base CX0 1 a.f_may_count a.d_may_count ["ratio"] (sp_may_count a.c_Ratio) := by
  refine T.F_may_count.ok sc_may_count (fun vs H Q E h => ?_) (fun cdv A outer s H vs Q E hr h => ?_)
  · obtain ⟨_, _, rfl, _⟩ := h
    rfl
  · obtain ⟨p, q, rfl, ⟨dx, hp⟩, k⟩ := h
    obtain ⟨L, hL, gL⟩ : ∃ L : Int, L = 18446744073709551616 ∧ ∃ t, mg "TOP_LIMIT" = some (.int L t) := ⟨_, rfl, T.g_TOP_LIMIT⟩
    refine ⟨_, (pss_one (ps_ret (pe_and (pe_cmpR op_lt (pe_callB call_abs rfl T.b_abs bt_abs (pa_cons (pe_fld (pv 0) rfl) pa_nil)) (pe_gi rfl gL) (nomark _)) (pe_one (pe_cmpR op_lt (pe_fld (pv 0) rfl) (pe_gi rfl T.g_BOTTOM_LIMIT) (nomark _)))))), ?_⟩
    refine ⟨_, rfl, p, _, dx, _, _, rfl, hp, T.cl_Ratio, T.no_Ratio_top, rfl, _, rfl, _, _, rfl, rfl, _, rfl, ?_⟩
    unfold Eb.Balance.countFits at k
    rw [natAbs_abs]
    refine lim_test (fun h1 => ?_) (fun h1 => ?_) <;> rw [hL] at h1
    · refine ⟨_, rfl, p, _, dx, _, _, rfl, hp, T.cl_Ratio, T.no_Ratio_bottom, rfl, _, _, rfl, rfl, ?_⟩
      rw [(fits_l q).mpr h1, Bool.true_and, ← fits_r q] at k
      exact k
    · rw [(fits_n q).mpr h1, Bool.false_and] at k
      exact k
/-- slots: 0 text, 1 counts, 2 piece, 3 count -/
theorem ok_read_counts (T : Tx K mg a) : FnOk P w K mg base CX0 45 a.f_read_counts a.d_read_counts ["text"] (sp_read_counts K a.c_Ratio) := by
  have G_split_at_blanks := ok_split_at_blanks (w := w) (base := base) T
  have G_read_number := ok_read_number (w := w) (base := base) T
  have G_may_count := ok_may_count (w := w) (base := base) T
  refine T.F_read_counts.ok sc_read_counts (fun vs H Q E h => ?_) (fun cdv A outer s H vs Q E hr h => ?_)
  · obtain ⟨_, _, rfl, _⟩ := h
    rfl
  · obtain ⟨p, t, rfl, hp, k⟩ := h
    refine ⟨_, (pss_cons (ps_if (pt_cmpR op_gt (pe_callB call_len_seq rfl T.b_len bt_len (pa_cons (pv 0) pa_nil)) (pe_gi rfl T.g_LONGEST_COUNTS) (nomark _))
        (pss_one (ps_ret pe_non))
        pss_nil)
      (pss_cons (ps_set (i := 1) sc_read_counts.nd rfl (Or.inl rfl) (pe_lst pa_nil))
      (pss_cons (ps_for PassesOwn.never rfl (pi_list (pe_call G_split_at_blanks (hr.mono (by decide)) rfl T.m_split_at_blanks T.F_split_at_blanks.kp T.bd_split_at_blanks .nil pass0 (pa_cons (pv 0) pa_nil))) (pg_name (i := 2) sc_read_counts.nd rfl (Or.inl rfl))
        (pss_cons (ps_set (i := 3) sc_read_counts.nd rfl (Or.inl rfl) (pe_call G_read_number (hr.mono (by decide)) rfl T.m_read_number T.F_read_number.kp T.bd_read_number .nil pass0 (pa_cons (pv 2) pa_nil)))
        (pss_cons (ps_if (PW.pt (pw_or (pt_cmpR op_isN (pv 3) pe_non (nomark _)) (pw_or1 (pt_not (pt_val (pe_call G_may_count (hr.mono (by decide)) rfl T.m_may_count T.F_may_count.kp T.bd_may_count .nil pass0 (pa_cons (pv 3) pa_nil)))))))
          (pss_one (ps_ret pe_non))
          pss_nil)
        (pss_one (ps_expr (pe_bm PySem.F.plainAttrs_list PySem.F.slot_list_append PySem.F.type_list_append mt_append (pv 1) (pa_cons (pv 3) pa_nil)))))))
      (pss_one (ps_ret (pv 1)))))), ?_⟩
    refine ⟨_, rfl, p, _, rfl, .inl hp, _, _, rfl, rfl, _, rfl, ifD (fun h0 => ?_) (fun h0 => ?_)⟩
    · refine k H .non (Same.refl H) ?_
      unfold My.countsOf
      rw [if_pos (by rw [List.length_map] at h0; omega)]
      rfl
    have hl : t.length ≤ 4096 := by rw [List.length_map] at h0; omega
    have ec : My.countsOf t = EvenG.allOf ((EvenG.partsOf t []).map My.cntOf) := by
      unfold My.countsOf
      rw [if_neg (by omega)]
    refine ⟨Nat.zero_le _, fun c hc => ?_⟩
    have s1 : Same H (upd H c (.lst [])) := Same.upd hc
    have hc1 : (upd H c (.lst [])) c = some (.lst []) := upd_same
    generalize upd H c (.lst []) = H1 at s1 hc1
    refine ⟨_, rfl, p, t, rfl, s1.seq hp, hl, fun H2 q as s2 hq has ⟨hq2, hpr⟩ hasl => ?_⟩
    have hqc : q ≠ c := fun e => by rw [e, hc1] at hq; cases hq
    have hasc : ∀ x ∈ as, x ≠ c := fun x hx e => by
      have := has x hx
      rw [e, hc1] at this
      cases this
    refine ⟨q, rfl, ⟨_, SqL.of hq2⟩, for_list (K := K) (a := q) (xs := as.map V.ref) (fun i σ H' => ∃ (v2 v3 : Option V) (bs : List Addr) (qs : List Rat),
        σ = [some (.ref p), some (.ref c), v2, v3] ∧ Same H H' ∧ H' q = some (.lst (as.map V.ref)) ∧ Paired (fun x s => H' x = some (.lst (s.map bV))) as (EvenG.partsOf t []) ∧
        H' c = some (.lst (bs.map V.ref)) ∧ Paired (RatAt a.c_Ratio H') bs qs ∧ bs.length = i ∧ EvenG.allOf (((EvenG.partsOf t []).take i).map My.cntOf) = some qs)
      ⟨none, none, [], [], rfl, s1.trans s2, hq2, hpr, s2 _ _ hc1, .nil, rfl, rfl⟩ (fun i σ H' _ ⟨_, _, _, _, _, _, h, _⟩ => SqL.of h) ?_ ?_⟩
    · rintro i y σ H' hi ⟨v2, v3, bs, qs, rfl, sm, hq', hpr', hc', hbs, hbl, eall⟩
      obtain ⟨x, hx, rfl⟩ := map_at hi
      obtain ⟨sx, hsx, hx'⟩ := pr_get hpr' hx
      have hil : i < as.length := (List.getElem?_eq_some_iff.mp hx).1
      have etk : (EvenG.partsOf t []).take (i + 1) = (EvenG.partsOf t []).take i ++ [sx] := by rw [List.take_add_one, hsx]; rfl
      have bad : My.cntOf sx = none → ∀ H3, Same H H3 → Q .non H3 := fun hb H3 s3 => by
        refine k H3 .non s3 ?_
        rw [ec, My.allOf_none]
        · rfl
        · rw [← hb]
          exact List.mem_map.mpr ⟨sx, List.mem_of_getElem? hsx, rfl⟩
      -- count = read_number(piece)
      refine ⟨_, rfl, x, sx, rfl, SqL.of hx', fun H3 v s3 hv => ?_⟩
      have s03 := sm.trans s3
      cases e : EvenG.numOf sx with
      | none =>
        rw [e] at hv
        have hv' : v = .non := hv
        subst hv'
        refine ⟨_, rfl, rfl, _, rfl, iteT (iteT ?_)⟩
        exact bad (by unfold My.cntOf; rw [e]) H3 s03
      | some r =>
        rw [e] at hv
        obtain ⟨z, rfl, hz⟩ := hv
        refine ⟨_, rfl, rfl, _, rfl, iteF ?_⟩
        refine ⟨_, rfl, z, r, rfl, hz, _, rfl, ?_⟩
        cases ef : Eb.Balance.countFits r with
        | false =>
          refine iteT ?_
          refine bad ?_ H3 s03
          unfold My.cntOf
          rw [e]
          show (if Eb.Balance.countFits r = true then some r else none) = none
          rw [ef]
          rfl
        | true =>
          refine iteF ?_
          have hc3 := s3 _ _ hc'
          refine ⟨_, rfl, .inl ⟨rfl, _, SqL.of hc3⟩, _, rfl, c, _, _, rfl, rfl, hc3, ?_, ?_⟩
          · rw [List.length_map, sizeLine_eq]
            omega
          have kp : Keep c H3 (upd H3 c (.lst (bs.map V.ref ++ [V.ref z]))) := Keep.upd
          have rk : ∀ {x : Addr} {q : Rat}, RatAt a.c_Ratio H3 x q → RatAt a.c_Ratio (upd H3 c (.lst (bs.map V.ref ++ [V.ref z]))) x q := fun {x q} ⟨dx, h⟩ => ⟨dx, kp _ _ h (ne_of h hc3 (by intro z; cases z))⟩
          refine ⟨_, _, bs ++ [z], qs ++ [r], rfl, fun b o eo => ?_, ?_, ?_, ?_, ?_, ?_, ?_⟩
          · exact kp _ _ (s03 b o eo) (ne_of_none eo hc)
          · exact kp _ _ (s3 _ _ hq') hqc
          · exact pr_imp hpr' fun x s hx hs => kp _ _ (s3 _ _ hs) (hasc x hx)
          · rw [upd_same, List.map_append]
            rfl
          · exact pr_snoc (pr_imp hbs fun x q _ h => rk (h.same s3)) (rk hz)
          · rw [List.length_append, hbl]
            rfl
          · rw [etk, List.map_append]
            have : My.cntOf sx = some r := by
              unfold My.cntOf
              rw [e]
              show (if Eb.Balance.countFits r = true then some r else none) = some r
              rw [ef]
              rfl
            show EvenG.allOf (_ ++ [My.cntOf sx]) = _
            rw [this]
            exact My.allOf_snoc eall
    · rintro σ H' ⟨v2, v3, bs, qs, rfl, sm, hq', hpr', hc', hbs, hbl, eall⟩
      refine ⟨_, rfl, k H' _ sm ?_⟩
      rw [List.length_map] at eall
      have hlen : as.length = (EvenG.partsOf t []).length := Paired.length hpr'
      rw [hlen, List.take_length] at eall
      rw [ec, eall]
      exact ⟨c, rfl, hc, bs, hc', hbs⟩
end
theorem nV_ints (ns : List Nat) : ns.map nV = (ns.map fun (n : Nat) => (n : Int)).map V.int := by
  rw [List.map_map]
  rfl
theorem fits_den {q : Rat} (h : Eb.Balance.countFits q = true) : (q.den : Int) < 4294967296 := by
  unfold Eb.Balance.countFits at h
  rw [Bool.and_eq_true] at h
  have := of_decide_eq_true h.2
  omega
theorem fits_num {q : Rat} (h : Eb.Balance.countFits q = true) : -(2 ^ 64) < q.num ∧ q.num < 2 ^ 64 := by
  unfold Eb.Balance.countFits at h
  rw [Bool.and_eq_true] at h
  have := of_decide_eq_true h.1
  omega
section
variable {w : World} {K : PySem.W.Frag} {mg : Str → Option Value} {base : Heap} {a : Ads}
theorem ok_loads_fit (T : Tx K mg a) : FnOk P w K mg base CX0 1 a.f_loads_fit a.d_loads_fit ["loads"] (sp_loads_fit K) := by
  refine T.F_loads_fit.ok sc_loads_fit (fun vs H Q E h => ?_) (fun cdv A outer s H vs Q E hr h => ?_)
  · obtain ⟨_, _, rfl, _⟩ := h
    rfl
  · obtain ⟨p, ns, rfl, hp, k⟩ := h
    refine ⟨_, (pss_one (ps_ret (pe_and (pe_chain op_le op_le pe_int (pe_callB call_len_seq rfl T.b_len bt_len (pa_cons (pv 0) pa_nil)) (pe_gi rfl T.g_MOST_STEPS)) (pe_one (pe_cmpR op_le (pe_callB (cr_max rfl) rfl T.b_max bt_max (pa_cons (pv 0) pa_nil)) (pe_gi rfl T.g_HIGHEST_LOAD) (nomark _)))))), ?_⟩
    have no : ¬ (1 ≤ ns.length ∧ ns.length ≤ 64 ∧ ∀ j ∈ ns, j ≤ 15) → Q (.bl false) H := fun h => by
      rw [decide_eq_false h] at k
      exact k
    refine ⟨_, rfl, p, _, rfl, .inl hp, _, _, rfl, rfl, _, rfl, ifD (fun h1 => ⟨_, _, rfl, rfl, _, rfl, ifD (fun h2 => ?_) (fun h2 => ?_)⟩) (fun h1 => ⟨_, rfl, iteF ?_⟩)⟩
    · rw [List.length_map] at h1 h2
      rw [nV_ints] at hp
      refine ⟨_, rfl, p, _, rfl, hp, by rw [List.length_map]; omega, fun m hm hle => ⟨_, _, rfl, rfl, ?_⟩⟩
      have e : decide (1 ≤ ns.length ∧ ns.length ≤ 64 ∧ ∀ j ∈ ns, j ≤ 15) = decide (m ≤ 15) := decide_eq_decide.mpr ⟨fun h => ?_, fun h => ⟨by omega, by omega, fun j hj => ?_⟩⟩
      · rw [e] at k
        exact k
      · obtain ⟨j, hj, rfl⟩ := List.mem_map.mp hm
        have := h.2.2 j hj
        omega
      · have := hle (j : Int) (List.mem_map.mpr ⟨j, hj, rfl⟩)
        omega
    · rw [List.length_map] at h2
      exact no fun h => h2 (by omega)
    · rw [List.length_map] at h1
      exact no fun h => h1 (by omega)
/-- slots: 0 counts, 1 common, 2 count -/
theorem ok_common_bottom (T : Tx K mg a) : FnOk P w K mg base CX0 2 a.f_common_bottom a.d_common_bottom ["counts"] (sp_common_bottom a.c_Ratio) := by
  have G_common_factor := ok_common_factor (w := w) (base := base) T
  refine T.F_common_bottom.ok sc_common_bottom (fun vs H Q E h => ?_) (fun cdv A outer s H vs Q E hr h => ?_)
  · obtain ⟨_, _, rfl, _⟩ := h
    rfl
  · obtain ⟨p, qs, rfl, ⟨as, hp, hr0⟩, hf, k⟩ := h
    refine ⟨_, (pss_cons (ps_set (i := 1) sc_common_bottom.nd rfl (Or.inl rfl) pe_int)
      (pss_cons (ps_for PassesOwn.never rfl (pi_list (pv 0)) (pg_name (i := 2) sc_common_bottom.nd rfl (Or.inl rfl))
        (pss_one (ps_set (i := 1) sc_common_bottom.nd rfl (Or.inl rfl) (pe_op op_fdivL (pe_op op_mulK (pv 1) (pe_fld (pv 2) rfl)) (pe_call G_common_factor (hr.mono (by decide)) rfl T.m_common_factor T.F_common_factor.kp T.bd_common_factor .nil pass0 (pa_cons (pv 1) (pa_cons (pe_fld (pv 2) rfl) pa_nil)))))))
      (pss_one (ps_ret (pv 1))))), ?_⟩
    have cm : ∀ {q : Rat} {m : Int}, q ∈ qs → IntMulOk m (q.den : Int) := fun {q m} hq => by
      have h := (fits_den (hf q hq))
      exact .of_right (intBits_le_64 (by omega) (by omega))
    refine ⟨_, rfl, p, rfl, ⟨_, SqL.of hp⟩, for_list (K := K) (a := p) (xs := as.map V.ref) (fun i σ H' => ∃ v : Option V, σ = [some (.ref p), some (.int (((qs.take i).foldl (fun m q => Nat.lcm m q.den) 1 : Nat) : Int)), v] ∧ H' = H)
      ⟨none, rfl, rfl⟩ (fun i σ H' _ ⟨_, _, e⟩ => by rw [e]; exact SqL.of hp) ?_ ?_⟩
    · rintro i y σ H' hi ⟨v, rfl, rfl⟩
      obtain ⟨x, hx, rfl⟩ := map_at hi
      obtain ⟨q, hq, dx, hxx⟩ := pr_get hr0 hx
      have hqm : q ∈ qs := List.mem_of_getElem? hq
      generalize hm : (qs.take i).foldl (fun m q => Nat.lcm m q.den) 1 = m
      have hm0 : 0 < m := by
        rw [← hm]
        exact (My.foldl_lcm_dvd _ 1).2.2 (by decide)
      have hb := fits_den (hf q hqm)
      have gd : CDivL ((m : Int) * (q.den : Int)) ((Nat.gcd m q.den : Nat) : Int) := by
        have h1 : 0 < Nat.gcd m q.den := Nat.gcd_pos_of_pos_left _ hm0
        have h2 : Nat.gcd m q.den ≤ q.den := Nat.gcd_le_right _ q.den_pos
        refine ⟨by omega, ?_⟩
        rw [Int.natAbs_natCast]
        exact log2_le (n := 4294967296) (by omega) (by decide)
      refine ⟨_, rfl, _, rfl, x, _, dx, _, _, rfl, hxx, T.cl_Ratio, T.no_Ratio_bottom, rfl, _, _, rfl, rfl, cm hqm, _, rfl, _, rfl, x, _, dx, _, _, rfl, hxx, T.cl_Ratio, T.no_Ratio_bottom, rfl, m, q.den, rfl, _, _, rfl, rfl, gd, ?_⟩
      refine ⟨some (.ref x), ?_, rfl⟩
      have e1 : (qs.take (i + 1)).foldl (fun m q => Nat.lcm m q.den) 1 = Nat.lcm m q.den := by
        rw [List.take_add_one, hq, List.foldl_append, hm]
        rfl
      have e2 : ((Nat.lcm m q.den : Nat) : Int) = (m : Int) * (q.den : Int) / ((Nat.gcd m q.den : Nat) : Int) := by
        unfold Nat.lcm
        rw [Int.natCast_ediv, Int.natCast_mul]
      rw [e1, e2]
      rfl
    · rintro σ H' ⟨v, rfl, rfl⟩
      have hlen2 : as.length = qs.length := Paired.length hr0
      rw [List.length_map, hlen2, List.take_length]
      have hM : qs.foldl (fun m q => Nat.lcm m q.den) 1 = My.comm qs := rfl
      rw [hM]
      exact ⟨_, rfl, k⟩
theorem blk_drift_goes_out : BlkOk ["tops", "degree", "terms", "power", "step"] (defScope s_drift_goes_out) { kind := .function, names := [(Str.ofString ".0", .local), (Str.ofString "step", .local), (Str.ofString "terms", .free)], isGenerator := false, isCoroutine := false } [("step", 4)] := ⟨rfl, by decide +kernel, by decide +kernel, by decide +kernel, by decide +kernel⟩
/-- slots: 0 tops, 1 degree, 2 terms, 3 power, 4 step -/
theorem ok_drift_goes_out (T : Tx K mg a) : FnOk P w K mg base CX0 1 a.f_drift_goes_out a.d_drift_goes_out ["tops", "degree"] sp_drift_goes_out := by
  refine T.F_drift_goes_out.ok sc_drift_goes_out (fun vs H Q E h => ?_) (fun cdv A outer s H vs Q E hr h => ?_)
  · obtain ⟨_, _, _, rfl, _⟩ := h
    rfl
  · obtain ⟨p, qs, d, rfl, hp, hlen, hd, k⟩ := h
    refine ⟨_, (pss_cons (ps_set (i := 2) sc_drift_goes_out.nd rfl (Or.inr rfl) (pv 0))
      (pss_cons (ps_for PassesOwn.never rfl (pi_range1 rfl T.b_range (pa_cons (pe_op op_add (pv 1) pe_int) pa_nil)) (pg_name (i := 3) sc_drift_goes_out.nd rfl (Or.inl rfl))
        (pss_cons (ps_if (pt_cmpR op_ne (pe_callB (cr_sum rfl) rfl T.b_sum bt_sum (pa_cons (pv 2) pa_nil)) pe_int (nomark _))
          (pss_one (ps_ret pe_bl))
          pss_nil)
        (pss_one (ps_set (i := 2) sc_drift_goes_out.nd rfl (Or.inr rfl) (pe_lc (own := [("step", 4)]) (te := tOp (rI IntMulOk fun i j => .int (i * j)) (tOp (rIxL K) (tVar 2) (tVar 4)) (tVar 4)) rfl sc_drift_goes_out.nd (pi_range1 rfl T.b_range (pa_cons (pe_callB call_len_seq rfl T.b_len bt_len (pa_cons (pv 2) pa_nil)) pa_nil)) blk_drift_goes_out (fun _ _ _ _ _ => pg_name (i := 4) sc_drift_goes_out.nd rfl (Or.inl rfl) (Or.inr rfl)) (fun _ _ _ _ _ => pts_nil) (fun _ _ _ _ _ => by
          refine pe_op op_mulK ?_ (pv 4)
          exact pe_ix ix_list (pv 2) (pv 4) (fun _ _ => rfl)))))))
      (pss_one (ps_ret pe_bl)))), ?_⟩
    refine ⟨_, rfl, ?_⟩
    refine ⟨_, rfl, _, _, rfl, rfl, _, rfl, by omega, by omega, for_range (n := ((d : Int) + 1).toNat) (fun i σ H' => ∃ (r : Addr) (v : Option V), σ = [some (.ref p), some (.int d), some (.ref r), v, none] ∧ Same H H' ∧
        H' r = some (.lst ((My.termsAt (My.comm qs) qs 0 i).map V.int)) ∧ ∀ k, k < i → (⟨[], qs, 0⟩ : Eb.Balance.Plan).moment k = 0)
      ⟨p, none, rfl, Same.refl H, hp, fun k hk => by omega⟩ ?_ ?_⟩
    · rintro i σ H' hi ⟨r, v, rfl, sm, hr2, hm⟩
      refine ⟨_, rfl, r, _, rfl, SqL.of hr2, rfl, _, rfl, ifNe (fun h => ?_) (fun h => ?_)⟩
      · have hno : ¬ My.goesOut qs d := fun hg => h ((My.moment_iff qs i [] 0).mpr (hg i (by omega)))
        have := k H' sm
        rw [decide_eq_false hno] at this
        exact this
      · have hmi := (My.moment_iff qs i [] 0).mp h
        have hl : (My.termsAt (My.comm qs) qs 0 i).length = qs.length := My.terms_len _ _ _ _
        refine ⟨_, rfl, r, _, rfl, .inl (SqL.of hr2), _, rfl, by rw [List.length_map]; omega, by rw [List.length_map]; omega, fun D hD => lc_range (Q := fun x H1 => gName 2 x _ H1 _) (n := ((((My.termsAt (My.comm qs) qs 0 i).map V.int).length : Nat) : Int).toNat)
          (fun j => V.int ((My.termsAt (My.comm qs) qs 0 i).getD j 0 * (j : Int))) ?_ ?_ ?_⟩
        · rw [Int.toNat_natCast, List.length_map, sizeLine_eq]
          omega
        · intro j acc R hj hR
          rw [Int.toNat_natCast, List.length_map] at hj
          obtain ⟨z, hz⟩ : ∃ z, (My.termsAt (My.comm qs) qs 0 i)[j]? = some z := ⟨_, List.getElem?_eq_getElem hj⟩
          have hg : (My.termsAt (My.comm qs) qs 0 i).getD j 0 = z := by rw [List.getD_eq_getElem?_getD, hz]; rfl
          rw [hg] at hR
          have hr' : (upd H' D (.lst acc)) r = some (.lst ((My.termsAt (My.comm qs) qs 0 i).map V.int)) := by
            rw [upd_ne (ne_of_none hr2 hD)]
            exact hr2
          refine ⟨rfl, ?_⟩
          refine ⟨_, rfl, _, rfl, r, _, _, V.int z, rfl, rfl, SqL.of hr', at_of (j := j) (by omega) (by rw [List.getElem?_map, hz]; rfl), _, rfl, _, _, rfl, rfl, .of_right (intBits_le_64 (by omega) (by omega)), ?_⟩
          rw [Int.zero_add]
          exact hR
        · refine ⟨D, some (.int (0 + (i : Int))), rfl, sm.trans (Same.upd hD), ?_, fun k hk => ?_⟩
          · rw [upd_same]
            congr 2
            rw [Int.toNat_natCast, List.length_map, My.terms_next]
            refine List.ext_getElem? fun j => ?_
            rw [List.getElem?_map, List.getElem?_map, List.getElem?_map, List.getElem?_zipIdx]
            by_cases hj : j < (My.termsAt (My.comm qs) qs 0 i).length
            · rw [List.getElem?_range hj, List.getElem?_eq_getElem hj]
              show some (V.int _) = some (V.int _)
              rw [List.getD_eq_getElem?_getD, List.getElem?_eq_getElem hj]
              show some (V.int (_ * (j : Int))) = some (V.int (_ * ((0 + j : Nat) : Int)))
              rw [Nat.zero_add]
              rfl
            · rw [List.getElem?_eq_none (by rw [List.length_range]; omega), List.getElem?_eq_none (by omega)]
              rfl
          · by_cases hk2 : k = i
            · rw [hk2]
              exact hmi
            · exact hm k (by omega)
    · rintro σ H' ⟨r, v, rfl, sm, hr2, hm⟩
      have hyes : My.goesOut qs d := fun k hk => hm k (by omega)
      have := k H' sm
      rw [decide_eq_true hyes] at this
      exact this
theorem blk_read_plan : BlkOk ["degree", "loads", "counts_text", "counts", "bottom", "tops", "count"] (defScope s_read_plan) { kind := .function, names := [(Str.ofString ".0", .local), (Str.ofString "count", .local), (Str.ofString "bottom", .free)], isGenerator := false, isCoroutine := false } [("count", 6)] := ⟨rfl, by decide +kernel, by decide +kernel, by decide +kernel, by decide +kernel⟩
/-- slots: 0 degree, 1 loads, 2 counts_text, 3 counts, 4 bottom, 5 tops, 6 count -/
theorem ok_read_plan (T : Tx K mg a) : FnOk P w K mg base CX0 46 a.f_read_plan a.d_read_plan ["degree", "loads", "counts_text"] (sp_read_plan K a.c_Plan) := by
  have G_loads_fit := ok_loads_fit (w := w) (base := base) T
  have G_read_counts := ok_read_counts (w := w) (base := base) T
  have G_common_bottom := ok_common_bottom (w := w) (base := base) T
  have G_drift_goes_out := ok_drift_goes_out (w := w) (base := base) T
  have G_Plan_init := ok_Plan_init (w := w) (base := base) T
  refine T.F_read_plan.ok sc_read_plan (fun vs H Q E h => ?_) (fun cdv A outer s H vs Q E hr h => ?_)
  · obtain ⟨_, _, _, _, _, rfl, _⟩ := h
    rfl
  · obtain ⟨d, l, t, ns, s, rfl, hl, ht, k⟩ := h
    refine ⟨_, (pss_cons (ps_if (PW.pt (pw_or (pt_cmpR op_gt (pv 0) (pe_gi rfl T.g_HIGHEST_DEGREE) (nomark _)) (pw_or1 (pt_not (pt_val (pe_call G_loads_fit (hr.mono (by decide)) rfl T.m_loads_fit T.F_loads_fit.kp T.bd_loads_fit .nil pass0 (pa_cons (pv 1) pa_nil)))))))
        (pss_one (ps_ret pe_non))
        pss_nil)
      (pss_cons (ps_set (i := 3) sc_read_plan.nd rfl (Or.inl rfl) (pe_call G_read_counts (hr.mono (by decide)) rfl T.m_read_counts T.F_read_counts.kp T.bd_read_counts .nil pass0 (pa_cons (pv 2) pa_nil)))
      (pss_cons (ps_if (PW.pt (pw_or (pt_cmpR op_isN (pv 3) pe_non (nomark _)) (pw_or1 (pt_cmpR op_ne (pe_callB call_len_seq rfl T.b_len bt_len (pa_cons (pv 3) pa_nil)) (pe_callB call_len_seq rfl T.b_len bt_len (pa_cons (pv 1) pa_nil)) (nomark _)))))
        (pss_one (ps_ret pe_non))
        pss_nil)
      (pss_cons (ps_set (i := 4) sc_read_plan.nd rfl (Or.inr rfl) (pe_call G_common_bottom (hr.mono (by decide)) rfl T.m_common_bottom T.F_common_bottom.kp T.bd_common_bottom .nil pass0 (pa_cons (pv 3) pa_nil)))
      (pss_cons (ps_setLc (i := 5) (own := [("count", 6)]) (te := tOp (rI IntMulOk fun i j => .int (i * j)) (tFld K (tVar 6) "top") (tOp (rI CDivL fun i j => .int (i / j)) (tVar 4) (tFld K (tVar 6) "bottom"))) rfl sc_read_plan.nd rfl rfl (sw_true rfl rfl rfl rfl) (pi_list (pv 3)) blk_read_plan (fun _ _ _ _ _ => pg_name (i := 6) sc_read_plan.nd rfl (Or.inl rfl) (Or.inr rfl)) (fun _ _ _ _ _ => pts_nil) (fun _ _ _ _ _ => by
        refine pe_op op_mulK ?_ ?_
        · exact pe_fld (pv 6) rfl
        · refine pe_op op_fdivL (pv 4) ?_
          exact pe_fld (pv 6) rfl))
      (pss_cons (ps_if (pt_not (pt_val (pe_call G_drift_goes_out (hr.mono (by decide)) rfl T.m_drift_goes_out T.F_drift_goes_out.kp T.bd_drift_goes_out .nil pass0 (pa_cons (pv 5) (pa_cons (pv 0) pa_nil)))))
        (pss_one (ps_ret pe_non))
        pss_nil)
      (pss_one (ps_ret (pe_make T.mk_Plan G_Plan_init (hr.mono (by decide)) rfl T.m_Plan T.bd_Plan_init .nil pass0 (pa_cons (pv 1) (pa_cons (pv 5) (pa_cons (pv 4) pa_nil)))))))))))), ?_⟩
    have ep := My.planOf_eq ns s d
    have none1 : ¬ (d ≤ 8 ∧ 1 ≤ ns.length ∧ ns.length ≤ 64 ∧ ∀ j ∈ ns, j ≤ 15) → Q .non H := fun h => by
      refine k H .non (Same.refl H) ?_
      rw [ep, if_neg h]
      rfl
    refine ⟨_, rfl, _, _, rfl, rfl, _, rfl, ifD (fun h1 => iteT ?_) (fun h1 => ?_)⟩
    · exact none1 fun h => by omega
    refine ⟨_, rfl, l, ns, rfl, hl, _, rfl, ifN (fun h2 => ?_) (fun h2 => ?_)⟩
    · exact none1 fun h => h2 h.2
    rw [if_pos ⟨by omega, h2⟩] at ep
    refine ⟨_, rfl, t, s, rfl, ht, fun H1 v s1 hv => ?_⟩
    cases ec : My.countsOf s with
    | none =>
      rw [ec] at ep hv
      have hv' : v = .non := hv
      subst hv'
      refine ⟨_, rfl, rfl, _, rfl, iteT (iteT ?_)⟩
      refine k H1 .non s1 ?_
      rw [ep]
      rfl
    | some qs =>
      rw [ec] at ep hv
      have ep : EvenG.planOf ns s d = if qs.length = ns.length ∧ My.goesOut qs d then some ⟨ns, qs, d⟩ else none := ep
      obtain ⟨c, rfl, hcn, hqs⟩ := hv
      have none2 : ¬ (qs.length = ns.length ∧ My.goesOut qs d) → ∀ H2, Same H H2 → Q .non H2 := fun h H2 s2 => by
        refine k H2 .non s2 ?_
        rw [ep, if_neg h]
        rfl
      obtain ⟨as, hc, hpr⟩ := hqs
      have hal : as.length = qs.length := Paired.length hpr
      refine ⟨_, rfl, rfl, _, rfl, iteF ?_⟩
      refine ⟨_, rfl, c, _, rfl, .inl (SqL.of hc), _, rfl, l, _, rfl, .inl (s1.seq hl), rfl, _, rfl, ifNe (fun h3 => ?_) (fun h3 => ?_)⟩
      · refine none2 (fun h => h3 ?_) H1 s1
        rw [List.length_map, List.length_map, hal, h.1]
      rw [List.length_map, List.length_map, hal] at h3
      have h3 : qs.length = ns.length := by omega
      have hf := My.countsOf_fits ec
      refine ⟨_, rfl, c, qs, rfl, ⟨as, hc, hpr⟩, hf, ?_⟩
      refine ⟨_, rfl, c, rfl, ⟨_, SqL.of hc⟩, fun D hD => lc_list (Q := fun x H1 => gName 5 x _ H1 _) (K := K) (p := c) (xs := as.map V.ref) (fun i _ => V.int ((qs.getD i 0).num * ((My.comm qs : Int) / ((qs.getD i 0).den : Int)))) hD (SqL.of hc) ?_ ?_ ?_⟩
      · rw [List.length_map, sizeLine_eq]
        omega
      · intro i y acc R hi hR
        obtain ⟨x, hx, rfl⟩ := map_at hi
        obtain ⟨q, hq, dx, hxx⟩ := pr_get hpr hx
        have hqm : q ∈ qs := List.mem_of_getElem? hq
        have hg : qs.getD i 0 = q := by rw [List.getD_eq_getElem?_getD, hq]; rfl
        rw [hg] at hR
        have hx' : (upd H1 D (.lst acc)) x = some (.ins a.c_Ratio dx (ratF q.num q.den)) := by
          rw [upd_ne (ne_of_none hxx hD)]
          exact hxx
        have hb := fits_den (hf q hqm)
        have hn := fits_num (hf q hqm)
        have hd0 := q.den_pos
        refine ⟨rfl, ?_⟩
        refine ⟨_, rfl, x, _, dx, _, _, rfl, hx', T.cl_Ratio, T.no_Ratio_top, rfl, _, rfl, _, rfl, x, _, dx, _, _, rfl, hx', T.cl_Ratio, T.no_Ratio_bottom, rfl, _, _, rfl, rfl, ⟨by omega, ?_⟩, _, _, rfl, rfl, .of_left (intBits_le_64 hn.1 hn.2), hR⟩
        rw [Int.natAbs_natCast]
        exact log2_le (n := 4294967296) (by omega) (by decide)
      have sD : Same H1 (upd H1 D (.lst ((tops qs).map V.int))) := Same.upd hD
      have hDt : (upd H1 D (.lst ((tops qs).map V.int))) D = some (.lst ((tops qs).map V.int)) := upd_same
      have et : (as.map V.ref).mapIdx (fun i _ => V.int ((qs.getD i 0).num * ((My.comm qs : Int) / ((qs.getD i 0).den : Int)))) = (tops qs).map V.int := by
        unfold tops
        rw [My.terms_zero]
        refine List.ext_getElem? fun i => ?_
        rw [List.getElem?_mapIdx, List.getElem?_map, List.getElem?_map, List.getElem?_map]
        cases e : as[i]? with
        | none =>
          have : qs[i]? = none := List.getElem?_eq_none (by have := List.getElem?_eq_none_iff.mp e; omega)
          rw [this]
          rfl
        | some x =>
          obtain ⟨q, hq, _⟩ := pr_get hpr e
          rw [hq]
          show some (V.int _) = some (V.int _)
          have hg : qs.getD i 0 = q := by rw [List.getD_eq_getElem?_getD, hq]; rfl
          rw [hg]
      rw [et]
      generalize upd H1 D (.lst ((tops qs).map V.int)) = H2 at sD hDt
      refine ⟨_, rfl, _, rfl, D, qs, d, rfl, hDt, by omega, by omega, fun H3 s3 => ⟨_, rfl, ifN (fun h4 => ?_) (fun h4 => ?_)⟩⟩
      · exact none2 (fun h => h4 h.2) H3 ((s1.trans sD).trans s3)
      · refine ⟨_, rfl, _, rfl, _, rfl, fun x dx nx nd ne => ?_⟩
        refine ⟨x, dx, l, D, _, rfl, upd_same, fun H4 ⟨dy, hx⟩ kp => ⟨rfl, ?_⟩⟩
        have s4 : Same H3 H4 := Same.made nx nd kp
        have s34 := ((s1.trans sD).trans s3)
        refine k H4 _ (s34.trans s4) ?_
        rw [ep, if_pos ⟨h3, h4⟩]
        exact ⟨x, D, rfl, s34.free nx, s1.free hD, ⟨dy, hx⟩, s4 _ _ (s3 _ _ hDt)⟩
end
/-! ### strs, and the bits of ints -/
theorem pow_big : 2 ^ 4096 ≤ 10 ^ 4300 := by decide +kernel
section
variable {X : Cx}
theorem call_str_big (hc : X.calm = true) : CallR X (.type "str") (fun xs H Q => ∃ i, xs = [.int i] ∧ i.natAbs < 2 ^ 4096 ∧ Q (.str (toString i)) H) := by
  intro pins s σ H xs us Q I r h
  obtain ⟨i, rfl, hz, q⟩ := h
  obtain ⟨u, rfl, t, rfl⟩ := vals1 r
  exact str_of_int_or (I.ok.hd hc) (I.mod.digits.keeps I.bk) (fun _ => ⟨.str _, H, I.tok _, ⟨_, rfl⟩, q⟩) (fun hge => absurd (Nat.lt_of_lt_of_le hz pow_big) (Nat.not_lt.mpr hge))
theorem mt_bits : MtR X "int.bit_length" (fun x xs H Q => ∃ i, x = .int i ∧ xs = [] ∧ Q (.int ((Builtin.Int.intBits i : Nat) : Int)) H) := by
  intro pins s σ H x xs v us Q I rx rs h
  obtain ⟨i, rfl, rfl, q⟩ := h
  obtain ⟨t, rfl⟩ := rx
  cases rs
  exact call_int_bit_length ⟨.int _, H, I.tok _, ⟨_, rfl⟩, q⟩
end
theorem bt_str : bootBuiltins "str" = some (.type "str") := by decide +kernel
theorem bt_ord : bootBuiltins "ord" = some (.builtin "ord") := by decide +kernel
/-- the signs of a whole number's text -/
theorem dec_signs (n : Nat) : (Nat.toDigits 10 n).map Char.toNat = (Eb.Num.decimal n).map fun (c : UInt8) => c.toNat := by
  have dig : ∀ m, m < 10 → (Nat.digitChar m).toNat = (UInt8.ofNat (48 + m)).toNat := by decide +kernel
  induction n using Nat.strongRecOn with
  | ind n ih =>
    rw [My.decimal_rec]
    by_cases h : n < 10
    · rw [Nat.toDigits_of_lt_base h, if_pos h, List.nil_append, Nat.mod_eq_of_lt h]
      show [_] = [_]
      rw [dig n h]
    · rw [if_neg h, List.map_append, ← ih (n / 10) (by omega)]
      have hm : n % 10 < 10 := Nat.mod_lt _ (by decide)
      have t : Nat.toDigits 10 (n / 10) ++ Nat.toDigits 10 (n % 10) = Nat.toDigits 10 (10 * (n / 10) + n % 10) := Nat.toDigits_append_toDigits (by decide) (by omega) hm
      rw [show 10 * (n / 10) + n % 10 = n by omega] at t
      rw [← t, List.map_append, Nat.toDigits_of_lt_base hm]
      congr 1
      show [_] = [_]
      rw [dig _ hm]
theorem nat_signs (m : Nat) : (PySem.Str.ofString (toString ((m : Nat) : Int))).cps.toList = (Eb.Num.decimal m).map fun (c : UInt8) => c.toNat := by
  rw [← dec_signs, signs_ofString]
  show (Nat.repr m).toList.map Char.toNat = _
  rw [Nat.toList_repr]
theorem int_signs (i : Int) : (PySem.Str.ofString (toString i)).cps.toList = ((if i < 0 then Eb.Num.ascii "-" else []) ++ Eb.Num.decimal i.natAbs).map fun (c : UInt8) => c.toNat := by
  cases i with
  | ofNat m =>
    rw [if_neg (show ¬ Int.ofNat m < 0 from Int.not_lt.mpr (Int.natCast_nonneg m)), List.nil_append]
    exact nat_signs m
  | negSucc m =>
    rw [if_pos (by omega), List.map_append, ← dec_signs, signs_ofString]
    show ("-" ++ Nat.repr (m + 1)).toList.map Char.toNat = _
    rw [String.toList_append, List.map_append, Nat.toList_repr]
    rfl
/-! ### how many bits -/
def Bits (n : Nat) (q : Rat) : Prop := Builtin.Int.intBits q.num ≤ n ∧ Builtin.Int.intBits (q.den : Int) ≤ n
theorem Bits.mono {m n : Nat} {q : Rat} (h : Bits m q) (hm : m ≤ n) : Bits n q := ⟨Nat.le_trans h.1 hm, Nat.le_trans h.2 hm⟩
theorem bits_mkRat {t : Int} {b m : Nat} (hb : 0 < b) (h1 : Builtin.Int.intBits t ≤ m) (h2 : Builtin.Int.intBits (b : Int) ≤ m) : Bits m (mkRat t b) := by
  have hb0 : b ≠ 0 := by omega
  constructor
  · refine intBits_le_of_natAbs ?_ h1
    rw [Rat.num_mkRat, if_neg hb0, ← Int.fdiv_eq_ediv_of_nonneg _ (by omega)]
    exact natAbs_fdiv_le _ _
  · refine intBits_le_of_natAbs ?_ h2
    rw [Int.natAbs_natCast, Int.natAbs_natCast]
    exact mkRat_den_le t hb
theorem Bits.mul {m n : Nat} {q s : Rat} (h : Bits m q) (k : Bits n s) : Bits (m + n) (q * s) := by
  rw [Rat.mul_def']
  refine bits_mkRat (Nat.mul_pos q.den_pos s.den_pos) (intBits_mul_le h.1 k.1) ?_
  rw [Int.natCast_mul]
  exact intBits_mul_le h.2 k.2
theorem Bits.add {m n : Nat} {q s : Rat} (h : Bits m q) (k : Bits n s) : Bits (m + n + 1) (q + s) := by
  rw [Rat.add_def']
  refine bits_mkRat (Nat.mul_pos q.den_pos s.den_pos) ?_ ?_
  · refine Nat.le_trans (intBits_add_le (intBits_mul_le h.1 k.2) (intBits_mul_le k.1 h.2)) ?_
    omega
  · rw [Int.natCast_mul]
    exact Nat.le_trans (intBits_mul_le h.2 k.2) (by omega)
theorem size_mk (q : Rat) : mkRat (q.num.natAbs : Int) q.den = Eb.size q := by
  unfold Eb.size
  by_cases h : q < 0
  · rw [if_pos h]
    have hn : q.num < 0 := Int.not_le.mp fun z => Rat.not_le.mpr h (Rat.num_nonneg.mp z)
    rw [show ((q.num.natAbs : Nat) : Int) = -q.num by omega]
    exact neg_mk q
  · rw [if_neg h]
    have hn : ¬ q.num < 0 := Int.not_lt.mpr (Rat.num_nonneg.mpr (Rat.not_lt.mp h))
    rw [show ((q.num.natAbs : Nat) : Int) = q.num by omega]
    exact Rat.mkRat_self q
theorem Bits.size {m : Nat} {q : Rat} (h : Bits m q) : Bits m (Eb.size q) := by
  rw [← size_mk]
  exact bits_mkRat q.den_pos (intBits_natAbs_le h.1) h.2
theorem Bits.ok1 {q s : Rat} (h : Bits 1000000 q) (k : Bits 1000000 s) : IntMulOk q.num s.num := .of_le h.1 k.1 (by decide)
theorem Bits.ok2 {q s : Rat} (h : Bits 1000000 q) (k : Bits 1000000 s) : IntMulOk (q.den : Int) (s.den : Int) := .of_le h.2 k.2 (by decide)
theorem Bits.ok3 {q s : Rat} (h : Bits 1000000 q) (k : Bits 1000000 s) : IntMulOk q.num (s.den : Int) := .of_le h.1 k.2 (by decide)
/-! ### promises -/
def sp_Ratio_plus (C : Addr) : Sp := fun vs H Q _ => ∃ (p r : Addr) (q s : Rat), vs = [.ref p, .ref r] ∧ RatAt C H p q ∧ RatAt C H r s ∧ Bits 1000000 q ∧ Bits 1000000 s ∧ ∀ (H' : Hp) (x : Addr), Same H H' → RatAt C H' x (q + s) → Q (.ref x) H'
def sp_Ratio_times (C : Addr) : Sp := fun vs H Q _ => ∃ (p r : Addr) (q s : Rat), vs = [.ref p, .ref r] ∧ RatAt C H p q ∧ RatAt C H r s ∧ Bits 1000000 q ∧ Bits 1000000 s ∧ ∀ (H' : Hp) (x : Addr), Same H H' → RatAt C H' x (q * s) → Q (.ref x) H'
def sp_Ratio_size (C : Addr) : Sp := fun vs H Q _ => ∃ (p : Addr) (q : Rat), vs = [.ref p] ∧ RatAt C H p q ∧ ∀ (H' : Hp) (x : Addr), Same H H' → RatAt C H' x (Eb.size q) → Q (.ref x) H'
def sp_exact_text (C : Addr) : Sp := fun vs H Q _ => ∃ (p : Addr) (q : Rat), vs = [.ref p] ∧ RatAt C H p q ∧ Eb.Num.fits q = true ∧ ∀ (H' : Hp) (r : Addr), Same H H' → H r = none → H' r = some (.lst ((Eb.Num.exactText q).map bV)) → Q (.ref r) H'
def sp_text_answer (C : Addr) : Sp := fun vs H Q _ => ∃ (p : Addr) (q : Rat), vs = [.ref p] ∧ RatAt C H p q ∧ ∀ (H' : Hp) (r : Addr), Same H H' → H r = none → H' r = some (.lst ((EvenGNeutral.shown (EvenG.gives [q])).map V.int)) → Q (.ref r) H'
/-! ### a comprehension over a str -/
theorem lc_str {D : Addr} {x : Str} {g : TG} {te : TE} {vs : List Nat} {σ : L2.St} {H : Hp} {Q : VK} (f : Nat → V) (hz : x.cps.size < sizeLine)
    (step : ∀ c acc (R : VK), R (f c) (upd H D (.lst acc)) → g (.str ⟨#[c]⟩) (wipe σ vs) (upd H D (.lst acc)) fun σ2 H2 => wipe σ2 vs = wipe σ vs ∧ te σ2 H2 R)
    (fin : Q (.ref D) (upd H D (.lst (x.cps.toList.map f)))) :
    ∃ W : Nat → Nat → Hp → Prop, (∃ m, W 0 m (upd H D (.lst []))) ∧ ∀ i m H, W i m H →
      ((Its x).stop i H ∧ Q (.ref D) H) ∨ ((Its x).go i H ∧ ∃ Nx : Hp → Prop, (∀ H', Nx H' → ∃ m', m' < m ∧ W (i + 1) m' H') ∧ ∀ y H', (Its x).yld i H y H' → g y (wipe σ vs) H' fun σ2 H2 => wipe σ2 vs = wipe σ vs ∧ tYes σ2 H2 fun b H3 =>
        if b = true then te σ2 H3 fun y H4 => ∃ acc, H4 D = some (.lst acc) ∧ acc.length < sizeLine ∧ Nx (upd H4 D (.lst (acc ++ [y]))) else Nx H3) := by
  refine ⟨fun i m H' => m = x.cps.size - i ∧ i ≤ x.cps.size ∧ H' = upd H D (.lst ((x.cps.toList.take i).map f)), ⟨_, rfl, Nat.zero_le _, rfl⟩, ?_⟩
  rintro i m H' ⟨rfl, hi, rfl⟩
  have hl : x.cps.toList.length = x.cps.size := Array.length_toList
  by_cases hlt : i < x.cps.size
  · refine .inr ⟨hlt, fun H' => H' = upd H D (.lst ((x.cps.toList.take (i + 1)).map f)), fun H' e => ⟨x.cps.size - (i + 1), by omega, rfl, hlt, e⟩, fun y H' hy => ?_⟩
    obtain ⟨rfl, c, hc, rfl⟩ := hy
    refine step c _ _ ?_
    refine ⟨_, upd_same, ?_, ?_⟩
    · rw [List.length_map, List.length_take]
      omega
    · rw [upd_upd, List.take_add_one, Array.getElem?_toList, hc, List.map_append]
      rfl
  · have e : i = x.cps.size := by omega
    subst e
    refine .inl ⟨Nat.le_refl _, ?_⟩
    rw [← hl, List.take_length]
    exact fin
section
variable {w : World} {K : PySem.W.Frag} {mg : Str → Option Value} {base : Heap} {a : Ads}
/-- slots: 0 self, 1 other -/
theorem ok_Ratio_plus (T : Tx K mg a) : FnOk P w K mg base CX0 43 a.f_Ratio_plus a.d_Ratio_plus ["self", "other"] (sp_Ratio_plus a.c_Ratio) := by
  have G_Ratio_init := ok_Ratio_init (w := w) (base := base) T
  refine T.F_Ratio_plus.ok sc_Ratio_plus (fun vs H Q E h => ?_) (fun cdv A outer s H vs Q E hr h => ?_)
  · obtain ⟨_, _, _, _, rfl, _⟩ := h
    rfl
  · obtain ⟨p, r, q, s, rfl, ⟨d1, e1⟩, ⟨d2, e2⟩, b1, b2, k⟩ := h
    refine ⟨_, (pss_one (ps_ret (pe_make T.mk_Ratio G_Ratio_init (hr.mono (by decide)) rfl T.m_Ratio T.bd_Ratio_init .nil pass0 (pa_cons (pe_op op_add (pe_op op_mulK (pe_fld (pv 0) rfl) (pe_fld (pv 1) rfl)) (pe_op op_mulK (pe_fld (pv 1) rfl) (pe_fld (pv 0) rfl))) (pa_cons (pe_op op_mulK (pe_fld (pv 0) rfl) (pe_fld (pv 1) rfl)) pa_nil))))), ?_⟩
    refine ⟨_, rfl, p, _, d1, _, _, rfl, e1, T.cl_Ratio, T.no_Ratio_top, rfl, _, rfl, r, _, d2, _, _, rfl, e2, T.cl_Ratio, T.no_Ratio_bottom, rfl, _, _, rfl, rfl, b1.ok3 b2, ?_⟩
    refine ⟨_, rfl, r, _, d2, _, _, rfl, e2, T.cl_Ratio, T.no_Ratio_top, rfl, _, rfl, p, _, d1, _, _, rfl, e1, T.cl_Ratio, T.no_Ratio_bottom, rfl, _, _, rfl, rfl, b2.ok3 b1, _, _, rfl, rfl, ?_⟩
    refine ⟨_, rfl, p, _, d1, _, _, rfl, e1, T.cl_Ratio, T.no_Ratio_bottom, rfl, _, rfl, r, _, d2, _, _, rfl, e2, T.cl_Ratio, T.no_Ratio_bottom, rfl, _, _, rfl, rfl, b1.ok2 b2, fun x dx nx nd ne => ?_⟩
    refine ⟨x, dx, _, q.den * s.den, rfl, upd_same, Nat.mul_pos q.den_pos s.den_pos, fun H' hat kp => ⟨rfl, k H' x (Same.made nx nd kp) ?_⟩⟩
    rw [Rat.add_def']
    exact hat
/-- slots: 0 self, 1 other -/
theorem ok_Ratio_times (T : Tx K mg a) : FnOk P w K mg base CX0 43 a.f_Ratio_times a.d_Ratio_times ["self", "other"] (sp_Ratio_times a.c_Ratio) := by
  have G_Ratio_init := ok_Ratio_init (w := w) (base := base) T
  refine T.F_Ratio_times.ok sc_Ratio_times (fun vs H Q E h => ?_) (fun cdv A outer s H vs Q E hr h => ?_)
  · obtain ⟨_, _, _, _, rfl, _⟩ := h
    rfl
  · obtain ⟨p, r, q, s, rfl, ⟨d1, e1⟩, ⟨d2, e2⟩, b1, b2, k⟩ := h
    refine ⟨_, (pss_one (ps_ret (pe_make T.mk_Ratio G_Ratio_init (hr.mono (by decide)) rfl T.m_Ratio T.bd_Ratio_init .nil pass0 (pa_cons (pe_op op_mulK (pe_fld (pv 0) rfl) (pe_fld (pv 1) rfl)) (pa_cons (pe_op op_mulK (pe_fld (pv 0) rfl) (pe_fld (pv 1) rfl)) pa_nil))))), ?_⟩
    refine ⟨_, rfl, p, _, d1, _, _, rfl, e1, T.cl_Ratio, T.no_Ratio_top, rfl, _, rfl, r, _, d2, _, _, rfl, e2, T.cl_Ratio, T.no_Ratio_top, rfl, _, _, rfl, rfl, b1.ok1 b2, ?_⟩
    refine ⟨_, rfl, p, _, d1, _, _, rfl, e1, T.cl_Ratio, T.no_Ratio_bottom, rfl, _, rfl, r, _, d2, _, _, rfl, e2, T.cl_Ratio, T.no_Ratio_bottom, rfl, _, _, rfl, rfl, b1.ok2 b2, fun x dx nx nd ne => ?_⟩
    refine ⟨x, dx, _, q.den * s.den, rfl, upd_same, Nat.mul_pos q.den_pos s.den_pos, fun H' hat kp => ⟨rfl, k H' x (Same.made nx nd kp) ?_⟩⟩
    rw [Rat.mul_def']
    exact hat
/-- slots: 0 self -/
theorem ok_Ratio_size (T : Tx K mg a) : FnOk P w K mg base CX0 43 a.f_Ratio_size a.d_Ratio_size ["self"] (sp_Ratio_size a.c_Ratio) := by
  have G_Ratio_init := ok_Ratio_init (w := w) (base := base) T
  refine T.F_Ratio_size.ok sc_Ratio_size (fun vs H Q E h => ?_) (fun cdv A outer s H vs Q E hr h => ?_)
  · obtain ⟨_, _, rfl, _⟩ := h
    rfl
  · obtain ⟨p, q, rfl, ⟨d1, e1⟩, k⟩ := h
    refine ⟨_, (pss_one (ps_ret (pe_make T.mk_Ratio G_Ratio_init (hr.mono (by decide)) rfl T.m_Ratio T.bd_Ratio_init .nil pass0 (pa_cons (pe_callB call_abs rfl T.b_abs bt_abs (pa_cons (pe_fld (pv 0) rfl) pa_nil)) (pa_cons (pe_fld (pv 0) rfl) pa_nil))))), ?_⟩
    refine ⟨_, rfl, p, _, d1, _, _, rfl, e1, T.cl_Ratio, T.no_Ratio_top, rfl, _, rfl, ?_⟩
    refine ⟨_, rfl, p, _, d1, _, _, rfl, e1, T.cl_Ratio, T.no_Ratio_bottom, rfl, fun x dx nx nd ne => ?_⟩
    refine ⟨x, dx, _, q.den, rfl, upd_same, q.den_pos, fun H' hat kp => ⟨rfl, k H' x (Same.made nx nd kp) ?_⟩⟩
    rw [natAbs_abs, size_mk] at hat
    exact hat
theorem num_neg {q : Rat} : q.num < 0 ↔ q < 0 := ⟨fun h => Rat.not_le.mp fun z => Int.not_le.mpr h (Rat.num_nonneg.mpr z), fun h => Int.not_le.mp fun z => Rat.not_le.mpr h (Rat.num_nonneg.mp z)⟩
theorem str_len (z : Str) : z.length = z.cps.toList.length := Array.length_toList.symm
theorem int_len {i : Int} (h : i.natAbs < 2 ^ 4096) : (PySem.Str.ofString (toString i)).length ≤ 4097 := by
  rw [str_len, int_signs, List.length_map, List.length_append]
  have h1 := My.decimal_len h (by decide)
  have h2 : (if i < 0 then Eb.Num.ascii "-" else []).length ≤ 1 := by split <;> decide
  omega
theorem blk_exact_text : BlkOk ["ratio", "text", "sign"] (defScope s_exact_text) { kind := .function, names := [(Str.ofString ".0", .local), (Str.ofString "sign", .local), (Str.ofString "ord", .globalImplicit)], isGenerator := false, isCoroutine := false } [("sign", 2)] := ⟨rfl, by decide +kernel, by decide +kernel, by decide +kernel, by decide +kernel⟩
/-- slots: 0 ratio, 1 text, 2 sign -/
theorem ok_exact_text (T : Tx K mg a) : FnOk P w K mg base CX0 1 a.f_exact_text a.d_exact_text ["ratio"] (sp_exact_text a.c_Ratio) := by
  refine T.F_exact_text.ok sc_exact_text (fun vs H Q E h => ?_) (fun cdv A outer s H vs Q E hr h => ?_)
  · obtain ⟨_, _, rfl, _⟩ := h
    rfl
  · obtain ⟨p, q, rfl, ⟨dx, hp⟩, hf, k⟩ := h
    refine ⟨_, (pss_cons (ps_set (i := 1) sc_exact_text.nd rfl (Or.inl rfl) (pe_callTy (call_str_big rfl) rfl T.b_str bt_str (pa_cons (pe_fld (pv 0) rfl) pa_nil)))
      (pss_cons (ps_if (pt_cmpR op_ne (pe_fld (pv 0) rfl) pe_int (nomark _))
        (pss_one (ps_set (i := 1) sc_exact_text.nd rfl (Or.inl rfl) (pe_op op_add_str (pe_op op_add_str (pv 1) pe_str) (pe_callTy (call_str_big rfl) rfl T.b_str bt_str (pa_cons (pe_fld (pv 0) rfl) pa_nil)))))
        pss_nil)
      (pss_one (ps_ret (pe_lc (own := [("sign", 2)]) (te := tCB (fun xs H Q => ∃ x, xs = [.str x] ∧ x.length = 1 ∧ Q (.int (x.cps.getD 0 0 : Nat)) H) (tCons (tVar 2) tNil)) rfl sc_exact_text.nd (pi_str (pv 1)) blk_exact_text (fun _ _ _ _ _ => pg_name (i := 2) sc_exact_text.nd rfl (Or.inl rfl) (Or.inr rfl)) (fun _ _ _ _ _ => pts_nil) (fun _ _ _ _ _ => by
        refine pe_callB call_ord ?_ ?_ bt_ord (pa_cons (pv 2) pa_nil)
        · rfl
        · exact T.b_ord)))))), ?_⟩
    have hlen := My.exact_len hf
    have hf' := hf
    unfold Eb.Num.fits at hf'
    rw [Bool.and_eq_true] at hf'
    have hn := of_decide_eq_true hf'.1
    have hd := of_decide_eq_true hf'.2
    -- the text, whatever way
    have fin : ∀ z : Str, z.cps.toList = (Eb.Num.exactText q).map (fun (c : UInt8) => c.toNat) →
        tLc (iStr (tVar 1)) (gName 2) tYes (tCB (fun xs H Q => ∃ x, xs = [.str x] ∧ x.length = 1 ∧ Q (.int (x.cps.getD 0 0 : Nat)) H) (tCons (tVar 2) tNil)) [2] [some (.ref p), some (.str z), none] H Q := by
      intro z hz
      have hsz : z.cps.size = (Eb.Num.exactText q).length := by
        rw [← Array.length_toList, hz, List.length_map]
      refine ⟨_, rfl, z, rfl, fun D hD => lc_str (fun c => V.int ((c : Nat) : Int)) ?_ ?_ ?_⟩
      · rw [hsz, sizeLine_eq]
        omega
      · intro c acc R hR
        refine ⟨rfl, ?_⟩
        exact ⟨_, rfl, _, rfl, rfl, hR⟩
      · refine k _ D (Same.upd hD) hD ?_
        rw [upd_same, hz, List.map_map]
        rfl
    have en := int_signs q.num
    have ed := nat_signs q.den
    refine ⟨_, rfl, p, _, dx, _, _, rfl, hp, T.cl_Ratio, T.no_Ratio_top, rfl, _, rfl, hn, ?_⟩
    refine ⟨_, rfl, p, _, dx, _, _, rfl, hp, T.cl_Ratio, T.no_Ratio_bottom, rfl, rfl, _, rfl, ifNe (fun h1 => ?_) (fun h1 => ?_)⟩
    · have l1 := int_len hn
      have hd' : ((q.den : Nat) : Int).natAbs < 2 ^ 4096 := by rw [Int.natAbs_natCast]; exact hd
      have l2 := int_len hd'
      have es : (if q.num < 0 then Eb.Num.ascii "-" else []) = (if q < 0 then Eb.Num.ascii "-" else []) := by
        by_cases h : q < 0
        · rw [if_pos h, if_pos (num_neg.mpr h)]
        · rw [if_neg h, if_neg fun z => h (num_neg.mp z)]
      have e3 : (PySem.Str.ofString (toString q.num) ++ PySem.Str.ofString "/").cps.toList = (PySem.Str.ofString (toString q.num)).cps.toList ++ [47] := Array.toList_append ..
      refine ⟨_, rfl, _, _, rfl, rfl, ?_, _, rfl, p, _, dx, _, _, rfl, hp, T.cl_Ratio, T.no_Ratio_bottom, rfl, _, rfl, hd', _, _, rfl, rfl, ?_, ?_⟩
      · rw [sizeLine_eq]
        show _ + 1 ≤ _
        omega
      · rw [sizeLine_eq]
        have : (PySem.Str.ofString (toString q.num) ++ PySem.Str.ofString "/").length = (PySem.Str.ofString (toString q.num)).length + 1 := by
          rw [str_len, e3, str_len, List.length_append]
          rfl
        omega
      · refine fin _ ?_
        have e4 : (PySem.Str.ofString (toString q.num) ++ PySem.Str.ofString "/" ++ PySem.Str.ofString (toString ((q.den : Nat) : Int))).cps.toList = (PySem.Str.ofString (toString q.num) ++ PySem.Str.ofString "/").cps.toList ++ (PySem.Str.ofString (toString ((q.den : Nat) : Int))).cps.toList := Array.toList_append ..
        rw [e4, e3, en, ed, es]
        unfold Eb.Num.exactText
        rw [if_neg (show ¬ q.den = 1 by omega), List.map_append, List.map_append, List.map_append, List.map_append, List.append_assoc, List.append_assoc]
        rfl
    · refine fin _ ?_
      rw [en]
      unfold Eb.Num.exactText
      rw [if_pos (show q.den = 1 by omega), List.append_nil]
      congr 2
      by_cases h : q < 0
      · rw [if_pos h, if_pos (num_neg.mpr h)]
      · rw [if_neg h, if_neg fun z => h (num_neg.mp z)]
theorem fits_bits (q : Rat) : Eb.Num.fits q = true ↔ Builtin.Int.intBits q.num ≤ 4096 ∧ Builtin.Int.intBits (q.den : Int) ≤ 4096 := by
  unfold Eb.Num.fits
  rw [Bool.and_eq_true, decide_eq_true_iff, decide_eq_true_iff, intBits_le_iff, intBits_le_iff, Int.natAbs_natCast]
theorem gives_no {q : Rat} (h : ¬ (Builtin.Int.intBits q.num ≤ 4096 ∧ Builtin.Int.intBits (q.den : Int) ≤ 4096)) : EvenG.gives [q] = EvenG.number (-6) := by
  have hf : Eb.Num.fits q = false := by
    cases e : Eb.Num.fits q with
    | false => rfl
    | true => exact absurd ((fits_bits q).mp e) h
  unfold EvenG.gives
  rw [if_pos]
  show (Eb.Num.fits q && true) = false
  rw [hf]
  rfl
theorem gives_yes {q : Rat} (hf : Eb.Num.fits q = true) : EvenG.gives [q] = EvenG.wholeB (Eb.Num.exactText q) := by
  unfold EvenG.gives
  rw [if_neg]
  · rfl
  · show ¬ (Eb.Num.fits q && true) = false
    rw [hf]
    decide
/-- slots: 0 ratio, 1 text -/
theorem ok_text_answer (T : Tx K mg a) : FnOk P w K mg base CX0 2 a.f_text_answer a.d_text_answer ["ratio"] (sp_text_answer a.c_Ratio) := by
  have G_exact_text := ok_exact_text (w := w) (base := base) T
  refine T.F_text_answer.ok sc_text_answer (fun vs H Q E h => ?_) (fun cdv A outer s H vs Q E hr h => ?_)
  · obtain ⟨_, _, rfl, _⟩ := h
    rfl
  · obtain ⟨p, q, rfl, ⟨dx, hp⟩, k⟩ := h
    refine ⟨_, (pss_cons (ps_if (PW.pt (pw_or (pt_cmpR op_gt (pe_bm0 PySem.F.plainAttrs_int PySem.F.slot_int_bit_length PySem.F.type_int_bit_length mt_bits (pe_fld (pv 0) rfl)) (pe_gi rfl T.g_MOST_BITS) (nomark _)) (pw_or1 (pt_cmpR op_gt (pe_bm0 PySem.F.plainAttrs_int PySem.F.slot_int_bit_length PySem.F.type_int_bit_length mt_bits (pe_fld (pv 0) rfl)) (pe_gi rfl T.g_MOST_BITS) (nomark _)))))
        (pss_one (ps_ret (pe_lst (pa_cons (pe_gi rfl T.g_TOO_LARGE) pa_nil))))
        pss_nil)
      (pss_cons (ps_set (i := 1) sc_text_answer.nd rfl (Or.inl rfl) (pe_call G_exact_text (hr.mono (by decide)) rfl T.m_exact_text T.F_exact_text.kp T.bd_exact_text .nil pass0 (pa_cons (pv 0) pa_nil)))
      (pss_one (ps_ret (pe_op op_cat (pe_lst (pa_cons (pe_callB call_len_seq rfl T.b_len bt_len (pa_cons (pv 1) pa_nil)) pa_nil)) (pv 1)))))), ?_⟩
    have bad : ¬ (Builtin.Int.intBits q.num ≤ 4096 ∧ Builtin.Int.intBits (q.den : Int) ≤ 4096) → ([V.int (-6)] : List V).length ≤ sizeLine ∧ ∀ p, H p = none → Q (.ref p) (upd H p (.lst [V.int (-6)])) := fun hb => by
      refine ⟨by rw [sizeLine_eq]; decide, fun r hr => k _ r (Same.upd hr) hr ?_⟩
      rw [upd_same, gives_no hb]
      rfl
    refine ⟨_, rfl, p, _, dx, _, _, rfl, hp, T.cl_Ratio, T.no_Ratio_top, rfl, rfl, _, rfl, rfl, _, _, rfl, rfl, _, rfl, ifD (fun h1 => iteT ?_) (fun h1 => ?_)⟩
    · exact bad fun h => by omega
    refine ⟨_, rfl, p, _, dx, _, _, rfl, hp, T.cl_Ratio, T.no_Ratio_bottom, rfl, rfl, _, rfl, rfl, _, _, rfl, rfl, _, rfl, ifD (fun h2 => ?_) (fun h2 => ?_)⟩
    · exact bad fun h => by omega
    have hf := (fits_bits q).mpr ⟨by omega, by omega⟩
    have hlen := My.exact_len hf
    refine ⟨_, rfl, p, q, rfl, ⟨dx, hp⟩, hf, fun H1 r s1 hr0 hr1 => ?_⟩
    refine ⟨_, rfl, r, _, rfl, .inl (SqL.of hr1), by rw [sizeLine_eq]; show 1 ≤ 16777216; decide, fun l hl => ?_⟩
    have s2 : Same H1 (upd H1 l (.lst [V.int (((Eb.Num.exactText q).map bV).length : Int)])) := Same.upd hl
    have hl2 : (upd H1 l (.lst [V.int (((Eb.Num.exactText q).map bV).length : Int)])) l = some (.lst [V.int (((Eb.Num.exactText q).map bV).length : Int)]) := upd_same
    have hr2 := s2 _ _ hr1
    generalize upd H1 l (.lst [V.int (((Eb.Num.exactText q).map bV).length : Int)]) = H2 at s2 hl2 hr2
    refine ⟨_, rfl, l, r, _, _, rfl, rfl, hl2, hr2, ?_, fun y hy => ?_⟩
    · rw [List.length_map, List.length_singleton, sizeLine_eq]
      omega
    refine k _ y ((s1.trans s2).trans (Same.upd hy)) ((s1.trans s2).free hy) ?_
    rw [upd_same, gives_yes hf, List.length_map]
    show some (HO.lst (V.int _ :: List.map bV _)) = some (HO.lst (V.int _ :: List.map V.int (List.map _ _)))
    rw [List.map_map]
    rfl
end
/-! ### bits of what a telling rests on -/
theorem pow_2048 : 10 ^ 512 ≤ 2 ^ 2048 := by decide +kernel
theorem sizeB_bits {s t : List UInt8} {q : Rat} (hs : ∀ c ∈ s, Eb.Num.isDigit c = true) (ht : s.length + t.length ≤ 512) (hq : My.sizeB s t = some q) : Bits 2049 q := by
  have le : ∀ {n : Nat}, n ≤ 10 ^ 512 → Builtin.Int.intBits (n : Int) ≤ 2049 := fun {n} h => by
    rw [intBits_le_iff, Int.natAbs_natCast]
    exact Nat.lt_of_le_of_lt (Nat.le_trans h pow_2048) (Nat.pow_lt_pow_right (by decide) (by decide))
  have num : ∀ {d : List UInt8}, (∀ c ∈ d, Eb.Num.isDigit c = true) → d.length ≤ 512 → Builtin.Int.intBits ((Eb.Num.number d : Nat) : Int) ≤ 2049 := fun {d} h hd => le (Nat.le_trans (Nat.le_of_lt (number_lt d h)) (pow_512 hd))
  match t, ht, hq with
  | [], ht, hq =>
    have e : some ((Eb.Num.number s : Nat) : Rat) = some q := hq
    rw [← Option.some.inj e, ← mkRat_one]
    exact bits_mkRat (by decide) (num hs (by simp at ht; omega)) (le (Nat.pow_pos (by decide)))
  | c :: d, ht, hq =>
    have hd : s.length + d.length ≤ 512 := by simp at ht; omega
    unfold My.sizeB at hq
    simp only [] at hq
    split at hq
    · cases hq
    · rename_i h0
      have hall : d.takeWhile Eb.Num.isDigit = d := My.tw_all (fun h => h0 (.inr h))
      have hdd : ∀ c ∈ d, Eb.Num.isDigit c = true := fun c hc => tw_digits d c (by rw [hall]; exact hc)
      split at hq
      · rw [rat_div] at hq
        rw [← Option.some.inj hq]
        refine bits_mkRat (Nat.pow_pos (by decide)) (num (fun c hc => (List.mem_append.mp hc).elim (hs c) (hdd c)) (by rw [List.length_append]; exact hd)) (le (pow_512 (by omega)))
      · split at hq
        · rename_i h1
          rw [rat_div] at hq
          rw [← Option.some.inj hq]
          exact bits_mkRat (Nat.pos_of_ne_zero h1.2) (num hs (by omega)) (num hdd (by omega))
        · cases hq
theorem Bits.neg {m : Nat} {q : Rat} (h : Bits m q) : Bits m (-q) := by
  rw [← neg_mk]
  exact bits_mkRat q.den_pos (intBits_neg_le h.1) h.2
theorem numOf_bits {s : List UInt8} {q : Rat} (h : EvenG.numOf s = some q) : Bits 2049 q := by
  rw [My.numOf_eq] at h
  have low : ∀ {k : Nat} {q0 : Rat}, k ≤ 1 → ¬ 512 < s.length → My.sizeB ((s.drop k).takeWhile Eb.Num.isDigit) (s.drop (k + ((s.drop k).takeWhile Eb.Num.isDigit).length)) = some q0 → Bits 2049 q0 := fun {k q0} hk h0 e0 => by
    refine sizeB_bits (tw_digits _) ?_ e0
    have := My.tw_le (s.drop k)
    rw [List.length_drop] at this ⊢
    omega
  by_cases h0 : 512 < s.length
  · rw [if_pos h0] at h
    cases h
  · rw [if_neg h0] at h
    by_cases hm : s.take 1 = [45]
    · simp only [if_pos hm] at h
      by_cases h1 : (s.drop 1).takeWhile Eb.Num.isDigit = []
      · rw [if_pos h1] at h
        cases h
      · rw [if_neg h1] at h
        obtain ⟨q0, e0, rfl⟩ := Option.map_eq_some_iff.mp h
        exact (low (Nat.le_refl _) h0 e0).neg
    · simp only [if_neg hm] at h
      by_cases h1 : (s.drop 0).takeWhile Eb.Num.isDigit = []
      · rw [if_pos h1] at h
        cases h
      · rw [if_neg h1] at h
        obtain ⟨q0, e0, rfl⟩ := Option.map_eq_some_iff.mp h
        exact low (Nat.zero_le _) h0 e0
theorem mem_zw {f : Int → Int → Int} {t : Int} : ∀ {l r : List Int}, t ∈ List.zipWith f l r → ∃ x ∈ l, ∃ y ∈ r, t = f x y
  | [], _, h => by cases h
  | _ :: _, [], h => by cases h
  | x :: l, y :: r, h => by
    rcases List.mem_cons.mp h with rfl | h
    · exact ⟨x, List.mem_cons_self .., y, List.mem_cons_self .., rfl⟩
    · obtain ⟨x', hx, y', hy, e⟩ := mem_zw h
      exact ⟨x', List.mem_cons_of_mem _ hx, y', List.mem_cons_of_mem _ hy, e⟩
theorem bits_sum {m : Nat} : ∀ (l : List Int), (∀ t ∈ l, Builtin.Int.intBits t ≤ m) → Builtin.Int.intBits l.sum ≤ m + l.length
  | [], _ => Nat.zero_le _
  | t :: l, h => by
    have ih := bits_sum l fun x hx => h x (List.mem_cons_of_mem _ hx)
    have h1 := h t (List.mem_cons_self ..)
    rw [List.sum_cons, List.length_cons]
    refine Nat.le_trans (intBits_add_le h1 ih) ?_
    omega
theorem bits_fold : ∀ (qs : List Rat) (m n : Nat), (∀ q ∈ qs, Eb.Balance.countFits q = true) → Builtin.Int.intBits (m : Int) ≤ n → Builtin.Int.intBits ((qs.foldl (fun m q => Nat.lcm m q.den) m : Nat) : Int) ≤ n + 32 * qs.length
  | [], m, n, _, hm => hm
  | q :: qs, m, n, h, hm => by
    have hq := fits_den (h q (List.mem_cons_self ..))
    have h1 : Builtin.Int.intBits ((Nat.lcm m q.den : Nat) : Int) ≤ n + 32 := by
      have hd : Builtin.Int.intBits (q.den : Int) ≤ 32 := by
        rw [intBits_le_iff, Int.natAbs_natCast]
        omega
      refine intBits_le_of_natAbs ?_ (intBits_mul_le hm hd)
      rw [← Int.natCast_mul, Int.natAbs_natCast, Int.natAbs_natCast]
      exact Nat.div_le_self _ _
    have ih := bits_fold qs (Nat.lcm m q.den) (n + 32) (fun x hx => h x (List.mem_cons_of_mem _ hx)) h1
    rw [List.foldl_cons, List.length_cons]
    exact Nat.le_trans ih (by omega)
theorem bits_comm {qs : List Rat} (h : ∀ q ∈ qs, Eb.Balance.countFits q = true) (hl : qs.length ≤ 64) : Builtin.Int.intBits ((My.comm qs : Nat) : Int) ≤ 2100 := by
  have := bits_fold qs 1 1 h (by decide)
  exact Nat.le_trans this (by omega)
theorem tops_eq (qs : List Rat) : tops qs = qs.map (My.tp (My.comm qs)) := My.terms_zero _ _ _
theorem bits_tops {qs : List Rat} (h : ∀ q ∈ qs, Eb.Balance.countFits q = true) (hl : qs.length ≤ 64) : ∀ t ∈ tops qs, Builtin.Int.intBits t ≤ 2164 := fun t ht => by
  rw [tops_eq] at ht
  obtain ⟨q, hq, rfl⟩ := List.mem_map.mp ht
  have h1 := fits_num (h q hq)
  have hn : Builtin.Int.intBits q.num ≤ 64 := by
    rw [intBits_le_iff]
    omega
  have hd : Builtin.Int.intBits ((My.comm qs : Int) / (q.den : Int)) ≤ 2100 := by
    refine intBits_le_of_natAbs ?_ (bits_comm h hl)
    rw [← Int.natCast_ediv, Int.natAbs_natCast, Int.natAbs_natCast]
    exact Nat.div_le_self _ _
  exact Nat.le_trans (intBits_mul_le hn hd) (by decide)
theorem tops_len (qs : List Rat) : (tops qs).length = qs.length := My.terms_len _ _ _ _
/-! ### what the sums come to -/
theorem dvd_all (qs : List Rat) : ∀ q ∈ qs, q.den ∣ My.comm qs := fun _ h => My.comm_dvd h
theorem mk_cN (qs : List Rat) (rs : List Int) : mkRat (List.zipWith (fun t r => t * r) (tops qs) rs).sum (My.comm qs) = My.cN (qs.zip rs) := by
  rw [tops_eq]
  exact My.mk_of (My.comm_pos qs) (My.sum_cN _ qs rs (dvd_all qs))
theorem mk_cA (qs : List Rat) : mkRat ((tops qs).map fun t => if t < 0 then -t else t).sum (My.comm qs) = My.cA qs := by
  rw [tops_eq]
  exact My.mk_of (My.comm_pos qs) (My.sum_cA _ (My.comm_pos qs) qs (dvd_all qs))
theorem mk_cS (qs : List Rat) : mkRat ((tops qs).map fun t => t * t).sum (My.comm qs * My.comm qs) = My.cS qs := by
  rw [tops_eq]
  exact My.mk_of (Nat.mul_pos (My.comm_pos qs) (My.comm_pos qs)) (My.sum_cS _ qs (dvd_all qs))
theorem mk_load (qs : List Rat) (st : List Nat) (j : Nat) (d : Nat) (h : qs.length = st.length) : mkRat (((List.range (tops qs).length).filter fun i => decide (st.getD i 0 = j)).map fun i => (tops qs).getD i 0).sum (My.comm qs) = (⟨st, qs, d⟩ : Eb.Balance.Plan).load j := by
  have e := My.pick_sum j (tops qs) st (by rw [tops_len]; exact h)
  rw [e, tops_eq]
  exact My.mk_of (My.comm_pos qs) (My.sum_load _ j qs st (dvd_all qs))
theorem bits_cN {qs : List Rat} {rs : List Int} (h : ∀ q ∈ qs, Eb.Balance.countFits q = true) (hl : qs.length ≤ 64) (hr : ∀ z ∈ rs, -(2 ^ 63) ≤ z ∧ z < 2 ^ 63) : Bits 3000 (My.cN (qs.zip rs)) := by
  rw [← mk_cN]
  refine bits_mkRat (My.comm_pos qs) ?_ (Nat.le_trans (bits_comm h hl) (by decide))
  refine Nat.le_trans (bits_sum (m := 2228) _ fun t ht => ?_) ?_
  · obtain ⟨x, hx, y, hy, rfl⟩ := mem_zw ht
    have hyb : Builtin.Int.intBits y ≤ 64 := by
      rw [intBits_le_iff]
      have := hr y hy
      omega
    exact intBits_mul_le (bits_tops h hl x hx) hyb
  · rw [List.length_zipWith, tops_len]
    omega
theorem bits_cA {qs : List Rat} (h : ∀ q ∈ qs, Eb.Balance.countFits q = true) (hl : qs.length ≤ 64) : Bits 3000 (My.cA qs) := by
  rw [← mk_cA]
  refine bits_mkRat (My.comm_pos qs) ?_ (Nat.le_trans (bits_comm h hl) (by decide))
  refine Nat.le_trans (bits_sum (m := 2164) _ fun t ht => ?_) ?_
  · obtain ⟨x, hx, rfl⟩ := List.mem_map.mp ht
    refine intBits_le_of_natAbs ?_ (bits_tops h hl x hx)
    split <;> omega
  · rw [List.length_map, tops_len]
    omega
theorem bits_cS {qs : List Rat} (h : ∀ q ∈ qs, Eb.Balance.countFits q = true) (hl : qs.length ≤ 64) : Bits 5000 (My.cS qs) := by
  rw [← mk_cS]
  refine bits_mkRat (Nat.mul_pos (My.comm_pos qs) (My.comm_pos qs)) ?_ ?_
  · refine Nat.le_trans (bits_sum (m := 4328) _ fun t ht => ?_) ?_
    · obtain ⟨x, hx, rfl⟩ := List.mem_map.mp ht
      exact intBits_mul_le (bits_tops h hl x hx) (bits_tops h hl x hx)
    · rw [List.length_map, tops_len]
      omega
  · rw [Int.natCast_mul]
    exact Nat.le_trans (intBits_mul_le (bits_comm h hl) (bits_comm h hl)) (by decide)
/-! ### comprehensions, what is reached told of the heap alone -/
theorem lc_listQ {K : PySem.W.Frag} {p D : Addr} {xs : List V} {g : TG} {te : TE} {vs : List Nat} {σ : L2.St} {H : Hp} {Qd : Hp → Prop} (f : Nat → V → V) (hD : H D = none) (hp : SqL K H p xs) (hz : xs.length < sizeLine)
    (step : ∀ i x acc (R : VK), xs[i]? = some x → R (f i x) (upd H D (.lst acc)) → g x (wipe σ vs) (upd H D (.lst acc)) fun σ2 H2 => wipe σ2 vs = wipe σ vs ∧ te σ2 H2 R)
    (fin : Qd (upd H D (.lst (xs.mapIdx f)))) :
    ∃ W : Nat → Nat → Hp → Prop, (∃ m, W 0 m (upd H D (.lst []))) ∧ ∀ i m H, W i m H →
      ((Itl K p).stop i H ∧ Qd H) ∨ ((Itl K p).go i H ∧ ∃ Nx : Hp → Prop, (∀ H', Nx H' → ∃ m', m' < m ∧ W (i + 1) m' H') ∧ ∀ x H', (Itl K p).yld i H x H' → g x (wipe σ vs) H' fun σ2 H2 => wipe σ2 vs = wipe σ vs ∧ tYes σ2 H2 fun b H3 =>
        if b = true then te σ2 H3 fun y H4 => ∃ acc, H4 D = some (.lst acc) ∧ acc.length < sizeLine ∧ Nx (upd H4 D (.lst (acc ++ [y]))) else Nx H3) := lc_list (Q := fun _ H => Qd H) f hD hp hz step fin
theorem lc_rangeQ {D : Addr} {n : Nat} {g : TG} {te : TE} {vs : List Nat} {σ : L2.St} {H : Hp} {Qd : Hp → Prop} (f : Nat → V) (hz : n < sizeLine)
    (step : ∀ i acc (R : VK), i < n → R (f i) (upd H D (.lst acc)) → g (.int (0 + (i : Int))) (wipe σ vs) (upd H D (.lst acc)) fun σ2 H2 => wipe σ2 vs = wipe σ vs ∧ te σ2 H2 R)
    (fin : Qd (upd H D (.lst ((List.range n).map f)))) :
    ∃ W : Nat → Nat → Hp → Prop, (∃ m, W 0 m (upd H D (.lst []))) ∧ ∀ i m H, W i m H →
      ((Itr 0 n).stop i H ∧ Qd H) ∨ ((Itr 0 n).go i H ∧ ∃ Nx : Hp → Prop, (∀ H', Nx H' → ∃ m', m' < m ∧ W (i + 1) m' H') ∧ ∀ x H', (Itr 0 n).yld i H x H' → g x (wipe σ vs) H' fun σ2 H2 => wipe σ2 vs = wipe σ vs ∧ tYes σ2 H2 fun b H3 =>
        if b = true then te σ2 H3 fun y H4 => ∃ acc, H4 D = some (.lst acc) ∧ acc.length < sizeLine ∧ Nx (upd H4 D (.lst (acc ++ [y]))) else Nx H3) := lc_range (Q := fun _ H => Qd H) f hz step fin
theorem lc_rangeIf {D : Addr} {n : Nat} {g : TG} {tt : TT} {te : TE} {vs : List Nat} {σ : L2.St} {H : Hp} {Qd : Hp → Prop} (c : Nat → Bool) (f : Nat → V) (hz : n < sizeLine)
    (step : ∀ i acc (R : VK) (N : Hp → Prop), i < n → (c i = true → R (f i) (upd H D (.lst acc))) → (c i = false → N (upd H D (.lst acc))) →
      g (.int (0 + (i : Int))) (wipe σ vs) (upd H D (.lst acc)) fun σ2 H2 => wipe σ2 vs = wipe σ vs ∧ tt σ2 H2 fun b H3 => if b = true then te σ2 H3 R else N H3)
    (fin : Qd (upd H D (.lst (((List.range n).filter c).map f)))) :
    ∃ W : Nat → Nat → Hp → Prop, (∃ m, W 0 m (upd H D (.lst []))) ∧ ∀ i m H, W i m H →
      ((Itr 0 n).stop i H ∧ Qd H) ∨ ((Itr 0 n).go i H ∧ ∃ Nx : Hp → Prop, (∀ H', Nx H' → ∃ m', m' < m ∧ W (i + 1) m' H') ∧ ∀ x H', (Itr 0 n).yld i H x H' → g x (wipe σ vs) H' fun σ2 H2 => wipe σ2 vs = wipe σ vs ∧ tt σ2 H2 fun b H3 =>
        if b = true then te σ2 H3 fun y H4 => ∃ acc, H4 D = some (.lst acc) ∧ acc.length < sizeLine ∧ Nx (upd H4 D (.lst (acc ++ [y]))) else Nx H3) := by
  refine ⟨fun i m H' => m = n - i ∧ i ≤ n ∧ H' = upd H D (.lst (((List.range i).filter c).map f)), ⟨_, rfl, Nat.zero_le _, rfl⟩, ?_⟩
  rintro i m H' ⟨rfl, hi, rfl⟩
  by_cases hlt : i < n
  · refine .inr ⟨hlt, fun H' => H' = upd H D (.lst (((List.range (i + 1)).filter c).map f)), fun H' e => ⟨n - (i + 1), by omega, rfl, hlt, e⟩, fun x H' y => ?_⟩
    obtain ⟨rfl, rfl⟩ := y
    refine step i _ _ _ hlt (fun hc => ⟨_, upd_same, ?_, ?_⟩) (fun hc => ?_)
    · rw [List.length_map]
      have := List.length_filter_le c (List.range i)
      rw [List.length_range] at this
      omega
    · rw [upd_upd, List.range_succ, List.filter_append, List.filter_cons_of_pos hc, List.map_append]
      rfl
    · rw [List.range_succ, List.filter_append, List.filter_cons_of_neg (by rw [hc]; decide), List.filter_nil, List.append_nil]
  · have e : i = n := by omega
    subst e
    exact .inl ⟨Nat.le_refl _, fin⟩
/-! ### lists of ints as values -/
theorem int_at {l : List Int} {i : Nat} {y : V} (h : (l.map V.int)[i]? = some y) : ∃ t, l[i]? = some t ∧ y = .int t := map_at h
theorem getD_at {l : List Int} {i : Nat} (h : i < l.length) : l[i]? = some (l.getD i 0) := by
  rw [List.getD_eq_getElem?_getD, List.getElem?_eq_getElem h]
  rfl
theorem range_zip (xs ys : List Int) (h : xs.length = ys.length) : (List.range xs.length).map (fun j => V.int (xs.getD j 0 * ys.getD j 0)) = (List.zipWith (fun t r => t * r) xs ys).map V.int := by
  refine List.ext_getElem? fun i => ?_
  rw [List.getElem?_map, List.getElem?_map, List.getElem?_zipWith]
  by_cases hi : i < xs.length
  · rw [List.getElem?_range hi, getD_at hi, getD_at (show i < ys.length by omega)]
    rfl
  · rw [List.getElem?_eq_none (by rw [List.length_range]; omega), List.getElem?_eq_none (by omega)]
    rfl
def absV : V → V
  | .int t => .int (if t < 0 then -t else t)
  | v => v
def sqV : V → V
  | .int t => .int (t * t)
  | v => v
theorem map_idx (l : List Int) (F : V → V) (f : Int → Int) (h : ∀ t, F (.int t) = .int (f t)) : (l.map V.int).mapIdx (fun _ y => F y) = (l.map f).map V.int := by
  refine List.ext_getElem? fun i => ?_
  rw [List.getElem?_mapIdx, List.getElem?_map, List.getElem?_map, List.getElem?_map]
  cases l[i]? with
  | none => rfl
  | some t =>
    show some (F (.int t)) = some (.int (f t))
    rw [h]
/-! ### measured values, bases -/
def msF (n r s : Addr) : List (Str × V) := [("number", .ref n), ("reach", .ref r), ("square", .ref s)]
def bsF (q u v w : Addr) : List (Str × V) := [("worth", .ref q), ("bound", .ref u), ("nearness", .ref v), ("square", .ref w)]
def MsAt (a : Ads) (H : Hp) (p : Addr) (n r s : Rat) : Prop := ∃ dx pn pr ps, H p = some (.ins a.c_Measured dx (msF pn pr ps)) ∧ RatAt a.c_Ratio H pn n ∧ RatAt a.c_Ratio H pr r ∧ RatAt a.c_Ratio H ps s
def BsAt (a : Ads) (H : Hp) (p : Addr) (q u v w : Rat) : Prop := ∃ dx p1 p2 p3 p4, H p = some (.ins a.c_Basis dx (bsF p1 p2 p3 p4)) ∧ RatAt a.c_Ratio H p1 q ∧ RatAt a.c_Ratio H p2 u ∧ RatAt a.c_Ratio H p3 v ∧ RatAt a.c_Ratio H p4 w
theorem MsAt.same {a : Ads} {H H' : Hp} {p : Addr} {n r s : Rat} (h : MsAt a H p n r s) (z : Same H H') : MsAt a H' p n r s :=
  let ⟨dx, p1, p2, p3, e, h1, h2, h3⟩ := h
  ⟨dx, p1, p2, p3, z _ _ e, h1.same z, h2.same z, h3.same z⟩
theorem BsAt.same {a : Ads} {H H' : Hp} {p : Addr} {q u v w : Rat} (h : BsAt a H p q u v w) (z : Same H H') : BsAt a H' p q u v w :=
  let ⟨dx, p1, p2, p3, p4, e, h1, h2, h3, h4⟩ := h
  ⟨dx, p1, p2, p3, p4, z _ _ e, h1.same z, h2.same z, h3.same z, h4.same z⟩
def unsg (s : List UInt8) : Option Rat := match EvenG.numOf s with
  | some q => if q < 0 then none else some q
  | none => none
def OptBs (a : Ads) (H : Hp) (v : V) : Option Rat → Option Rat → Option Rat → Option Rat → Prop
  | some q, some u, some x, some y => ∃ p, v = .ref p ∧ BsAt a H p q u x y
  | _, _, _, _ => v = .non
/-! ### promises -/
def sp_Plan_comes_out (a : Ads) : Sp := fun vs H Q _ => ∃ (pl lo co : Addr) (j : Nat) (st : List Nat) (qs : List Rat) (d : Nat), vs = [.ref pl, .int j] ∧ PlanAt a.c_Plan H pl lo co qs ∧ H lo = some (.lst (st.map nV)) ∧ qs.length = st.length ∧ qs.length ≤ 64 ∧
  ∀ (H' : Hp) (x : Addr), Same H H' → RatAt a.c_Ratio H' x ((⟨st, qs, d⟩ : Eb.Balance.Plan).load j) → Q (.ref x) H'
def sp_Basis_init (a : Ads) : Sp := fun vs H Q _ => ∃ (p dx p1 p2 p3 p4 : Addr), vs = [.ref p, .ref p1, .ref p2, .ref p3, .ref p4] ∧ H p = some (.ins a.c_Basis dx []) ∧ ∀ H' : Hp, (∃ dx, H' p = some (.ins a.c_Basis dx (bsF p1 p2 p3 p4))) → Keep p H H' → Q .non H'
def sp_Measured_init (a : Ads) : Sp := fun vs H Q _ => ∃ (p dx p1 p2 p3 : Addr), vs = [.ref p, .ref p1, .ref p2, .ref p3] ∧ H p = some (.ins a.c_Measured dx []) ∧ ∀ H' : Hp, (∃ dx, H' p = some (.ins a.c_Measured dx (msF p1 p2 p3))) → Keep p H H' → Q .non H'
def sp_read_unsigned (K : PySem.W.Frag) (C : Addr) : Sp := fun vs H Q _ => ∃ (p : Addr) (s : List UInt8), vs = [.ref p] ∧ SqL K H p (s.map bV) ∧ ∀ (H' : Hp) (v : V), Same H H' → OptAt C H' v (unsg s) → Q v H'
def sp_read_basis (a : Ads) (K : PySem.W.Frag) : Sp := fun vs H Q _ => ∃ (p0 p1 p2 p3 : Addr) (s0 s1 s2 s3 : List UInt8), vs = [.ref p0, .ref p1, .ref p2, .ref p3] ∧ SqL K H p0 (s0.map bV) ∧ SqL K H p1 (s1.map bV) ∧ SqL K H p2 (s2.map bV) ∧ SqL K H p3 (s3.map bV) ∧
  ∀ (H' : Hp) (v : V), Same H H' → OptBs a H' v (EvenG.numOf s0) (unsg s1) (unsg s2) (unsg s3) → Q v H'
def sp_bound_square (C : Addr) : Sp := fun vs H Q _ => ∃ (p : Addr) (u : Rat), vs = [.ref p] ∧ RatAt C H p u ∧ Bits 100000 u ∧ ∀ (H' : Hp) (x : Addr), Same H H' → RatAt C H' x (u * u * mkRat 1 3) → Q (.ref x) H'
def sp_counted_divisions (a : Ads) : Sp := fun vs H Q _ => ∃ (pl r b lo co : Addr) (qs : List Rat) (rs : List Int) (q u v w : Rat), vs = [.ref pl, .ref r, .ref b] ∧ PlanAt a.c_Plan H pl lo co qs ∧ H r = some (.lst (rs.map V.int)) ∧ BsAt a H b q u v w ∧ qs.length ≤ 64 ∧ rs.length = qs.length ∧
  (∀ q ∈ qs, Eb.Balance.countFits q = true) ∧ (∀ z ∈ rs, -(2 ^ 63) ≤ z ∧ z < 2 ^ 63) ∧ Bits 2049 v ∧ Bits 2049 w ∧
  ∀ (H' : Hp) (p : Addr), Same H H' → MsAt a H' p (My.cN (qs.zip rs)) (My.cA qs * v) (My.cS qs * w) → Q (.ref p) H'
def sp_division_worth (a : Ads) : Sp := fun vs H Q _ => ∃ (b : Addr) (q u v w : Rat), vs = [.ref b] ∧ BsAt a H b q u v w ∧ Bits 2049 u ∧ ∀ (H' : Hp) (p : Addr), Same H H' → MsAt a H' p q u (u * u * mkRat 1 3) → Q (.ref p) H'
def BitsM (n r s : Rat) : Prop := Bits 10000 n ∧ Bits 10000 r ∧ Bits 10000 s
def sp_told_reach (a : Ads) : Sp := fun vs H Q _ => ∃ (p1 p2 : Addr) (n r s n' r' s' : Rat), vs = [.ref p1, .ref p2] ∧ MsAt a H p1 n r s ∧ MsAt a H p2 n' r' s' ∧ BitsM n r s ∧ BitsM n' r' s' ∧
  ∀ (H' : Hp) (x : Addr), Same H H' → RatAt a.c_Ratio H' x (r * Eb.size n' + r' * Eb.size n + r * r') → Q (.ref x) H'
def sp_told_square (a : Ads) : Sp := fun vs H Q _ => ∃ (p1 p2 : Addr) (n r s n' r' s' : Rat), vs = [.ref p1, .ref p2] ∧ MsAt a H p1 n r s ∧ MsAt a H p2 n' r' s' ∧ BitsM n r s ∧ BitsM n' r' s' ∧
  ∀ (H' : Hp) (x : Addr), Same H H' → RatAt a.c_Ratio H' x (s * n' * n' + s' * n * n + r * r' * (r * r') * mkRat 1 3) → Q (.ref x) H'
section
variable {w : World} {K : PySem.W.Frag} {mg : Str → Option Value} {base : Heap} {a : Ads}
theorem blk_Plan_comes_out : BlkOk ["self", "load", "step"] (defScope s_Plan_comes_out) { kind := .function, names := [(Str.ofString ".0", .local), (Str.ofString "step", .local), (Str.ofString "load", .free), (Str.ofString "self", .free)], isGenerator := false, isCoroutine := false } [("step", 2)] := ⟨rfl, by decide +kernel, by decide +kernel, by decide +kernel, by decide +kernel⟩
/-- slots: 0 self, 1 load, 2 step -/
theorem ok_Plan_comes_out (T : Tx K mg a) : FnOk P w K mg base CX0 43 a.f_Plan_comes_out a.d_Plan_comes_out ["self", "load"] (sp_Plan_comes_out a) := by
  have G_Ratio_init := ok_Ratio_init (w := w) (base := base) T
  refine T.F_Plan_comes_out.ok sc_Plan_comes_out (fun vs H Q E h => ?_) (fun cdv A outer s H vs Q E hr h => ?_)
  · obtain ⟨_, _, _, _, _, _, _, rfl, _⟩ := h
    rfl
  · obtain ⟨pl, lo, co, j, st, qs, d, rfl, ⟨⟨dp, ep⟩, hco⟩, hlo, hl, h64, k⟩ := h
    refine ⟨_, (pss_one (ps_ret (pe_make T.mk_Ratio G_Ratio_init (hr.mono (by decide)) rfl T.m_Ratio T.bd_Ratio_init .nil pass0 (pa_cons (pe_callB (cr_sum rfl) rfl T.b_sum bt_sum (pa_cons (pe_lc (own := [("step", 2)]) (te := tOp (rIxL K) (tFld K (tVar 0) "tops") (tVar 2)) (tt := tTest (tOp rEq (tOp (rIxL K) (tFld K (tVar 0) "loads") (tVar 2)) (tVar 1))) rfl sc_Plan_comes_out.nd (pi_range1 rfl T.b_range (pa_cons (pe_callB call_len_seq rfl T.b_len bt_len (pa_cons (pe_fld (pv 0) rfl) pa_nil)) pa_nil)) blk_Plan_comes_out (fun _ _ _ _ _ => pg_name (i := 2) sc_Plan_comes_out.nd rfl (Or.inl rfl) (Or.inr rfl)) (fun _ _ _ _ _ => by
        refine pts_one (pt_cmpR op_eq ?_ (pv 1) (nomark _))
        refine pe_ix ix_list ?_ (pv 2) (fun _ _ => rfl)
        exact pe_fld (pv 0) rfl) (fun _ _ _ _ _ => by
        refine pe_ix ix_list ?_ (pv 2) (fun _ _ => rfl)
        exact pe_fld (pv 0) rfl)) pa_nil)) (pa_cons (pe_fld (pv 0) rfl) pa_nil))))), ?_⟩
    have hn : (tops qs).length = qs.length := tops_len qs
    refine ⟨_, rfl, pl, _, dp, _, _, rfl, ep, T.cl_Plan, T.no_Plan_tops, rfl, co, _, rfl, .inl (SqL.of hco), _, rfl, by rw [List.length_map]; omega, by rw [List.length_map]; omega, fun D hD => lc_rangeIf (fun i => decide (st.getD i 0 = j)) (fun i => V.int ((tops qs).getD i 0)) ?_ ?_ ?_⟩
    · rw [Int.toNat_natCast, List.length_map, sizeLine_eq]
      omega
    · intro i acc R N hi h1 h2
      rw [Int.toNat_natCast, List.length_map] at hi
      have sD : Same H (upd H D (.lst acc)) := Same.upd hD
      have ep' := sD _ _ ep
      have hco' := sD _ _ hco
      have hlo' := sD _ _ hlo
      have hst : i < st.length := by omega
      obtain ⟨m, hm⟩ : ∃ m, st[i]? = some m := ⟨_, List.getElem?_eq_getElem hst⟩
      have hg : st.getD i 0 = m := by rw [List.getD_eq_getElem?_getD, hm]; rfl
      rw [hg] at h1 h2
      refine ⟨rfl, ?_⟩
      refine ⟨_, rfl, pl, _, dp, _, _, rfl, ep', T.cl_Plan, T.no_Plan_loads, rfl, _, rfl, lo, _, _, nV m, rfl, rfl, SqL.of hlo', at_of (j := i) (by omega) (by rw [List.getElem?_map, hm]; rfl), _, rfl, rfl, _, rfl, ifEq (fun he => ?_) (fun he => ?_)⟩
      · refine ⟨_, rfl, pl, _, dp, _, _, rfl, ep', T.cl_Plan, T.no_Plan_tops, rfl, _, rfl, co, _, _, V.int ((tops qs).getD i 0), rfl, rfl, SqL.of hco', at_of (j := i) (by omega) (by rw [List.getElem?_map, getD_at hi]; rfl), h1 (decide_eq_true (by omega))⟩
      · exact h2 (decide_eq_false fun e => he (by rw [e]))
    · rw [Int.toNat_natCast, List.length_map]
      have eL : (((List.range (tops qs).length).filter fun i => decide (st.getD i 0 = j)).map fun i => V.int ((tops qs).getD i 0)) = (((List.range (tops qs).length).filter fun i => decide (st.getD i 0 = j)).map fun i => (tops qs).getD i 0).map V.int := by
        rw [List.map_map]
        rfl
      rw [eL]
      have eS := mk_load qs st j d hl
      generalize (((List.range (tops qs).length).filter fun i => decide (st.getD i 0 = j)).map fun i => (tops qs).getD i 0) = L at eS
      have sD : Same H (upd H D (.lst (L.map V.int))) := Same.upd hD
      have hD1 : (upd H D (.lst (L.map V.int))) D = some (.lst (L.map V.int)) := upd_same
      have ep' := sD _ _ ep
      generalize upd H D (.lst (L.map V.int)) = H1 at sD hD1 ep'
      refine ⟨D, L, rfl, SqL.of hD1, _, rfl, pl, _, dp, _, _, rfl, ep', T.cl_Plan, T.no_Plan_bottom, rfl, fun x dx nx nd ne => ?_⟩
      refine ⟨x, dx, _, My.comm qs, rfl, upd_same, My.comm_pos qs, fun H2 hat kp => ⟨rfl, k H2 x (sD.trans (Same.made nx nd kp)) ?_⟩⟩
      rw [eS] at hat
      exact hat
end
section
variable {w : World} {K : PySem.W.Frag} {mg : Str → Option Value} {base : Heap} {a : Ads}
/-- slots: 0 self, 1 worth, 2 bound, 3 nearness, 4 square -/
theorem ok_Basis_init (T : Tx K mg a) : FnOk P w K mg base CX0 1 a.f_Basis_init a.d_Basis_init ["self", "worth", "bound", "nearness", "square"] (sp_Basis_init a) := by
  refine T.F_Basis_init.ok sc_Basis_init (fun vs H Q E h => ?_) (fun cdv A outer s H vs Q E hr h => ?_)
  · obtain ⟨_, _, _, _, _, _, rfl, _⟩ := h
    rfl
  · obtain ⟨p, dx, p1, p2, p3, p4, rfl, hp, k⟩ := h
    refine ⟨_, (pss_cons (ps_fld (pv 0) (pv 1) rfl)
      (pss_cons (ps_fld (pv 0) (pv 2) rfl)
      (pss_cons (ps_fld (pv 0) (pv 3) rfl)
      (pss_one (ps_fld (pv 0) (pv 4) rfl))))), ?_⟩
    refine ⟨_, rfl, _, rfl, p, _, dx, _, rfl, hp, T.cl_Basis, T.no_Basis_worth, (by show 0 < 1000; decide), ?_⟩
    refine ⟨_, rfl, _, rfl, p, _, dx, _, rfl, upd_same, T.cl_Basis, T.no_Basis_bound, (by show 1 < 1000; decide), ?_⟩
    refine ⟨_, rfl, _, rfl, p, _, dx, _, rfl, upd_same, T.cl_Basis, T.no_Basis_nearness, (by show 2 < 1000; decide), ?_⟩
    refine ⟨_, rfl, _, rfl, p, _, dx, _, rfl, upd_same, T.cl_Basis, T.no_Basis_square, (by show 3 < 1000; decide), ?_⟩
    exact k _ ⟨dx, upd_same⟩ (((Keep.upd.trans Keep.upd).trans Keep.upd).trans Keep.upd)
/-- slots: 0 self, 1 number, 2 reach, 3 square -/
theorem ok_Measured_init (T : Tx K mg a) : FnOk P w K mg base CX0 1 a.f_Measured_init a.d_Measured_init ["self", "number", "reach", "square"] (sp_Measured_init a) := by
  refine T.F_Measured_init.ok sc_Measured_init (fun vs H Q E h => ?_) (fun cdv A outer s H vs Q E hr h => ?_)
  · obtain ⟨_, _, _, _, _, rfl, _⟩ := h
    rfl
  · obtain ⟨p, dx, p1, p2, p3, rfl, hp, k⟩ := h
    refine ⟨_, (pss_cons (ps_fld (pv 0) (pv 1) rfl)
      (pss_cons (ps_fld (pv 0) (pv 2) rfl)
      (pss_one (ps_fld (pv 0) (pv 3) rfl)))), ?_⟩
    refine ⟨_, rfl, _, rfl, p, _, dx, _, rfl, hp, T.cl_Measured, T.no_Measured_number, (by show 0 < 1000; decide), ?_⟩
    refine ⟨_, rfl, _, rfl, p, _, dx, _, rfl, upd_same, T.cl_Measured, T.no_Measured_reach, (by show 1 < 1000; decide), ?_⟩
    refine ⟨_, rfl, _, rfl, p, _, dx, _, rfl, upd_same, T.cl_Measured, T.no_Measured_square, (by show 2 < 1000; decide), ?_⟩
    exact k _ ⟨dx, upd_same⟩ ((Keep.upd.trans Keep.upd).trans Keep.upd)
/-- slots: 0 text, 1 ratio -/
theorem ok_read_unsigned (T : Tx K mg a) : FnOk P w K mg base CX0 45 a.f_read_unsigned a.d_read_unsigned ["text"] (sp_read_unsigned K a.c_Ratio) := by
  have G_read_number := ok_read_number (w := w) (base := base) T
  refine T.F_read_unsigned.ok sc_read_unsigned (fun vs H Q E h => ?_) (fun cdv A outer s H vs Q E hr h => ?_)
  · obtain ⟨_, _, rfl, _⟩ := h
    rfl
  · obtain ⟨p, s, rfl, hp, k⟩ := h
    refine ⟨_, (pss_cons (ps_set (i := 1) sc_read_unsigned.nd rfl (Or.inl rfl) (pe_call G_read_number (hr.mono (by decide)) rfl T.m_read_number T.F_read_number.kp T.bd_read_number .nil pass0 (pa_cons (pv 0) pa_nil)))
      (pss_cons (ps_if (PW.pt (pw_or (pt_cmpR op_isN (pv 1) pe_non (nomark _)) (pw_or1 (pt_cmpR op_lt (pe_fld (pv 1) rfl) pe_int (nomark _)))))
        (pss_one (ps_ret pe_non))
        pss_nil)
      (pss_one (ps_ret (pv 1))))), ?_⟩
    refine ⟨_, rfl, p, s, rfl, hp, fun H1 v s1 hv => ?_⟩
    unfold unsg at k
    cases en : EvenG.numOf s with
    | none =>
      rw [en] at hv k
      have hv' : v = .non := hv
      subst hv'
      refine ⟨_, rfl, rfl, _, rfl, iteT (iteT ?_)⟩
      exact k H1 .non s1 rfl
    | some q =>
      rw [en] at hv k
      obtain ⟨x, rfl, dx, hx⟩ := hv
      refine ⟨_, rfl, rfl, _, rfl, iteF ?_⟩
      refine ⟨_, rfl, x, _, dx, _, _, rfl, hx, T.cl_Ratio, T.no_Ratio_top, rfl, _, _, rfl, rfl, _, rfl, ifD (fun h => ?_) (fun h => ?_)⟩
      · have hq : q < 0 := num_neg.mp h
        refine k H1 .non s1 ?_
        show OptAt _ _ _ (if q < 0 then none else some q)
        rw [if_pos hq]
        rfl
      · have hq : ¬ q < 0 := fun z => h (num_neg.mpr z)
        refine ⟨_, rfl, k H1 _ s1 ?_⟩
        show OptAt _ _ _ (if q < 0 then none else some q)
        rw [if_neg hq]
        exact ⟨x, rfl, dx, hx⟩
/-- slots: 0 worth_text, 1 bound_text, 2 nearness_text, 3 square_text, 4 worth, 5 bound, 6 nearness, 7 square -/
theorem ok_read_basis (T : Tx K mg a) : FnOk P w K mg base CX0 46 a.f_read_basis a.d_read_basis ["worth_text", "bound_text", "nearness_text", "square_text"] (sp_read_basis a K) := by
  have G_read_number := ok_read_number (w := w) (base := base) T
  have G_read_unsigned := ok_read_unsigned (w := w) (base := base) T
  have G_Basis_init := ok_Basis_init (w := w) (base := base) T
  refine T.F_read_basis.ok sc_read_basis (fun vs H Q E h => ?_) (fun cdv A outer s H vs Q E hr h => ?_)
  · obtain ⟨_, _, _, _, _, _, _, _, rfl, _⟩ := h
    rfl
  · obtain ⟨p0, p1, p2, p3, s0, s1, s2, s3, rfl, h0, h1, h2, h3, k⟩ := h
    refine ⟨_, (pss_cons (ps_set (i := 4) sc_read_basis.nd rfl (Or.inl rfl) (pe_call G_read_number (hr.mono (by decide)) rfl T.m_read_number T.F_read_number.kp T.bd_read_number .nil pass0 (pa_cons (pv 0) pa_nil)))
      (pss_cons (ps_set (i := 5) sc_read_basis.nd rfl (Or.inl rfl) (pe_call G_read_unsigned (hr.mono (by decide)) rfl T.m_read_unsigned T.F_read_unsigned.kp T.bd_read_unsigned .nil pass0 (pa_cons (pv 1) pa_nil)))
      (pss_cons (ps_set (i := 6) sc_read_basis.nd rfl (Or.inl rfl) (pe_call G_read_unsigned (hr.mono (by decide)) rfl T.m_read_unsigned T.F_read_unsigned.kp T.bd_read_unsigned .nil pass0 (pa_cons (pv 2) pa_nil)))
      (pss_cons (ps_set (i := 7) sc_read_basis.nd rfl (Or.inl rfl) (pe_call G_read_unsigned (hr.mono (by decide)) rfl T.m_read_unsigned T.F_read_unsigned.kp T.bd_read_unsigned .nil pass0 (pa_cons (pv 3) pa_nil)))
      (pss_cons (ps_if (PW.pt (pw_or (pt_cmpR op_isN (pv 4) pe_non (nomark _)) (pw_or (pt_cmpR op_isN (pv 5) pe_non (nomark _)) (pw_or (pt_cmpR op_isN (pv 6) pe_non (nomark _)) (pw_or1 (pt_cmpR op_isN (pv 7) pe_non (nomark _)))))))
        (pss_one (ps_ret pe_non))
        pss_nil)
      (pss_one (ps_ret (pe_make T.mk_Basis G_Basis_init (hr.mono (by decide)) rfl T.m_Basis T.bd_Basis_init .nil pass0 (pa_cons (pv 4) (pa_cons (pv 5) (pa_cons (pv 6) (pa_cons (pv 7) pa_nil)))))))))))), ?_⟩
    refine ⟨_, rfl, p0, s0, rfl, h0, fun H1 v0 z1 k0 => ?_⟩
    refine ⟨_, rfl, p1, s1, rfl, z1.seq h1, fun H2 v1 z2 k1 => ?_⟩
    have z12 := z1.trans z2
    refine ⟨_, rfl, p2, s2, rfl, z12.seq h2, fun H3 v2 z3 k2 => ?_⟩
    have z13 := z12.trans z3
    refine ⟨_, rfl, p3, s3, rfl, z13.seq h3, fun H4 v3 z4 k3 => ?_⟩
    have z14 := z13.trans z4
    cases e0 : EvenG.numOf s0 with
    | none =>
      rw [e0] at k0 k
      have hv : v0 = .non := k0
      subst hv
      refine ⟨_, rfl, rfl, _, rfl, iteT (iteT ?_)⟩
      exact k H4 .non z14 rfl
    | some q0 =>
      rw [e0] at k0 k
      obtain ⟨x0, rfl, r0⟩ := k0
      refine ⟨_, rfl, rfl, _, rfl, iteF ?_⟩
      cases e1 : unsg s1 with
      | none =>
        rw [e1] at k1 k
        have hv : v1 = .non := k1
        subst hv
        refine ⟨_, rfl, rfl, _, rfl, iteT (iteT ?_)⟩
        exact k H4 .non z14 rfl
      | some q1 =>
        rw [e1] at k1 k
        obtain ⟨x1, rfl, r1⟩ := k1
        refine ⟨_, rfl, rfl, _, rfl, iteF ?_⟩
        cases e2 : unsg s2 with
        | none =>
          rw [e2] at k2 k
          have hv : v2 = .non := k2
          subst hv
          refine ⟨_, rfl, rfl, _, rfl, iteT (iteT ?_)⟩
          exact k H4 .non z14 rfl
        | some q2 =>
          rw [e2] at k2 k
          obtain ⟨x2, rfl, r2⟩ := k2
          refine ⟨_, rfl, rfl, _, rfl, iteF ?_⟩
          cases e3 : unsg s3 with
          | none =>
            rw [e3] at k3 k
            have hv : v3 = .non := k3
            subst hv
            refine ⟨_, rfl, rfl, _, rfl, iteT ?_⟩
            exact k H4 .non z14 rfl
          | some q3 =>
            rw [e3] at k3 k
            obtain ⟨x3, rfl, r3⟩ := k3
            refine ⟨_, rfl, rfl, _, rfl, iteF ?_⟩
            refine ⟨_, rfl, _, rfl, _, rfl, _, rfl, fun x dx nx nd ne => ?_⟩
            refine ⟨x, dx, x0, x1, x2, x3, rfl, upd_same, fun H5 ⟨dy, hx⟩ kp => ⟨rfl, ?_⟩⟩
            have z5 : Same H4 H5 := Same.made nx nd kp
            exact k H5 _ (z14.trans z5) ⟨x, rfl, dy, x0, x1, x2, x3, hx, r0.same (((z2.trans z3).trans z4).trans z5), r1.same ((z3.trans z4).trans z5), r2.same (z4.trans z5), r3.same z5⟩
/-- slots: 0 bound -/
theorem ok_bound_square (T : Tx K mg a) : FnOk P w K mg base CX0 44 a.f_bound_square a.d_bound_square ["bound"] (sp_bound_square a.c_Ratio) := by
  have G_Ratio_times := ok_Ratio_times (w := w) (base := base) T
  have G_Ratio_init := ok_Ratio_init (w := w) (base := base) T
  refine T.F_bound_square.ok sc_bound_square (fun vs H Q E h => ?_) (fun cdv A outer s H vs Q E hr h => ?_)
  · obtain ⟨_, _, rfl, _⟩ := h
    rfl
  · obtain ⟨p, u, rfl, ⟨dp, ep⟩, b, k⟩ := h
    refine ⟨_, (pss_one (ps_ret (pe_meth (pe_meth (pv 0) T.cl_Ratio T.me_Ratio_times G_Ratio_times (hr.mono (by decide)) T.bd_Ratio_times .nil pass0 (pa_cons (pv 0) pa_nil)) T.cl_Ratio T.me_Ratio_times G_Ratio_times (hr.mono (by decide)) T.bd_Ratio_times .nil pass0 (pa_cons (pe_make T.mk_Ratio G_Ratio_init (hr.mono (by decide)) rfl T.m_Ratio T.bd_Ratio_init .nil pass0 (pa_cons pe_int (pa_cons pe_int pa_nil))) pa_nil)))), ?_⟩
    have bm := b.mono (show 100000 ≤ 1000000 by decide)
    refine ⟨_, rfl, p, dp, _, rfl, ep, rfl, _, rfl, p, p, u, u, rfl, ⟨dp, ep⟩, ⟨dp, ep⟩, bm, bm, fun H1 x1 z1 ⟨d1, e1⟩ => ?_⟩
    refine ⟨x1, d1, _, rfl, e1, rfl, fun y dy ny nd ne => ?_⟩
    refine ⟨y, dy, 1, 3, rfl, upd_same, by decide, fun H2 hat kp => ⟨rfl, ?_⟩⟩
    have z2 : Same H1 H2 := Same.made ny nd kp
    have b3 : Bits 1000000 (mkRat 1 3) := bits_mkRat (by decide) (by decide) (by decide)
    refine ⟨x1, y, u * u, mkRat 1 3, rfl, RatAt.same ⟨d1, e1⟩ z2, hat, (b.mul b).mono (by decide), b3, fun H3 x3 z3 h3 => ?_⟩
    exact k H3 x3 ((z1.trans z2).trans z3) h3
/-- slots: 0 basis -/
theorem ok_division_worth (T : Tx K mg a) : FnOk P w K mg base CX0 45 a.f_division_worth a.d_division_worth ["basis"] (sp_division_worth a) := by
  have G_Measured_init := ok_Measured_init (w := w) (base := base) T
  have G_bound_square := ok_bound_square (w := w) (base := base) T
  refine T.F_division_worth.ok sc_division_worth (fun vs H Q E h => ?_) (fun cdv A outer s H vs Q E hr h => ?_)
  · obtain ⟨_, _, _, _, _, rfl, _⟩ := h
    rfl
  · obtain ⟨b, q, u, v, w, rfl, ⟨db, p1, p2, p3, p4, eb, r1, r2, r3, r4⟩, bu, k⟩ := h
    refine ⟨_, (pss_one (ps_ret (pe_make T.mk_Measured G_Measured_init (hr.mono (by decide)) rfl T.m_Measured T.bd_Measured_init .nil pass0 (pa_cons (pe_fld (pv 0) rfl) (pa_cons (pe_fld (pv 0) rfl) (pa_cons (pe_call G_bound_square (hr.mono (by decide)) rfl T.m_bound_square T.F_bound_square.kp T.bd_bound_square .nil pass0 (pa_cons (pe_fld (pv 0) rfl) pa_nil)) pa_nil)))))), ?_⟩
    refine ⟨_, rfl, b, _, db, _, _, rfl, eb, T.cl_Basis, T.no_Basis_worth, rfl, _, rfl, b, _, db, _, _, rfl, eb, T.cl_Basis, T.no_Basis_bound, rfl, _, rfl, b, _, db, _, _, rfl, eb, T.cl_Basis, T.no_Basis_bound, rfl, p2, u, rfl, r2, bu.mono (by decide), fun H1 x1 z1 h1 => ?_⟩
    refine fun y dy ny nd ne => ?_
    refine ⟨y, dy, p1, p2, x1, rfl, upd_same, fun H2 ⟨d2, hy⟩ kp => ⟨rfl, ?_⟩⟩
    have z2 : Same H1 H2 := Same.made ny nd kp
    have z12 := z1.trans z2
    exact k H2 y z12 ⟨d2, p1, p2, x1, hy, r1.same z12, r2.same z12, h1.same z2⟩
/-- slots: 0 first, 1 second, 2 of_first, 3 of_second, 4 of_both -/
theorem ok_told_reach (T : Tx K mg a) : FnOk P w K mg base CX0 44 a.f_told_reach a.d_told_reach ["first", "second"] (sp_told_reach a) := by
  have G_Ratio_times := ok_Ratio_times (w := w) (base := base) T
  have G_Ratio_size := ok_Ratio_size (w := w) (base := base) T
  have G_Ratio_plus := ok_Ratio_plus (w := w) (base := base) T
  refine T.F_told_reach.ok sc_told_reach (fun vs H Q E h => ?_) (fun cdv A outer s H vs Q E hr h => ?_)
  · obtain ⟨_, _, _, _, _, _, _, _, rfl, _⟩ := h
    rfl
  · obtain ⟨f, g, n, r, s, n', r', s', rfl, ⟨df, f1, f2, f3, ef, ⟨fd1, fe1⟩, ⟨fd2, fe2⟩, fs⟩, ⟨dg, g1, g2, g3, eg, ⟨gd1, ge1⟩, ⟨gd2, ge2⟩, gs⟩, ⟨bn, br, bs⟩, ⟨bn', br', bs'⟩, k⟩ := h
    refine ⟨_, (pss_cons (ps_set (i := 2) sc_told_reach.nd rfl (Or.inl rfl) (pe_meth (pe_fld (pv 0) rfl) T.cl_Ratio T.me_Ratio_times G_Ratio_times (hr.mono (by decide)) T.bd_Ratio_times .nil pass0 (pa_cons (pe_meth0 (pe_fld (pv 1) rfl) T.cl_Ratio T.me_Ratio_size G_Ratio_size (hr.mono (by decide)) T.bd_Ratio_size .nil pass0) pa_nil)))
      (pss_cons (ps_set (i := 3) sc_told_reach.nd rfl (Or.inl rfl) (pe_meth (pe_fld (pv 1) rfl) T.cl_Ratio T.me_Ratio_times G_Ratio_times (hr.mono (by decide)) T.bd_Ratio_times .nil pass0 (pa_cons (pe_meth0 (pe_fld (pv 0) rfl) T.cl_Ratio T.me_Ratio_size G_Ratio_size (hr.mono (by decide)) T.bd_Ratio_size .nil pass0) pa_nil)))
      (pss_cons (ps_set (i := 4) sc_told_reach.nd rfl (Or.inl rfl) (pe_meth (pe_fld (pv 0) rfl) T.cl_Ratio T.me_Ratio_times G_Ratio_times (hr.mono (by decide)) T.bd_Ratio_times .nil pass0 (pa_cons (pe_fld (pv 1) rfl) pa_nil)))
      (pss_one (ps_ret (pe_meth (pe_meth (pv 2) T.cl_Ratio T.me_Ratio_plus G_Ratio_plus (hr.mono (by decide)) T.bd_Ratio_plus .nil pass0 (pa_cons (pv 3) pa_nil)) T.cl_Ratio T.me_Ratio_plus G_Ratio_plus (hr.mono (by decide)) T.bd_Ratio_plus .nil pass0 (pa_cons (pv 4) pa_nil))))))), ?_⟩
    -- of_first
    refine ⟨_, rfl, f, _, df, _, _, rfl, ef, T.cl_Measured, T.no_Measured_reach, rfl, f2, fd2, _, rfl, fe2, rfl, _, rfl, g, _, dg, _, _, rfl, eg, T.cl_Measured, T.no_Measured_number, rfl, g1, gd1, _, rfl, ge1, rfl, g1, n', rfl, ⟨gd1, ge1⟩, fun H1 x1 z1 h1 => ?_⟩
    refine ⟨f2, x1, r, Eb.size n', rfl, RatAt.same ⟨fd2, fe2⟩ z1, h1, br.mono (by decide), bn'.size.mono (by decide), fun H2 x2 z2 h2 => ?_⟩
    have z02 := z1.trans z2
    -- of_second
    refine ⟨_, rfl, g, _, dg, _, _, rfl, z02 _ _ eg, T.cl_Measured, T.no_Measured_reach, rfl, g2, gd2, _, rfl, z02 _ _ ge2, rfl, _, rfl, f, _, df, _, _, rfl, z02 _ _ ef, T.cl_Measured, T.no_Measured_number, rfl, f1, fd1, _, rfl, z02 _ _ fe1, rfl, f1, n, rfl, ⟨fd1, z02 _ _ fe1⟩, fun H3 x3 z3 h3 => ?_⟩
    have z03 := z02.trans z3
    refine ⟨g2, x3, r', Eb.size n, rfl, RatAt.same ⟨gd2, ge2⟩ z03, h3, br'.mono (by decide), bn.size.mono (by decide), fun H4 x4 z4 h4 => ?_⟩
    have z04 := z03.trans z4
    -- of_both
    refine ⟨_, rfl, f, _, df, _, _, rfl, z04 _ _ ef, T.cl_Measured, T.no_Measured_reach, rfl, f2, fd2, _, rfl, z04 _ _ fe2, rfl, _, rfl, g, _, dg, _, _, rfl, z04 _ _ eg, T.cl_Measured, T.no_Measured_reach, rfl, f2, g2, r, r', rfl, RatAt.same ⟨fd2, fe2⟩ z04, RatAt.same ⟨gd2, ge2⟩ z04, br.mono (by decide), br'.mono (by decide), fun H5 x5 z5 h5 => ?_⟩
    have z05 := z04.trans z5
    -- the sum
    obtain ⟨d2, e2⟩ := h2.same ((z3.trans z4).trans z5)
    refine ⟨_, rfl, x2, d2, _, rfl, e2, rfl, _, rfl, x2, x4, _, _, rfl, ⟨d2, e2⟩, h4.same z5, (br.mul bn'.size).mono (by decide), (br'.mul bn.size).mono (by decide), fun H6 x6 z6 ⟨d6, e6⟩ => ?_⟩
    refine ⟨x6, d6, _, rfl, e6, rfl, _, rfl, x6, x5, _, _, rfl, ⟨d6, e6⟩, h5.same z6, ((br.mul bn'.size).add (br'.mul bn.size)).mono (by decide), (br.mul br').mono (by decide), fun H7 x7 z7 h7 => ?_⟩
    exact k H7 x7 ((z05.trans z6).trans z7) h7
/-- slots: 0 first, 1 second, 2 of_first, 3 of_second, 4 of_both -/
theorem ok_told_square (T : Tx K mg a) : FnOk P w K mg base CX0 45 a.f_told_square a.d_told_square ["first", "second"] (sp_told_square a) := by
  have G_Ratio_times := ok_Ratio_times (w := w) (base := base) T
  have G_bound_square := ok_bound_square (w := w) (base := base) T
  have G_Ratio_plus := ok_Ratio_plus (w := w) (base := base) T
  refine T.F_told_square.ok sc_told_square (fun vs H Q E h => ?_) (fun cdv A outer s H vs Q E hr h => ?_)
  · obtain ⟨_, _, _, _, _, _, _, _, rfl, _⟩ := h
    rfl
  · obtain ⟨f, g, n, r, s, n', r', s', rfl, ⟨df, f1, f2, f3, ef, fe1, ⟨fd2, fe2⟩, ⟨fd3, fe3⟩⟩, ⟨dg, g1, g2, g3, eg, ge1, ⟨gd2, ge2⟩, ⟨gd3, ge3⟩⟩, ⟨bn, br, bs⟩, ⟨bn', br', bs'⟩, k⟩ := h
    refine ⟨_, (pss_cons (ps_set (i := 2) sc_told_square.nd rfl (Or.inl rfl) (pe_meth (pe_meth (pe_fld (pv 0) rfl) T.cl_Ratio T.me_Ratio_times G_Ratio_times (hr.mono (by decide)) T.bd_Ratio_times .nil pass0 (pa_cons (pe_fld (pv 1) rfl) pa_nil)) T.cl_Ratio T.me_Ratio_times G_Ratio_times (hr.mono (by decide)) T.bd_Ratio_times .nil pass0 (pa_cons (pe_fld (pv 1) rfl) pa_nil)))
      (pss_cons (ps_set (i := 3) sc_told_square.nd rfl (Or.inl rfl) (pe_meth (pe_meth (pe_fld (pv 1) rfl) T.cl_Ratio T.me_Ratio_times G_Ratio_times (hr.mono (by decide)) T.bd_Ratio_times .nil pass0 (pa_cons (pe_fld (pv 0) rfl) pa_nil)) T.cl_Ratio T.me_Ratio_times G_Ratio_times (hr.mono (by decide)) T.bd_Ratio_times .nil pass0 (pa_cons (pe_fld (pv 0) rfl) pa_nil)))
      (pss_cons (ps_set (i := 4) sc_told_square.nd rfl (Or.inl rfl) (pe_call G_bound_square (hr.mono (by decide)) rfl T.m_bound_square T.F_bound_square.kp T.bd_bound_square .nil pass0 (pa_cons (pe_meth (pe_fld (pv 0) rfl) T.cl_Ratio T.me_Ratio_times G_Ratio_times (hr.mono (by decide)) T.bd_Ratio_times .nil pass0 (pa_cons (pe_fld (pv 1) rfl) pa_nil)) pa_nil)))
      (pss_one (ps_ret (pe_meth (pe_meth (pv 2) T.cl_Ratio T.me_Ratio_plus G_Ratio_plus (hr.mono (by decide)) T.bd_Ratio_plus .nil pass0 (pa_cons (pv 3) pa_nil)) T.cl_Ratio T.me_Ratio_plus G_Ratio_plus (hr.mono (by decide)) T.bd_Ratio_plus .nil pass0 (pa_cons (pv 4) pa_nil))))))), ?_⟩
    -- of_first
    refine ⟨_, rfl, f, _, df, _, _, rfl, ef, T.cl_Measured, T.no_Measured_square, rfl, f3, fd3, _, rfl, fe3, rfl, _, rfl, g, _, dg, _, _, rfl, eg, T.cl_Measured, T.no_Measured_number, rfl, f3, g1, s, n', rfl, ⟨fd3, fe3⟩, ge1, bs.mono (by decide), bn'.mono (by decide), fun H1 x1 z1 ⟨d1, e1⟩ => ?_⟩
    refine ⟨x1, d1, _, rfl, e1, rfl, _, rfl, g, _, dg, _, _, rfl, z1 _ _ eg, T.cl_Measured, T.no_Measured_number, rfl, x1, g1, s * n', n', rfl, ⟨d1, e1⟩, ge1.same z1, (bs.mul bn').mono (by decide), bn'.mono (by decide), fun H2 x2 z2 h2 => ?_⟩
    have z02 := z1.trans z2
    -- of_second
    refine ⟨_, rfl, g, _, dg, _, _, rfl, z02 _ _ eg, T.cl_Measured, T.no_Measured_square, rfl, g3, gd3, _, rfl, z02 _ _ ge3, rfl, _, rfl, f, _, df, _, _, rfl, z02 _ _ ef, T.cl_Measured, T.no_Measured_number, rfl, g3, f1, s', n, rfl, RatAt.same ⟨gd3, ge3⟩ z02, fe1.same z02, bs'.mono (by decide), bn.mono (by decide), fun H3 x3 z3 ⟨d3, e3⟩ => ?_⟩
    have z03 := z02.trans z3
    refine ⟨x3, d3, _, rfl, e3, rfl, _, rfl, f, _, df, _, _, rfl, z03 _ _ ef, T.cl_Measured, T.no_Measured_number, rfl, x3, f1, s' * n, n, rfl, ⟨d3, e3⟩, fe1.same z03, (bs'.mul bn).mono (by decide), bn.mono (by decide), fun H4 x4 z4 h4 => ?_⟩
    have z04 := z03.trans z4
    -- of_both
    refine ⟨_, rfl, f, _, df, _, _, rfl, z04 _ _ ef, T.cl_Measured, T.no_Measured_reach, rfl, f2, fd2, _, rfl, z04 _ _ fe2, rfl, _, rfl, g, _, dg, _, _, rfl, z04 _ _ eg, T.cl_Measured, T.no_Measured_reach, rfl, f2, g2, r, r', rfl, RatAt.same ⟨fd2, fe2⟩ z04, RatAt.same ⟨gd2, ge2⟩ z04, br.mono (by decide), br'.mono (by decide), fun H5 x5 z5 h5 => ?_⟩
    have z05 := z04.trans z5
    refine ⟨x5, r * r', rfl, h5, (br.mul br').mono (by decide), fun H6 x6 z6 h6 => ?_⟩
    have z06 := z05.trans z6
    -- the sum
    have c1 : Bits 30000 (s * n' * n') := ((bs.mul bn').mul bn').mono (by decide)
    have c2 : Bits 30000 (s' * n * n) := ((bs'.mul bn).mul bn).mono (by decide)
    have c3 : Bits 100000 (r * r' * (r * r') * mkRat 1 3) := (((br.mul br').mul (br.mul br')).mul (bits_mkRat (m := 10) (by decide) (by decide) (by decide))).mono (by decide)
    obtain ⟨d2, e2⟩ := h2.same (((z3.trans z4).trans z5).trans z6)
    refine ⟨_, rfl, x2, d2, _, rfl, e2, rfl, _, rfl, x2, x4, _, _, rfl, ⟨d2, e2⟩, h4.same (z5.trans z6), c1.mono (by decide), c2.mono (by decide), fun H7 x7 z7 ⟨d7, e7⟩ => ?_⟩
    refine ⟨x7, d7, _, rfl, e7, rfl, _, rfl, x7, x6, _, _, rfl, ⟨d7, e7⟩, h6.same z7, (c1.add c2).mono (by decide), c3.mono (by decide), fun H8 x8 z8 h8 => ?_⟩
    exact k H8 x8 ((z06.trans z7).trans z8) h8
end
/-- what is told, by its number: of the sums of counts -/
def toldR (k : Nat) (b A S q u v w : Rat) : Rat :=
  if k = 0 then b * q else if k = 1 then A * v * Eb.size q + u * Eb.size b + A * v * u else S * w * q * q + u * u * mkRat 1 3 * b * b + A * v * u * (A * v * u) * mkRat 1 3
theorem told_said (x : EvenG.Held) (k : Nat) (q u v w : Rat) (hk : k ≤ 2) (h1 : x.plan.counts.length = x.plan.steps.length) (h2 : x.readings.length = x.plan.steps.length) (h64 : x.plan.steps.length ≤ 64) :
    toldR k (My.cN (x.plan.counts.zip x.readings)) (My.cA x.plan.counts) (My.cS x.plan.counts) q u v w = EvenG.saidNum x k q u v w := by
  obtain ⟨e0, e1, e2⟩ := My.said_closed x q u v w h1 h2 h64
  have h3 : mkRat 1 3 = (1 : Rat) / 3 := by rw [Rat.mkRat_eq_div]; rfl
  match k, hk with
  | 0, _ =>
    rw [e0]
    exact Rat.mul_comm _ _
  | 1, _ =>
    rw [e1]
    show My.cA x.plan.counts * v * Eb.size q + u * Eb.size _ + My.cA x.plan.counts * v * u = _
    grind
  | 2, _ =>
    rw [e2]
    show My.cS x.plan.counts * w * q * q + u * u * mkRat 1 3 * _ * _ + My.cA x.plan.counts * v * u * (My.cA x.plan.counts * v * u) * mkRat 1 3 = _
    rw [h3]
    grind
def sp_told (a : Ads) : Sp := fun vs H Q _ => ∃ (k : Nat) (pl r b lo co : Addr) (qs : List Rat) (rs : List Int) (q u v w : Rat), vs = [.int k, .ref pl, .ref r, .ref b] ∧ PlanAt a.c_Plan H pl lo co qs ∧ H r = some (.lst (rs.map V.int)) ∧ BsAt a H b q u v w ∧ qs.length ≤ 64 ∧ rs.length = qs.length ∧
  (∀ q ∈ qs, Eb.Balance.countFits q = true) ∧ (∀ z ∈ rs, -(2 ^ 63) ≤ z ∧ z < 2 ^ 63) ∧ Bits 2049 q ∧ Bits 2049 u ∧ Bits 2049 v ∧ Bits 2049 w ∧
  ∀ (H' : Hp) (x : Addr), Same H H' → RatAt a.c_Ratio H' x (toldR k (My.cN (qs.zip rs)) (My.cA qs) (My.cS qs) q u v w) → Q (.ref x) H'
section
variable {w : World} {K : PySem.W.Frag} {mg : Str → Option Value} {base : Heap} {a : Ads}
theorem blk_cd1 : BlkOk ["plan", "readings", "basis", "tops", "number", "sizes", "squares", "step", "top"] (defScope s_counted_divisions) { kind := .function, names := [(Str.ofString ".0", .local), (Str.ofString "step", .local), (Str.ofString "readings", .free), (Str.ofString "tops", .free)], isGenerator := false, isCoroutine := false } [("step", 7)] := ⟨rfl, by decide +kernel, by decide +kernel, by decide +kernel, by decide +kernel⟩
theorem blk_cd2 : BlkOk ["plan", "readings", "basis", "tops", "number", "sizes", "squares", "step", "top"] (defScope s_counted_divisions) { kind := .function, names := [(Str.ofString ".0", .local), (Str.ofString "top", .local), (Str.ofString "abs", .globalImplicit)], isGenerator := false, isCoroutine := false } [("top", 8)] := ⟨rfl, by decide +kernel, by decide +kernel, by decide +kernel, by decide +kernel⟩
theorem blk_cd3 : BlkOk ["plan", "readings", "basis", "tops", "number", "sizes", "squares", "step", "top"] (defScope s_counted_divisions) { kind := .function, names := [(Str.ofString ".0", .local), (Str.ofString "top", .local)], isGenerator := false, isCoroutine := false } [("top", 8)] := ⟨rfl, by decide +kernel, by decide +kernel, by decide +kernel, by decide +kernel⟩
/-- slots: 0 plan, 1 readings, 2 basis, 3 tops, 4 number, 5 sizes, 6 squares, 7 step, 8 top -/
theorem ok_counted_divisions (T : Tx K mg a) : FnOk P w K mg base CX0 44 a.f_counted_divisions a.d_counted_divisions ["plan", "readings", "basis"] (sp_counted_divisions a) := by
  have G_Ratio_init := ok_Ratio_init (w := w) (base := base) T
  have G_Measured_init := ok_Measured_init (w := w) (base := base) T
  have G_Ratio_times := ok_Ratio_times (w := w) (base := base) T
  refine T.F_counted_divisions.ok sc_counted_divisions (fun vs H Q E h => ?_) (fun cdv A outer s H vs Q E hr h => ?_)
  · obtain ⟨_, _, _, _, _, _, _, _, _, _, _, rfl, _⟩ := h
    rfl
  · obtain ⟨pl, r, b, lo, co, qs, rs, q, u, v, w, rfl, ⟨⟨dp, ep⟩, hco⟩, hrr, hbs, h64, hrl, hf, hrf, bv, bw, k⟩ := h
    refine ⟨_, (pss_cons (ps_set (i := 3) sc_counted_divisions.nd rfl (Or.inr rfl) (pe_fld (pv 0) rfl))
      (pss_cons (ps_set (i := 4) sc_counted_divisions.nd rfl (Or.inl rfl) (pe_make T.mk_Ratio G_Ratio_init (hr.mono (by decide)) rfl T.m_Ratio T.bd_Ratio_init .nil pass0 (pa_cons (pe_callB (cr_sum rfl) rfl T.b_sum bt_sum (pa_cons (pe_lc (own := [("step", 7)]) (te := tOp (rI IntMulOk fun i j => .int (i * j)) (tOp (rIxL K) (tVar 3) (tVar 7)) (tOp (rIxL K) (tVar 1) (tVar 7))) rfl sc_counted_divisions.nd (pi_range1 rfl T.b_range (pa_cons (pe_callB call_len_seq rfl T.b_len bt_len (pa_cons (pv 3) pa_nil)) pa_nil)) blk_cd1 (fun _ _ _ _ _ => pg_name (i := 7) sc_counted_divisions.nd rfl (Or.inl rfl) (Or.inr rfl)) (fun _ _ _ _ _ => pts_nil) (fun _ _ _ _ _ => by
        refine pe_op op_mulK ?_ ?_
        · exact pe_ix ix_list (pv 3) (pv 7) (fun _ _ => rfl)
        · exact pe_ix ix_list (pv 1) (pv 7) (fun _ _ => rfl))) pa_nil)) (pa_cons (pe_fld (pv 0) rfl) pa_nil))))
      (pss_cons (ps_set (i := 5) sc_counted_divisions.nd rfl (Or.inl rfl) (pe_make T.mk_Ratio G_Ratio_init (hr.mono (by decide)) rfl T.m_Ratio T.bd_Ratio_init .nil pass0 (pa_cons (pe_callB (cr_sum rfl) rfl T.b_sum bt_sum (pa_cons (pe_lc (own := [("top", 8)]) (te := tCB (fun xs H Q => ∃ i, xs = [.int i] ∧ Q (.int (if i < 0 then -i else i)) H) (tCons (tVar 8) tNil)) rfl sc_counted_divisions.nd (pi_list (pv 3)) blk_cd2 (fun _ _ _ _ _ => pg_name (i := 8) sc_counted_divisions.nd rfl (Or.inl rfl) (Or.inr rfl)) (fun _ _ _ _ _ => pts_nil) (fun _ _ _ _ _ => by
        refine pe_callB call_abs ?_ ?_ bt_abs (pa_cons (pv 8) pa_nil)
        · rfl
        · exact T.b_abs)) pa_nil)) (pa_cons (pe_fld (pv 0) rfl) pa_nil))))
      (pss_cons (ps_set (i := 6) sc_counted_divisions.nd rfl (Or.inl rfl) (pe_make T.mk_Ratio G_Ratio_init (hr.mono (by decide)) rfl T.m_Ratio T.bd_Ratio_init .nil pass0 (pa_cons (pe_callB (cr_sum rfl) rfl T.b_sum bt_sum (pa_cons (pe_lc (own := [("top", 8)]) (te := tOp (rI IntMulOk fun i j => .int (i * j)) (tVar 8) (tVar 8)) rfl sc_counted_divisions.nd (pi_list (pv 3)) blk_cd3 (fun _ _ _ _ _ => pg_name (i := 8) sc_counted_divisions.nd rfl (Or.inl rfl) (Or.inr rfl)) (fun _ _ _ _ _ => pts_nil) (fun _ _ _ _ _ => by
        exact pe_op op_mulK (pv 8) (pv 8))) pa_nil)) (pa_cons (pe_op op_mulK (pe_fld (pv 0) rfl) (pe_fld (pv 0) rfl)) pa_nil))))
      (pss_one (ps_ret (pe_make T.mk_Measured G_Measured_init (hr.mono (by decide)) rfl T.m_Measured T.bd_Measured_init .nil pass0 (pa_cons (pv 4) (pa_cons (pe_meth (pv 5) T.cl_Ratio T.me_Ratio_times G_Ratio_times (hr.mono (by decide)) T.bd_Ratio_times .nil pass0 (pa_cons (pe_fld (pv 2) rfl) pa_nil)) (pa_cons (pe_meth (pv 6) T.cl_Ratio T.me_Ratio_times G_Ratio_times (hr.mono (by decide)) T.bd_Ratio_times .nil pass0 (pa_cons (pe_fld (pv 2) rfl) pa_nil)) pa_nil)))))))))), ?_⟩
    have hn : (tops qs).length = qs.length := tops_len qs
    have bt := bits_tops hf h64
    refine ⟨_, rfl, pl, _, dp, _, _, rfl, ep, T.cl_Plan, T.no_Plan_tops, rfl, ?_⟩
    -- number
    refine ⟨_, rfl, co, _, rfl, .inl (SqL.of hco), _, rfl, by rw [List.length_map]; omega, by rw [List.length_map]; omega, fun D hD => lc_rangeQ (fun i => V.int ((tops qs).getD i 0 * rs.getD i 0)) ?_ ?_ ?_⟩
    · rw [Int.toNat_natCast, List.length_map, sizeLine_eq]
      omega
    · intro i acc R hi hR
      rw [Int.toNat_natCast, List.length_map] at hi
      have sD : Same H (upd H D (.lst acc)) := Same.upd hD
      have hco' := sD _ _ hco
      have hrr' := sD _ _ hrr
      have g1 := getD_at hi
      have g2 : rs[i]? = some (rs.getD i 0) := getD_at (by omega)
      have m1 := bt _ (List.mem_of_getElem? g1)
      have m2 : Builtin.Int.intBits (rs.getD i 0) ≤ 64 := by
        rw [intBits_le_iff]
        have := hrf _ (List.mem_of_getElem? g2)
        omega
      refine ⟨rfl, ?_⟩
      refine ⟨_, rfl, _, rfl, co, _, _, V.int ((tops qs).getD i 0), rfl, rfl, SqL.of hco', at_of (j := i) (by omega) (by rw [List.getElem?_map, g1]; rfl), _, rfl, _, rfl, r, _, _, V.int (rs.getD i 0), rfl, rfl, SqL.of hrr', at_of (j := i) (by omega) (by rw [List.getElem?_map, g2]; rfl), _, _, rfl, rfl, .of_le m1 m2 (by decide), hR⟩
    rw [Int.toNat_natCast, List.length_map, range_zip _ _ (by omega)]
    have eN := mk_cN qs rs
    generalize List.zipWith (fun t r => t * r) (tops qs) rs = L1 at eN
    have sD1 : Same H (upd H D (.lst (L1.map V.int))) := Same.upd hD
    have hD1 : (upd H D (.lst (L1.map V.int))) D = some (.lst (L1.map V.int)) := upd_same
    generalize upd H D (.lst (L1.map V.int)) = H1 at sD1 hD1
    refine ⟨D, L1, rfl, SqL.of hD1, _, rfl, pl, _, dp, _, _, rfl, sD1 _ _ ep, T.cl_Plan, T.no_Plan_bottom, rfl, fun x1 dx1 nx1 nd1 ne1 => ?_⟩
    refine ⟨x1, dx1, _, My.comm qs, rfl, upd_same, My.comm_pos qs, fun H2 hat1 kp1 => ⟨rfl, ?_⟩⟩
    rw [eN] at hat1
    have z02 : Same H H2 := sD1.trans (Same.made nx1 nd1 kp1)
    have hco2 := z02 _ _ hco
    -- sizes
    refine ⟨_, rfl, co, rfl, ⟨_, SqL.of hco2⟩, fun D2 hD2 => lc_listQ (xs := (tops qs).map V.int) (fun _ y => absV y) hD2 (SqL.of hco2) ?_ ?_ ?_⟩
    · rw [List.length_map, sizeLine_eq]
      omega
    · intro i y acc R hi hR
      obtain ⟨t, ht, rfl⟩ := int_at hi
      refine ⟨rfl, ?_⟩
      exact ⟨_, rfl, t, rfl, hR⟩
    rw [map_idx _ absV (fun t => if t < 0 then -t else t) (fun _ => rfl)]
    have eA := mk_cA qs
    generalize (tops qs).map (fun t => if t < 0 then -t else t) = L2 at eA
    have sD3 : Same H2 (upd H2 D2 (.lst (L2.map V.int))) := Same.upd hD2
    have hD3 : (upd H2 D2 (.lst (L2.map V.int))) D2 = some (.lst (L2.map V.int)) := upd_same
    generalize upd H2 D2 (.lst (L2.map V.int)) = H3 at sD3 hD3
    have z03 := z02.trans sD3
    refine ⟨D2, L2, rfl, SqL.of hD3, _, rfl, pl, _, dp, _, _, rfl, z03 _ _ ep, T.cl_Plan, T.no_Plan_bottom, rfl, fun x2 dx2 nx2 nd2 ne2 => ?_⟩
    refine ⟨x2, dx2, _, My.comm qs, rfl, upd_same, My.comm_pos qs, fun H4 hat2 kp2 => ⟨rfl, ?_⟩⟩
    rw [eA] at hat2
    have z34 : Same H3 H4 := Same.made nx2 nd2 kp2
    have z04 := z03.trans z34
    have hco4 := z04 _ _ hco
    -- squares
    refine ⟨_, rfl, co, rfl, ⟨_, SqL.of hco4⟩, fun D4 hD4 => lc_listQ (xs := (tops qs).map V.int) (fun _ y => sqV y) hD4 (SqL.of hco4) ?_ ?_ ?_⟩
    · rw [List.length_map, sizeLine_eq]
      omega
    · intro i y acc R hi hR
      obtain ⟨t, ht, rfl⟩ := int_at hi
      have m1 := bt _ (List.mem_of_getElem? ht)
      refine ⟨rfl, ?_⟩
      exact ⟨_, rfl, _, rfl, _, _, rfl, rfl, .of_le m1 m1 (by decide), hR⟩
    rw [map_idx _ sqV (fun t => t * t) (fun _ => rfl)]
    have eS := mk_cS qs
    generalize (tops qs).map (fun t => t * t) = L3 at eS
    have sD5 : Same H4 (upd H4 D4 (.lst (L3.map V.int))) := Same.upd hD4
    have hD5 : (upd H4 D4 (.lst (L3.map V.int))) D4 = some (.lst (L3.map V.int)) := upd_same
    generalize upd H4 D4 (.lst (L3.map V.int)) = H5 at sD5 hD5
    have z05 := z04.trans sD5
    have bc := bits_comm hf h64
    refine ⟨D4, L3, rfl, SqL.of hD5, _, rfl, pl, _, dp, _, _, rfl, z05 _ _ ep, T.cl_Plan, T.no_Plan_bottom, rfl, _, rfl, pl, _, dp, _, _, rfl, z05 _ _ ep, T.cl_Plan, T.no_Plan_bottom, rfl, _, _, rfl, rfl, .of_le bc bc (by decide), fun x3 dx3 nx3 nd3 ne3 => ?_⟩
    refine ⟨x3, dx3, _, My.comm qs * My.comm qs, rfl, upd_same, Nat.mul_pos (My.comm_pos qs) (My.comm_pos qs), fun H6 hat3 kp3 => ⟨rfl, ?_⟩⟩
    rw [eS] at hat3
    have z56 : Same H5 H6 := Same.made nx3 nd3 kp3
    have z06 := z05.trans z56
    -- Measured(..)
    have hn6 : RatAt a.c_Ratio H6 x1 (My.cN (qs.zip rs)) := hat1.same (((sD3.trans z34).trans sD5).trans z56)
    obtain ⟨d2, e2⟩ := hat2.same (sD5.trans z56)
    obtain ⟨d3, e3⟩ := hat3
    have hbs6 := hbs.same z06
    obtain ⟨db, q1, q2, q3, q4, eb, r1, r2, r3, r4⟩ := hbs6
    refine ⟨_, rfl, _, rfl, x2, d2, _, rfl, e2, rfl, _, rfl, b, _, db, _, _, rfl, eb, T.cl_Basis, T.no_Basis_nearness, rfl, x2, q3, _, v, rfl, ⟨d2, e2⟩, r3, (bits_cA hf h64).mono (by decide), bv.mono (by decide), fun H7 x7 z7 h7 => ?_⟩
    refine ⟨_, rfl, x3, d3, _, rfl, z7 _ _ e3, rfl, _, rfl, b, _, db, _, _, rfl, z7 _ _ eb, T.cl_Basis, T.no_Basis_square, rfl, x3, q4, _, w, rfl, ⟨d3, z7 _ _ e3⟩, r4.same z7, (bits_cS hf h64).mono (by decide), bw.mono (by decide), fun H8 x8 z8 h8 => ?_⟩
    refine fun y dy ny nd ne => ?_
    refine ⟨y, dy, x1, x7, x8, rfl, upd_same, fun H9 ⟨d9, hy⟩ kp => ⟨rfl, ?_⟩⟩
    have z9 : Same H8 H9 := Same.made ny nd kp
    have z79 := (z7.trans z8).trans z9
    exact k H9 y (z06.trans z79) ⟨d9, x1, x7, x8, hy, hn6.same z79, h7.same (z8.trans z9), h8.same z9⟩
/-- slots: 0 which, 1 plan, 2 readings, 3 basis, 4 counted, 5 worth -/
theorem ok_told (T : Tx K mg a) : FnOk P w K mg base CX0 46 a.f_told a.d_told ["which", "plan", "readings", "basis"] (sp_told a) := by
  have G_counted_divisions := ok_counted_divisions (w := w) (base := base) T
  have G_division_worth := ok_division_worth (w := w) (base := base) T
  have G_Ratio_times := ok_Ratio_times (w := w) (base := base) T
  have G_told_reach := ok_told_reach (w := w) (base := base) T
  have G_told_square := ok_told_square (w := w) (base := base) T
  refine T.F_told.ok sc_told (fun vs H Q E h => ?_) (fun cdv A outer s H vs Q E hr h => ?_)
  · obtain ⟨_, _, _, _, _, _, _, _, _, _, _, _, rfl, _⟩ := h
    rfl
  · obtain ⟨kk, pl, r, b, lo, co, qs, rs, q, u, v, w, rfl, hpl, hrr, hbs, h64, hrl, hf, hrf, bq, bu, bv, bw, k⟩ := h
    refine ⟨_, (pss_cons (ps_set (i := 4) sc_told.nd rfl (Or.inl rfl) (pe_call G_counted_divisions (hr.mono (by decide)) rfl T.m_counted_divisions T.F_counted_divisions.kp T.bd_counted_divisions .nil pass0 (pa_cons (pv 1) (pa_cons (pv 2) (pa_cons (pv 3) pa_nil)))))
      (pss_cons (ps_set (i := 5) sc_told.nd rfl (Or.inl rfl) (pe_call G_division_worth (hr.mono (by decide)) rfl T.m_division_worth T.F_division_worth.kp T.bd_division_worth .nil pass0 (pa_cons (pv 3) pa_nil)))
      (pss_cons (ps_if (pt_cmpR op_eq (pv 0) (pe_gi rfl T.g_NUMBER) (nomark _))
        (pss_one (ps_ret (pe_meth (pe_fld (pv 4) rfl) T.cl_Ratio T.me_Ratio_times G_Ratio_times (hr.mono (by decide)) T.bd_Ratio_times .nil pass0 (pa_cons (pe_fld (pv 5) rfl) pa_nil))))
        pss_nil)
      (pss_cons (ps_if (pt_cmpR op_eq (pv 0) (pe_gi rfl T.g_REACH) (nomark _))
        (pss_one (ps_ret (pe_call G_told_reach (hr.mono (by decide)) rfl T.m_told_reach T.F_told_reach.kp T.bd_told_reach .nil pass0 (pa_cons (pv 4) (pa_cons (pv 5) pa_nil)))))
        pss_nil)
      (pss_one (ps_ret (pe_call G_told_square (hr.mono (by decide)) rfl T.m_told_square T.F_told_square.kp T.bd_told_square .nil pass0 (pa_cons (pv 4) (pa_cons (pv 5) pa_nil))))))))), ?_⟩
    refine ⟨_, rfl, _, rfl, _, rfl, pl, r, b, lo, co, qs, rs, q, u, v, w, rfl, hpl, hrr, hbs, h64, hrl, hf, hrf, bv, bw, fun H1 m1 z1 hm1 => ?_⟩
    refine ⟨_, rfl, b, q, u, v, w, rfl, hbs.same z1, bu, fun H2 m2 z2 hm2 => ?_⟩
    have z02 := z1.trans z2
    have hm1' := hm1.same z2
    have c1 : BitsM (My.cN (qs.zip rs)) (My.cA qs * v) (My.cS qs * w) := ⟨(bits_cN hf h64 hrf).mono (by decide), ((bits_cA hf h64).mul bv).mono (by decide), ((bits_cS hf h64).mul bw).mono (by decide)⟩
    have c2 : BitsM q u (u * u * mkRat 1 3) := ⟨bq.mono (by decide), bu.mono (by decide), ((bu.mul bu).mul (bits_mkRat (m := 10) (by decide) (by decide) (by decide))).mono (by decide)⟩
    refine ⟨_, rfl, rfl, _, rfl, ifEq (fun h0 => ?_) (fun h0 => ?_)⟩
    · have hk : kk = 0 := by omega
      obtain ⟨d1, f1, f2, f3, e1, ⟨t1, g1⟩, _, _⟩ := hm1'
      obtain ⟨d2, j1, j2, j3, e2, ht2, _, _⟩ := hm2
      refine ⟨_, rfl, m1, _, d1, _, _, rfl, e1, T.cl_Measured, T.no_Measured_number, rfl, f1, t1, _, rfl, g1, rfl, _, rfl, m2, _, d2, _, _, rfl, e2, T.cl_Measured, T.no_Measured_number, rfl, f1, j1, _, q, rfl, ⟨t1, g1⟩, ht2, c1.1.mono (by decide), c2.1.mono (by decide), fun H3 x3 z3 h3 => ?_⟩
      refine k H3 x3 (z02.trans z3) ?_
      rw [hk]
      exact h3
    · refine ⟨_, rfl, rfl, _, rfl, ifEq (fun h1 => ?_) (fun h1 => ?_)⟩
      · have hk : kk = 1 := by omega
        refine ⟨_, rfl, _, rfl, m1, m2, _, _, _, _, _, _, rfl, hm1', hm2, c1, c2, fun H3 x3 z3 h3 => ?_⟩
        refine k H3 x3 (z02.trans z3) ?_
        rw [hk]
        exact h3
      · refine ⟨_, rfl, _, rfl, m1, m2, _, _, _, _, _, _, rfl, hm1', hm2, c1, c2, fun H3 x3 z3 h3 => ?_⟩
        refine k H3 x3 (z02.trans z3) ?_
        unfold toldR
        rw [if_neg (show ¬ kk = 0 from fun e => h0 (by rw [e]; rfl)), if_neg (show ¬ kk = 1 from fun e => h1 (by rw [e]; rfl))]
        exact h3
end
/-! ### objects by the names of their attributes -/
def nms : HO → Option (List Str)
  | .ins _ _ fs => some (fs.map (·.1))
  | _ => none
theorem ne_nms {H : Hp} {x y : Addr} {o u : HO} (h : H x = some o) (h' : H y = some u) (d : nms o ≠ nms u) : x ≠ y := ne_of h h' fun e => d (congrArg nms e)
def nRd : List Str := ["calls", "place"]
def nRat : List Str := ["top", "bottom"]
def nLn : List Str := ["weighing"]
def nW : List Str := ["plan", "readings"]
def nPl : List Str := ["loads", "tops", "bottom"]
theorem nm1 : nLn ≠ nRd := by decide +kernel
theorem nm2 : nW ≠ nRd := by decide +kernel
theorem nm3 : nPl ≠ nRd := by decide +kernel
theorem nm4 : nRat ≠ nRd := by decide +kernel
theorem nm5 : nW ≠ nLn := by decide +kernel
theorem nm6 : nPl ≠ nLn := by decide +kernel
theorem nm7 : nRat ≠ nLn := by decide +kernel
theorem nm8 : nPl ≠ nW := by decide +kernel
theorem nm9 : nRat ≠ nW := by decide +kernel
theorem sne {l m : List Str} (h : l ≠ m) : (some l) ≠ some m := fun e => h (Option.some.inj e)
/-! ### a weighing, the line -/
def wF (p r : Addr) : List (Str × V) := [("plan", .ref p), ("readings", .ref r)]
def lnF (v : V) : List (Str × V) := [("weighing", v)]
structure WAt (a : Ads) (H : Hp) (wa : Addr) (x : EvenG.Held) (r lo co pl : Addr) : Prop where
  w : ∃ dx, H wa = some (.ins a.c_Weighing dx (wF pl r))
  p : PlanAt a.c_Plan H pl lo co x.plan.counts
  l : H lo = some (.lst (x.plan.steps.map nV))
  rd : H r = some (.lst (x.readings.map V.int))
  ne1 : lo ≠ r
  ne2 : co ≠ r
  c1 : x.plan.counts.length = x.plan.steps.length
  c2 : 1 ≤ x.plan.steps.length
  c3 : x.plan.steps.length ≤ 64
  c4 : x.readings.length ≤ x.plan.steps.length
  fits : ∀ q ∈ x.plan.counts, Eb.Balance.countFits q = true
  rfit : ∀ z ∈ x.readings, -(2 ^ 63) ≤ z ∧ z < 2 ^ 63
/-- the line's weighing; the list at g (what is given so far) stands apart -/
def LineAt (a : Ads) (H : Hp) (ln g : Addr) : EvenG.State → Prop
  | none => (∃ dx, H ln = some (.ins a.c_Line dx (lnF .non))) ∧ ∃ xs, H g = some (.lst xs)
  | some x => ∃ (wa r lo co pl : Addr), (∃ dx, H ln = some (.ins a.c_Line dx (lnF (.ref wa)))) ∧ (∃ xs, H g = some (.lst xs)) ∧ WAt a H wa x r lo co pl ∧ r ≠ g ∧ lo ≠ g ∧ co ≠ g
/-- what others hold stays: the list given, readers of calls, frozen things -/
def Kp (g : Addr) (H H' : Hp) : Prop := ∀ b o, H b = some o → (b = g ∨ nms o = some nRd ∨ ∃ u v, o = .frz u v) → H' b = some o
theorem Kp.trans {g : Addr} {H H1 H2 : Hp} (x : Kp g H H1) (y : Kp g H1 H2) : Kp g H H2 := fun b o e h => y b o (x b o e h) h
theorem Same.kp {g : Addr} {H H' : Hp} (s : Same H H') : Kp g H H' := fun b o e _ => s b o e
theorem Kp.upd {g z : Addr} {H : Hp} {o o' : HO} (h : H z = some o) (h1 : z ≠ g) (h2 : nms o ≠ some nRd) (h3 : ∀ u v, o ≠ .frz u v) : Kp g H (L2.upd H z o') := fun b u e hb => by
  rw [upd_ne]
  · exact e
  · intro q
    subst q
    rw [h] at e
    cases e
    rcases hb with hb | hb | ⟨u, v, hb⟩
    · exact h1 hb
    · exact h2 hb
    · exact h3 u v hb
theorem RatsAt.keep {C : Addr} {H H' : Hp} {p z : Addr} {qs : List Rat} {o : HO} (h : RatsAt C H p qs) (kp : Keep z H H') (hz : H z = some o) (h1 : p ≠ z) (h2 : nms o ≠ some nRat) : RatsAt C H' p qs := by
  obtain ⟨as, e, r⟩ := h
  refine ⟨as, kp _ _ e h1, pr_imp r fun x q _ ⟨dx, hx⟩ => ⟨dx, kp _ _ hx ?_⟩⟩
  exact ne_nms hx hz fun e => h2 e.symm
theorem WAt.same {a : Ads} {H H' : Hp} {wa : Addr} {x : EvenG.Held} {r lo co pl : Addr} (h : WAt a H wa x r lo co pl) (s : Same H H') : WAt a H' wa x r lo co pl :=
  { h with
    w := let ⟨dx, e⟩ := h.w; ⟨dx, s _ _ e⟩
    p := ⟨let ⟨dx, e⟩ := h.p.1; ⟨dx, s _ _ e⟩, s _ _ h.p.2⟩
    l := s _ _ h.l
    rd := s _ _ h.rd }
/-- an object that is none of the weighing's is changed -/
theorem WAt.keep {a : Ads} {H H' : Hp} {wa z : Addr} {x : EvenG.Held} {r lo co pl : Addr} {o : HO} (h : WAt a H wa x r lo co pl) (kp : Keep z H H') (hz : H z = some o) (h1 : nms o ≠ some nW) (h2 : nms o ≠ some nPl) (h3 : nms o ≠ some nRat) (h4 : lo ≠ z) (h5 : co ≠ z) (h6 : r ≠ z) : WAt a H' wa x r lo co pl :=
  { h with
    w := let ⟨dx, e⟩ := h.w; ⟨dx, kp _ _ e (ne_nms e hz fun q => h1 q.symm)⟩
    p := ⟨let ⟨dx, e⟩ := h.p.1; ⟨dx, kp _ _ e (ne_nms e hz fun q => h2 q.symm)⟩, kp _ _ h.p.2 h5⟩
    l := kp _ _ h.l h4
    rd := kp _ _ h.rd h6 }
theorem lst_ne {H : Hp} {x y : Addr} {xs : List V} {C dx : Addr} {fs : List (Str × V)} (h : H x = some (.lst xs)) (h' : H y = some (.ins C dx fs)) : x ≠ y := ne_of h h' (by intro z; cases z)
theorem LineAt.same {a : Ads} {H H' : Hp} {ln g : Addr} : ∀ {st : EvenG.State}, LineAt a H ln g st → Same H H' → LineAt a H' ln g st
  | none, ⟨⟨dx, e⟩, xs, eg⟩, s => ⟨⟨dx, s _ _ e⟩, xs, s _ _ eg⟩
  | some _, ⟨wa, r, lo, co, pl, ⟨dx, e⟩, ⟨xs, eg⟩, h, n1, n2, n3⟩, s => ⟨wa, r, lo, co, pl, ⟨dx, s _ _ e⟩, ⟨xs, s _ _ eg⟩, h.same s, n1, n2, n3⟩
/-- a reader of calls moves on -/
theorem LineAt.reader {a : Ads} {H H' : Hp} {ln g z : Addr} {o : HO} (kp : Keep z H H') (hz : H z = some o) (hn : nms o = some nRd) : ∀ {st : EvenG.State}, LineAt a H ln g st → LineAt a H' ln g st
  | none, ⟨⟨dx, e⟩, xs, eg⟩ => ⟨⟨dx, kp _ _ e (ne_nms e hz (by rw [hn]; exact sne nm1))⟩, xs, kp _ _ eg (ne_nms eg hz (by rw [hn]; intro q; cases q))⟩
  | some x, ⟨wa, r, lo, co, pl, ⟨dx, e⟩, ⟨xs, eg⟩, h, n1, n2, n3⟩ => by
    have ll : ∀ {y : Addr} {ys : List V}, H y = some (.lst ys) → y ≠ z := fun {y ys} q => ne_nms q hz (by rw [hn]; intro q; cases q)
    have hco := h.p.2
    exact ⟨wa, r, lo, co, pl, ⟨dx, kp _ _ e (ne_nms e hz (by rw [hn]; exact sne nm1))⟩, ⟨xs, kp _ _ eg (ll eg)⟩,
      h.keep kp hz (by rw [hn]; exact sne nm2.symm) (by rw [hn]; exact sne nm3.symm) (by rw [hn]; exact sne nm4.symm) (ll h.l) (ll hco) (ll h.rd), n1, n2, n3⟩
/-- the list given grows -/
theorem LineAt.given {a : Ads} {H : Hp} {ln g : Addr} {ys : List V} : ∀ {st : EvenG.State}, LineAt a H ln g st → LineAt a (upd H g (.lst ys)) ln g st
  | none, ⟨⟨dx, e⟩, xs, eg⟩ => ⟨⟨dx, Keep.upd _ _ e (lst_ne eg e).symm⟩, ys, upd_same⟩
  | some x, ⟨wa, r, lo, co, pl, ⟨dx, e⟩, ⟨xs, eg⟩, h, n1, n2, n3⟩ =>
    ⟨wa, r, lo, co, pl, ⟨dx, Keep.upd _ _ e (lst_ne eg e).symm⟩, ⟨ys, upd_same⟩, h.keep Keep.upd eg (by intro q; cases q) (by intro q; cases q) (by intro q; cases q) n2 n3 n1, n1, n2, n3⟩
/-! ### promises -/
def sp_Weighing_init (a : Ads) : Sp := fun vs H Q _ => ∃ (p dx pl : Addr), vs = [.ref p, .ref pl] ∧ H p = some (.ins a.c_Weighing dx []) ∧ ∀ (H' : Hp) (r : Addr), H r = none → H' r = some (.lst []) → (∃ dx, H' p = some (.ins a.c_Weighing dx (wF pl r))) → Keep p H H' → Q .non H'
def sp_Weighing_steps (a : Ads) : Sp := fun vs H Q _ => ∃ (wa r lo co pl : Addr) (x : EvenG.Held), vs = [.ref wa] ∧ WAt a H wa x r lo co pl ∧ Q (.int (x.plan.steps.length : Int)) H
def sp_Weighing_finished (a : Ads) : Sp := fun vs H Q _ => ∃ (wa r lo co pl : Addr) (x : EvenG.Held), vs = [.ref wa] ∧ WAt a H wa x r lo co pl ∧ Q (.bl (decide (x.readings.length = x.plan.steps.length))) H
def sp_Weighing_next_load (a : Ads) : Sp := fun vs H Q _ => ∃ (wa r lo co pl : Addr) (x : EvenG.Held), vs = [.ref wa] ∧ WAt a H wa x r lo co pl ∧ Q (.int (match x.plan.steps[x.readings.length]? with | some j => (j : Int) | none => -1)) H
/-- a call's answer: its list, the weighing behind it -/
def Ans (a : Ads) (ln g : Addr) (st : EvenG.State) (c : EvenG.Call) (H : Hp) (Q : VK) : Prop :=
  ∀ (H' : Hp) (p : Addr), Kp g H H' → LineAt a H' ln g (EvenG.step st c).1 → H' p = some (.lst ((EvenGNeutral.shown (EvenG.step st c).2).map V.int)) → p ≠ g → Q (.ref p) H'
def sp_Line_init (a : Ads) : Sp := fun vs H Q _ => ∃ (p dx : Addr), vs = [.ref p] ∧ H p = some (.ins a.c_Line dx []) ∧ ∀ H' : Hp, (∃ dx, H' p = some (.ins a.c_Line dx (lnF .non))) → Keep p H H' → Q .non H'
def sp_Line_begin (a : Ads) (K : PySem.W.Frag) : Sp := fun vs H Q _ => ∃ (ln g l t : Addr) (st : EvenG.State) (d : Nat) (ns : List Nat) (s : List UInt8), vs = [.ref ln, .int d, .ref l, .ref t] ∧ LineAt a H ln g st ∧ H l = some (.lst (ns.map nV)) ∧ l ≠ g ∧ SqL K H t (s.map bV) ∧ Ans a ln g st (.begin_ ns s d) H Q
def sp_Line_take (a : Ads) : Sp := fun vs H Q _ => ∃ (ln g : Addr) (st : EvenG.State) (z : Int), vs = [.ref ln, .int z] ∧ LineAt a H ln g st ∧ -(2 ^ 63) ≤ z ∧ z < 2 ^ 63 ∧ Ans a ln g st (.take z) H Q
def sp_Line_state (a : Ads) : Sp := fun vs H Q _ => ∃ (ln g : Addr) (st : EvenG.State), vs = [.ref ln] ∧ LineAt a H ln g st ∧ Ans a ln g st .state H Q
def sp_Line_told_reading (a : Ads) : Sp := fun vs H Q _ => ∃ (ln g : Addr) (st : EvenG.State) (k : Nat), vs = [.ref ln, .int k] ∧ LineAt a H ln g st ∧ Ans a ln g st (.reading k) H Q
/-- an answer of one list just laid, nothing else changed -/
theorem Ans.plain {a : Ads} {ln g : Addr} {st : EvenG.State} {c : EvenG.Call} {H H1 : Hp} {Q : VK} (h : Ans a ln g st c H Q) (hl : LineAt a H ln g st) (s1 : Same H H1) (es : (EvenG.step st c).1 = st) {xs : List V} (ex : xs = (EvenGNeutral.shown (EvenG.step st c).2).map V.int) {p : Addr} (hp : H1 p = none) : Q (.ref p) (upd H1 p (.lst xs)) := by
  have s2 : Same H (upd H1 p (.lst xs)) := s1.trans (Same.upd hp)
  refine h _ p (Same.kp s2) ?_ (by rw [upd_same, ex]) ?_
  · rw [es]
    exact hl.same s2
  · have hg : ∃ xs, H g = some (.lst xs) := by
      cases st with
      | none => exact hl.2
      | some x =>
        obtain ⟨_, _, _, _, _, _, hg, _⟩ := hl
        exact hg
    obtain ⟨ys, hg⟩ := hg
    exact (ne_of_none (s1 _ _ hg) hp).symm
section
variable {w : World} {K : PySem.W.Frag} {mg : Str → Option Value} {base : Heap} {a : Ads}
/-- slots: 0 self, 1 plan -/
theorem ok_Weighing_init (T : Tx K mg a) : FnOk P w K mg base CX0 1 a.f_Weighing_init a.d_Weighing_init ["self", "plan"] (sp_Weighing_init a) := by
  refine T.F_Weighing_init.ok sc_Weighing_init (fun vs H Q E h => ?_) (fun cdv A outer s H vs Q E hr h => ?_)
  · obtain ⟨_, _, _, rfl, _⟩ := h
    rfl
  · obtain ⟨p, dx, pl, rfl, hp, k⟩ := h
    refine ⟨_, (pss_cons (ps_fld (pv 0) (pv 1) rfl)
      (pss_one (ps_fld (pv 0) (pe_lst pa_nil) rfl))), ?_⟩
    refine ⟨_, rfl, _, rfl, p, _, dx, _, rfl, hp, T.cl_Weighing, T.no_Weighing_plan, (by show 0 < 1000; decide), ?_⟩
    refine ⟨Nat.zero_le _, fun r hrn => ?_⟩
    have hne : p ≠ r := fun e => by rw [← e, upd_same] at hrn; cases hrn
    have hr0 : H r = none := by
      rw [upd_ne hne.symm] at hrn
      exact hrn
    refine ⟨_, rfl, p, _, dx, _, rfl, by rw [upd_ne hne]; exact upd_same, T.cl_Weighing, T.no_Weighing_readings, (by show 1 < 1000; decide), ?_⟩
    refine k _ r hr0 ?_ ⟨dx, upd_same⟩ ?_
    · rw [upd_ne hne.symm]
      exact upd_same
    · intro b o e hb
      rw [upd_ne hb, upd_ne (ne_of_none e hr0), upd_ne hb]
      exact e
theorem ok_Weighing_steps (T : Tx K mg a) : FnOk P w K mg base CX0 1 a.f_Weighing_steps a.d_Weighing_steps ["self"] (sp_Weighing_steps a) := by
  refine T.F_Weighing_steps.ok sc_Weighing_steps (fun vs H Q E h => ?_) (fun cdv A outer s H vs Q E hr h => ?_)
  · obtain ⟨_, _, _, _, _, _, rfl, _⟩ := h
    rfl
  · obtain ⟨wa, r, lo, co, pl, x, rfl, hw, k⟩ := h
    refine ⟨_, (pss_one (ps_ret (pe_callB call_len_seq rfl T.b_len bt_len (pa_cons (pe_fld (pe_fld (pv 0) rfl) rfl) pa_nil)))), ?_⟩
    obtain ⟨dw, ew⟩ := hw.w
    obtain ⟨dp, ep⟩ := hw.p.1
    refine ⟨_, rfl, wa, _, dw, _, _, rfl, ew, T.cl_Weighing, T.no_Weighing_plan, rfl, pl, _, dp, _, _, rfl, ep, T.cl_Plan, T.no_Plan_loads, rfl, lo, _, rfl, .inl (SqL.of hw.l), ?_⟩
    rw [List.length_map]
    exact k
theorem ok_Weighing_finished (T : Tx K mg a) : FnOk P w K mg base CX0 2 a.f_Weighing_finished a.d_Weighing_finished ["self"] (sp_Weighing_finished a) := by
  have G_Weighing_steps := ok_Weighing_steps (w := w) (base := base) T
  refine T.F_Weighing_finished.ok sc_Weighing_finished (fun vs H Q E h => ?_) (fun cdv A outer s H vs Q E hr h => ?_)
  · obtain ⟨_, _, _, _, _, _, rfl, _⟩ := h
    rfl
  · obtain ⟨wa, r, lo, co, pl, x, rfl, hw, k⟩ := h
    refine ⟨_, (pss_one (ps_ret (pe_cmpR op_eq (pe_callB call_len_seq rfl T.b_len bt_len (pa_cons (pe_fld (pv 0) rfl) pa_nil)) (pe_meth0 (pv 0) T.cl_Weighing T.me_Weighing_steps G_Weighing_steps (hr.mono (by decide)) T.bd_Weighing_steps .nil pass0) (nomark _)))), ?_⟩
    obtain ⟨dw, ew⟩ := hw.w
    refine ⟨_, rfl, wa, _, dw, _, _, rfl, ew, T.cl_Weighing, T.no_Weighing_readings, rfl, r, _, rfl, .inl (SqL.of hw.rd), _, rfl, wa, dw, _, rfl, ew, rfl, wa, r, lo, co, pl, x, rfl, hw, rfl, ?_⟩
    have e : decide (V.int (((x.readings.map V.int).length : Nat) : Int) = V.int (x.plan.steps.length : Int)) = decide (x.readings.length = x.plan.steps.length) := decide_eq_decide.mpr (by
      rw [List.length_map]
      exact ⟨fun h => by have := V.int.inj h; omega, fun h => by rw [h]⟩)
    rw [e]
    exact k
theorem ok_Weighing_next_load (T : Tx K mg a) : FnOk P w K mg base CX0 3 a.f_Weighing_next_load a.d_Weighing_next_load ["self"] (sp_Weighing_next_load a) := by
  have G_Weighing_finished := ok_Weighing_finished (w := w) (base := base) T
  refine T.F_Weighing_next_load.ok sc_Weighing_next_load (fun vs H Q E h => ?_) (fun cdv A outer s H vs Q E hr h => ?_)
  · obtain ⟨_, _, _, _, _, _, rfl, _⟩ := h
    rfl
  · obtain ⟨wa, r, lo, co, pl, x, rfl, hw, k⟩ := h
    refine ⟨_, (pss_cons (ps_if (pt_val (pe_meth0 (pv 0) T.cl_Weighing T.me_Weighing_finished G_Weighing_finished (hr.mono (by decide)) T.bd_Weighing_finished .nil pass0))
        (pss_one (ps_ret (pe_gi rfl T.g_NO_LOAD)))
        pss_nil)
      (pss_one (ps_ret (pe_ix ix_list (pe_fld (pe_fld (pv 0) rfl) rfl) (pe_callB call_len_seq rfl T.b_len bt_len (pa_cons (pe_fld (pv 0) rfl) pa_nil)) (fun _ _ => rfl))))), ?_⟩
    obtain ⟨dw, ew⟩ := hw.w
    obtain ⟨dp, ep⟩ := hw.p.1
    refine ⟨_, rfl, wa, dw, _, rfl, ew, rfl, wa, r, lo, co, pl, x, rfl, hw, _, rfl, ifD (fun h => ?_) (fun h => ?_)⟩
    · rw [List.getElem?_eq_none (by omega)] at k
      exact k
    · have hlt : x.readings.length < x.plan.steps.length := by have := hw.c4; omega
      obtain ⟨j, hj⟩ : ∃ j, x.plan.steps[x.readings.length]? = some j := ⟨_, List.getElem?_eq_getElem hlt⟩
      rw [hj] at k
      refine ⟨_, rfl, wa, _, dw, _, _, rfl, ew, T.cl_Weighing, T.no_Weighing_plan, rfl, pl, _, dp, _, _, rfl, ep, T.cl_Plan, T.no_Plan_loads, rfl, _, rfl, wa, _, dw, _, _, rfl, ew, T.cl_Weighing, T.no_Weighing_readings, rfl, r, _, rfl, .inl (SqL.of hw.rd), lo, _, _, nV j, rfl, rfl, SqL.of hw.l, at_of (j := x.readings.length) (by rw [List.length_map]) (by rw [List.getElem?_map, hj]; rfl), k⟩
end
section
variable {w : World} {K : PySem.W.Frag} {mg : Str → Option Value} {base : Heap} {a : Ads}
theorem ok_Line_init (T : Tx K mg a) : FnOk P w K mg base CX0 1 a.f_Line_init a.d_Line_init ["self"] (sp_Line_init a) := by
  refine T.F_Line_init.ok sc_Line_init (fun vs H Q E h => ?_) (fun cdv A outer s H vs Q E hr h => ?_)
  · obtain ⟨_, _, rfl, _⟩ := h
    rfl
  · obtain ⟨p, dx, rfl, hp, k⟩ := h
    refine ⟨_, (pss_one (ps_fld (pv 0) pe_non rfl)), ?_⟩
    refine ⟨_, rfl, p, _, dx, _, rfl, hp, T.cl_Line, T.no_Line_weighing, (by show 0 < 1000; decide), ?_⟩
    exact k _ ⟨dx, upd_same⟩ Keep.upd
/-- slots: 0 self, 1 degree, 2 loads, 3 counts_text, 4 plan -/
theorem ok_Line_begin (T : Tx K mg a) : FnOk P w K mg base CX0 47 a.f_Line_begin a.d_Line_begin ["self", "degree", "loads", "counts_text"] (sp_Line_begin a K) := by
  have G_read_plan := ok_read_plan (w := w) (base := base) T
  have G_Weighing_init := ok_Weighing_init (w := w) (base := base) T
  refine T.F_Line_begin.ok sc_Line_begin (fun vs H Q E h => ?_) (fun cdv A outer s H vs Q E hr h => ?_)
  · obtain ⟨_, _, _, _, _, _, _, _, rfl, _⟩ := h
    rfl
  · obtain ⟨ln, g, l, t, st, d, ns, s, rfl, hl, hlo, hlg, ht, k⟩ := h
    refine ⟨_, (pss_cons (ps_set (i := 4) sc_Line_begin.nd rfl (Or.inl rfl) (pe_call G_read_plan (hr.mono (by decide)) rfl T.m_read_plan T.F_read_plan.kp T.bd_read_plan .nil pass0 (pa_cons (pv 1) (pa_cons (pv 2) (pa_cons (pv 3) pa_nil)))))
      (pss_cons (ps_if (pt_cmpR op_isN (pv 4) pe_non (nomark _))
        (pss_one (ps_ret (pe_lst (pa_cons (pe_gi rfl T.g_NOT_RIGHT) pa_nil))))
        pss_nil)
      (pss_cons (ps_fld (pv 0) (pe_make T.mk_Weighing G_Weighing_init (hr.mono (by decide)) rfl T.m_Weighing T.bd_Weighing_init .nil pass0 (pa_cons (pv 4) pa_nil)) rfl)
      (pss_one (ps_ret (pe_lst (pa_cons (pe_gi rfl T.g_DONE) pa_nil))))))), ?_⟩
    refine ⟨_, rfl, _, rfl, _, rfl, d, l, t, ns, s, rfl, SqL.of hlo, ht, fun H1 v s1 hv => ?_⟩
    have pe := My.planOf_eq ns s d
    cases ep : EvenG.planOf ns s d with
    | none =>
      rw [ep] at hv
      have hv' : v = .non := hv
      subst hv'
      have es : EvenG.step st (.begin_ ns s d) = (st, EvenG.number (-2)) := by
        show (match EvenG.planOf ns s d with | none => (st, EvenG.number (-2)) | some p => (some ⟨p, []⟩, EvenG.number 0)) = _
        rw [ep]
      refine ⟨_, rfl, rfl, _, rfl, iteT ?_⟩
      refine ⟨by rw [sizeLine_eq]; decide, fun p hp => ?_⟩
      exact Ans.plain k hl s1 (by rw [es]) (by rw [es]; rfl) hp
    | some pl =>
      rw [ep] at hv
      obtain ⟨pa, co, rfl, hpa, hco, hplan⟩ := hv
      have es : EvenG.step st (.begin_ ns s d) = (some ⟨pl, []⟩, EvenG.number 0) := by
        show (match EvenG.planOf ns s d with | none => (st, EvenG.number (-2)) | some p => (some ⟨p, []⟩, EvenG.number 0)) = _
        rw [ep]
      -- what is known of the plan
      have facts : pl.steps = ns ∧ pl.counts.length = ns.length ∧ 1 ≤ ns.length ∧ ns.length ≤ 64 ∧ ∀ q ∈ pl.counts, Eb.Balance.countFits q = true := by
        rw [ep] at pe
        split at pe
        · rename_i h1
          cases ec : My.countsOf s with
          | none => rw [ec] at pe; cases pe
          | some qs =>
            rw [ec] at pe
            simp only [] at pe
            split at pe
            · rename_i h2
              cases pe
              exact ⟨rfl, h2.1, h1.2.1, h1.2.2.1, My.countsOf_fits ec⟩
            · cases pe
        · cases pe
      obtain ⟨f1, f2, f3, f4, f5⟩ := facts
      refine ⟨_, rfl, rfl, _, rfl, iteF ?_⟩
      refine ⟨_, rfl, fun wa dw nw nd ne => ?_⟩
      refine ⟨wa, dw, pa, rfl, upd_same, fun H2 r hrn hr2 ⟨dy, hw2⟩ kp => ⟨rfl, ?_⟩⟩
      have s2 : Same H1 H2 := Same.made nw nd kp
      have s12 := s1.trans s2
      have hl2 := hl.same s12
      have hg : ∃ xs, H g = some (.lst xs) := by
        cases st with
        | none => exact hl.2
        | some x =>
          obtain ⟨_, _, _, _, _, _, hg, _⟩ := hl
          exact hg
      obtain ⟨xs, hg⟩ := hg
      have hln : ∃ dx v, H ln = some (.ins a.c_Line dx (lnF v)) := by
        cases st with
        | none =>
          obtain ⟨dx, e⟩ := hl.1
          exact ⟨dx, _, e⟩
        | some x =>
          obtain ⟨_, _, _, _, _, ⟨dx, e⟩, _⟩ := hl
          exact ⟨dx, _, e⟩
      obtain ⟨dl, vl, hln⟩ := hln
      have hln2 := s12 _ _ hln
      refine ⟨_, rfl, ln, _, dl, _, rfl, hln2, T.cl_Line, T.no_Line_weighing, (by show 1 < 1000; decide), ?_⟩
      have hrn1 : H1 r = none := by
        cases q : H1 r with
        | none => rfl
        | some o =>
          have e1 : (upd (upd H1 dw (.own wa)) wa (.ins a.c_Weighing dw [])) r ≠ none := by
            by_cases h1 : r = wa
            · rw [h1, upd_same]
              simp
            · rw [upd_ne h1]
              by_cases h2 : r = dw
              · rw [h2, upd_same]
                simp
              · rw [upd_ne h2, q]
                simp
          exact absurd hrn e1
      have kpl : Keep ln H2 (upd H2 ln (.ins a.c_Line dl (lnF (.ref wa)))) := Keep.upd
      have hH3 : upd H2 ln (.ins a.c_Line dl (lnF (.ref wa))) ln = some (.ins a.c_Line dl (lnF (.ref wa))) := upd_same
      have kp3 : Kp g H2 (upd H2 ln (.ins a.c_Line dl (lnF (.ref wa)))) := Kp.upd hln2 (lst_ne (s12 _ _ hg) hln2).symm (sne nm1) (by intro u v q; cases q)
      have eF : putF "weighing" (V.ref wa) (lnF vl) = lnF (.ref wa) := rfl
      rw [eF]
      generalize upd H2 ln (.ins a.c_Line dl (lnF (.ref wa))) = H3 at kpl hH3 kp3
      refine ⟨by rw [sizeLine_eq]; decide, fun p hp => ?_⟩
      have s4 : Same H3 (upd H3 p (.lst [V.int 0])) := Same.upd hp
      have lk : ∀ {y : Addr} {ys : List V}, H2 y = some (.lst ys) → H3 y = some (.lst ys) := fun {y ys} e => kpl _ _ e (lst_ne e hln2)
      refine k _ p ((Same.kp s12).trans (kp3.trans (Same.kp s4))) ?_ (by rw [upd_same, es]; rfl) ?_
      · rw [es]
        have hgr : ∀ {y : Addr}, H y = none → y ≠ g := fun {y} e q => by rw [q, hg] at e; cases e
        have hrH : H r = none := s1.free hrn1
        obtain ⟨⟨dp, hpl⟩, hcl⟩ := hplan
        refine ⟨wa, r, l, co, pa, ⟨dl, s4 _ _ hH3⟩, ⟨xs, s4 _ _ (lk (s12 _ _ hg))⟩, ?_, hgr hrH, hlg, hgr hco⟩
        refine WAt.same (H := H3) ?_ s4
        refine ⟨⟨dy, kpl _ _ hw2 (ne_nms hw2 hln2 (sne nm5))⟩, ⟨⟨dp, kpl _ _ (s2 _ _ hpl) (ne_nms (s2 _ _ hpl) hln2 (sne nm6))⟩, ?_⟩, ?_, lk hr2, ?_, ?_, ?_, ?_, ?_, Nat.zero_le _, f5, fun z hz => (by cases hz)⟩
        · exact lk (s2 _ _ hcl)
        · rw [f1]
          exact lk (s12 _ _ hlo)
        · intro q
          rw [← q, s1 _ _ hlo] at hrn1
          cases hrn1
        · intro q
          rw [← q, hcl] at hrn1
          cases hrn1
        · show pl.counts.length = pl.steps.length
          rw [f1, f2]
        · show 1 ≤ pl.steps.length
          rw [f1]
          exact f3
        · show pl.steps.length ≤ 64
          rw [f1]
          exact f4
      · exact (ne_of_none (lk (s12 _ _ hg)) hp).symm
/-- slots: 0 self, 1 reading, 2 weighing -/
theorem ok_Line_take (T : Tx K mg a) : FnOk P w K mg base CX0 3 a.f_Line_take a.d_Line_take ["self", "reading"] (sp_Line_take a) := by
  have G_Weighing_finished := ok_Weighing_finished (w := w) (base := base) T
  refine T.F_Line_take.ok sc_Line_take (fun vs H Q E h => ?_) (fun cdv A outer s H vs Q E hr h => ?_)
  · obtain ⟨_, _, _, _, rfl, _⟩ := h
    rfl
  · obtain ⟨ln, g, st, z, rfl, hl, hz1, hz2, k⟩ := h
    refine ⟨_, (pss_cons (ps_set (i := 2) sc_Line_take.nd rfl (Or.inl rfl) (pe_fld (pv 0) rfl))
      (pss_cons (ps_if (pt_cmpR op_isN (pv 2) pe_non (nomark _))
        (pss_one (ps_ret (pe_lst (pa_cons (pe_gi rfl T.g_WRONG_CALL) pa_nil))))
        pss_nil)
      (pss_cons (ps_if (pt_val (pe_meth0 (pv 2) T.cl_Weighing T.me_Weighing_finished G_Weighing_finished (hr.mono (by decide)) T.bd_Weighing_finished .nil pass0))
        (pss_one (ps_ret (pe_lst (pa_cons (pe_gi rfl T.g_OUT_OF_PLACE) pa_nil))))
        pss_nil)
      (pss_cons (ps_expr (pe_bm PySem.F.plainAttrs_list PySem.F.slot_list_append PySem.F.type_list_append mt_append (pe_fld (pv 2) rfl) (pa_cons (pv 1) pa_nil)))
      (pss_one (ps_ret (pe_lst (pa_cons (pe_gi rfl T.g_DONE) pa_nil)))))))), ?_⟩
    cases st with
    | none =>
      obtain ⟨⟨dx, e⟩, hg⟩ := hl
      refine ⟨_, rfl, ln, _, dx, _, _, rfl, e, T.cl_Line, T.no_Line_weighing, rfl, ?_⟩
      refine ⟨_, rfl, rfl, _, rfl, iteT ?_⟩
      refine ⟨by rw [sizeLine_eq]; decide, fun p hp => ?_⟩
      exact Ans.plain k ⟨⟨dx, e⟩, hg⟩ (Same.refl H) rfl rfl hp
    | some x =>
      have hl0 := hl
      obtain ⟨wa, r, lo, co, pl, ⟨dx, e⟩, ⟨xs, hg⟩, hw, n1, n2, n3⟩ := hl
      obtain ⟨dw, ew⟩ := hw.w
      refine ⟨_, rfl, ln, _, dx, _, _, rfl, e, T.cl_Line, T.no_Line_weighing, rfl, ?_⟩
      refine ⟨_, rfl, rfl, _, rfl, iteF ?_⟩
      refine ⟨_, rfl, wa, dw, _, rfl, ew, rfl, wa, r, lo, co, pl, x, rfl, hw, _, rfl, ifD (fun h => ?_) (fun h => ?_)⟩
      · have es : EvenG.step (some x) (.take z) = (some x, EvenG.number (-5)) := by
          show ((some (if x.plan.steps.length ≤ x.readings.length then (x, EvenG.number (-5)) else (⟨x.plan, x.readings ++ [z]⟩, EvenG.number 0)).1 : EvenG.State), (if x.plan.steps.length ≤ x.readings.length then (x, EvenG.number (-5)) else (⟨x.plan, x.readings ++ [z]⟩, EvenG.number 0)).2) = _
          rw [if_pos (by omega)]
        refine ⟨by rw [sizeLine_eq]; decide, fun p hp => ?_⟩
        exact Ans.plain k hl0 (Same.refl H) (by rw [es]) (by rw [es]; rfl) hp
      · have hlt : x.readings.length < x.plan.steps.length := by have := hw.c4; omega
        have es : EvenG.step (some x) (.take z) = (some ⟨x.plan, x.readings ++ [z]⟩, EvenG.number 0) := by
          show ((some (if x.plan.steps.length ≤ x.readings.length then (x, EvenG.number (-5)) else (⟨x.plan, x.readings ++ [z]⟩, EvenG.number 0)).1 : EvenG.State), (if x.plan.steps.length ≤ x.readings.length then (x, EvenG.number (-5)) else (⟨x.plan, x.readings ++ [z]⟩, EvenG.number 0)).2) = _
          rw [if_neg (by omega)]
        refine ⟨_, rfl, wa, _, dw, _, _, rfl, ew, T.cl_Weighing, T.no_Weighing_readings, rfl, .inl ⟨rfl, _, SqL.of hw.rd⟩, _, rfl, r, _, _, rfl, rfl, hw.rd, ?_, ?_⟩
        · rw [List.length_map, sizeLine_eq]
          have := hw.c3
          omega
        have ev : x.readings.map V.int ++ [V.int z] = (x.readings ++ [z]).map V.int := by rw [List.map_append]; rfl
        rw [ev]
        have kpr : Keep r H (upd H r (.lst ((x.readings ++ [z]).map V.int))) := Keep.upd
        have hr1 : (upd H r (.lst ((x.readings ++ [z]).map V.int))) r = some (.lst ((x.readings ++ [z]).map V.int)) := upd_same
        have kp1 : Kp g H (upd H r (.lst ((x.readings ++ [z]).map V.int))) := Kp.upd hw.rd n1 (by intro q; cases q) (by intro u v q; cases q)
        generalize upd H r (.lst ((x.readings ++ [z]).map V.int)) = H1 at kpr hr1 kp1
        refine ⟨by rw [sizeLine_eq]; decide, fun p hp => ?_⟩
        have s2 : Same H1 (upd H1 p (.lst [V.int 0])) := Same.upd hp
        have ins : ∀ {y C dx : Addr} {fs : List (Str × V)}, H y = some (.ins C dx fs) → H1 y = some (.ins C dx fs) := fun {y C dx fs} e => kpr _ _ e (lst_ne hw.rd e).symm
        have hg1 : H1 g = some (.lst xs) := kpr _ _ hg n1.symm
        refine k _ p (kp1.trans (Same.kp s2)) ?_ (by rw [upd_same, es]; rfl) (ne_of_none hg1 hp).symm
        rw [es]
        obtain ⟨⟨dp, ep⟩, hrats⟩ := hw.p
        refine ⟨wa, r, lo, co, pl, ⟨dx, s2 _ _ (ins e)⟩, ⟨xs, s2 _ _ hg1⟩, ?_, n1, n2, n3⟩
        refine WAt.same (H := H1) ?_ s2
        exact
          { hw with
            w := ⟨dw, ins ew⟩
            p := ⟨⟨dp, ins ep⟩, kpr _ _ hrats hw.ne2⟩
            l := kpr _ _ hw.l hw.ne1
            rd := hr1
            c4 := by
              show (x.readings ++ [z]).length ≤ _
              rw [List.length_append, List.length_singleton]
              exact hlt
            rfit := fun y hy => by
              rcases List.mem_append.mp hy with hy | hy
              · exact hw.rfit y hy
              · rw [List.mem_singleton.mp hy]
                exact ⟨hz1, hz2⟩ }
end
section
variable {w : World} {K : PySem.W.Frag} {mg : Str → Option Value} {base : Heap} {a : Ads}
/-- slots: 0 self, 1 weighing -/
theorem ok_Line_state (T : Tx K mg a) : FnOk P w K mg base CX0 4 a.f_Line_state a.d_Line_state ["self"] (sp_Line_state a) := by
  have G_Weighing_steps := ok_Weighing_steps (w := w) (base := base) T
  have G_Weighing_next_load := ok_Weighing_next_load (w := w) (base := base) T
  refine T.F_Line_state.ok sc_Line_state (fun vs H Q E h => ?_) (fun cdv A outer s H vs Q E hr h => ?_)
  · obtain ⟨_, _, _, rfl, _⟩ := h
    rfl
  · obtain ⟨ln, g, st, rfl, hl, k⟩ := h
    refine ⟨_, (pss_cons (ps_set (i := 1) sc_Line_state.nd rfl (Or.inl rfl) (pe_fld (pv 0) rfl))
      (pss_cons (ps_if (pt_cmpR op_isN (pv 1) pe_non (nomark _))
        (pss_one (ps_ret (pe_lst (pa_cons (pe_gi rfl T.g_WRONG_CALL) pa_nil))))
        pss_nil)
      (pss_one (ps_ret (pe_lst (pa_cons (pe_gi rfl T.g_DONE) (pa_cons (pe_meth0 (pv 1) T.cl_Weighing T.me_Weighing_steps G_Weighing_steps (hr.mono (by decide)) T.bd_Weighing_steps .nil pass0) (pa_cons (pe_callB call_len_seq rfl T.b_len bt_len (pa_cons (pe_fld (pv 1) rfl) pa_nil)) (pa_cons (pe_meth0 (pv 1) T.cl_Weighing T.me_Weighing_next_load G_Weighing_next_load (hr.mono (by decide)) T.bd_Weighing_next_load .nil pass0) pa_nil))))))))), ?_⟩
    cases st with
    | none =>
      obtain ⟨⟨dx, e⟩, hg⟩ := hl
      refine ⟨_, rfl, ln, _, dx, _, _, rfl, e, T.cl_Line, T.no_Line_weighing, rfl, ?_⟩
      refine ⟨_, rfl, rfl, _, rfl, iteT ?_⟩
      refine ⟨by rw [sizeLine_eq]; decide, fun p hp => ?_⟩
      exact Ans.plain k ⟨⟨dx, e⟩, hg⟩ (Same.refl H) rfl rfl hp
    | some x =>
      have hl0 := hl
      obtain ⟨wa, r, lo, co, pl, ⟨dx, e⟩, ⟨xs, hg⟩, hw, n1, n2, n3⟩ := hl
      obtain ⟨dw, ew⟩ := hw.w
      refine ⟨_, rfl, ln, _, dx, _, _, rfl, e, T.cl_Line, T.no_Line_weighing, rfl, ?_⟩
      refine ⟨_, rfl, rfl, _, rfl, iteF ?_⟩
      refine ⟨_, rfl, wa, dw, _, rfl, ew, rfl, wa, r, lo, co, pl, x, rfl, hw, _, rfl, wa, _, dw, _, _, rfl, ew, T.cl_Weighing, T.no_Weighing_readings, rfl, r, _, rfl, .inl (SqL.of hw.rd), _, rfl, wa, dw, _, rfl, ew, rfl, wa, r, lo, co, pl, x, rfl, hw, by rw [sizeLine_eq]; show 4 ≤ 16777216; decide, fun p hp => ?_⟩
      refine Ans.plain k hl0 (Same.refl H) rfl ?_ hp
      rw [List.length_map]
      rfl
/-- slots: 0 self, 1 k, 2 weighing -/
theorem ok_Line_told_reading (T : Tx K mg a) : FnOk P w K mg base CX0 1 a.f_Line_told_reading a.d_Line_told_reading ["self", "k"] (sp_Line_told_reading a) := by
  refine T.F_Line_told_reading.ok sc_Line_told_reading (fun vs H Q E h => ?_) (fun cdv A outer s H vs Q E hr h => ?_)
  · obtain ⟨_, _, _, _, rfl, _⟩ := h
    rfl
  · obtain ⟨ln, g, st, i, rfl, hl, k⟩ := h
    refine ⟨_, (pss_cons (ps_set (i := 2) sc_Line_told_reading.nd rfl (Or.inl rfl) (pe_fld (pv 0) rfl))
      (pss_cons (ps_if (pt_cmpR op_isN (pv 2) pe_non (nomark _))
        (pss_one (ps_ret (pe_lst (pa_cons (pe_gi rfl T.g_WRONG_CALL) pa_nil))))
        pss_nil)
      (pss_cons (ps_if (pt_cmpR op_ge (pv 1) (pe_callB call_len_seq rfl T.b_len bt_len (pa_cons (pe_fld (pv 2) rfl) pa_nil)) (nomark _))
        (pss_one (ps_ret (pe_lst (pa_cons (pe_gi rfl T.g_OUT_OF_PLACE) pa_nil))))
        pss_nil)
      (pss_one (ps_ret (pe_lst (pa_cons (pe_gi rfl T.g_DONE) (pa_cons (pe_ix ix_list (pe_fld (pv 2) rfl) (pv 1) (fun _ _ => rfl)) pa_nil)))))))), ?_⟩
    cases st with
    | none =>
      obtain ⟨⟨dx, e⟩, hg⟩ := hl
      refine ⟨_, rfl, ln, _, dx, _, _, rfl, e, T.cl_Line, T.no_Line_weighing, rfl, ?_⟩
      refine ⟨_, rfl, rfl, _, rfl, iteT ?_⟩
      refine ⟨by rw [sizeLine_eq]; decide, fun p hp => ?_⟩
      exact Ans.plain k ⟨⟨dx, e⟩, hg⟩ (Same.refl H) rfl rfl hp
    | some x =>
      have hl0 := hl
      obtain ⟨wa, r, lo, co, pl, ⟨dx, e⟩, ⟨xs, hg⟩, hw, n1, n2, n3⟩ := hl
      obtain ⟨dw, ew⟩ := hw.w
      refine ⟨_, rfl, ln, _, dx, _, _, rfl, e, T.cl_Line, T.no_Line_weighing, rfl, ?_⟩
      refine ⟨_, rfl, rfl, _, rfl, iteF ?_⟩
      refine ⟨_, rfl, _, rfl, wa, _, dw, _, _, rfl, ew, T.cl_Weighing, T.no_Weighing_readings, rfl, r, _, rfl, .inl (SqL.of hw.rd), _, _, rfl, rfl, _, rfl, ifD (fun h => ?_) (fun h => ?_)⟩
      · have hn : x.readings[i]? = none := List.getElem?_eq_none (by rw [List.length_map] at h; omega)
        have es : EvenG.step (some x) (.reading i) = (some x, EvenG.number (-5)) := by
          show ((some x : EvenG.State), (match x.readings[i]? with | some r => (⟨0, [r], []⟩ : EvenG.Answer) | none => EvenG.number (-5))) = _
          rw [hn]
        refine ⟨by rw [sizeLine_eq]; decide, fun p hp => ?_⟩
        exact Ans.plain k hl0 (Same.refl H) (by rw [es]) (by rw [es]; rfl) hp
      · have hlt : i < x.readings.length := by rw [List.length_map] at h; omega
        obtain ⟨z, hz⟩ : ∃ z, x.readings[i]? = some z := ⟨_, List.getElem?_eq_getElem hlt⟩
        have es : EvenG.step (some x) (.reading i) = (some x, ⟨0, [z], []⟩) := by
          show ((some x : EvenG.State), (match x.readings[i]? with | some r => (⟨0, [r], []⟩ : EvenG.Answer) | none => EvenG.number (-5))) = _
          rw [hz]
        refine ⟨_, rfl, wa, _, dw, _, _, rfl, ew, T.cl_Weighing, T.no_Weighing_readings, rfl, _, rfl, r, _, _, V.int z, rfl, rfl, SqL.of hw.rd, atI_nat (by rw [List.getElem?_map, hz]; rfl), by rw [sizeLine_eq]; show 2 ≤ 16777216; decide, fun p hp => ?_⟩
        exact Ans.plain k hl0 (Same.refl H) (by rw [es]) (by rw [es]; rfl) hp
end
/-! ### the calls' list -/
def CallsAt (K : PySem.W.Frag) (H : Hp) (c : Addr) (l : List Int) : Prop := (∃ o, H c = some (.frz o (.lst (l.map V.int)))) ∨ ∀ H' : Hp, SqL K H' c (l.map V.int)
theorem CallsAt.seq {K : PySem.W.Frag} {H : Hp} {c : Addr} {l : List Int} : CallsAt K H c l → SqL K H c (l.map V.int)
  | .inl ⟨o, h⟩ => .inl (.inr ⟨o, h⟩)
  | .inr h => h H
theorem CallsAt.keep {K : PySem.W.Frag} {H H' : Hp} {c z C dx : Addr} {fs : List (Str × V)} {l : List Int} (kp : Keep z H H') (hz : H z = some (.ins C dx fs)) : CallsAt K H c l → CallsAt K H' c l
  | .inl ⟨o, h⟩ => .inl ⟨o, kp _ _ h (ne_of h hz (by intro q; cases q))⟩
  | .inr h => .inr h
theorem CallsAt.kp {K : PySem.W.Frag} {H H' : Hp} {c g : Addr} {l : List Int} (kp : Kp g H H') : CallsAt K H c l → CallsAt K H' c l
  | .inl ⟨o, h⟩ => .inl ⟨o, kp _ _ h (.inr (.inr ⟨_, _, rfl⟩))⟩
  | .inr h => .inr h
theorem drop_cons {l rest : List Int} {p : Nat} {z : Int} (h : l.drop p = z :: rest) : l[p]? = some z ∧ l.drop (p + 1) = rest := by
  constructor
  · have := congrArg (fun y => y[0]?) h
    simpa using this
  · have := congrArg (List.drop 1) h
    rw [List.drop_drop] at this
    simpa using this
theorem drop_row {l x t : List Int} {p : Nat} (h : l.drop p = My.putR x ++ t) : l.drop (p + (x.length + 1)) = t := by
  have := congrArg (List.drop (x.length + 1)) h
  rw [List.drop_drop] at this
  rw [this]
  unfold My.putR
  rw [List.cons_append, List.drop_succ_cons, List.drop_left]
theorem RdAt.kp {C : Addr} {H H' : Hp} {r c g : Addr} {p : Int} (kp : Kp g H H') : RdAt C H r c p → RdAt C H' r c p
  | ⟨dx, h⟩ => ⟨dx, kp _ _ h (.inr (.inl rfl))⟩
/-- what a call gives, read from the list at the place p -/
def Step (a : Ads) (K : PySem.W.Frag) (ln g rd c : Addr) (l : List Int) (st : EvenG.State) (cl : List (List Int)) (t : List Int) (H : Hp) (Q : VK) : Prop :=
  ∀ (H' : Hp) (q : Addr) (p' : Nat), RdAt a.c_CallReader H' rd c p' → l.drop p' = t → CallsAt K H' c l → LineAt a H' ln g (EvenGNeutral.step st cl).1 → H' q = some (.lst ((EvenGNeutral.step st cl).2.map V.int)) → q ≠ g →
    (∀ xs, H g = some (.lst xs) → H' g = some (.lst xs)) → Q (.ref q) H'
def sp_answer_begin (a : Ads) (K : PySem.W.Frag) : Sp := fun vs H Q _ => ∃ (ln g rd c : Addr) (st : EvenG.State) (p : Nat) (l : List Int) (d : Int) (r0 r1 t : List Int), vs = [.ref ln, .ref rd] ∧ LineAt a H ln g st ∧ RdAt a.c_CallReader H rd c p ∧ CallsAt K H c l ∧
  l.drop p = d :: (My.putR r0 ++ (My.putR r1 ++ t)) ∧ EvenGNeutral.asked1 [[0, d], r0, r1] = true ∧ Step a K ln g rd c l st [[0, d], r0, r1] t H Q
def sp_answer_call (a : Ads) (K : PySem.W.Frag) : Sp := fun vs H Q _ => ∃ (ln g rd c : Addr) (st : EvenG.State) (p : Nat) (l : List Int) (cl : List (List Int)) (t : List Int), vs = [.ref ln, .ref rd] ∧ LineAt a H ln g st ∧ RdAt a.c_CallReader H rd c p ∧ CallsAt K H c l ∧
  My.Lies (l.drop p) cl t ∧ EvenGNeutral.asked1 cl = true ∧ Step a K ln g rd c l st cl t H Q
theorem nat_of {z : Int} {b : Nat} (h : EvenGNeutral.natural z b = true) : ((z.toNat : Nat) : Int) = z := by
  unfold EvenGNeutral.natural at h
  rw [Bool.and_eq_true] at h
  have := of_decide_eq_true h.1
  omega
/-- from a call's answer to the step of the list's call -/
theorem Step.of {a : Ads} {K : PySem.W.Frag} {ln g rd c : Addr} {l : List Int} {st : EvenG.State} {cl : List (List Int)} {t : List Int} {H H1 : Hp} {Q : VK} {x : EvenG.Call} {p : Nat} (h : Step a K ln g rd c l st cl t H Q) (hx : EvenGNeutral.callOf cl = some x)
    (hr : RdAt a.c_CallReader H1 rd c p) (ht : l.drop p = t) (hc : CallsAt K H1 c l) (hg : ∀ xs, H g = some (.lst xs) → H1 g = some (.lst xs)) : Ans a ln g st x H1 Q := fun H' q kp hl hq hne => by
  have es : EvenGNeutral.step st cl = ((EvenG.step st x).1, EvenGNeutral.shown (EvenG.step st x).2) := by
    unfold EvenGNeutral.step
    rw [hx]
  refine h H' q p (hr.kp kp) ht (hc.kp kp) (by rw [es]; exact hl) (by rw [es]; exact hq) hne fun xs e => kp _ _ (hg xs e) (.inl rfl)
theorem LineAt.ln {a : Ads} {H : Hp} {ln g : Addr} : ∀ {st : EvenG.State}, LineAt a H ln g st → ∃ dx v, H ln = some (.ins a.c_Line dx (lnF v))
  | none, ⟨⟨dx, e⟩, _⟩ => ⟨dx, _, e⟩
  | some _, ⟨_, _, _, _, _, ⟨dx, e⟩, _⟩ => ⟨dx, _, e⟩
section
variable {w : World} {K : PySem.W.Frag} {mg : Str → Option Value} {base : Heap} {a : Ads}
/-- slots: 0 line, 1 reader, 2 degree, 3 loads, 4 counts_text -/
theorem ok_answer_begin (T : Tx K mg a) : FnOk P w K mg base CX0 48 a.f_answer_begin a.d_answer_begin ["line", "reader"] (sp_answer_begin a K) := by
  have G_CallReader_next_number := ok_CallReader_next_number (w := w) (base := base) T
  have G_CallReader_next_row := ok_CallReader_next_row (w := w) (base := base) T
  have G_Line_begin := ok_Line_begin (w := w) (base := base) T
  refine T.F_answer_begin.ok sc_answer_begin (fun vs H Q E h => ?_) (fun cdv A outer s H vs Q E hr h => ?_)
  · obtain ⟨_, _, _, _, _, _, _, _, _, _, _, rfl, _⟩ := h
    rfl
  · obtain ⟨ln, g, rd, c, st, p, l, d, r0, r1, t, rfl, hl, ⟨dr, er⟩, hc, hd, hask, k⟩ := h
    refine ⟨_, (pss_cons (ps_set (i := 2) sc_answer_begin.nd rfl (Or.inl rfl) (pe_meth0 (pv 1) T.cl_CallReader T.me_CallReader_next_number G_CallReader_next_number (hr.mono (by decide)) T.bd_CallReader_next_number .nil pass0))
      (pss_cons (ps_set (i := 3) sc_answer_begin.nd rfl (Or.inl rfl) (pe_meth0 (pv 1) T.cl_CallReader T.me_CallReader_next_row G_CallReader_next_row (hr.mono (by decide)) T.bd_CallReader_next_row .nil pass0))
      (pss_cons (ps_set (i := 4) sc_answer_begin.nd rfl (Or.inl rfl) (pe_meth0 (pv 1) T.cl_CallReader T.me_CallReader_next_row G_CallReader_next_row (hr.mono (by decide)) T.bd_CallReader_next_row .nil pass0))
      (pss_one (ps_ret (pe_meth (pv 0) T.cl_Line T.me_Line_begin G_Line_begin (hr.mono (by decide)) T.bd_Line_begin .nil pass0 (pa_cons (pv 2) (pa_cons (pv 3) (pa_cons (pv 4) pa_nil))))))))), ?_⟩
    have hk : (r0.all (fun (z : Int) => EvenGNeutral.natural z 32) && r1.all (fun (z : Int) => EvenGNeutral.natural z 8) && EvenGNeutral.natural d 32) = true := hask
    rw [Bool.and_eq_true, Bool.and_eq_true] at hk
    obtain ⟨hz, hd1⟩ := drop_cons hd
    refine ⟨_, rfl, rd, dr, _, rfl, er, rfl, rd, c, p, l, d, rfl, ⟨dr, er⟩, hc.seq, hz, fun H1 ⟨dr1, er1⟩ k1 => ?_⟩
    have hl1 := LineAt.reader k1 er rfl hl
    have hc1 := hc.keep k1 er
    refine ⟨_, rfl, rd, dr1, _, rfl, er1, rfl, rd, c, p + 1, l, r0, _, rfl, ⟨dr1, er1⟩, hc1.seq, hd1, fun H2 q0 ⟨dr2, er2⟩ k2 hq0 hq0' => ?_⟩
    have hl2 := LineAt.reader k2 er1 rfl hl1
    have hc2 := hc1.keep k2 er1
    have hd2 := drop_row hd1
    refine ⟨_, rfl, rd, dr2, _, rfl, er2, rfl, rd, c, p + 1 + (r0.length + 1), l, r1, t, rfl, ⟨dr2, er2⟩, hc2.seq, hd2, fun H3 q1 ⟨dr3, er3⟩ k3 hq1 hq1' => ?_⟩
    have hl3 := LineAt.reader k3 er2 rfl hl2
    have hc3 := hc2.keep k3 er2
    have hd3 := drop_row hd2
    obtain ⟨dl, vl, hln⟩ := hl3.ln
    have gk : ∀ xs, H g = some (.lst xs) → H1 g = some (.lst xs) ∧ H3 g = some (.lst xs) := fun xs e => by
      have e1 := k1 _ _ e (lst_ne e er)
      have e2 := k2 _ _ e1 (lst_ne e1 er1)
      exact ⟨e1, k3 _ _ e2 (lst_ne e2 er2)⟩
    have hng : q0 ≠ g := fun q => by
      have : ∃ xs, H1 g = some (.lst xs) := by
        cases st with
        | none => exact hl1.2
        | some x =>
          obtain ⟨_, _, _, _, _, _, hg, _⟩ := hl1
          exact hg
      obtain ⟨xs, e⟩ := this
      rw [q, e] at hq0
      cases hq0
    have e0 : r0.map V.int = (EvenGNeutral.nats r0).map nV := by
      rw [nV_ints, My.nats_back hk.1.1]
    have e1 : r1.map V.int = (EvenGNeutral.text r1).map bV := by
      have := My.text_back hk.1.2
      conv => lhs; rw [← this]
      rw [List.map_map]
      rfl
    have hd0 : ((d.toNat : Nat) : Int) = d := nat_of hk.2
    have hq0'' := k3 _ _ hq0' (lst_ne hq0' er2)
    rw [e0] at hq0''
    rw [e1] at hq1'
    refine ⟨_, rfl, ln, dl, _, rfl, hln, rfl, _, rfl, _, rfl, _, rfl, ln, g, q0, q1, st, d.toNat, EvenGNeutral.nats r0, EvenGNeutral.text r1, by rw [hd0]; rfl, hl3, hq0'', hng, SqL.of hq1', ?_⟩
    exact Step.of k rfl ⟨dr3, er3⟩ hd3 hc3 fun xs e => (gk xs e).2
end
theorem cutto_int (rs : List Int) (k : Nat) : cutV (rs.map V.int) none (some (k : Int)) = (rs.take k).map V.int := by
  rw [List.map_take]
  exact cut_to _ k
theorem LineAt.g {a : Ads} {H : Hp} {ln g : Addr} : ∀ {st : EvenG.State}, LineAt a H ln g st → ∃ xs, H g = some (.lst xs)
  | none, h => h.2
  | some _, ⟨_, _, _, _, _, _, hg, _⟩ => hg
/-- an answer laid by others, nothing else changed -/
theorem Ans.text {a : Ads} {ln g : Addr} {st : EvenG.State} {c : EvenG.Call} {H H1 : Hp} {Q : VK} {A : EvenG.Answer} (h : Ans a ln g st c H Q) (hl : LineAt a H ln g st) (s1 : Same H H1) (es : EvenG.step st c = (st, A)) {p : Addr} (hp0 : H p = none) (hp : H1 p = some (.lst ((EvenGNeutral.shown A).map V.int))) : Q (.ref p) H1 := by
  obtain ⟨xs, hg⟩ := hl.g
  refine h _ p (Same.kp s1) ?_ (by rw [hp, es]) ?_
  · rw [es]
    exact hl.same s1
  · intro e
    rw [e, hg] at hp0
    cases hp0
def sp_Line_back (a : Ads) : Sp := fun vs H Q _ => ∃ (ln g : Addr) (st : EvenG.State) (k : Nat), vs = [.ref ln, .int k] ∧ LineAt a H ln g st ∧ Ans a ln g st (.back k) H Q
def sp_Line_comes (a : Ads) : Sp := fun vs H Q _ => ∃ (ln g : Addr) (st : EvenG.State) (k : Nat), vs = [.ref ln, .int k] ∧ LineAt a H ln g st ∧ Ans a ln g st (.comes k) H Q
def sp_Line_says (a : Ads) : Sp := fun vs H Q _ => ∃ (ln g : Addr) (st : EvenG.State) (k : Nat) (v : V) (b1 b2 b3 b4 : List UInt8), vs = [.ref ln, .int k, v] ∧ LineAt a H ln g st ∧ OptBs a H v (EvenG.numOf b1) (unsg b2) (unsg b3) (unsg b4) ∧ Ans a ln g st (.says k b1 b2 b3 b4) H Q
/-- what a says answers, by what was read -/
def saysR (x : EvenG.Held) (k : Nat) : Option Rat → Option Rat → Option Rat → Option Rat → EvenG.Answer
  | some q, some u, some v, some w => if 2 < k then EvenG.number (-1) else if x.readings.length = x.plan.steps.length then EvenG.gives [EvenG.saidNum x k q u v w] else EvenG.number (-5)
  | _, _, _, _ => EvenG.number (-1)
theorem says_is (x : EvenG.Held) (k : Nat) (b1 b2 b3 b4 : List UInt8) : EvenG.saysOf x k b1 b2 b3 b4 = saysR x k (EvenG.numOf b1) (unsg b2) (unsg b3) (unsg b4) := by
  unfold EvenG.saysOf unsg
  by_cases hk : 2 < k
  · rw [if_pos hk]
    unfold saysR
    split
    · rw [if_pos hk]
    · rfl
  · rw [if_neg hk]
    cases e1 : EvenG.numOf b1 with
    | none => rfl
    | some q =>
      cases e2 : EvenG.numOf b2 with
      | none => rfl
      | some u =>
        cases e3 : EvenG.numOf b3 with
        | none =>
          show EvenG.number (-1) = saysR x k (some q) (if u < 0 then none else some u) none _
          split <;> rfl
        | some v =>
          cases e4 : EvenG.numOf b4 with
          | none =>
            show EvenG.number (-1) = saysR x k (some q) (if u < 0 then none else some u) (if v < 0 then none else some v) none
            split <;> split <;> rfl
          | some w =>
            show (if u < 0 ∨ v < 0 ∨ w < 0 then EvenG.number (-1) else if x.readings.length = x.plan.steps.length then EvenG.gives [EvenG.saidNum x k q u v w] else EvenG.number (-5)) = saysR x k (some q) (if u < 0 then none else some u) (if v < 0 then none else some v) (if w < 0 then none else some w)
            by_cases hu : u < 0
            · rw [if_pos (.inl hu), if_pos hu]
              rfl
            · by_cases hv : v < 0
              · rw [if_pos (.inr (.inl hv)), if_neg hu, if_pos hv]
                rfl
              · by_cases hw : w < 0
                · rw [if_pos (.inr (.inr hw)), if_neg hu, if_neg hv, if_pos hw]
                  rfl
                · rw [if_neg (fun h => h.elim hu fun h => h.elim hv hw), if_neg hu, if_neg hv, if_neg hw]
                  show _ = if 2 < k then _ else _
                  rw [if_neg hk]
theorem says_big {x : EvenG.Held} {k : Nat} (hk : 2 < k) : ∀ o1 o2 o3 o4, saysR x k o1 o2 o3 o4 = EvenG.number (-1) := fun o1 o2 o3 o4 => by
  unfold saysR
  split
  · rw [if_pos hk]
  · rfl
theorem bs_cases {a : Ads} {H : Hp} {v : V} {x : EvenG.Held} {k : Nat} : ∀ {o1 o2 o3 o4 : Option Rat}, OptBs a H v o1 o2 o3 o4 → (v = .non ∧ saysR x k o1 o2 o3 o4 = EvenG.number (-1)) ∨ ∃ q u y z p, v = .ref p ∧ BsAt a H p q u y z ∧ o1 = some q ∧ o2 = some u ∧ o3 = some y ∧ o4 = some z
  | some q, some u, some y, some z, ⟨p, e, h⟩ => .inr ⟨q, u, y, z, p, e, h, rfl, rfl, rfl, rfl⟩
  | none, _, _, _, h => .inl ⟨h, rfl⟩
  | some _, none, _, _, h => .inl ⟨h, rfl⟩
  | some _, some _, none, _, h => .inl ⟨h, rfl⟩
  | some _, some _, some _, none, h => .inl ⟨h, rfl⟩
theorem unsg_bits {s : List UInt8} {u : Rat} (h : unsg s = some u) : Bits 2049 u := by
  unfold unsg at h
  cases e : EvenG.numOf s with
  | none => rw [e] at h; cases h
  | some q =>
    rw [e] at h
    have h' : (if q < 0 then none else some q) = some u := h
    split at h'
    · cases h'
    · cases h'
      exact numOf_bits e
def sp_answer_says (a : Ads) (K : PySem.W.Frag) : Sp := fun vs H Q _ => ∃ (ln g rd c : Addr) (st : EvenG.State) (p : Nat) (l : List Int) (x : Int) (r0 r1 r2 r3 t : List Int), vs = [.ref ln, .ref rd] ∧ LineAt a H ln g st ∧ RdAt a.c_CallReader H rd c p ∧ CallsAt K H c l ∧
  l.drop p = x :: (My.putR r0 ++ (My.putR r1 ++ (My.putR r2 ++ (My.putR r3 ++ t)))) ∧ EvenGNeutral.asked1 [[6, x], r0, r1, r2, r3] = true ∧ Step a K ln g rd c l st [[6, x], r0, r1, r2, r3] t H Q
section
variable {w : World} {K : PySem.W.Frag} {mg : Str → Option Value} {base : Heap} {a : Ads}
/-- slots: 0 self, 1 k, 2 weighing -/
theorem ok_Line_back (T : Tx K mg a) : FnOk P w K mg base CX0 1 a.f_Line_back a.d_Line_back ["self", "k"] (sp_Line_back a) := by
  refine T.F_Line_back.ok sc_Line_back (fun vs H Q E h => ?_) (fun cdv A outer s H vs Q E hr h => ?_)
  · obtain ⟨_, _, _, _, rfl, _⟩ := h
    rfl
  · obtain ⟨ln, g, st, i, rfl, hl, k⟩ := h
    refine ⟨_, (pss_cons (ps_set (i := 2) sc_Line_back.nd rfl (Or.inl rfl) (pe_fld (pv 0) rfl))
      (pss_cons (ps_if (pt_cmpR op_isN (pv 2) pe_non (nomark _))
        (pss_one (ps_ret (pe_lst (pa_cons (pe_gi rfl T.g_WRONG_CALL) pa_nil))))
        pss_nil)
      (pss_cons (ps_if (pt_cmpR op_gt (pv 1) (pe_callB call_len_seq rfl T.b_len bt_len (pa_cons (pe_fld (pv 2) rfl) pa_nil)) (nomark _))
        (pss_one (ps_ret (pe_lst (pa_cons (pe_gi rfl T.g_OUT_OF_PLACE) pa_nil))))
        pss_nil)
      (pss_cons (ps_fld (pv 2) (pe_slice sl_list (pe_fld (pv 2) rfl) po_none (po_some (pv 1))) rfl)
      (pss_one (ps_ret (pe_lst (pa_cons (pe_gi rfl T.g_DONE) pa_nil)))))))), ?_⟩
    cases st with
    | none =>
      obtain ⟨⟨dx, e⟩, hg⟩ := hl
      refine ⟨_, rfl, ln, _, dx, _, _, rfl, e, T.cl_Line, T.no_Line_weighing, rfl, ?_⟩
      refine ⟨_, rfl, rfl, _, rfl, iteT ?_⟩
      refine ⟨by rw [sizeLine_eq]; decide, fun p hp => ?_⟩
      exact Ans.plain k ⟨⟨dx, e⟩, hg⟩ (Same.refl H) rfl rfl hp
    | some x =>
      have hl0 := hl
      obtain ⟨wa, r, lo, co, pl, ⟨dx, e⟩, ⟨xs, hg⟩, hw, n1, n2, n3⟩ := hl
      obtain ⟨dw, ew⟩ := hw.w
      refine ⟨_, rfl, ln, _, dx, _, _, rfl, e, T.cl_Line, T.no_Line_weighing, rfl, ?_⟩
      refine ⟨_, rfl, rfl, _, rfl, iteF ?_⟩
      refine ⟨_, rfl, _, rfl, wa, _, dw, _, _, rfl, ew, T.cl_Weighing, T.no_Weighing_readings, rfl, r, _, rfl, .inl (SqL.of hw.rd), _, _, rfl, rfl, _, rfl, ifD (fun h => ?_) (fun h => ?_)⟩
      · have es : EvenG.step (some x) (.back i) = (some x, EvenG.number (-5)) := by
          show ((some (if x.readings.length < i then (x, EvenG.number (-5)) else (⟨x.plan, x.readings.take i⟩, EvenG.number 0)).1 : EvenG.State), (if x.readings.length < i then (x, EvenG.number (-5)) else (⟨x.plan, x.readings.take i⟩, EvenG.number 0)).2) = _
          rw [if_pos (by rw [List.length_map] at h; omega)]
        refine ⟨by rw [sizeLine_eq]; decide, fun p hp => ?_⟩
        exact Ans.plain k hl0 (Same.refl H) (by rw [es]) (by rw [es]; rfl) hp
      · have es : EvenG.step (some x) (.back i) = (some ⟨x.plan, x.readings.take i⟩, EvenG.number 0) := by
          show ((some (if x.readings.length < i then (x, EvenG.number (-5)) else (⟨x.plan, x.readings.take i⟩, EvenG.number 0)).1 : EvenG.State), (if x.readings.length < i then (x, EvenG.number (-5)) else (⟨x.plan, x.readings.take i⟩, EvenG.number 0)).2) = _
          rw [if_neg (by rw [List.length_map] at h; omega)]
        refine ⟨_, rfl, wa, _, dw, _, _, rfl, ew, T.cl_Weighing, T.no_Weighing_readings, rfl, _, rfl, _, rfl, r, _, rfl, SqL.of hw.rd, fun z hz => ?_⟩
        rw [cutto_int]
        have hgz : z ≠ g := fun q => by rw [q, hg] at hz; cases hz
        have hloz : lo ≠ z := fun q => by rw [← q, hw.l] at hz; cases hz
        have hcoz : co ≠ z := fun q => by rw [← q, hw.p.2] at hz; cases hz
        have s1 : Same H (upd H z (.lst ((x.readings.take i).map V.int))) := Same.upd hz
        have hz1 : (upd H z (.lst ((x.readings.take i).map V.int))) z = some (.lst ((x.readings.take i).map V.int)) := upd_same
        generalize upd H z (.lst ((x.readings.take i).map V.int)) = H1 at s1 hz1
        have ew1 := s1 _ _ ew
        refine ⟨_, rfl, wa, _, dw, _, rfl, ew1, T.cl_Weighing, T.no_Weighing_readings, (by show 2 < 1000; decide), ?_⟩
        have eF : putF "readings" (V.ref z) (wF pl r) = wF pl z := rfl
        rw [eF]
        have kpw : Keep wa H1 (upd H1 wa (.ins a.c_Weighing dw (wF pl z))) := Keep.upd
        have hw2 : (upd H1 wa (.ins a.c_Weighing dw (wF pl z))) wa = some (.ins a.c_Weighing dw (wF pl z)) := upd_same
        have kp2 : Kp g H1 (upd H1 wa (.ins a.c_Weighing dw (wF pl z))) := Kp.upd ew1 (lst_ne (s1 _ _ hg) ew1).symm (sne nm2) (by intro u v q; cases q)
        generalize upd H1 wa (.ins a.c_Weighing dw (wF pl z)) = H2 at kpw hw2 kp2
        have lk : ∀ {y : Addr} {ys : List V}, H1 y = some (.lst ys) → H2 y = some (.lst ys) := fun {y ys} e => kpw _ _ e (lst_ne e ew1)
        refine ⟨by rw [sizeLine_eq]; decide, fun p hp => ?_⟩
        have s3 : Same H2 (upd H2 p (.lst [V.int 0])) := Same.upd hp
        have hg2 := lk (s1 _ _ hg)
        refine k _ p ((Same.kp s1).trans (kp2.trans (Same.kp s3))) ?_ (by rw [upd_same, es]; rfl) (ne_of_none hg2 hp).symm
        rw [es]
        obtain ⟨⟨dp, ep⟩, hrats⟩ := hw.p
        refine ⟨wa, z, lo, co, pl, ⟨dx, s3 _ _ (kpw _ _ (s1 _ _ e) (ne_nms (s1 _ _ e) ew1 (sne nm5.symm)))⟩, ⟨xs, s3 _ _ hg2⟩, ?_, hgz, n2, n3⟩
        refine WAt.same (H := H2) ?_ s3
        exact
          { hw with
            w := ⟨dw, hw2⟩
            p := ⟨⟨dp, kpw _ _ (s1 _ _ ep) (ne_nms (s1 _ _ ep) ew1 (sne nm8))⟩, lk (s1 _ _ hrats)⟩
            l := lk (s1 _ _ hw.l)
            rd := lk hz1
            ne1 := hloz
            ne2 := hcoz
            c4 := by
              show (x.readings.take i).length ≤ x.plan.steps.length
              rw [List.length_take]
              have := hw.c4
              omega
            rfit := fun y hy => hw.rfit y (List.mem_of_mem_take hy) }
/-- slots: 0 self, 1 load, 2 weighing -/
theorem ok_Line_comes (T : Tx K mg a) : FnOk P w K mg base CX0 44 a.f_Line_comes a.d_Line_comes ["self", "load"] (sp_Line_comes a) := by
  have G_text_answer := ok_text_answer (w := w) (base := base) T
  have G_Plan_comes_out := ok_Plan_comes_out (w := w) (base := base) T
  refine T.F_Line_comes.ok sc_Line_comes (fun vs H Q E h => ?_) (fun cdv A outer s H vs Q E hr h => ?_)
  · obtain ⟨_, _, _, _, rfl, _⟩ := h
    rfl
  · obtain ⟨ln, g, st, i, rfl, hl, k⟩ := h
    refine ⟨_, (pss_cons (ps_set (i := 2) sc_Line_comes.nd rfl (Or.inl rfl) (pe_fld (pv 0) rfl))
      (pss_cons (ps_if (PW.pt (pw_or (pt_cmpR op_isN (pv 2) pe_non (nomark _)) (pw_or1 (pt_cmpR op_gt (pv 1) (pe_gi rfl T.g_HIGHEST_LOAD) (nomark _)))))
        (pss_one (ps_ret (pe_lst (pa_cons (pe_gi rfl T.g_WRONG_CALL) pa_nil))))
        pss_nil)
      (pss_one (ps_ret (pe_call G_text_answer (hr.mono (by decide)) rfl T.m_text_answer T.F_text_answer.kp T.bd_text_answer .nil pass0 (pa_cons (pe_meth (pe_fld (pv 2) rfl) T.cl_Plan T.me_Plan_comes_out G_Plan_comes_out (hr.mono (by decide)) T.bd_Plan_comes_out .nil pass0 (pa_cons (pv 1) pa_nil)) pa_nil)))))), ?_⟩
    cases st with
    | none =>
      obtain ⟨⟨dx, e⟩, hg⟩ := hl
      refine ⟨_, rfl, ln, _, dx, _, _, rfl, e, T.cl_Line, T.no_Line_weighing, rfl, ?_⟩
      refine ⟨_, rfl, rfl, _, rfl, iteT (iteT ?_)⟩
      refine ⟨by rw [sizeLine_eq]; decide, fun p hp => ?_⟩
      exact Ans.plain k ⟨⟨dx, e⟩, hg⟩ (Same.refl H) rfl rfl hp
    | some x =>
      have hl0 := hl
      obtain ⟨wa, r, lo, co, pl, ⟨dx, e⟩, ⟨xs, hg⟩, hw, n1, n2, n3⟩ := hl
      obtain ⟨dw, ew⟩ := hw.w
      obtain ⟨dp, ep⟩ := hw.p.1
      have es0 : EvenG.step (some x) (.comes i) = (some x, if Eb.Balance.LOADS ≤ i then EvenG.number (-1) else EvenG.gives [x.plan.load i]) := rfl
      have hL : Eb.Balance.LOADS = 16 := rfl
      refine ⟨_, rfl, ln, _, dx, _, _, rfl, e, T.cl_Line, T.no_Line_weighing, rfl, ?_⟩
      refine ⟨_, rfl, rfl, _, rfl, iteF ?_⟩
      refine ⟨_, rfl, _, _, rfl, rfl, _, rfl, ifD (fun h => ?_) (fun h => ?_)⟩
      · rw [if_pos (by omega)] at es0
        refine ⟨by rw [sizeLine_eq]; decide, fun p hp => ?_⟩
        exact Ans.plain k hl0 (Same.refl H) (by rw [es0]) (by rw [es0]; rfl) hp
      · rw [if_neg (by omega)] at es0
        refine ⟨_, rfl, wa, _, dw, _, _, rfl, ew, T.cl_Weighing, T.no_Weighing_plan, rfl, pl, dp, _, rfl, ep, rfl, _, rfl, pl, lo, co, i, x.plan.steps, x.plan.counts, x.plan.degree, rfl, hw.p, hw.l, hw.c1, by have := hw.c1; have := hw.c3; omega, fun H1 y z1 hy => ?_⟩
        refine ⟨y, _, rfl, hy, fun H2 p z2 hp0 hp => ?_⟩
        exact Ans.text k hl0 (z1.trans z2) es0 (z1.free hp0) hp
/-- slots: 0 self, 1 which, 2 basis, 3 weighing -/
theorem ok_Line_says (T : Tx K mg a) : FnOk P w K mg base CX0 47 a.f_Line_says a.d_Line_says ["self", "which", "basis"] (sp_Line_says a) := by
  have G_Weighing_finished := ok_Weighing_finished (w := w) (base := base) T
  have G_text_answer := ok_text_answer (w := w) (base := base) T
  have G_told := ok_told (w := w) (base := base) T
  refine T.F_Line_says.ok sc_Line_says (fun vs H Q E h => ?_) (fun cdv A outer s H vs Q E hr h => ?_)
  · obtain ⟨_, _, _, _, _, _, _, _, _, rfl, _⟩ := h
    rfl
  · obtain ⟨ln, g, st, i, v, b1, b2, b3, b4, rfl, hl, hb, k⟩ := h
    refine ⟨_, (pss_cons (ps_set (i := 3) sc_Line_says.nd rfl (Or.inl rfl) (pe_fld (pv 0) rfl))
      (pss_cons (ps_if (PW.pt (pw_or (pt_cmpR op_isN (pv 3) pe_non (nomark _)) (pw_or (pt_cmpR op_gt (pv 1) (pe_gi rfl T.g_SQUARE) (nomark _)) (pw_or1 (pt_cmpR op_isN (pv 2) pe_non (nomark _))))))
        (pss_one (ps_ret (pe_lst (pa_cons (pe_gi rfl T.g_WRONG_CALL) pa_nil))))
        pss_nil)
      (pss_cons (ps_if (pt_not (pt_val (pe_meth0 (pv 3) T.cl_Weighing T.me_Weighing_finished G_Weighing_finished (hr.mono (by decide)) T.bd_Weighing_finished .nil pass0)))
        (pss_one (ps_ret (pe_lst (pa_cons (pe_gi rfl T.g_OUT_OF_PLACE) pa_nil))))
        pss_nil)
      (pss_one (ps_ret (pe_call G_text_answer (hr.mono (by decide)) rfl T.m_text_answer T.F_text_answer.kp T.bd_text_answer .nil pass0 (pa_cons (pe_call G_told (hr.mono (by decide)) rfl T.m_told T.F_told.kp T.bd_told .nil pass0 (pa_cons (pv 1) (pa_cons (pe_fld (pv 3) rfl) (pa_cons (pe_fld (pv 3) rfl) (pa_cons (pv 2) pa_nil))))) pa_nil))))))), ?_⟩
    cases st with
    | none =>
      obtain ⟨⟨dx, e⟩, hg⟩ := hl
      refine ⟨_, rfl, ln, _, dx, _, _, rfl, e, T.cl_Line, T.no_Line_weighing, rfl, ?_⟩
      refine ⟨_, rfl, rfl, _, rfl, iteT (iteT ?_)⟩
      refine ⟨by rw [sizeLine_eq]; decide, fun p hp => ?_⟩
      exact Ans.plain k ⟨⟨dx, e⟩, hg⟩ (Same.refl H) rfl rfl hp
    | some x =>
      have hl0 := hl
      obtain ⟨wa, r, lo, co, pl, ⟨dx, e⟩, ⟨xs, hg⟩, hw, n1, n2, n3⟩ := hl
      obtain ⟨dw, ew⟩ := hw.w
      have es0 : EvenG.step (some x) (.says i b1 b2 b3 b4) = (some x, saysR x i (EvenG.numOf b1) (unsg b2) (unsg b3) (unsg b4)) := by
        rw [← says_is]
        rfl
      refine ⟨_, rfl, ln, _, dx, _, _, rfl, e, T.cl_Line, T.no_Line_weighing, rfl, ?_⟩
      refine ⟨_, rfl, rfl, _, rfl, iteF ?_⟩
      refine ⟨_, rfl, _, _, rfl, rfl, _, rfl, ifD (fun h => iteT ?_) (fun h => ?_)⟩
      · rw [says_big (by omega)] at es0
        refine ⟨by rw [sizeLine_eq]; decide, fun p hp => ?_⟩
        exact Ans.plain k hl0 (Same.refl H) (by rw [es0]) (by rw [es0]; rfl) hp
      have hk2 : ¬ 2 < i := by omega
      rcases bs_cases (x := x) (k := i) hb with ⟨rfl, eb⟩ | ⟨q, u, y, z, b, rfl, hbs, o1, o2, o3, o4⟩
      · rw [eb] at es0
        refine ⟨_, rfl, rfl, _, rfl, iteT ?_⟩
        refine ⟨by rw [sizeLine_eq]; decide, fun p hp => ?_⟩
        exact Ans.plain k hl0 (Same.refl H) (by rw [es0]) (by rw [es0]; rfl) hp
      · rw [o1, o2, o3, o4] at es0
        have es0 : EvenG.step (some x) (.says i b1 b2 b3 b4) = (some x, if 2 < i then EvenG.number (-1) else if x.readings.length = x.plan.steps.length then EvenG.gives [EvenG.saidNum x i q u y z] else EvenG.number (-5)) := es0
        rw [if_neg hk2] at es0
        refine ⟨_, rfl, rfl, _, rfl, iteF ?_⟩
        refine ⟨_, rfl, wa, dw, _, rfl, ew, rfl, wa, r, lo, co, pl, x, rfl, hw, _, rfl, ifN (fun h1 => ?_) (fun h1 => ?_)⟩
        · rw [if_neg h1] at es0
          refine ⟨by rw [sizeLine_eq]; decide, fun p hp => ?_⟩
          exact Ans.plain k hl0 (Same.refl H) (by rw [es0]) (by rw [es0]; rfl) hp
        · rw [if_pos h1] at es0
          have c1 := hw.c1
          have c3 := hw.c3
          refine ⟨_, rfl, _, rfl, wa, _, dw, _, _, rfl, ew, T.cl_Weighing, T.no_Weighing_plan, rfl, _, rfl, wa, _, dw, _, _, rfl, ew, T.cl_Weighing, T.no_Weighing_readings, rfl, _, rfl, i, pl, r, b, lo, co, x.plan.counts, x.readings, q, u, y, z, rfl, hw.p, hw.rd, hbs, by omega, by omega, hw.fits, hw.rfit, numOf_bits o1, unsg_bits o2, unsg_bits o3, unsg_bits o4, fun H1 m z1 hm => ?_⟩
          rw [told_said x i q u y z (by omega) c1 h1 c3] at hm
          refine ⟨m, _, rfl, hm, fun H2 p z2 hp0 hp => ?_⟩
          exact Ans.text k hl0 (z1.trans z2) es0 (z1.free hp0) hp
/-- slots: 0 line, 1 reader, 2 which, 3 worth_text, 4 bound_text, 5 nearness_text, 6 square_text -/
theorem ok_answer_says (T : Tx K mg a) : FnOk P w K mg base CX0 48 a.f_answer_says a.d_answer_says ["line", "reader"] (sp_answer_says a K) := by
  have G_CallReader_next_number := ok_CallReader_next_number (w := w) (base := base) T
  have G_CallReader_next_row := ok_CallReader_next_row (w := w) (base := base) T
  have G_Line_says := ok_Line_says (w := w) (base := base) T
  have G_read_basis := ok_read_basis (w := w) (base := base) T
  refine T.F_answer_says.ok sc_answer_says (fun vs H Q E h => ?_) (fun cdv A outer s H vs Q E hr h => ?_)
  · obtain ⟨_, _, _, _, _, _, _, _, _, _, _, _, _, rfl, _⟩ := h
    rfl
  · obtain ⟨ln, g, rd, c, st, p, l, x, r0, r1, r2, r3, t, rfl, hl, ⟨dr, er⟩, hc, hd, hask, k⟩ := h
    refine ⟨_, (pss_cons (ps_set (i := 2) sc_answer_says.nd rfl (Or.inl rfl) (pe_meth0 (pv 1) T.cl_CallReader T.me_CallReader_next_number G_CallReader_next_number (hr.mono (by decide)) T.bd_CallReader_next_number .nil pass0))
      (pss_cons (ps_set (i := 3) sc_answer_says.nd rfl (Or.inl rfl) (pe_meth0 (pv 1) T.cl_CallReader T.me_CallReader_next_row G_CallReader_next_row (hr.mono (by decide)) T.bd_CallReader_next_row .nil pass0))
      (pss_cons (ps_set (i := 4) sc_answer_says.nd rfl (Or.inl rfl) (pe_meth0 (pv 1) T.cl_CallReader T.me_CallReader_next_row G_CallReader_next_row (hr.mono (by decide)) T.bd_CallReader_next_row .nil pass0))
      (pss_cons (ps_set (i := 5) sc_answer_says.nd rfl (Or.inl rfl) (pe_meth0 (pv 1) T.cl_CallReader T.me_CallReader_next_row G_CallReader_next_row (hr.mono (by decide)) T.bd_CallReader_next_row .nil pass0))
      (pss_cons (ps_set (i := 6) sc_answer_says.nd rfl (Or.inl rfl) (pe_meth0 (pv 1) T.cl_CallReader T.me_CallReader_next_row G_CallReader_next_row (hr.mono (by decide)) T.bd_CallReader_next_row .nil pass0))
      (pss_one (ps_ret (pe_meth (pv 0) T.cl_Line T.me_Line_says G_Line_says (hr.mono (by decide)) T.bd_Line_says .nil pass0 (pa_cons (pv 2) (pa_cons (pe_call G_read_basis (hr.mono (by decide)) rfl T.m_read_basis T.F_read_basis.kp T.bd_read_basis .nil pass0 (pa_cons (pv 3) (pa_cons (pv 4) (pa_cons (pv 5) (pa_cons (pv 6) pa_nil))))) pa_nil)))))))))), ?_⟩
    have hk : (EvenGNeutral.natural x 32 && r0.all (fun (z : Int) => EvenGNeutral.natural z 8) && r1.all (fun (z : Int) => EvenGNeutral.natural z 8) && r2.all (fun (z : Int) => EvenGNeutral.natural z 8) && r3.all (fun (z : Int) => EvenGNeutral.natural z 8)) = true := hask
    rw [Bool.and_eq_true, Bool.and_eq_true, Bool.and_eq_true, Bool.and_eq_true] at hk
    obtain ⟨⟨⟨⟨hkx, hk0⟩, hk1⟩, hk2⟩, hk3⟩ := hk
    have tx : ∀ {r : List Int}, r.all (fun (z : Int) => EvenGNeutral.natural z 8) = true → r.map V.int = (EvenGNeutral.text r).map bV := fun {r} h => by
      have := My.text_back h
      conv => lhs; rw [← this]
      rw [List.map_map]
      rfl
    obtain ⟨hz, hd1⟩ := drop_cons hd
    refine ⟨_, rfl, rd, dr, _, rfl, er, rfl, rd, c, p, l, x, rfl, ⟨dr, er⟩, hc.seq, hz, fun H1 ⟨dr1, er1⟩ k1 => ?_⟩
    have hl1 := LineAt.reader k1 er rfl hl
    have hc1 := hc.keep k1 er
    refine ⟨_, rfl, rd, dr1, _, rfl, er1, rfl, rd, c, p + 1, l, r0, _, rfl, ⟨dr1, er1⟩, hc1.seq, hd1, fun H2 q0 ⟨dr2, er2⟩ k2 hq0 hq0' => ?_⟩
    have hl2 := LineAt.reader k2 er1 rfl hl1
    have hc2 := hc1.keep k2 er1
    have hd2 := drop_row hd1
    refine ⟨_, rfl, rd, dr2, _, rfl, er2, rfl, rd, c, p + 1 + (r0.length + 1), l, r1, _, rfl, ⟨dr2, er2⟩, hc2.seq, hd2, fun H3 q1 ⟨dr3, er3⟩ k3 hq1 hq1' => ?_⟩
    have hl3 := LineAt.reader k3 er2 rfl hl2
    have hc3 := hc2.keep k3 er2
    have hd3 := drop_row hd2
    refine ⟨_, rfl, rd, dr3, _, rfl, er3, rfl, rd, c, p + 1 + (r0.length + 1) + (r1.length + 1), l, r2, _, rfl, ⟨dr3, er3⟩, hc3.seq, hd3, fun H4 q2 ⟨dr4, er4⟩ k4 hq2 hq2' => ?_⟩
    have hl4 := LineAt.reader k4 er3 rfl hl3
    have hc4 := hc3.keep k4 er3
    have hd4 := drop_row hd3
    refine ⟨_, rfl, rd, dr4, _, rfl, er4, rfl, rd, c, p + 1 + (r0.length + 1) + (r1.length + 1) + (r2.length + 1), l, r3, t, rfl, ⟨dr4, er4⟩, hc4.seq, hd4, fun H5 q3 ⟨dr5, er5⟩ k5 hq3 hq3' => ?_⟩
    have hl5 := LineAt.reader k5 er4 rfl hl4
    have hc5 := hc4.keep k5 er4
    have hd5 := drop_row hd4
    obtain ⟨dl, vl, hln⟩ := hl5.ln
    have gk : ∀ xs, H g = some (.lst xs) → H5 g = some (.lst xs) := fun xs e => by
      have e1 := k1 _ _ e (lst_ne e er)
      have e2 := k2 _ _ e1 (lst_ne e1 er1)
      have e3 := k3 _ _ e2 (lst_ne e2 er2)
      have e4 := k4 _ _ e3 (lst_ne e3 er3)
      exact k5 _ _ e4 (lst_ne e4 er4)
    have a0 := k3 _ _ hq0' (lst_ne hq0' er2)
    have a0 := k4 _ _ a0 (lst_ne a0 er3)
    have a0 := k5 _ _ a0 (lst_ne a0 er4)
    have a1 := k4 _ _ hq1' (lst_ne hq1' er3)
    have a1 := k5 _ _ a1 (lst_ne a1 er4)
    have a2 := k5 _ _ hq2' (lst_ne hq2' er4)
    rw [tx hk0] at a0
    rw [tx hk1] at a1
    rw [tx hk2] at a2
    rw [tx hk3] at hq3'
    have hx0 : ((x.toNat : Nat) : Int) = x := nat_of hkx
    refine ⟨_, rfl, ln, dl, _, rfl, hln, rfl, _, rfl, _, rfl, _, rfl, _, rfl, _, rfl, q0, q1, q2, q3, EvenGNeutral.text r0, EvenGNeutral.text r1, EvenGNeutral.text r2, EvenGNeutral.text r3, rfl, SqL.of a0, SqL.of a1, SqL.of a2, SqL.of hq3', fun H6 v z6 hv => ?_⟩
    refine ⟨ln, g, st, x.toNat, v, EvenGNeutral.text r0, EvenGNeutral.text r1, EvenGNeutral.text r2, EvenGNeutral.text r3, by rw [hx0]; rfl, hl5.same z6, hv, ?_⟩
    exact Step.of k rfl ⟨dr5, z6 _ _ er5⟩ hd5 (hc5.kp (g := g) (Same.kp z6)) fun xs e => z6 _ _ (gk xs e)
end
/-! ### while, the measure bound in the word -/
def GoW (W : Nat → L2.St → Hp → Prop) (m : Nat) (tb : TS) (D : Ends) (σ : L2.St) (H1 : Hp) : Prop :=
  ∃ N : L2.St → Hp → Prop, (∀ σ' H', N σ' H' → ∃ m', m' < m ∧ W m' σ' H') ∧ tb { D with nx := N, ct := N, bk := D.nx } σ H1
theorem while_m {c : TT} {tb : TS} {D : Ends} {σ : L2.St} {H : Hp} (W : Nat → L2.St → Hp → Prop) (m0 : Nat) (h0 : W m0 σ H)
    (hs : ∀ m σ H, W m σ H → c σ H fun b H1 => if b = true then GoW W m tb D σ H1 else D.nx σ H1) : tWhile c tb D σ H := ⟨W, ⟨m0, h0⟩, hs⟩
theorem go_w {tb : TS} {D : Ends} {σ : L2.St} {H1 : Hp} {W : Nat → L2.St → Hp → Prop} {m : Nat}
    (h : tb { D with nx := fun σ' H' => ∃ m', m' < m ∧ W m' σ' H', ct := fun σ' H' => ∃ m', m' < m ∧ W m' σ' H', bk := D.nx } σ H1) : GoW W m tb D σ H1 := ⟨_, fun _ _ h => h, h⟩
/-! ### how long an answer is -/
theorem gives_len (q : Rat) : (EvenGNeutral.shown (EvenG.gives [q])).length ≤ 9000 := by
  unfold EvenG.gives
  split
  · show 1 ≤ 9000
    decide
  · rename_i h
    have hf : Eb.Num.fits q = true := by
      cases e : Eb.Num.fits q with
      | true => rfl
      | false => exact absurd (by simp [e]) h
    have := My.exact_len hf
    show (EvenGNeutral.shown (EvenG.wholeB (Eb.Num.exactText q))).length ≤ 9000
    unfold EvenGNeutral.shown EvenG.wholeB
    simp only [List.length_cons, List.nil_append, List.length_map]
    omega
theorem says_len (x : EvenG.Held) (k : Nat) (b1 b2 b3 b4 : List UInt8) : (EvenGNeutral.shown (EvenG.saysOf x k b1 b2 b3 b4)).length ≤ 9000 := by
  have one : ∀ z, (EvenGNeutral.shown (EvenG.number z)).length ≤ 9000 := fun z => by show 1 ≤ 9000; decide
  unfold EvenG.saysOf
  split
  · exact one _
  · split
    · split
      · exact one _
      · split
        · exact gives_len _
        · exact one _
    · exact one _
theorem step_len (s : EvenGNeutral.S) (c : List (List Int)) : (EvenGNeutral.step s c).2.length ≤ 9000 := by
  have one : ∀ z, (EvenGNeutral.shown (EvenG.number z)).length ≤ 9000 := fun z => by show 1 ≤ 9000; decide
  unfold EvenGNeutral.step
  cases e : EvenGNeutral.callOf c with
  | none => exact Nat.zero_le _
  | some x =>
    show (EvenGNeutral.shown (EvenG.step s x).2).length ≤ 9000
    cases x with
    | begin_ l n d =>
      show (EvenGNeutral.shown (match EvenG.planOf l n d with | none => (s, EvenG.number (-2)) | some p => (some ⟨p, []⟩, EvenG.number 0)).2).length ≤ 9000
      cases EvenG.planOf l n d with
      | none => exact one _
      | some p => exact one _
    | take r =>
      cases s with
      | none => exact one _
      | some y =>
        show (EvenGNeutral.shown (if y.plan.steps.length ≤ y.readings.length then (y, EvenG.number (-5)) else (⟨y.plan, y.readings ++ [r]⟩, EvenG.number 0)).2).length ≤ 9000
        split <;> exact one _
    | state =>
      cases s with
      | none => exact one _
      | some y => show 4 ≤ 9000; decide
    | reading k =>
      cases s with
      | none => exact one _
      | some y =>
        show (EvenGNeutral.shown (match y.readings[k]? with | some r => (⟨0, [r], []⟩ : EvenG.Answer) | none => EvenG.number (-5))).length ≤ 9000
        cases y.readings[k]? with
        | none => exact one _
        | some r => show 2 ≤ 9000; decide
    | back k =>
      cases s with
      | none => exact one _
      | some y =>
        show (EvenGNeutral.shown (if y.readings.length < k then (y, EvenG.number (-5)) else (⟨y.plan, y.readings.take k⟩, EvenG.number 0)).2).length ≤ 9000
        split <;> exact one _
    | comes j =>
      cases s with
      | none => exact one _
      | some y =>
        show (EvenGNeutral.shown (if Eb.Balance.LOADS ≤ j then EvenG.number (-1) else EvenG.gives [y.plan.load j])).length ≤ 9000
        split
        · exact one _
        · exact gives_len _
    | says k b1 b2 b3 b4 =>
      cases s with
      | none => exact one _
      | some y => exact says_len y k b1 b2 b3 b4
/-- the list's calls are asked: c the list, what is due is given -/
def sp_answers (K : PySem.W.Frag) : Sp := fun vs H Q _ => ∃ (c : Addr) (l : List Int), vs = [.ref c] ∧ CallsAt K H c l ∧ PyWqbbbk.answers_asked l = true ∧ ∀ (H' : Hp) (p : Addr), H' p = some (.lst ((PyWqbbbk.answers l).map V.int)) → Q (.ref p) H'
section
variable {w : World} {K : PySem.W.Frag} {mg : Str → Option Value} {base : Heap} {a : Ads}
/-- slots: 0 line, 1 reader, 2 call -/
theorem ok_answer_call (T : Tx K mg a) : FnOk P w K mg base CX0 49 a.f_answer_call a.d_answer_call ["line", "reader"] (sp_answer_call a K) := by
  have G_CallReader_next_number := ok_CallReader_next_number (w := w) (base := base) T
  have G_answer_begin := ok_answer_begin (w := w) (base := base) T
  have G_Line_take := ok_Line_take (w := w) (base := base) T
  have G_Line_state := ok_Line_state (w := w) (base := base) T
  have G_Line_told_reading := ok_Line_told_reading (w := w) (base := base) T
  have G_Line_back := ok_Line_back (w := w) (base := base) T
  have G_Line_comes := ok_Line_comes (w := w) (base := base) T
  have G_answer_says := ok_answer_says (w := w) (base := base) T
  refine T.F_answer_call.ok sc_answer_call (fun vs H Q E h => ?_) (fun cdv A outer s H vs Q E hr h => ?_)
  · obtain ⟨_, _, _, _, _, _, _, _, _, rfl, _⟩ := h
    rfl
  · obtain ⟨ln, g, rd, c, st, p, l, cl, t, rfl, hl, ⟨dr, er⟩, hc, hd, hask, k⟩ := h
    refine ⟨_, (pss_cons (ps_set (i := 2) sc_answer_call.nd rfl (Or.inl rfl) (pe_meth0 (pv 1) T.cl_CallReader T.me_CallReader_next_number G_CallReader_next_number (hr.mono (by decide)) T.bd_CallReader_next_number .nil pass0))
      (pss_cons (ps_if (pt_cmpR op_eq (pv 2) (pe_gi rfl T.g_BEGIN) (nomark _))
        (pss_one (ps_ret (pe_call G_answer_begin (hr.mono (by decide)) rfl T.m_answer_begin T.F_answer_begin.kp T.bd_answer_begin .nil pass0 (pa_cons (pv 0) (pa_cons (pv 1) pa_nil)))))
        pss_nil)
      (pss_cons (ps_if (pt_cmpR op_eq (pv 2) (pe_gi rfl T.g_TAKE) (nomark _))
        (pss_one (ps_ret (pe_meth (pv 0) T.cl_Line T.me_Line_take G_Line_take (hr.mono (by decide)) T.bd_Line_take .nil pass0 (pa_cons (pe_meth0 (pv 1) T.cl_CallReader T.me_CallReader_next_number G_CallReader_next_number (hr.mono (by decide)) T.bd_CallReader_next_number .nil pass0) pa_nil))))
        pss_nil)
      (pss_cons (ps_if (pt_cmpR op_eq (pv 2) (pe_gi rfl T.g_STATE) (nomark _))
        (pss_one (ps_ret (pe_meth0 (pv 0) T.cl_Line T.me_Line_state G_Line_state (hr.mono (by decide)) T.bd_Line_state .nil pass0)))
        pss_nil)
      (pss_cons (ps_if (pt_cmpR op_eq (pv 2) (pe_gi rfl T.g_READING) (nomark _))
        (pss_one (ps_ret (pe_meth (pv 0) T.cl_Line T.me_Line_told_reading G_Line_told_reading (hr.mono (by decide)) T.bd_Line_told_reading .nil pass0 (pa_cons (pe_meth0 (pv 1) T.cl_CallReader T.me_CallReader_next_number G_CallReader_next_number (hr.mono (by decide)) T.bd_CallReader_next_number .nil pass0) pa_nil))))
        pss_nil)
      (pss_cons (ps_if (pt_cmpR op_eq (pv 2) (pe_gi rfl T.g_BACK) (nomark _))
        (pss_one (ps_ret (pe_meth (pv 0) T.cl_Line T.me_Line_back G_Line_back (hr.mono (by decide)) T.bd_Line_back .nil pass0 (pa_cons (pe_meth0 (pv 1) T.cl_CallReader T.me_CallReader_next_number G_CallReader_next_number (hr.mono (by decide)) T.bd_CallReader_next_number .nil pass0) pa_nil))))
        pss_nil)
      (pss_cons (ps_if (pt_cmpR op_eq (pv 2) (pe_gi rfl T.g_COMES) (nomark _))
        (pss_one (ps_ret (pe_meth (pv 0) T.cl_Line T.me_Line_comes G_Line_comes (hr.mono (by decide)) T.bd_Line_comes .nil pass0 (pa_cons (pe_meth0 (pv 1) T.cl_CallReader T.me_CallReader_next_number G_CallReader_next_number (hr.mono (by decide)) T.bd_CallReader_next_number .nil pass0) pa_nil))))
        pss_nil)
      (pss_cons (ps_if (pt_cmpR op_eq (pv 2) (pe_gi rfl T.g_SAYS) (nomark _))
        (pss_one (ps_ret (pe_call G_answer_says (hr.mono (by decide)) rfl T.m_answer_says T.F_answer_says.kp T.bd_answer_says .nil pass0 (pa_cons (pv 0) (pa_cons (pv 1) pa_nil)))))
        pss_nil)
      (pss_one (ps_never)))))))))), ?_⟩
    -- the call's own number is read
    have head : ∀ {z : Int} {rest : List Int}, l.drop p = z :: rest → l[p]? = some z ∧ l.drop (p + 1) = rest := fun h => drop_cons h
    have gk : ∀ {H1 : Hp}, Keep rd H H1 → ∀ xs, H g = some (.lst xs) → H1 g = some (.lst xs) := fun {H1} k1 xs e => k1 _ _ e (lst_ne e er)
    generalize hdl : l.drop p = dl at hd
    cases hd with
    | begin_ d r0 r1 t =>
      obtain ⟨hz, hd1⟩ := head hdl
      refine ⟨_, rfl, rd, dr, _, rfl, er, rfl, rd, c, p, l, _, rfl, ⟨dr, er⟩, hc.seq, hz, fun H1 ⟨dr1, er1⟩ k1 => ?_⟩
      refine ⟨_, rfl, rfl, _, rfl, ifEq (fun _ => ?_) (fun h => absurd rfl h)⟩
      refine ⟨_, rfl, _, rfl, ln, g, rd, c, st, p + 1, l, d, r0, r1, t, rfl, LineAt.reader k1 er rfl hl, ⟨dr1, er1⟩, hc.keep k1 er, hd1, hask, ?_⟩
      exact fun H' q p' h1 h2 h3 h4 h5 h6 h7 => k H' q p' h1 h2 h3 h4 h5 h6 fun xs e => h7 xs (gk k1 xs e)
    | take x t =>
      obtain ⟨hz, hd1⟩ := head hdl
      obtain ⟨hz2, hd2⟩ := drop_cons hd1
      have hk : (decide (-(2 ^ 63) ≤ x) && decide (x < 2 ^ 63)) = true := hask
      rw [Bool.and_eq_true] at hk
      refine ⟨_, rfl, rd, dr, _, rfl, er, rfl, rd, c, p, l, _, rfl, ⟨dr, er⟩, hc.seq, hz, fun H1 ⟨dr1, er1⟩ k1 => ?_⟩
      refine ⟨_, rfl, rfl, _, rfl, ifEq (fun h => absurd h (by decide)) (fun _ => ?_)⟩
      refine ⟨_, rfl, rfl, _, rfl, ifEq (fun _ => ?_) (fun h => absurd rfl h)⟩
      have hl1 := LineAt.reader k1 er rfl hl
      have hc1 := hc.keep k1 er
      obtain ⟨dn, vn, hln⟩ := hl1.ln
      refine ⟨_, rfl, ln, dn, _, rfl, hln, rfl, _, rfl, rd, dr1, _, rfl, er1, rfl, rd, c, p + 1, l, x, rfl, ⟨dr1, er1⟩, hc1.seq, hz2, fun H2 er2 k2 => ?_⟩
      refine ⟨ln, g, st, x, rfl, LineAt.reader k2 er1 rfl hl1, of_decide_eq_true hk.1, of_decide_eq_true hk.2, ?_⟩
      exact Step.of k rfl er2 hd2 (hc1.keep k2 er1) fun xs e => k2 _ _ (gk k1 xs e) (lst_ne (gk k1 xs e) er1)
    | state t =>
      obtain ⟨hz, hd1⟩ := head hdl
      refine ⟨_, rfl, rd, dr, _, rfl, er, rfl, rd, c, p, l, _, rfl, ⟨dr, er⟩, hc.seq, hz, fun H1 ⟨dr1, er1⟩ k1 => ?_⟩
      refine ⟨_, rfl, rfl, _, rfl, ifEq (fun h => absurd h (by decide)) (fun _ => ?_)⟩
      refine ⟨_, rfl, rfl, _, rfl, ifEq (fun h => absurd h (by decide)) (fun _ => ?_)⟩
      refine ⟨_, rfl, rfl, _, rfl, ifEq (fun _ => ?_) (fun h => absurd rfl h)⟩
      have hl1 := LineAt.reader k1 er rfl hl
      obtain ⟨dn, vn, hln⟩ := hl1.ln
      refine ⟨_, rfl, ln, dn, _, rfl, hln, rfl, ln, g, st, rfl, hl1, ?_⟩
      exact Step.of k rfl ⟨dr1, er1⟩ hd1 (hc.keep k1 er) fun xs e => gk k1 xs e
    | reading x t =>
      obtain ⟨hz, hd1⟩ := head hdl
      obtain ⟨hz2, hd2⟩ := drop_cons hd1
      have hx : ((x.toNat : Nat) : Int) = x := nat_of (show EvenGNeutral.natural x 32 = true from hask)
      refine ⟨_, rfl, rd, dr, _, rfl, er, rfl, rd, c, p, l, _, rfl, ⟨dr, er⟩, hc.seq, hz, fun H1 ⟨dr1, er1⟩ k1 => ?_⟩
      refine ⟨_, rfl, rfl, _, rfl, ifEq (fun h => absurd h (by decide)) (fun _ => ?_)⟩
      refine ⟨_, rfl, rfl, _, rfl, ifEq (fun h => absurd h (by decide)) (fun _ => ?_)⟩
      refine ⟨_, rfl, rfl, _, rfl, ifEq (fun h => absurd h (by decide)) (fun _ => ?_)⟩
      refine ⟨_, rfl, rfl, _, rfl, ifEq (fun _ => ?_) (fun h => absurd rfl h)⟩
      have hl1 := LineAt.reader k1 er rfl hl
      have hc1 := hc.keep k1 er
      obtain ⟨dn, vn, hln⟩ := hl1.ln
      refine ⟨_, rfl, ln, dn, _, rfl, hln, rfl, _, rfl, rd, dr1, _, rfl, er1, rfl, rd, c, p + 1, l, x, rfl, ⟨dr1, er1⟩, hc1.seq, hz2, fun H2 er2 k2 => ?_⟩
      refine ⟨ln, g, st, x.toNat, by rw [hx]; rfl, LineAt.reader k2 er1 rfl hl1, ?_⟩
      exact Step.of k rfl er2 hd2 (hc1.keep k2 er1) fun xs e => k2 _ _ (gk k1 xs e) (lst_ne (gk k1 xs e) er1)
    | back x t =>
      obtain ⟨hz, hd1⟩ := head hdl
      obtain ⟨hz2, hd2⟩ := drop_cons hd1
      have hx : ((x.toNat : Nat) : Int) = x := nat_of (show EvenGNeutral.natural x 32 = true from hask)
      refine ⟨_, rfl, rd, dr, _, rfl, er, rfl, rd, c, p, l, _, rfl, ⟨dr, er⟩, hc.seq, hz, fun H1 ⟨dr1, er1⟩ k1 => ?_⟩
      refine ⟨_, rfl, rfl, _, rfl, ifEq (fun h => absurd h (by decide)) (fun _ => ?_)⟩
      refine ⟨_, rfl, rfl, _, rfl, ifEq (fun h => absurd h (by decide)) (fun _ => ?_)⟩
      refine ⟨_, rfl, rfl, _, rfl, ifEq (fun h => absurd h (by decide)) (fun _ => ?_)⟩
      refine ⟨_, rfl, rfl, _, rfl, ifEq (fun h => absurd h (by decide)) (fun _ => ?_)⟩
      refine ⟨_, rfl, rfl, _, rfl, ifEq (fun _ => ?_) (fun h => absurd rfl h)⟩
      have hl1 := LineAt.reader k1 er rfl hl
      have hc1 := hc.keep k1 er
      obtain ⟨dn, vn, hln⟩ := hl1.ln
      refine ⟨_, rfl, ln, dn, _, rfl, hln, rfl, _, rfl, rd, dr1, _, rfl, er1, rfl, rd, c, p + 1, l, x, rfl, ⟨dr1, er1⟩, hc1.seq, hz2, fun H2 er2 k2 => ?_⟩
      refine ⟨ln, g, st, x.toNat, by rw [hx]; rfl, LineAt.reader k2 er1 rfl hl1, ?_⟩
      exact Step.of k rfl er2 hd2 (hc1.keep k2 er1) fun xs e => k2 _ _ (gk k1 xs e) (lst_ne (gk k1 xs e) er1)
    | comes x t =>
      obtain ⟨hz, hd1⟩ := head hdl
      obtain ⟨hz2, hd2⟩ := drop_cons hd1
      have hx : ((x.toNat : Nat) : Int) = x := nat_of (show EvenGNeutral.natural x 32 = true from hask)
      refine ⟨_, rfl, rd, dr, _, rfl, er, rfl, rd, c, p, l, _, rfl, ⟨dr, er⟩, hc.seq, hz, fun H1 ⟨dr1, er1⟩ k1 => ?_⟩
      refine ⟨_, rfl, rfl, _, rfl, ifEq (fun h => absurd h (by decide)) (fun _ => ?_)⟩
      refine ⟨_, rfl, rfl, _, rfl, ifEq (fun h => absurd h (by decide)) (fun _ => ?_)⟩
      refine ⟨_, rfl, rfl, _, rfl, ifEq (fun h => absurd h (by decide)) (fun _ => ?_)⟩
      refine ⟨_, rfl, rfl, _, rfl, ifEq (fun h => absurd h (by decide)) (fun _ => ?_)⟩
      refine ⟨_, rfl, rfl, _, rfl, ifEq (fun h => absurd h (by decide)) (fun _ => ?_)⟩
      refine ⟨_, rfl, rfl, _, rfl, ifEq (fun _ => ?_) (fun h => absurd rfl h)⟩
      have hl1 := LineAt.reader k1 er rfl hl
      have hc1 := hc.keep k1 er
      obtain ⟨dn, vn, hln⟩ := hl1.ln
      refine ⟨_, rfl, ln, dn, _, rfl, hln, rfl, _, rfl, rd, dr1, _, rfl, er1, rfl, rd, c, p + 1, l, x, rfl, ⟨dr1, er1⟩, hc1.seq, hz2, fun H2 er2 k2 => ?_⟩
      refine ⟨ln, g, st, x.toNat, by rw [hx]; rfl, LineAt.reader k2 er1 rfl hl1, ?_⟩
      exact Step.of k rfl er2 hd2 (hc1.keep k2 er1) fun xs e => k2 _ _ (gk k1 xs e) (lst_ne (gk k1 xs e) er1)
    | says x r0 r1 r2 r3 t =>
      obtain ⟨hz, hd1⟩ := head hdl
      refine ⟨_, rfl, rd, dr, _, rfl, er, rfl, rd, c, p, l, _, rfl, ⟨dr, er⟩, hc.seq, hz, fun H1 ⟨dr1, er1⟩ k1 => ?_⟩
      refine ⟨_, rfl, rfl, _, rfl, ifEq (fun h => absurd h (by decide)) (fun _ => ?_)⟩
      refine ⟨_, rfl, rfl, _, rfl, ifEq (fun h => absurd h (by decide)) (fun _ => ?_)⟩
      refine ⟨_, rfl, rfl, _, rfl, ifEq (fun h => absurd h (by decide)) (fun _ => ?_)⟩
      refine ⟨_, rfl, rfl, _, rfl, ifEq (fun h => absurd h (by decide)) (fun _ => ?_)⟩
      refine ⟨_, rfl, rfl, _, rfl, ifEq (fun h => absurd h (by decide)) (fun _ => ?_)⟩
      refine ⟨_, rfl, rfl, _, rfl, ifEq (fun h => absurd h (by decide)) (fun _ => ?_)⟩
      refine ⟨_, rfl, rfl, _, rfl, ifEq (fun _ => ?_) (fun h => absurd rfl h)⟩
      refine ⟨_, rfl, _, rfl, ln, g, rd, c, st, p + 1, l, x, r0, r1, r2, r3, t, rfl, LineAt.reader k1 er rfl hl, ⟨dr1, er1⟩, hc.keep k1 er, hd1, hask, ?_⟩
      exact fun H' q p' h1 h2 h3 h4 h5 h6 h7 => k H' q p' h1 h2 h3 h4 h5 h6 fun xs e => h7 xs (gk k1 xs e)
/-- slots: 0 calls, 1 reader, 2 line, 3 given, 4 answer -/
theorem ok_answers (T : Tx K mg a) : FnOk P w K mg base CX0 50 a.f_answers a.d_answers ["calls"] (sp_answers K) := by
  have G_CallReader_init := ok_CallReader_init (w := w) (base := base) T
  have G_Line_init := ok_Line_init (w := w) (base := base) T
  have G_CallReader_at_end := ok_CallReader_at_end (w := w) (base := base) T
  have G_answer_call := ok_answer_call (w := w) (base := base) T
  refine T.F_answers.ok sc_answers (fun vs H Q E h => ?_) (fun cdv A outer s H vs Q E hr h => ?_)
  · obtain ⟨_, _, rfl, _⟩ := h
    rfl
  · obtain ⟨c, l, rfl, hc, hask, k⟩ := h
    refine ⟨_, (pss_cons (ps_set (i := 1) sc_answers.nd rfl (Or.inl rfl) (pe_make T.mk_CallReader G_CallReader_init (hr.mono (by decide)) rfl T.m_CallReader T.bd_CallReader_init .nil pass0 (pa_cons (pv 0) pa_nil)))
      (pss_cons (ps_set (i := 2) sc_answers.nd rfl (Or.inl rfl) (pe_make0 T.mk_Line G_Line_init (hr.mono (by decide)) rfl T.m_Line T.bd_Line_init .nil pass0))
      (pss_cons (ps_set (i := 3) sc_answers.nd rfl (Or.inl rfl) (pe_lst pa_nil))
      (pss_cons (ps_while PassesOwn.never (pt_not (pt_val (pe_meth0 (pv 1) T.cl_CallReader T.me_CallReader_at_end G_CallReader_at_end (hr.mono (by decide)) T.bd_CallReader_at_end .nil pass0)))
        (pss_cons (ps_set (i := 4) sc_answers.nd rfl (Or.inl rfl) (pe_call G_answer_call (hr.mono (by decide)) rfl T.m_answer_call T.F_answer_call.kp T.bd_answer_call .nil pass0 (pa_cons (pv 2) (pa_cons (pv 1) pa_nil))))
        (pss_cons (ps_expr (pe_bm PySem.F.plainAttrs_list PySem.F.slot_list_append PySem.F.type_list_append mt_append (pv 3) (pa_cons (pe_callB call_len_seq rfl T.b_len bt_len (pa_cons (pv 4) pa_nil)) pa_nil)))
        (pss_one (ps_expr (pe_bm PySem.F.plainAttrs_list PySem.F.slot_list_extend PySem.F.type_list_extend mt_extend (pv 3) (pa_cons (pv 4) pa_nil)))))))
      (pss_one (ps_ret (pv 3))))))), ?_⟩
    obtain ⟨cs0, h1, h2, h3, h4⟩ := My.asked_start hask
    refine ⟨_, rfl, fun rd dr nr nd ne => ?_⟩
    refine ⟨rd, dr, c, rfl, upd_same, fun H1 her kp1 => ⟨rfl, ?_⟩⟩
    have s1 : Same H H1 := Same.made nr nd kp1
    refine fun ln dn nl nd2 ne2 => ?_
    refine ⟨ln, dn, rfl, upd_same, fun H2 hln kp2 => ⟨rfl, ?_⟩⟩
    have s2 : Same H1 H2 := Same.made nl nd2 kp2
    refine ⟨Nat.zero_le _, fun g hg => ?_⟩
    have s3 : Same H2 (upd H2 g (.lst [])) := Same.upd hg
    have hg3 : (upd H2 g (.lst [])) g = some (.lst ([] : List V)) := upd_same
    generalize upd H2 g (.lst []) = H3 at s3 hg3
    have cs3 : Same H H3 := (s1.trans s2).trans s3
    have hc3 : CallsAt K H3 c l := by
      rcases hc with ⟨o, e⟩ | e
      · exact .inl ⟨o, cs3 _ _ e⟩
      · exact .inr e
    refine while_m (fun m σ H' => ∃ (v : Option V) (st : EvenG.State) (p : Nat) (cs : List (List (List Int))) (f : Nat) (out : List Int), σ = [some (.ref c), some (.ref rd), some (.ref ln), some (.ref g), v] ∧
        RdAt a.c_CallReader H' rd c p ∧ CallsAt K H' c l ∧ LineAt a H' ln g st ∧ H' g = some (.lst (out.map V.int)) ∧ PyFlat.calls PyWqbbbk.shape f (l.drop p) = some cs ∧ (∀ x ∈ cs, EvenGNeutral.asked1 x = true) ∧
        PyWqbbbk.answers l = out ++ My.rest st cs ∧ out.length + cs.length * 9001 ≤ 400 * 9001 ∧ m = cs.length)
      cs0.length ⟨none, none, 0, cs0, l.length, [], rfl, ?_, hc3, ⟨?_, _, hg3⟩, hg3, h1, h3, h4, ?_, rfl⟩ ?_
    · obtain ⟨dx, e⟩ := her
      exact ⟨dx, s3 _ _ (s2 _ _ e)⟩
    · obtain ⟨dx, e⟩ := hln
      exact ⟨dx, s3 _ _ e⟩
    · show 0 + cs0.length * 9001 ≤ _
      omega
    rintro m σ H' ⟨v, st, p, cs, f, out, rfl, ⟨dr', er⟩, hc', hl, hg', hcs, has, hans, hlen, rfl⟩
    refine ⟨_, rfl, rd, dr', _, rfl, er, rfl, rd, c, p, l, rfl, ⟨dr', er⟩, hc'.seq, _, rfl, ifN (fun hp => ?_) (fun hp => ?_)⟩
    · have hne : l.drop p ≠ [] := fun e => by
        have := List.drop_eq_nil_iff.mp e
        omega
      obtain ⟨cl, t, cs', f', rfl, hcs', hlies⟩ := My.calls_next hcs hne
      refine go_w ?_
      refine ⟨_, rfl, _, rfl, ln, g, rd, c, st, p, l, cl, t, rfl, hl, ⟨dr', er⟩, hc', hlies, has cl (List.mem_cons_self ..), fun H4 q p' hr4 hp' hc4 hl4 hq hqg hg4 => ?_⟩
      have hg4' := hg4 _ hg'
      have hsl := step_len st cl
      rw [My.rest_cons] at hans
      generalize hA : EvenGNeutral.step st cl = A at *
      have hlc : out.length + (cs'.length + 1) * 9001 ≤ 400 * 9001 := hlen
      -- given.append(len(answer))
      refine ⟨_, rfl, .inl ⟨rfl, _, SqL.of hg4'⟩, _, rfl, q, _, rfl, .inl (SqL.of hq), g, _, _, rfl, rfl, hg4', ?_, ?_⟩
      · rw [List.length_map, sizeLine_eq]
        omega
      have kp5 : Keep g H4 (upd H4 g (.lst (out.map V.int ++ [V.int (((A.2.map V.int).length : Nat) : Int)]))) := Keep.upd
      have hg5 : (upd H4 g (.lst (out.map V.int ++ [V.int (((A.2.map V.int).length : Nat) : Int)]))) g = some (.lst ((out ++ [(A.2.length : Int)]).map V.int)) := by
        rw [upd_same, List.map_append, List.length_map]
        rfl
      have hl5 : LineAt a (upd H4 g (.lst (out.map V.int ++ [V.int (((A.2.map V.int).length : Nat) : Int)]))) ln g A.1 := hl4.given
      have hq5 := kp5 _ _ hq hqg
      obtain ⟨dr4, er4⟩ := hr4
      have er5 := kp5 _ _ er4 (lst_ne hg4' er4).symm
      have hc5 : CallsAt K (upd H4 g (.lst (out.map V.int ++ [V.int (((A.2.map V.int).length : Nat) : Int)]))) c l := by
        rcases hc4 with ⟨o, e⟩ | e
        · exact .inl ⟨o, kp5 _ _ e (ne_of e hg4' (by intro z; cases z))⟩
        · exact .inr e
      generalize upd H4 g (.lst (out.map V.int ++ [V.int (((A.2.map V.int).length : Nat) : Int)])) = H5 at kp5 hg5 hl5 hq5 er5 hc5
      -- given.extend(answer)
      refine ⟨_, rfl, .inl ⟨rfl, _, SqL.of hg5⟩, _, rfl, g, q, _, _, rfl, rfl, hg5, hq5, ?_, ?_⟩
      · rw [List.length_map, List.length_map, List.length_append, List.length_singleton, sizeLine_eq]
        omega
      have ev : (out ++ [(A.2.length : Int)]).map V.int ++ A.2.map V.int = (out ++ ((A.2.length : Int) :: A.2)).map V.int := by
        rw [← List.map_append, List.append_assoc]
        rfl
      rw [ev]
      have kp6 : Keep g H5 (upd H5 g (.lst ((out ++ ((A.2.length : Int) :: A.2)).map V.int))) := Keep.upd
      refine ⟨cs'.length, Nat.lt_succ_self _, some (.ref q), A.1, p', cs', f', out ++ ((A.2.length : Int) :: A.2), rfl, ⟨dr4, kp6 _ _ er5 (lst_ne hg5 er5).symm⟩, ?_, hl5.given, upd_same, by rw [hp']; exact hcs', fun x hx => has x (List.mem_cons_of_mem _ hx), ?_, ?_, rfl⟩
      · rcases hc5 with ⟨o, e⟩ | e
        · exact .inl ⟨o, kp6 _ _ e (ne_of e hg5 (by intro z; cases z))⟩
        · exact .inr e
      · rw [hans, List.append_assoc]
      · rw [List.length_append, List.length_cons]
        omega
    · have hd : l.drop p = [] := List.drop_eq_nil_iff.mpr hp
      rw [hd] at hcs
      have := My.calls_nil hcs
      subst this
      refine ⟨_, rfl, k H' g ?_⟩
      rw [hg', hans, My.rest_nil, List.append_nil]
end
theorem tx_mk {K : PySem.W.Frag} {h : Heap} {mg : Str → Option Value} (X : K.In h) (G : h.Ns mainGlobals mg)
    {C_CallReader C_Ratio C_Plan C_Basis C_Measured C_Weighing C_Line f_CallReader_init f_CallReader_at_end f_CallReader_next_number f_CallReader_next_row f_common_factor f_Ratio_init f_Ratio_plus f_Ratio_times f_Ratio_size f_digits_end f_digits_value f_power_of_ten f_read_size f_read_number f_exact_text f_Plan_init f_Plan_comes_out f_split_at_blanks f_may_count f_read_counts f_loads_fit f_common_bottom f_drift_goes_out f_read_plan f_Basis_init f_Measured_init f_read_unsigned f_read_basis f_bound_square f_counted_divisions f_division_worth f_told_reach f_told_square f_told f_Weighing_init f_Weighing_steps f_Weighing_finished f_Weighing_next_load f_text_answer f_Line_init f_Line_begin f_Line_take f_Line_state f_Line_told_reading f_Line_back f_Line_comes f_Line_says f_answer_begin f_answer_says f_answer_call f_answers : Addr}
    {oc_CallReader_init kV_CallReader_init dc_CallReader_init pm_CallReader_init cd_CallReader_init ct_CallReader_init oc_CallReader_at_end kV_CallReader_at_end dc_CallReader_at_end pm_CallReader_at_end cd_CallReader_at_end ct_CallReader_at_end oc_CallReader_next_number kV_CallReader_next_number dc_CallReader_next_number pm_CallReader_next_number cd_CallReader_next_number ct_CallReader_next_number oc_CallReader_next_row kV_CallReader_next_row dc_CallReader_next_row pm_CallReader_next_row cd_CallReader_next_row ct_CallReader_next_row oc_common_factor kV_common_factor dc_common_factor pm_common_factor cd_common_factor ct_common_factor oc_Ratio_init kV_Ratio_init dc_Ratio_init pm_Ratio_init cd_Ratio_init ct_Ratio_init oc_Ratio_plus kV_Ratio_plus dc_Ratio_plus pm_Ratio_plus cd_Ratio_plus ct_Ratio_plus oc_Ratio_times kV_Ratio_times dc_Ratio_times pm_Ratio_times cd_Ratio_times ct_Ratio_times oc_Ratio_size kV_Ratio_size dc_Ratio_size pm_Ratio_size cd_Ratio_size ct_Ratio_size oc_digits_end kV_digits_end dc_digits_end pm_digits_end cd_digits_end ct_digits_end oc_digits_value kV_digits_value dc_digits_value pm_digits_value cd_digits_value ct_digits_value oc_power_of_ten kV_power_of_ten dc_power_of_ten pm_power_of_ten cd_power_of_ten ct_power_of_ten oc_read_size kV_read_size dc_read_size pm_read_size cd_read_size ct_read_size oc_read_number kV_read_number dc_read_number pm_read_number cd_read_number ct_read_number oc_exact_text kV_exact_text dc_exact_text pm_exact_text cd_exact_text ct_exact_text oc_Plan_init kV_Plan_init dc_Plan_init pm_Plan_init cd_Plan_init ct_Plan_init oc_Plan_comes_out kV_Plan_comes_out dc_Plan_comes_out pm_Plan_comes_out cd_Plan_comes_out ct_Plan_comes_out oc_split_at_blanks kV_split_at_blanks dc_split_at_blanks pm_split_at_blanks cd_split_at_blanks ct_split_at_blanks oc_may_count kV_may_count dc_may_count pm_may_count cd_may_count ct_may_count oc_read_counts kV_read_counts dc_read_counts pm_read_counts cd_read_counts ct_read_counts oc_loads_fit kV_loads_fit dc_loads_fit pm_loads_fit cd_loads_fit ct_loads_fit oc_common_bottom kV_common_bottom dc_common_bottom pm_common_bottom cd_common_bottom ct_common_bottom oc_drift_goes_out kV_drift_goes_out dc_drift_goes_out pm_drift_goes_out cd_drift_goes_out ct_drift_goes_out oc_read_plan kV_read_plan dc_read_plan pm_read_plan cd_read_plan ct_read_plan oc_Basis_init kV_Basis_init dc_Basis_init pm_Basis_init cd_Basis_init ct_Basis_init oc_Measured_init kV_Measured_init dc_Measured_init pm_Measured_init cd_Measured_init ct_Measured_init oc_read_unsigned kV_read_unsigned dc_read_unsigned pm_read_unsigned cd_read_unsigned ct_read_unsigned oc_read_basis kV_read_basis dc_read_basis pm_read_basis cd_read_basis ct_read_basis oc_bound_square kV_bound_square dc_bound_square pm_bound_square cd_bound_square ct_bound_square oc_counted_divisions kV_counted_divisions dc_counted_divisions pm_counted_divisions cd_counted_divisions ct_counted_divisions oc_division_worth kV_division_worth dc_division_worth pm_division_worth cd_division_worth ct_division_worth oc_told_reach kV_told_reach dc_told_reach pm_told_reach cd_told_reach ct_told_reach oc_told_square kV_told_square dc_told_square pm_told_square cd_told_square ct_told_square oc_told kV_told dc_told pm_told cd_told ct_told oc_Weighing_init kV_Weighing_init dc_Weighing_init pm_Weighing_init cd_Weighing_init ct_Weighing_init oc_Weighing_steps kV_Weighing_steps dc_Weighing_steps pm_Weighing_steps cd_Weighing_steps ct_Weighing_steps oc_Weighing_finished kV_Weighing_finished dc_Weighing_finished pm_Weighing_finished cd_Weighing_finished ct_Weighing_finished oc_Weighing_next_load kV_Weighing_next_load dc_Weighing_next_load pm_Weighing_next_load cd_Weighing_next_load ct_Weighing_next_load oc_text_answer kV_text_answer dc_text_answer pm_text_answer cd_text_answer ct_text_answer oc_Line_init kV_Line_init dc_Line_init pm_Line_init cd_Line_init ct_Line_init oc_Line_begin kV_Line_begin dc_Line_begin pm_Line_begin cd_Line_begin ct_Line_begin oc_Line_take kV_Line_take dc_Line_take pm_Line_take cd_Line_take ct_Line_take oc_Line_state kV_Line_state dc_Line_state pm_Line_state cd_Line_state ct_Line_state oc_Line_told_reading kV_Line_told_reading dc_Line_told_reading pm_Line_told_reading cd_Line_told_reading ct_Line_told_reading oc_Line_back kV_Line_back dc_Line_back pm_Line_back cd_Line_back ct_Line_back oc_Line_comes kV_Line_comes dc_Line_comes pm_Line_comes cd_Line_comes ct_Line_comes oc_Line_says kV_Line_says dc_Line_says pm_Line_says cd_Line_says ct_Line_says oc_answer_begin kV_answer_begin dc_answer_begin pm_answer_begin cd_answer_begin ct_answer_begin oc_answer_says kV_answer_says dc_answer_says pm_answer_says cd_answer_says ct_answer_says oc_answer_call kV_answer_call dc_answer_call pm_answer_call cd_answer_call ct_answer_call oc_answers kV_answers dc_answers pm_answers cd_answers ct_answers : Value}
    {od_CallReader_init an_CallReader_init od_CallReader_at_end an_CallReader_at_end od_CallReader_next_number an_CallReader_next_number od_CallReader_next_row an_CallReader_next_row od_common_factor an_common_factor od_Ratio_init an_Ratio_init od_Ratio_plus an_Ratio_plus od_Ratio_times an_Ratio_times od_Ratio_size an_Ratio_size od_digits_end an_digits_end od_digits_value an_digits_value od_power_of_ten an_power_of_ten od_read_size an_read_size od_read_number an_read_number od_exact_text an_exact_text od_Plan_init an_Plan_init od_Plan_comes_out an_Plan_comes_out od_split_at_blanks an_split_at_blanks od_may_count an_may_count od_read_counts an_read_counts od_loads_fit an_loads_fit od_common_bottom an_common_bottom od_drift_goes_out an_drift_goes_out od_read_plan an_read_plan od_Basis_init an_Basis_init od_Measured_init an_Measured_init od_read_unsigned an_read_unsigned od_read_basis an_read_basis od_bound_square an_bound_square od_counted_divisions an_counted_divisions od_division_worth an_division_worth od_told_reach an_told_reach od_told_square an_told_square od_told an_told od_Weighing_init an_Weighing_init od_Weighing_steps an_Weighing_steps od_Weighing_finished an_Weighing_finished od_Weighing_next_load an_Weighing_next_load od_text_answer an_text_answer od_Line_init an_Line_init od_Line_begin an_Line_begin od_Line_take an_Line_take od_Line_state an_Line_state od_Line_told_reading an_Line_told_reading od_Line_back an_Line_back od_Line_comes an_Line_comes od_Line_says an_Line_says od_answer_begin an_answer_begin od_answer_says an_answer_says od_answer_call an_answer_call od_answers an_answers : Option Addr} {sl_CallReader_init sl_CallReader_at_end sl_CallReader_next_number sl_CallReader_next_row sl_common_factor sl_Ratio_init sl_Ratio_plus sl_Ratio_times sl_Ratio_size sl_digits_end sl_digits_value sl_power_of_ten sl_read_size sl_read_number sl_exact_text sl_Plan_init sl_Plan_comes_out sl_split_at_blanks sl_may_count sl_read_counts sl_loads_fit sl_common_bottom sl_drift_goes_out sl_read_plan sl_Basis_init sl_Measured_init sl_read_unsigned sl_read_basis sl_bound_square sl_counted_divisions sl_division_worth sl_told_reach sl_told_square sl_told sl_Weighing_init sl_Weighing_steps sl_Weighing_finished sl_Weighing_next_load sl_text_answer sl_Line_init sl_Line_begin sl_Line_take sl_Line_state sl_Line_told_reading sl_Line_back sl_Line_comes sl_Line_says sl_answer_begin sl_answer_says sl_answer_call sl_answers : Array (Option Value)} {t_MINUS t_POINT t_SLASH t_NOUGHT t_NINE t_LONGEST_NUMBER t_MOST_STEPS t_HIGHEST_LOAD t_HIGHEST_DEGREE t_LONGEST_COUNTS t_BLANK t_TOP_LIMIT t_BOTTOM_LIMIT t_NUMBER t_REACH t_SQUARE t_BEGIN t_TAKE t_STATE t_READING t_BACK t_COMES t_SAYS t_DONE t_WRONG_CALL t_NOT_RIGHT t_OUT_OF_PLACE t_TOO_LARGE t_NO_LOAD t_MOST_BITS : Tok}
    (a_CallReader : PySem.W.nsIn K mainGlobals "CallReader" = some (some (.ref C_CallReader)))
    (pg_CallReader : PySem.W.plainGet K C_CallReader Str.empty = true)
    (hd_CallReader : PySem.W.hasDictIn K C_CallReader = true)
    (po_CallReader : PySem.W.plainOver K C_CallReader = true)
    (sa_CallReader : PySem.W.findIn K (.ref C_CallReader) "__setattr__" = some (some (.builtin "object.__setattr__")))
    (mk_CallReader : PySem.W.makesIn K C_CallReader = true)
    (kc_CallReader : PySem.W.keepIn K (.ref C_CallReader) = true)
    (no_CallReader_calls : PySem.W.findIn K (.ref C_CallReader) "calls" = some none)
    (no_CallReader_place : PySem.W.findIn K (.ref C_CallReader) "place" = some none)
    (a_Ratio : PySem.W.nsIn K mainGlobals "Ratio" = some (some (.ref C_Ratio)))
    (pg_Ratio : PySem.W.plainGet K C_Ratio Str.empty = true)
    (hd_Ratio : PySem.W.hasDictIn K C_Ratio = true)
    (po_Ratio : PySem.W.plainOver K C_Ratio = true)
    (sa_Ratio : PySem.W.findIn K (.ref C_Ratio) "__setattr__" = some (some (.builtin "object.__setattr__")))
    (mk_Ratio : PySem.W.makesIn K C_Ratio = true)
    (kc_Ratio : PySem.W.keepIn K (.ref C_Ratio) = true)
    (no_Ratio_top : PySem.W.findIn K (.ref C_Ratio) "top" = some none)
    (no_Ratio_bottom : PySem.W.findIn K (.ref C_Ratio) "bottom" = some none)
    (a_Plan : PySem.W.nsIn K mainGlobals "Plan" = some (some (.ref C_Plan)))
    (pg_Plan : PySem.W.plainGet K C_Plan Str.empty = true)
    (hd_Plan : PySem.W.hasDictIn K C_Plan = true)
    (po_Plan : PySem.W.plainOver K C_Plan = true)
    (sa_Plan : PySem.W.findIn K (.ref C_Plan) "__setattr__" = some (some (.builtin "object.__setattr__")))
    (mk_Plan : PySem.W.makesIn K C_Plan = true)
    (kc_Plan : PySem.W.keepIn K (.ref C_Plan) = true)
    (no_Plan_loads : PySem.W.findIn K (.ref C_Plan) "loads" = some none)
    (no_Plan_tops : PySem.W.findIn K (.ref C_Plan) "tops" = some none)
    (no_Plan_bottom : PySem.W.findIn K (.ref C_Plan) "bottom" = some none)
    (a_Basis : PySem.W.nsIn K mainGlobals "Basis" = some (some (.ref C_Basis)))
    (pg_Basis : PySem.W.plainGet K C_Basis Str.empty = true)
    (hd_Basis : PySem.W.hasDictIn K C_Basis = true)
    (po_Basis : PySem.W.plainOver K C_Basis = true)
    (sa_Basis : PySem.W.findIn K (.ref C_Basis) "__setattr__" = some (some (.builtin "object.__setattr__")))
    (mk_Basis : PySem.W.makesIn K C_Basis = true)
    (kc_Basis : PySem.W.keepIn K (.ref C_Basis) = true)
    (no_Basis_worth : PySem.W.findIn K (.ref C_Basis) "worth" = some none)
    (no_Basis_bound : PySem.W.findIn K (.ref C_Basis) "bound" = some none)
    (no_Basis_nearness : PySem.W.findIn K (.ref C_Basis) "nearness" = some none)
    (no_Basis_square : PySem.W.findIn K (.ref C_Basis) "square" = some none)
    (a_Measured : PySem.W.nsIn K mainGlobals "Measured" = some (some (.ref C_Measured)))
    (pg_Measured : PySem.W.plainGet K C_Measured Str.empty = true)
    (hd_Measured : PySem.W.hasDictIn K C_Measured = true)
    (po_Measured : PySem.W.plainOver K C_Measured = true)
    (sa_Measured : PySem.W.findIn K (.ref C_Measured) "__setattr__" = some (some (.builtin "object.__setattr__")))
    (mk_Measured : PySem.W.makesIn K C_Measured = true)
    (kc_Measured : PySem.W.keepIn K (.ref C_Measured) = true)
    (no_Measured_number : PySem.W.findIn K (.ref C_Measured) "number" = some none)
    (no_Measured_reach : PySem.W.findIn K (.ref C_Measured) "reach" = some none)
    (no_Measured_square : PySem.W.findIn K (.ref C_Measured) "square" = some none)
    (a_Weighing : PySem.W.nsIn K mainGlobals "Weighing" = some (some (.ref C_Weighing)))
    (pg_Weighing : PySem.W.plainGet K C_Weighing Str.empty = true)
    (hd_Weighing : PySem.W.hasDictIn K C_Weighing = true)
    (po_Weighing : PySem.W.plainOver K C_Weighing = true)
    (sa_Weighing : PySem.W.findIn K (.ref C_Weighing) "__setattr__" = some (some (.builtin "object.__setattr__")))
    (mk_Weighing : PySem.W.makesIn K C_Weighing = true)
    (kc_Weighing : PySem.W.keepIn K (.ref C_Weighing) = true)
    (no_Weighing_plan : PySem.W.findIn K (.ref C_Weighing) "plan" = some none)
    (no_Weighing_readings : PySem.W.findIn K (.ref C_Weighing) "readings" = some none)
    (a_Line : PySem.W.nsIn K mainGlobals "Line" = some (some (.ref C_Line)))
    (pg_Line : PySem.W.plainGet K C_Line Str.empty = true)
    (hd_Line : PySem.W.hasDictIn K C_Line = true)
    (po_Line : PySem.W.plainOver K C_Line = true)
    (sa_Line : PySem.W.findIn K (.ref C_Line) "__setattr__" = some (some (.builtin "object.__setattr__")))
    (mk_Line : PySem.W.makesIn K C_Line = true)
    (kc_Line : PySem.W.keepIn K (.ref C_Line) = true)
    (no_Line_weighing : PySem.W.findIn K (.ref C_Line) "weighing" = some none)
    (a_CallReader_init : PySem.W.findIn K (.ref C_CallReader) "__init__" = some (some (.ref f_CallReader_init)))
    (i_CallReader_init : PySem.W.isFn K (.ref f_CallReader_init) = true)
    (l_CallReader_init : K.lookup f_CallReader_init = some ⟨oc_CallReader_init, od_CallReader_init, .func (PySem.W.fnOf "__init__" "CallReader.__init__" (defArgs s_CallReader_init) (defBody s_CallReader_init) (defScope s_CallReader_init) .none kV_CallReader_init dc_CallReader_init pm_CallReader_init an_CallReader_init cd_CallReader_init ct_CallReader_init), sl_CallReader_init⟩)
    (cc_CallReader_init : PySem.W.codeIn K cd_CallReader_init "CallReader.__init__" = true)
    (k_CallReader_init : PySem.W.keepIn K (.ref f_CallReader_init) = true)
    (a_CallReader_at_end : PySem.W.findIn K (.ref C_CallReader) "at_end" = some (some (.ref f_CallReader_at_end)))
    (i_CallReader_at_end : PySem.W.isFn K (.ref f_CallReader_at_end) = true)
    (l_CallReader_at_end : K.lookup f_CallReader_at_end = some ⟨oc_CallReader_at_end, od_CallReader_at_end, .func (PySem.W.fnOf "at_end" "CallReader.at_end" (defArgs s_CallReader_at_end) (defBody s_CallReader_at_end) (defScope s_CallReader_at_end) .none kV_CallReader_at_end dc_CallReader_at_end pm_CallReader_at_end an_CallReader_at_end cd_CallReader_at_end ct_CallReader_at_end), sl_CallReader_at_end⟩)
    (cc_CallReader_at_end : PySem.W.codeIn K cd_CallReader_at_end "CallReader.at_end" = true)
    (k_CallReader_at_end : PySem.W.keepIn K (.ref f_CallReader_at_end) = true)
    (a_CallReader_next_number : PySem.W.findIn K (.ref C_CallReader) "next_number" = some (some (.ref f_CallReader_next_number)))
    (i_CallReader_next_number : PySem.W.isFn K (.ref f_CallReader_next_number) = true)
    (l_CallReader_next_number : K.lookup f_CallReader_next_number = some ⟨oc_CallReader_next_number, od_CallReader_next_number, .func (PySem.W.fnOf "next_number" "CallReader.next_number" (defArgs s_CallReader_next_number) (defBody s_CallReader_next_number) (defScope s_CallReader_next_number) .none kV_CallReader_next_number dc_CallReader_next_number pm_CallReader_next_number an_CallReader_next_number cd_CallReader_next_number ct_CallReader_next_number), sl_CallReader_next_number⟩)
    (cc_CallReader_next_number : PySem.W.codeIn K cd_CallReader_next_number "CallReader.next_number" = true)
    (k_CallReader_next_number : PySem.W.keepIn K (.ref f_CallReader_next_number) = true)
    (a_CallReader_next_row : PySem.W.findIn K (.ref C_CallReader) "next_row" = some (some (.ref f_CallReader_next_row)))
    (i_CallReader_next_row : PySem.W.isFn K (.ref f_CallReader_next_row) = true)
    (l_CallReader_next_row : K.lookup f_CallReader_next_row = some ⟨oc_CallReader_next_row, od_CallReader_next_row, .func (PySem.W.fnOf "next_row" "CallReader.next_row" (defArgs s_CallReader_next_row) (defBody s_CallReader_next_row) (defScope s_CallReader_next_row) .none kV_CallReader_next_row dc_CallReader_next_row pm_CallReader_next_row an_CallReader_next_row cd_CallReader_next_row ct_CallReader_next_row), sl_CallReader_next_row⟩)
    (cc_CallReader_next_row : PySem.W.codeIn K cd_CallReader_next_row "CallReader.next_row" = true)
    (k_CallReader_next_row : PySem.W.keepIn K (.ref f_CallReader_next_row) = true)
    (a_common_factor : PySem.W.nsIn K mainGlobals "common_factor" = some (some (.ref f_common_factor)))
    (l_common_factor : K.lookup f_common_factor = some ⟨oc_common_factor, od_common_factor, .func (PySem.W.fnOf "common_factor" "common_factor" (defArgs s_common_factor) (defBody s_common_factor) (defScope s_common_factor) .none kV_common_factor dc_common_factor pm_common_factor an_common_factor cd_common_factor ct_common_factor), sl_common_factor⟩)
    (cc_common_factor : PySem.W.codeIn K cd_common_factor "common_factor" = true)
    (k_common_factor : PySem.W.keepIn K (.ref f_common_factor) = true)
    (a_Ratio_init : PySem.W.findIn K (.ref C_Ratio) "__init__" = some (some (.ref f_Ratio_init)))
    (i_Ratio_init : PySem.W.isFn K (.ref f_Ratio_init) = true)
    (l_Ratio_init : K.lookup f_Ratio_init = some ⟨oc_Ratio_init, od_Ratio_init, .func (PySem.W.fnOf "__init__" "Ratio.__init__" (defArgs s_Ratio_init) (defBody s_Ratio_init) (defScope s_Ratio_init) .none kV_Ratio_init dc_Ratio_init pm_Ratio_init an_Ratio_init cd_Ratio_init ct_Ratio_init), sl_Ratio_init⟩)
    (cc_Ratio_init : PySem.W.codeIn K cd_Ratio_init "Ratio.__init__" = true)
    (k_Ratio_init : PySem.W.keepIn K (.ref f_Ratio_init) = true)
    (a_Ratio_plus : PySem.W.findIn K (.ref C_Ratio) "plus" = some (some (.ref f_Ratio_plus)))
    (i_Ratio_plus : PySem.W.isFn K (.ref f_Ratio_plus) = true)
    (l_Ratio_plus : K.lookup f_Ratio_plus = some ⟨oc_Ratio_plus, od_Ratio_plus, .func (PySem.W.fnOf "plus" "Ratio.plus" (defArgs s_Ratio_plus) (defBody s_Ratio_plus) (defScope s_Ratio_plus) .none kV_Ratio_plus dc_Ratio_plus pm_Ratio_plus an_Ratio_plus cd_Ratio_plus ct_Ratio_plus), sl_Ratio_plus⟩)
    (cc_Ratio_plus : PySem.W.codeIn K cd_Ratio_plus "Ratio.plus" = true)
    (k_Ratio_plus : PySem.W.keepIn K (.ref f_Ratio_plus) = true)
    (a_Ratio_times : PySem.W.findIn K (.ref C_Ratio) "times" = some (some (.ref f_Ratio_times)))
    (i_Ratio_times : PySem.W.isFn K (.ref f_Ratio_times) = true)
    (l_Ratio_times : K.lookup f_Ratio_times = some ⟨oc_Ratio_times, od_Ratio_times, .func (PySem.W.fnOf "times" "Ratio.times" (defArgs s_Ratio_times) (defBody s_Ratio_times) (defScope s_Ratio_times) .none kV_Ratio_times dc_Ratio_times pm_Ratio_times an_Ratio_times cd_Ratio_times ct_Ratio_times), sl_Ratio_times⟩)
    (cc_Ratio_times : PySem.W.codeIn K cd_Ratio_times "Ratio.times" = true)
    (k_Ratio_times : PySem.W.keepIn K (.ref f_Ratio_times) = true)
    (a_Ratio_size : PySem.W.findIn K (.ref C_Ratio) "size" = some (some (.ref f_Ratio_size)))
    (i_Ratio_size : PySem.W.isFn K (.ref f_Ratio_size) = true)
    (l_Ratio_size : K.lookup f_Ratio_size = some ⟨oc_Ratio_size, od_Ratio_size, .func (PySem.W.fnOf "size" "Ratio.size" (defArgs s_Ratio_size) (defBody s_Ratio_size) (defScope s_Ratio_size) .none kV_Ratio_size dc_Ratio_size pm_Ratio_size an_Ratio_size cd_Ratio_size ct_Ratio_size), sl_Ratio_size⟩)
    (cc_Ratio_size : PySem.W.codeIn K cd_Ratio_size "Ratio.size" = true)
    (k_Ratio_size : PySem.W.keepIn K (.ref f_Ratio_size) = true)
    (a_digits_end : PySem.W.nsIn K mainGlobals "digits_end" = some (some (.ref f_digits_end)))
    (l_digits_end : K.lookup f_digits_end = some ⟨oc_digits_end, od_digits_end, .func (PySem.W.fnOf "digits_end" "digits_end" (defArgs s_digits_end) (defBody s_digits_end) (defScope s_digits_end) .none kV_digits_end dc_digits_end pm_digits_end an_digits_end cd_digits_end ct_digits_end), sl_digits_end⟩)
    (cc_digits_end : PySem.W.codeIn K cd_digits_end "digits_end" = true)
    (k_digits_end : PySem.W.keepIn K (.ref f_digits_end) = true)
    (a_digits_value : PySem.W.nsIn K mainGlobals "digits_value" = some (some (.ref f_digits_value)))
    (l_digits_value : K.lookup f_digits_value = some ⟨oc_digits_value, od_digits_value, .func (PySem.W.fnOf "digits_value" "digits_value" (defArgs s_digits_value) (defBody s_digits_value) (defScope s_digits_value) .none kV_digits_value dc_digits_value pm_digits_value an_digits_value cd_digits_value ct_digits_value), sl_digits_value⟩)
    (cc_digits_value : PySem.W.codeIn K cd_digits_value "digits_value" = true)
    (k_digits_value : PySem.W.keepIn K (.ref f_digits_value) = true)
    (a_power_of_ten : PySem.W.nsIn K mainGlobals "power_of_ten" = some (some (.ref f_power_of_ten)))
    (l_power_of_ten : K.lookup f_power_of_ten = some ⟨oc_power_of_ten, od_power_of_ten, .func (PySem.W.fnOf "power_of_ten" "power_of_ten" (defArgs s_power_of_ten) (defBody s_power_of_ten) (defScope s_power_of_ten) .none kV_power_of_ten dc_power_of_ten pm_power_of_ten an_power_of_ten cd_power_of_ten ct_power_of_ten), sl_power_of_ten⟩)
    (cc_power_of_ten : PySem.W.codeIn K cd_power_of_ten "power_of_ten" = true)
    (k_power_of_ten : PySem.W.keepIn K (.ref f_power_of_ten) = true)
    (a_read_size : PySem.W.nsIn K mainGlobals "read_size" = some (some (.ref f_read_size)))
    (l_read_size : K.lookup f_read_size = some ⟨oc_read_size, od_read_size, .func (PySem.W.fnOf "read_size" "read_size" (defArgs s_read_size) (defBody s_read_size) (defScope s_read_size) .none kV_read_size dc_read_size pm_read_size an_read_size cd_read_size ct_read_size), sl_read_size⟩)
    (cc_read_size : PySem.W.codeIn K cd_read_size "read_size" = true)
    (k_read_size : PySem.W.keepIn K (.ref f_read_size) = true)
    (a_read_number : PySem.W.nsIn K mainGlobals "read_number" = some (some (.ref f_read_number)))
    (l_read_number : K.lookup f_read_number = some ⟨oc_read_number, od_read_number, .func (PySem.W.fnOf "read_number" "read_number" (defArgs s_read_number) (defBody s_read_number) (defScope s_read_number) .none kV_read_number dc_read_number pm_read_number an_read_number cd_read_number ct_read_number), sl_read_number⟩)
    (cc_read_number : PySem.W.codeIn K cd_read_number "read_number" = true)
    (k_read_number : PySem.W.keepIn K (.ref f_read_number) = true)
    (a_exact_text : PySem.W.nsIn K mainGlobals "exact_text" = some (some (.ref f_exact_text)))
    (l_exact_text : K.lookup f_exact_text = some ⟨oc_exact_text, od_exact_text, .func (PySem.W.fnOf "exact_text" "exact_text" (defArgs s_exact_text) (defBody s_exact_text) (defScope s_exact_text) .none kV_exact_text dc_exact_text pm_exact_text an_exact_text cd_exact_text ct_exact_text), sl_exact_text⟩)
    (cc_exact_text : PySem.W.codeIn K cd_exact_text "exact_text" = true)
    (k_exact_text : PySem.W.keepIn K (.ref f_exact_text) = true)
    (a_Plan_init : PySem.W.findIn K (.ref C_Plan) "__init__" = some (some (.ref f_Plan_init)))
    (i_Plan_init : PySem.W.isFn K (.ref f_Plan_init) = true)
    (l_Plan_init : K.lookup f_Plan_init = some ⟨oc_Plan_init, od_Plan_init, .func (PySem.W.fnOf "__init__" "Plan.__init__" (defArgs s_Plan_init) (defBody s_Plan_init) (defScope s_Plan_init) .none kV_Plan_init dc_Plan_init pm_Plan_init an_Plan_init cd_Plan_init ct_Plan_init), sl_Plan_init⟩)
    (cc_Plan_init : PySem.W.codeIn K cd_Plan_init "Plan.__init__" = true)
    (k_Plan_init : PySem.W.keepIn K (.ref f_Plan_init) = true)
    (a_Plan_comes_out : PySem.W.findIn K (.ref C_Plan) "comes_out" = some (some (.ref f_Plan_comes_out)))
    (i_Plan_comes_out : PySem.W.isFn K (.ref f_Plan_comes_out) = true)
    (l_Plan_comes_out : K.lookup f_Plan_comes_out = some ⟨oc_Plan_comes_out, od_Plan_comes_out, .func (PySem.W.fnOf "comes_out" "Plan.comes_out" (defArgs s_Plan_comes_out) (defBody s_Plan_comes_out) (defScope s_Plan_comes_out) .none kV_Plan_comes_out dc_Plan_comes_out pm_Plan_comes_out an_Plan_comes_out cd_Plan_comes_out ct_Plan_comes_out), sl_Plan_comes_out⟩)
    (cc_Plan_comes_out : PySem.W.codeIn K cd_Plan_comes_out "Plan.comes_out" = true)
    (k_Plan_comes_out : PySem.W.keepIn K (.ref f_Plan_comes_out) = true)
    (a_split_at_blanks : PySem.W.nsIn K mainGlobals "split_at_blanks" = some (some (.ref f_split_at_blanks)))
    (l_split_at_blanks : K.lookup f_split_at_blanks = some ⟨oc_split_at_blanks, od_split_at_blanks, .func (PySem.W.fnOf "split_at_blanks" "split_at_blanks" (defArgs s_split_at_blanks) (defBody s_split_at_blanks) (defScope s_split_at_blanks) .none kV_split_at_blanks dc_split_at_blanks pm_split_at_blanks an_split_at_blanks cd_split_at_blanks ct_split_at_blanks), sl_split_at_blanks⟩)
    (cc_split_at_blanks : PySem.W.codeIn K cd_split_at_blanks "split_at_blanks" = true)
    (k_split_at_blanks : PySem.W.keepIn K (.ref f_split_at_blanks) = true)
    (a_may_count : PySem.W.nsIn K mainGlobals "may_count" = some (some (.ref f_may_count)))
    (l_may_count : K.lookup f_may_count = some ⟨oc_may_count, od_may_count, .func (PySem.W.fnOf "may_count" "may_count" (defArgs s_may_count) (defBody s_may_count) (defScope s_may_count) .none kV_may_count dc_may_count pm_may_count an_may_count cd_may_count ct_may_count), sl_may_count⟩)
    (cc_may_count : PySem.W.codeIn K cd_may_count "may_count" = true)
    (k_may_count : PySem.W.keepIn K (.ref f_may_count) = true)
    (a_read_counts : PySem.W.nsIn K mainGlobals "read_counts" = some (some (.ref f_read_counts)))
    (l_read_counts : K.lookup f_read_counts = some ⟨oc_read_counts, od_read_counts, .func (PySem.W.fnOf "read_counts" "read_counts" (defArgs s_read_counts) (defBody s_read_counts) (defScope s_read_counts) .none kV_read_counts dc_read_counts pm_read_counts an_read_counts cd_read_counts ct_read_counts), sl_read_counts⟩)
    (cc_read_counts : PySem.W.codeIn K cd_read_counts "read_counts" = true)
    (k_read_counts : PySem.W.keepIn K (.ref f_read_counts) = true)
    (a_loads_fit : PySem.W.nsIn K mainGlobals "loads_fit" = some (some (.ref f_loads_fit)))
    (l_loads_fit : K.lookup f_loads_fit = some ⟨oc_loads_fit, od_loads_fit, .func (PySem.W.fnOf "loads_fit" "loads_fit" (defArgs s_loads_fit) (defBody s_loads_fit) (defScope s_loads_fit) .none kV_loads_fit dc_loads_fit pm_loads_fit an_loads_fit cd_loads_fit ct_loads_fit), sl_loads_fit⟩)
    (cc_loads_fit : PySem.W.codeIn K cd_loads_fit "loads_fit" = true)
    (k_loads_fit : PySem.W.keepIn K (.ref f_loads_fit) = true)
    (a_common_bottom : PySem.W.nsIn K mainGlobals "common_bottom" = some (some (.ref f_common_bottom)))
    (l_common_bottom : K.lookup f_common_bottom = some ⟨oc_common_bottom, od_common_bottom, .func (PySem.W.fnOf "common_bottom" "common_bottom" (defArgs s_common_bottom) (defBody s_common_bottom) (defScope s_common_bottom) .none kV_common_bottom dc_common_bottom pm_common_bottom an_common_bottom cd_common_bottom ct_common_bottom), sl_common_bottom⟩)
    (cc_common_bottom : PySem.W.codeIn K cd_common_bottom "common_bottom" = true)
    (k_common_bottom : PySem.W.keepIn K (.ref f_common_bottom) = true)
    (a_drift_goes_out : PySem.W.nsIn K mainGlobals "drift_goes_out" = some (some (.ref f_drift_goes_out)))
    (l_drift_goes_out : K.lookup f_drift_goes_out = some ⟨oc_drift_goes_out, od_drift_goes_out, .func (PySem.W.fnOf "drift_goes_out" "drift_goes_out" (defArgs s_drift_goes_out) (defBody s_drift_goes_out) (defScope s_drift_goes_out) .none kV_drift_goes_out dc_drift_goes_out pm_drift_goes_out an_drift_goes_out cd_drift_goes_out ct_drift_goes_out), sl_drift_goes_out⟩)
    (cc_drift_goes_out : PySem.W.codeIn K cd_drift_goes_out "drift_goes_out" = true)
    (k_drift_goes_out : PySem.W.keepIn K (.ref f_drift_goes_out) = true)
    (a_read_plan : PySem.W.nsIn K mainGlobals "read_plan" = some (some (.ref f_read_plan)))
    (l_read_plan : K.lookup f_read_plan = some ⟨oc_read_plan, od_read_plan, .func (PySem.W.fnOf "read_plan" "read_plan" (defArgs s_read_plan) (defBody s_read_plan) (defScope s_read_plan) .none kV_read_plan dc_read_plan pm_read_plan an_read_plan cd_read_plan ct_read_plan), sl_read_plan⟩)
    (cc_read_plan : PySem.W.codeIn K cd_read_plan "read_plan" = true)
    (k_read_plan : PySem.W.keepIn K (.ref f_read_plan) = true)
    (a_Basis_init : PySem.W.findIn K (.ref C_Basis) "__init__" = some (some (.ref f_Basis_init)))
    (i_Basis_init : PySem.W.isFn K (.ref f_Basis_init) = true)
    (l_Basis_init : K.lookup f_Basis_init = some ⟨oc_Basis_init, od_Basis_init, .func (PySem.W.fnOf "__init__" "Basis.__init__" (defArgs s_Basis_init) (defBody s_Basis_init) (defScope s_Basis_init) .none kV_Basis_init dc_Basis_init pm_Basis_init an_Basis_init cd_Basis_init ct_Basis_init), sl_Basis_init⟩)
    (cc_Basis_init : PySem.W.codeIn K cd_Basis_init "Basis.__init__" = true)
    (k_Basis_init : PySem.W.keepIn K (.ref f_Basis_init) = true)
    (a_Measured_init : PySem.W.findIn K (.ref C_Measured) "__init__" = some (some (.ref f_Measured_init)))
    (i_Measured_init : PySem.W.isFn K (.ref f_Measured_init) = true)
    (l_Measured_init : K.lookup f_Measured_init = some ⟨oc_Measured_init, od_Measured_init, .func (PySem.W.fnOf "__init__" "Measured.__init__" (defArgs s_Measured_init) (defBody s_Measured_init) (defScope s_Measured_init) .none kV_Measured_init dc_Measured_init pm_Measured_init an_Measured_init cd_Measured_init ct_Measured_init), sl_Measured_init⟩)
    (cc_Measured_init : PySem.W.codeIn K cd_Measured_init "Measured.__init__" = true)
    (k_Measured_init : PySem.W.keepIn K (.ref f_Measured_init) = true)
    (a_read_unsigned : PySem.W.nsIn K mainGlobals "read_unsigned" = some (some (.ref f_read_unsigned)))
    (l_read_unsigned : K.lookup f_read_unsigned = some ⟨oc_read_unsigned, od_read_unsigned, .func (PySem.W.fnOf "read_unsigned" "read_unsigned" (defArgs s_read_unsigned) (defBody s_read_unsigned) (defScope s_read_unsigned) .none kV_read_unsigned dc_read_unsigned pm_read_unsigned an_read_unsigned cd_read_unsigned ct_read_unsigned), sl_read_unsigned⟩)
    (cc_read_unsigned : PySem.W.codeIn K cd_read_unsigned "read_unsigned" = true)
    (k_read_unsigned : PySem.W.keepIn K (.ref f_read_unsigned) = true)
    (a_read_basis : PySem.W.nsIn K mainGlobals "read_basis" = some (some (.ref f_read_basis)))
    (l_read_basis : K.lookup f_read_basis = some ⟨oc_read_basis, od_read_basis, .func (PySem.W.fnOf "read_basis" "read_basis" (defArgs s_read_basis) (defBody s_read_basis) (defScope s_read_basis) .none kV_read_basis dc_read_basis pm_read_basis an_read_basis cd_read_basis ct_read_basis), sl_read_basis⟩)
    (cc_read_basis : PySem.W.codeIn K cd_read_basis "read_basis" = true)
    (k_read_basis : PySem.W.keepIn K (.ref f_read_basis) = true)
    (a_bound_square : PySem.W.nsIn K mainGlobals "bound_square" = some (some (.ref f_bound_square)))
    (l_bound_square : K.lookup f_bound_square = some ⟨oc_bound_square, od_bound_square, .func (PySem.W.fnOf "bound_square" "bound_square" (defArgs s_bound_square) (defBody s_bound_square) (defScope s_bound_square) .none kV_bound_square dc_bound_square pm_bound_square an_bound_square cd_bound_square ct_bound_square), sl_bound_square⟩)
    (cc_bound_square : PySem.W.codeIn K cd_bound_square "bound_square" = true)
    (k_bound_square : PySem.W.keepIn K (.ref f_bound_square) = true)
    (a_counted_divisions : PySem.W.nsIn K mainGlobals "counted_divisions" = some (some (.ref f_counted_divisions)))
    (l_counted_divisions : K.lookup f_counted_divisions = some ⟨oc_counted_divisions, od_counted_divisions, .func (PySem.W.fnOf "counted_divisions" "counted_divisions" (defArgs s_counted_divisions) (defBody s_counted_divisions) (defScope s_counted_divisions) .none kV_counted_divisions dc_counted_divisions pm_counted_divisions an_counted_divisions cd_counted_divisions ct_counted_divisions), sl_counted_divisions⟩)
    (cc_counted_divisions : PySem.W.codeIn K cd_counted_divisions "counted_divisions" = true)
    (k_counted_divisions : PySem.W.keepIn K (.ref f_counted_divisions) = true)
    (a_division_worth : PySem.W.nsIn K mainGlobals "division_worth" = some (some (.ref f_division_worth)))
    (l_division_worth : K.lookup f_division_worth = some ⟨oc_division_worth, od_division_worth, .func (PySem.W.fnOf "division_worth" "division_worth" (defArgs s_division_worth) (defBody s_division_worth) (defScope s_division_worth) .none kV_division_worth dc_division_worth pm_division_worth an_division_worth cd_division_worth ct_division_worth), sl_division_worth⟩)
    (cc_division_worth : PySem.W.codeIn K cd_division_worth "division_worth" = true)
    (k_division_worth : PySem.W.keepIn K (.ref f_division_worth) = true)
    (a_told_reach : PySem.W.nsIn K mainGlobals "told_reach" = some (some (.ref f_told_reach)))
    (l_told_reach : K.lookup f_told_reach = some ⟨oc_told_reach, od_told_reach, .func (PySem.W.fnOf "told_reach" "told_reach" (defArgs s_told_reach) (defBody s_told_reach) (defScope s_told_reach) .none kV_told_reach dc_told_reach pm_told_reach an_told_reach cd_told_reach ct_told_reach), sl_told_reach⟩)
    (cc_told_reach : PySem.W.codeIn K cd_told_reach "told_reach" = true)
    (k_told_reach : PySem.W.keepIn K (.ref f_told_reach) = true)
    (a_told_square : PySem.W.nsIn K mainGlobals "told_square" = some (some (.ref f_told_square)))
    (l_told_square : K.lookup f_told_square = some ⟨oc_told_square, od_told_square, .func (PySem.W.fnOf "told_square" "told_square" (defArgs s_told_square) (defBody s_told_square) (defScope s_told_square) .none kV_told_square dc_told_square pm_told_square an_told_square cd_told_square ct_told_square), sl_told_square⟩)
    (cc_told_square : PySem.W.codeIn K cd_told_square "told_square" = true)
    (k_told_square : PySem.W.keepIn K (.ref f_told_square) = true)
    (a_told : PySem.W.nsIn K mainGlobals "told" = some (some (.ref f_told)))
    (l_told : K.lookup f_told = some ⟨oc_told, od_told, .func (PySem.W.fnOf "told" "told" (defArgs s_told) (defBody s_told) (defScope s_told) .none kV_told dc_told pm_told an_told cd_told ct_told), sl_told⟩)
    (cc_told : PySem.W.codeIn K cd_told "told" = true)
    (k_told : PySem.W.keepIn K (.ref f_told) = true)
    (a_Weighing_init : PySem.W.findIn K (.ref C_Weighing) "__init__" = some (some (.ref f_Weighing_init)))
    (i_Weighing_init : PySem.W.isFn K (.ref f_Weighing_init) = true)
    (l_Weighing_init : K.lookup f_Weighing_init = some ⟨oc_Weighing_init, od_Weighing_init, .func (PySem.W.fnOf "__init__" "Weighing.__init__" (defArgs s_Weighing_init) (defBody s_Weighing_init) (defScope s_Weighing_init) .none kV_Weighing_init dc_Weighing_init pm_Weighing_init an_Weighing_init cd_Weighing_init ct_Weighing_init), sl_Weighing_init⟩)
    (cc_Weighing_init : PySem.W.codeIn K cd_Weighing_init "Weighing.__init__" = true)
    (k_Weighing_init : PySem.W.keepIn K (.ref f_Weighing_init) = true)
    (a_Weighing_steps : PySem.W.findIn K (.ref C_Weighing) "steps" = some (some (.ref f_Weighing_steps)))
    (i_Weighing_steps : PySem.W.isFn K (.ref f_Weighing_steps) = true)
    (l_Weighing_steps : K.lookup f_Weighing_steps = some ⟨oc_Weighing_steps, od_Weighing_steps, .func (PySem.W.fnOf "steps" "Weighing.steps" (defArgs s_Weighing_steps) (defBody s_Weighing_steps) (defScope s_Weighing_steps) .none kV_Weighing_steps dc_Weighing_steps pm_Weighing_steps an_Weighing_steps cd_Weighing_steps ct_Weighing_steps), sl_Weighing_steps⟩)
    (cc_Weighing_steps : PySem.W.codeIn K cd_Weighing_steps "Weighing.steps" = true)
    (k_Weighing_steps : PySem.W.keepIn K (.ref f_Weighing_steps) = true)
    (a_Weighing_finished : PySem.W.findIn K (.ref C_Weighing) "finished" = some (some (.ref f_Weighing_finished)))
    (i_Weighing_finished : PySem.W.isFn K (.ref f_Weighing_finished) = true)
    (l_Weighing_finished : K.lookup f_Weighing_finished = some ⟨oc_Weighing_finished, od_Weighing_finished, .func (PySem.W.fnOf "finished" "Weighing.finished" (defArgs s_Weighing_finished) (defBody s_Weighing_finished) (defScope s_Weighing_finished) .none kV_Weighing_finished dc_Weighing_finished pm_Weighing_finished an_Weighing_finished cd_Weighing_finished ct_Weighing_finished), sl_Weighing_finished⟩)
    (cc_Weighing_finished : PySem.W.codeIn K cd_Weighing_finished "Weighing.finished" = true)
    (k_Weighing_finished : PySem.W.keepIn K (.ref f_Weighing_finished) = true)
    (a_Weighing_next_load : PySem.W.findIn K (.ref C_Weighing) "next_load" = some (some (.ref f_Weighing_next_load)))
    (i_Weighing_next_load : PySem.W.isFn K (.ref f_Weighing_next_load) = true)
    (l_Weighing_next_load : K.lookup f_Weighing_next_load = some ⟨oc_Weighing_next_load, od_Weighing_next_load, .func (PySem.W.fnOf "next_load" "Weighing.next_load" (defArgs s_Weighing_next_load) (defBody s_Weighing_next_load) (defScope s_Weighing_next_load) .none kV_Weighing_next_load dc_Weighing_next_load pm_Weighing_next_load an_Weighing_next_load cd_Weighing_next_load ct_Weighing_next_load), sl_Weighing_next_load⟩)
    (cc_Weighing_next_load : PySem.W.codeIn K cd_Weighing_next_load "Weighing.next_load" = true)
    (k_Weighing_next_load : PySem.W.keepIn K (.ref f_Weighing_next_load) = true)
    (a_text_answer : PySem.W.nsIn K mainGlobals "text_answer" = some (some (.ref f_text_answer)))
    (l_text_answer : K.lookup f_text_answer = some ⟨oc_text_answer, od_text_answer, .func (PySem.W.fnOf "text_answer" "text_answer" (defArgs s_text_answer) (defBody s_text_answer) (defScope s_text_answer) .none kV_text_answer dc_text_answer pm_text_answer an_text_answer cd_text_answer ct_text_answer), sl_text_answer⟩)
    (cc_text_answer : PySem.W.codeIn K cd_text_answer "text_answer" = true)
    (k_text_answer : PySem.W.keepIn K (.ref f_text_answer) = true)
    (a_Line_init : PySem.W.findIn K (.ref C_Line) "__init__" = some (some (.ref f_Line_init)))
    (i_Line_init : PySem.W.isFn K (.ref f_Line_init) = true)
    (l_Line_init : K.lookup f_Line_init = some ⟨oc_Line_init, od_Line_init, .func (PySem.W.fnOf "__init__" "Line.__init__" (defArgs s_Line_init) (defBody s_Line_init) (defScope s_Line_init) .none kV_Line_init dc_Line_init pm_Line_init an_Line_init cd_Line_init ct_Line_init), sl_Line_init⟩)
    (cc_Line_init : PySem.W.codeIn K cd_Line_init "Line.__init__" = true)
    (k_Line_init : PySem.W.keepIn K (.ref f_Line_init) = true)
    (a_Line_begin : PySem.W.findIn K (.ref C_Line) "begin" = some (some (.ref f_Line_begin)))
    (i_Line_begin : PySem.W.isFn K (.ref f_Line_begin) = true)
    (l_Line_begin : K.lookup f_Line_begin = some ⟨oc_Line_begin, od_Line_begin, .func (PySem.W.fnOf "begin" "Line.begin" (defArgs s_Line_begin) (defBody s_Line_begin) (defScope s_Line_begin) .none kV_Line_begin dc_Line_begin pm_Line_begin an_Line_begin cd_Line_begin ct_Line_begin), sl_Line_begin⟩)
    (cc_Line_begin : PySem.W.codeIn K cd_Line_begin "Line.begin" = true)
    (k_Line_begin : PySem.W.keepIn K (.ref f_Line_begin) = true)
    (a_Line_take : PySem.W.findIn K (.ref C_Line) "take" = some (some (.ref f_Line_take)))
    (i_Line_take : PySem.W.isFn K (.ref f_Line_take) = true)
    (l_Line_take : K.lookup f_Line_take = some ⟨oc_Line_take, od_Line_take, .func (PySem.W.fnOf "take" "Line.take" (defArgs s_Line_take) (defBody s_Line_take) (defScope s_Line_take) .none kV_Line_take dc_Line_take pm_Line_take an_Line_take cd_Line_take ct_Line_take), sl_Line_take⟩)
    (cc_Line_take : PySem.W.codeIn K cd_Line_take "Line.take" = true)
    (k_Line_take : PySem.W.keepIn K (.ref f_Line_take) = true)
    (a_Line_state : PySem.W.findIn K (.ref C_Line) "state" = some (some (.ref f_Line_state)))
    (i_Line_state : PySem.W.isFn K (.ref f_Line_state) = true)
    (l_Line_state : K.lookup f_Line_state = some ⟨oc_Line_state, od_Line_state, .func (PySem.W.fnOf "state" "Line.state" (defArgs s_Line_state) (defBody s_Line_state) (defScope s_Line_state) .none kV_Line_state dc_Line_state pm_Line_state an_Line_state cd_Line_state ct_Line_state), sl_Line_state⟩)
    (cc_Line_state : PySem.W.codeIn K cd_Line_state "Line.state" = true)
    (k_Line_state : PySem.W.keepIn K (.ref f_Line_state) = true)
    (a_Line_told_reading : PySem.W.findIn K (.ref C_Line) "told_reading" = some (some (.ref f_Line_told_reading)))
    (i_Line_told_reading : PySem.W.isFn K (.ref f_Line_told_reading) = true)
    (l_Line_told_reading : K.lookup f_Line_told_reading = some ⟨oc_Line_told_reading, od_Line_told_reading, .func (PySem.W.fnOf "told_reading" "Line.told_reading" (defArgs s_Line_told_reading) (defBody s_Line_told_reading) (defScope s_Line_told_reading) .none kV_Line_told_reading dc_Line_told_reading pm_Line_told_reading an_Line_told_reading cd_Line_told_reading ct_Line_told_reading), sl_Line_told_reading⟩)
    (cc_Line_told_reading : PySem.W.codeIn K cd_Line_told_reading "Line.told_reading" = true)
    (k_Line_told_reading : PySem.W.keepIn K (.ref f_Line_told_reading) = true)
    (a_Line_back : PySem.W.findIn K (.ref C_Line) "back" = some (some (.ref f_Line_back)))
    (i_Line_back : PySem.W.isFn K (.ref f_Line_back) = true)
    (l_Line_back : K.lookup f_Line_back = some ⟨oc_Line_back, od_Line_back, .func (PySem.W.fnOf "back" "Line.back" (defArgs s_Line_back) (defBody s_Line_back) (defScope s_Line_back) .none kV_Line_back dc_Line_back pm_Line_back an_Line_back cd_Line_back ct_Line_back), sl_Line_back⟩)
    (cc_Line_back : PySem.W.codeIn K cd_Line_back "Line.back" = true)
    (k_Line_back : PySem.W.keepIn K (.ref f_Line_back) = true)
    (a_Line_comes : PySem.W.findIn K (.ref C_Line) "comes" = some (some (.ref f_Line_comes)))
    (i_Line_comes : PySem.W.isFn K (.ref f_Line_comes) = true)
    (l_Line_comes : K.lookup f_Line_comes = some ⟨oc_Line_comes, od_Line_comes, .func (PySem.W.fnOf "comes" "Line.comes" (defArgs s_Line_comes) (defBody s_Line_comes) (defScope s_Line_comes) .none kV_Line_comes dc_Line_comes pm_Line_comes an_Line_comes cd_Line_comes ct_Line_comes), sl_Line_comes⟩)
    (cc_Line_comes : PySem.W.codeIn K cd_Line_comes "Line.comes" = true)
    (k_Line_comes : PySem.W.keepIn K (.ref f_Line_comes) = true)
    (a_Line_says : PySem.W.findIn K (.ref C_Line) "says" = some (some (.ref f_Line_says)))
    (i_Line_says : PySem.W.isFn K (.ref f_Line_says) = true)
    (l_Line_says : K.lookup f_Line_says = some ⟨oc_Line_says, od_Line_says, .func (PySem.W.fnOf "says" "Line.says" (defArgs s_Line_says) (defBody s_Line_says) (defScope s_Line_says) .none kV_Line_says dc_Line_says pm_Line_says an_Line_says cd_Line_says ct_Line_says), sl_Line_says⟩)
    (cc_Line_says : PySem.W.codeIn K cd_Line_says "Line.says" = true)
    (k_Line_says : PySem.W.keepIn K (.ref f_Line_says) = true)
    (a_answer_begin : PySem.W.nsIn K mainGlobals "answer_begin" = some (some (.ref f_answer_begin)))
    (l_answer_begin : K.lookup f_answer_begin = some ⟨oc_answer_begin, od_answer_begin, .func (PySem.W.fnOf "answer_begin" "answer_begin" (defArgs s_answer_begin) (defBody s_answer_begin) (defScope s_answer_begin) .none kV_answer_begin dc_answer_begin pm_answer_begin an_answer_begin cd_answer_begin ct_answer_begin), sl_answer_begin⟩)
    (cc_answer_begin : PySem.W.codeIn K cd_answer_begin "answer_begin" = true)
    (k_answer_begin : PySem.W.keepIn K (.ref f_answer_begin) = true)
    (a_answer_says : PySem.W.nsIn K mainGlobals "answer_says" = some (some (.ref f_answer_says)))
    (l_answer_says : K.lookup f_answer_says = some ⟨oc_answer_says, od_answer_says, .func (PySem.W.fnOf "answer_says" "answer_says" (defArgs s_answer_says) (defBody s_answer_says) (defScope s_answer_says) .none kV_answer_says dc_answer_says pm_answer_says an_answer_says cd_answer_says ct_answer_says), sl_answer_says⟩)
    (cc_answer_says : PySem.W.codeIn K cd_answer_says "answer_says" = true)
    (k_answer_says : PySem.W.keepIn K (.ref f_answer_says) = true)
    (a_answer_call : PySem.W.nsIn K mainGlobals "answer_call" = some (some (.ref f_answer_call)))
    (l_answer_call : K.lookup f_answer_call = some ⟨oc_answer_call, od_answer_call, .func (PySem.W.fnOf "answer_call" "answer_call" (defArgs s_answer_call) (defBody s_answer_call) (defScope s_answer_call) .none kV_answer_call dc_answer_call pm_answer_call an_answer_call cd_answer_call ct_answer_call), sl_answer_call⟩)
    (cc_answer_call : PySem.W.codeIn K cd_answer_call "answer_call" = true)
    (k_answer_call : PySem.W.keepIn K (.ref f_answer_call) = true)
    (a_answers : PySem.W.nsIn K mainGlobals "answers" = some (some (.ref f_answers)))
    (l_answers : K.lookup f_answers = some ⟨oc_answers, od_answers, .func (PySem.W.fnOf "answers" "answers" (defArgs s_answers) (defBody s_answers) (defScope s_answers) .none kV_answers dc_answers pm_answers an_answers cd_answers ct_answers), sl_answers⟩)
    (cc_answers : PySem.W.codeIn K cd_answers "answers" = true)
    (k_answers : PySem.W.keepIn K (.ref f_answers) = true)
    (g_MINUS : PySem.W.nsIn K mainGlobals "MINUS" = some (some (.int (45) t_MINUS)))
    (g_POINT : PySem.W.nsIn K mainGlobals "POINT" = some (some (.int (46) t_POINT)))
    (g_SLASH : PySem.W.nsIn K mainGlobals "SLASH" = some (some (.int (47) t_SLASH)))
    (g_NOUGHT : PySem.W.nsIn K mainGlobals "NOUGHT" = some (some (.int (48) t_NOUGHT)))
    (g_NINE : PySem.W.nsIn K mainGlobals "NINE" = some (some (.int (57) t_NINE)))
    (g_LONGEST_NUMBER : PySem.W.nsIn K mainGlobals "LONGEST_NUMBER" = some (some (.int (512) t_LONGEST_NUMBER)))
    (g_MOST_STEPS : PySem.W.nsIn K mainGlobals "MOST_STEPS" = some (some (.int (64) t_MOST_STEPS)))
    (g_HIGHEST_LOAD : PySem.W.nsIn K mainGlobals "HIGHEST_LOAD" = some (some (.int (15) t_HIGHEST_LOAD)))
    (g_HIGHEST_DEGREE : PySem.W.nsIn K mainGlobals "HIGHEST_DEGREE" = some (some (.int (8) t_HIGHEST_DEGREE)))
    (g_LONGEST_COUNTS : PySem.W.nsIn K mainGlobals "LONGEST_COUNTS" = some (some (.int (4096) t_LONGEST_COUNTS)))
    (g_BLANK : PySem.W.nsIn K mainGlobals "BLANK" = some (some (.int (32) t_BLANK)))
    (g_TOP_LIMIT : PySem.W.nsIn K mainGlobals "TOP_LIMIT" = some (some (.int (18446744073709551616) t_TOP_LIMIT)))
    (g_BOTTOM_LIMIT : PySem.W.nsIn K mainGlobals "BOTTOM_LIMIT" = some (some (.int (4294967296) t_BOTTOM_LIMIT)))
    (g_NUMBER : PySem.W.nsIn K mainGlobals "NUMBER" = some (some (.int (0) t_NUMBER)))
    (g_REACH : PySem.W.nsIn K mainGlobals "REACH" = some (some (.int (1) t_REACH)))
    (g_SQUARE : PySem.W.nsIn K mainGlobals "SQUARE" = some (some (.int (2) t_SQUARE)))
    (g_BEGIN : PySem.W.nsIn K mainGlobals "BEGIN" = some (some (.int (0) t_BEGIN)))
    (g_TAKE : PySem.W.nsIn K mainGlobals "TAKE" = some (some (.int (1) t_TAKE)))
    (g_STATE : PySem.W.nsIn K mainGlobals "STATE" = some (some (.int (2) t_STATE)))
    (g_READING : PySem.W.nsIn K mainGlobals "READING" = some (some (.int (3) t_READING)))
    (g_BACK : PySem.W.nsIn K mainGlobals "BACK" = some (some (.int (4) t_BACK)))
    (g_COMES : PySem.W.nsIn K mainGlobals "COMES" = some (some (.int (5) t_COMES)))
    (g_SAYS : PySem.W.nsIn K mainGlobals "SAYS" = some (some (.int (6) t_SAYS)))
    (g_DONE : PySem.W.nsIn K mainGlobals "DONE" = some (some (.int (0) t_DONE)))
    (g_WRONG_CALL : PySem.W.nsIn K mainGlobals "WRONG_CALL" = some (some (.int (-1) t_WRONG_CALL)))
    (g_NOT_RIGHT : PySem.W.nsIn K mainGlobals "NOT_RIGHT" = some (some (.int (-2) t_NOT_RIGHT)))
    (g_OUT_OF_PLACE : PySem.W.nsIn K mainGlobals "OUT_OF_PLACE" = some (some (.int (-5) t_OUT_OF_PLACE)))
    (g_TOO_LARGE : PySem.W.nsIn K mainGlobals "TOO_LARGE" = some (some (.int (-6) t_TOO_LARGE)))
    (g_NO_LOAD : PySem.W.nsIn K mainGlobals "NO_LOAD" = some (some (.int (-1) t_NO_LOAD)))
    (g_MOST_BITS : PySem.W.nsIn K mainGlobals "MOST_BITS" = some (some (.int (4096) t_MOST_BITS)))
    (b_abs : PySem.W.nsIn K mainGlobals "abs" = some none)
    (b_len : PySem.W.nsIn K mainGlobals "len" = some none)
    (b_max : PySem.W.nsIn K mainGlobals "max" = some none)
    (b_ord : PySem.W.nsIn K mainGlobals "ord" = some none)
    (b_range : PySem.W.nsIn K mainGlobals "range" = some none)
    (b_str : PySem.W.nsIn K mainGlobals "str" = some none)
    (b_sum : PySem.W.nsIn K mainGlobals "sum" = some none)
    : ∃ a : Ads, Tx K mg a :=
  ⟨⟨C_CallReader, C_Ratio, C_Plan, C_Basis, C_Measured, C_Weighing, C_Line, f_CallReader_init, PySem.W.fnOf "__init__" "CallReader.__init__" (defArgs s_CallReader_init) (defBody s_CallReader_init) (defScope s_CallReader_init) .none kV_CallReader_init dc_CallReader_init pm_CallReader_init an_CallReader_init cd_CallReader_init ct_CallReader_init, f_CallReader_at_end, PySem.W.fnOf "at_end" "CallReader.at_end" (defArgs s_CallReader_at_end) (defBody s_CallReader_at_end) (defScope s_CallReader_at_end) .none kV_CallReader_at_end dc_CallReader_at_end pm_CallReader_at_end an_CallReader_at_end cd_CallReader_at_end ct_CallReader_at_end, f_CallReader_next_number, PySem.W.fnOf "next_number" "CallReader.next_number" (defArgs s_CallReader_next_number) (defBody s_CallReader_next_number) (defScope s_CallReader_next_number) .none kV_CallReader_next_number dc_CallReader_next_number pm_CallReader_next_number an_CallReader_next_number cd_CallReader_next_number ct_CallReader_next_number, f_CallReader_next_row, PySem.W.fnOf "next_row" "CallReader.next_row" (defArgs s_CallReader_next_row) (defBody s_CallReader_next_row) (defScope s_CallReader_next_row) .none kV_CallReader_next_row dc_CallReader_next_row pm_CallReader_next_row an_CallReader_next_row cd_CallReader_next_row ct_CallReader_next_row, f_common_factor, PySem.W.fnOf "common_factor" "common_factor" (defArgs s_common_factor) (defBody s_common_factor) (defScope s_common_factor) .none kV_common_factor dc_common_factor pm_common_factor an_common_factor cd_common_factor ct_common_factor, f_Ratio_init, PySem.W.fnOf "__init__" "Ratio.__init__" (defArgs s_Ratio_init) (defBody s_Ratio_init) (defScope s_Ratio_init) .none kV_Ratio_init dc_Ratio_init pm_Ratio_init an_Ratio_init cd_Ratio_init ct_Ratio_init, f_Ratio_plus, PySem.W.fnOf "plus" "Ratio.plus" (defArgs s_Ratio_plus) (defBody s_Ratio_plus) (defScope s_Ratio_plus) .none kV_Ratio_plus dc_Ratio_plus pm_Ratio_plus an_Ratio_plus cd_Ratio_plus ct_Ratio_plus, f_Ratio_times, PySem.W.fnOf "times" "Ratio.times" (defArgs s_Ratio_times) (defBody s_Ratio_times) (defScope s_Ratio_times) .none kV_Ratio_times dc_Ratio_times pm_Ratio_times an_Ratio_times cd_Ratio_times ct_Ratio_times, f_Ratio_size, PySem.W.fnOf "size" "Ratio.size" (defArgs s_Ratio_size) (defBody s_Ratio_size) (defScope s_Ratio_size) .none kV_Ratio_size dc_Ratio_size pm_Ratio_size an_Ratio_size cd_Ratio_size ct_Ratio_size, f_digits_end, PySem.W.fnOf "digits_end" "digits_end" (defArgs s_digits_end) (defBody s_digits_end) (defScope s_digits_end) .none kV_digits_end dc_digits_end pm_digits_end an_digits_end cd_digits_end ct_digits_end, f_digits_value, PySem.W.fnOf "digits_value" "digits_value" (defArgs s_digits_value) (defBody s_digits_value) (defScope s_digits_value) .none kV_digits_value dc_digits_value pm_digits_value an_digits_value cd_digits_value ct_digits_value, f_power_of_ten, PySem.W.fnOf "power_of_ten" "power_of_ten" (defArgs s_power_of_ten) (defBody s_power_of_ten) (defScope s_power_of_ten) .none kV_power_of_ten dc_power_of_ten pm_power_of_ten an_power_of_ten cd_power_of_ten ct_power_of_ten, f_read_size, PySem.W.fnOf "read_size" "read_size" (defArgs s_read_size) (defBody s_read_size) (defScope s_read_size) .none kV_read_size dc_read_size pm_read_size an_read_size cd_read_size ct_read_size, f_read_number, PySem.W.fnOf "read_number" "read_number" (defArgs s_read_number) (defBody s_read_number) (defScope s_read_number) .none kV_read_number dc_read_number pm_read_number an_read_number cd_read_number ct_read_number, f_exact_text, PySem.W.fnOf "exact_text" "exact_text" (defArgs s_exact_text) (defBody s_exact_text) (defScope s_exact_text) .none kV_exact_text dc_exact_text pm_exact_text an_exact_text cd_exact_text ct_exact_text, f_Plan_init, PySem.W.fnOf "__init__" "Plan.__init__" (defArgs s_Plan_init) (defBody s_Plan_init) (defScope s_Plan_init) .none kV_Plan_init dc_Plan_init pm_Plan_init an_Plan_init cd_Plan_init ct_Plan_init, f_Plan_comes_out, PySem.W.fnOf "comes_out" "Plan.comes_out" (defArgs s_Plan_comes_out) (defBody s_Plan_comes_out) (defScope s_Plan_comes_out) .none kV_Plan_comes_out dc_Plan_comes_out pm_Plan_comes_out an_Plan_comes_out cd_Plan_comes_out ct_Plan_comes_out, f_split_at_blanks, PySem.W.fnOf "split_at_blanks" "split_at_blanks" (defArgs s_split_at_blanks) (defBody s_split_at_blanks) (defScope s_split_at_blanks) .none kV_split_at_blanks dc_split_at_blanks pm_split_at_blanks an_split_at_blanks cd_split_at_blanks ct_split_at_blanks, f_may_count, PySem.W.fnOf "may_count" "may_count" (defArgs s_may_count) (defBody s_may_count) (defScope s_may_count) .none kV_may_count dc_may_count pm_may_count an_may_count cd_may_count ct_may_count, f_read_counts, PySem.W.fnOf "read_counts" "read_counts" (defArgs s_read_counts) (defBody s_read_counts) (defScope s_read_counts) .none kV_read_counts dc_read_counts pm_read_counts an_read_counts cd_read_counts ct_read_counts, f_loads_fit, PySem.W.fnOf "loads_fit" "loads_fit" (defArgs s_loads_fit) (defBody s_loads_fit) (defScope s_loads_fit) .none kV_loads_fit dc_loads_fit pm_loads_fit an_loads_fit cd_loads_fit ct_loads_fit, f_common_bottom, PySem.W.fnOf "common_bottom" "common_bottom" (defArgs s_common_bottom) (defBody s_common_bottom) (defScope s_common_bottom) .none kV_common_bottom dc_common_bottom pm_common_bottom an_common_bottom cd_common_bottom ct_common_bottom, f_drift_goes_out, PySem.W.fnOf "drift_goes_out" "drift_goes_out" (defArgs s_drift_goes_out) (defBody s_drift_goes_out) (defScope s_drift_goes_out) .none kV_drift_goes_out dc_drift_goes_out pm_drift_goes_out an_drift_goes_out cd_drift_goes_out ct_drift_goes_out, f_read_plan, PySem.W.fnOf "read_plan" "read_plan" (defArgs s_read_plan) (defBody s_read_plan) (defScope s_read_plan) .none kV_read_plan dc_read_plan pm_read_plan an_read_plan cd_read_plan ct_read_plan, f_Basis_init, PySem.W.fnOf "__init__" "Basis.__init__" (defArgs s_Basis_init) (defBody s_Basis_init) (defScope s_Basis_init) .none kV_Basis_init dc_Basis_init pm_Basis_init an_Basis_init cd_Basis_init ct_Basis_init, f_Measured_init, PySem.W.fnOf "__init__" "Measured.__init__" (defArgs s_Measured_init) (defBody s_Measured_init) (defScope s_Measured_init) .none kV_Measured_init dc_Measured_init pm_Measured_init an_Measured_init cd_Measured_init ct_Measured_init, f_read_unsigned, PySem.W.fnOf "read_unsigned" "read_unsigned" (defArgs s_read_unsigned) (defBody s_read_unsigned) (defScope s_read_unsigned) .none kV_read_unsigned dc_read_unsigned pm_read_unsigned an_read_unsigned cd_read_unsigned ct_read_unsigned, f_read_basis, PySem.W.fnOf "read_basis" "read_basis" (defArgs s_read_basis) (defBody s_read_basis) (defScope s_read_basis) .none kV_read_basis dc_read_basis pm_read_basis an_read_basis cd_read_basis ct_read_basis, f_bound_square, PySem.W.fnOf "bound_square" "bound_square" (defArgs s_bound_square) (defBody s_bound_square) (defScope s_bound_square) .none kV_bound_square dc_bound_square pm_bound_square an_bound_square cd_bound_square ct_bound_square, f_counted_divisions, PySem.W.fnOf "counted_divisions" "counted_divisions" (defArgs s_counted_divisions) (defBody s_counted_divisions) (defScope s_counted_divisions) .none kV_counted_divisions dc_counted_divisions pm_counted_divisions an_counted_divisions cd_counted_divisions ct_counted_divisions, f_division_worth, PySem.W.fnOf "division_worth" "division_worth" (defArgs s_division_worth) (defBody s_division_worth) (defScope s_division_worth) .none kV_division_worth dc_division_worth pm_division_worth an_division_worth cd_division_worth ct_division_worth, f_told_reach, PySem.W.fnOf "told_reach" "told_reach" (defArgs s_told_reach) (defBody s_told_reach) (defScope s_told_reach) .none kV_told_reach dc_told_reach pm_told_reach an_told_reach cd_told_reach ct_told_reach, f_told_square, PySem.W.fnOf "told_square" "told_square" (defArgs s_told_square) (defBody s_told_square) (defScope s_told_square) .none kV_told_square dc_told_square pm_told_square an_told_square cd_told_square ct_told_square, f_told, PySem.W.fnOf "told" "told" (defArgs s_told) (defBody s_told) (defScope s_told) .none kV_told dc_told pm_told an_told cd_told ct_told, f_Weighing_init, PySem.W.fnOf "__init__" "Weighing.__init__" (defArgs s_Weighing_init) (defBody s_Weighing_init) (defScope s_Weighing_init) .none kV_Weighing_init dc_Weighing_init pm_Weighing_init an_Weighing_init cd_Weighing_init ct_Weighing_init, f_Weighing_steps, PySem.W.fnOf "steps" "Weighing.steps" (defArgs s_Weighing_steps) (defBody s_Weighing_steps) (defScope s_Weighing_steps) .none kV_Weighing_steps dc_Weighing_steps pm_Weighing_steps an_Weighing_steps cd_Weighing_steps ct_Weighing_steps, f_Weighing_finished, PySem.W.fnOf "finished" "Weighing.finished" (defArgs s_Weighing_finished) (defBody s_Weighing_finished) (defScope s_Weighing_finished) .none kV_Weighing_finished dc_Weighing_finished pm_Weighing_finished an_Weighing_finished cd_Weighing_finished ct_Weighing_finished, f_Weighing_next_load, PySem.W.fnOf "next_load" "Weighing.next_load" (defArgs s_Weighing_next_load) (defBody s_Weighing_next_load) (defScope s_Weighing_next_load) .none kV_Weighing_next_load dc_Weighing_next_load pm_Weighing_next_load an_Weighing_next_load cd_Weighing_next_load ct_Weighing_next_load, f_text_answer, PySem.W.fnOf "text_answer" "text_answer" (defArgs s_text_answer) (defBody s_text_answer) (defScope s_text_answer) .none kV_text_answer dc_text_answer pm_text_answer an_text_answer cd_text_answer ct_text_answer, f_Line_init, PySem.W.fnOf "__init__" "Line.__init__" (defArgs s_Line_init) (defBody s_Line_init) (defScope s_Line_init) .none kV_Line_init dc_Line_init pm_Line_init an_Line_init cd_Line_init ct_Line_init, f_Line_begin, PySem.W.fnOf "begin" "Line.begin" (defArgs s_Line_begin) (defBody s_Line_begin) (defScope s_Line_begin) .none kV_Line_begin dc_Line_begin pm_Line_begin an_Line_begin cd_Line_begin ct_Line_begin, f_Line_take, PySem.W.fnOf "take" "Line.take" (defArgs s_Line_take) (defBody s_Line_take) (defScope s_Line_take) .none kV_Line_take dc_Line_take pm_Line_take an_Line_take cd_Line_take ct_Line_take, f_Line_state, PySem.W.fnOf "state" "Line.state" (defArgs s_Line_state) (defBody s_Line_state) (defScope s_Line_state) .none kV_Line_state dc_Line_state pm_Line_state an_Line_state cd_Line_state ct_Line_state, f_Line_told_reading, PySem.W.fnOf "told_reading" "Line.told_reading" (defArgs s_Line_told_reading) (defBody s_Line_told_reading) (defScope s_Line_told_reading) .none kV_Line_told_reading dc_Line_told_reading pm_Line_told_reading an_Line_told_reading cd_Line_told_reading ct_Line_told_reading, f_Line_back, PySem.W.fnOf "back" "Line.back" (defArgs s_Line_back) (defBody s_Line_back) (defScope s_Line_back) .none kV_Line_back dc_Line_back pm_Line_back an_Line_back cd_Line_back ct_Line_back, f_Line_comes, PySem.W.fnOf "comes" "Line.comes" (defArgs s_Line_comes) (defBody s_Line_comes) (defScope s_Line_comes) .none kV_Line_comes dc_Line_comes pm_Line_comes an_Line_comes cd_Line_comes ct_Line_comes, f_Line_says, PySem.W.fnOf "says" "Line.says" (defArgs s_Line_says) (defBody s_Line_says) (defScope s_Line_says) .none kV_Line_says dc_Line_says pm_Line_says an_Line_says cd_Line_says ct_Line_says, f_answer_begin, PySem.W.fnOf "answer_begin" "answer_begin" (defArgs s_answer_begin) (defBody s_answer_begin) (defScope s_answer_begin) .none kV_answer_begin dc_answer_begin pm_answer_begin an_answer_begin cd_answer_begin ct_answer_begin, f_answer_says, PySem.W.fnOf "answer_says" "answer_says" (defArgs s_answer_says) (defBody s_answer_says) (defScope s_answer_says) .none kV_answer_says dc_answer_says pm_answer_says an_answer_says cd_answer_says ct_answer_says, f_answer_call, PySem.W.fnOf "answer_call" "answer_call" (defArgs s_answer_call) (defBody s_answer_call) (defScope s_answer_call) .none kV_answer_call dc_answer_call pm_answer_call an_answer_call cd_answer_call ct_answer_call, f_answers, PySem.W.fnOf "answers" "answers" (defArgs s_answers) (defBody s_answers) (defScope s_answers) .none kV_answers dc_answers pm_answers an_answers cd_answers ct_answers⟩,
    ⟨⟨pg_CallReader, hd_CallReader, po_CallReader, sa_CallReader⟩,
     PySem.W.mg_of X G a_CallReader,
     ⟨mk_CallReader, a_CallReader_init, i_CallReader_init, kc_CallReader⟩,
     ⟨a_CallReader_at_end, i_CallReader_at_end, k_CallReader_at_end⟩,
     ⟨a_CallReader_next_number, i_CallReader_next_number, k_CallReader_next_number⟩,
     ⟨a_CallReader_next_row, i_CallReader_next_row, k_CallReader_next_row⟩,
     no_CallReader_calls,
     no_CallReader_place,
     ⟨pg_Ratio, hd_Ratio, po_Ratio, sa_Ratio⟩,
     PySem.W.mg_of X G a_Ratio,
     ⟨mk_Ratio, a_Ratio_init, i_Ratio_init, kc_Ratio⟩,
     ⟨a_Ratio_plus, i_Ratio_plus, k_Ratio_plus⟩,
     ⟨a_Ratio_times, i_Ratio_times, k_Ratio_times⟩,
     ⟨a_Ratio_size, i_Ratio_size, k_Ratio_size⟩,
     no_Ratio_top,
     no_Ratio_bottom,
     ⟨pg_Plan, hd_Plan, po_Plan, sa_Plan⟩,
     PySem.W.mg_of X G a_Plan,
     ⟨mk_Plan, a_Plan_init, i_Plan_init, kc_Plan⟩,
     ⟨a_Plan_comes_out, i_Plan_comes_out, k_Plan_comes_out⟩,
     no_Plan_loads,
     no_Plan_tops,
     no_Plan_bottom,
     ⟨pg_Basis, hd_Basis, po_Basis, sa_Basis⟩,
     PySem.W.mg_of X G a_Basis,
     ⟨mk_Basis, a_Basis_init, i_Basis_init, kc_Basis⟩,
     no_Basis_worth,
     no_Basis_bound,
     no_Basis_nearness,
     no_Basis_square,
     ⟨pg_Measured, hd_Measured, po_Measured, sa_Measured⟩,
     PySem.W.mg_of X G a_Measured,
     ⟨mk_Measured, a_Measured_init, i_Measured_init, kc_Measured⟩,
     no_Measured_number,
     no_Measured_reach,
     no_Measured_square,
     ⟨pg_Weighing, hd_Weighing, po_Weighing, sa_Weighing⟩,
     PySem.W.mg_of X G a_Weighing,
     ⟨mk_Weighing, a_Weighing_init, i_Weighing_init, kc_Weighing⟩,
     ⟨a_Weighing_steps, i_Weighing_steps, k_Weighing_steps⟩,
     ⟨a_Weighing_finished, i_Weighing_finished, k_Weighing_finished⟩,
     ⟨a_Weighing_next_load, i_Weighing_next_load, k_Weighing_next_load⟩,
     no_Weighing_plan,
     no_Weighing_readings,
     ⟨pg_Line, hd_Line, po_Line, sa_Line⟩,
     PySem.W.mg_of X G a_Line,
     ⟨mk_Line, a_Line_init, i_Line_init, kc_Line⟩,
     ⟨a_Line_begin, i_Line_begin, k_Line_begin⟩,
     ⟨a_Line_take, i_Line_take, k_Line_take⟩,
     ⟨a_Line_state, i_Line_state, k_Line_state⟩,
     ⟨a_Line_told_reading, i_Line_told_reading, k_Line_told_reading⟩,
     ⟨a_Line_back, i_Line_back, k_Line_back⟩,
     ⟨a_Line_comes, i_Line_comes, k_Line_comes⟩,
     ⟨a_Line_says, i_Line_says, k_Line_says⟩,
     no_Line_weighing,
     fun_mk (st := s_CallReader_init) l_CallReader_init cc_CallReader_init k_CallReader_init,
     fun_mk (st := s_CallReader_at_end) l_CallReader_at_end cc_CallReader_at_end k_CallReader_at_end,
     fun_mk (st := s_CallReader_next_number) l_CallReader_next_number cc_CallReader_next_number k_CallReader_next_number,
     fun_mk (st := s_CallReader_next_row) l_CallReader_next_row cc_CallReader_next_row k_CallReader_next_row,
     fun_mk (st := s_common_factor) l_common_factor cc_common_factor k_common_factor,
     PySem.W.mg_of X G a_common_factor,
     fun_mk (st := s_Ratio_init) l_Ratio_init cc_Ratio_init k_Ratio_init,
     fun_mk (st := s_Ratio_plus) l_Ratio_plus cc_Ratio_plus k_Ratio_plus,
     fun_mk (st := s_Ratio_times) l_Ratio_times cc_Ratio_times k_Ratio_times,
     fun_mk (st := s_Ratio_size) l_Ratio_size cc_Ratio_size k_Ratio_size,
     fun_mk (st := s_digits_end) l_digits_end cc_digits_end k_digits_end,
     PySem.W.mg_of X G a_digits_end,
     fun_mk (st := s_digits_value) l_digits_value cc_digits_value k_digits_value,
     PySem.W.mg_of X G a_digits_value,
     fun_mk (st := s_power_of_ten) l_power_of_ten cc_power_of_ten k_power_of_ten,
     PySem.W.mg_of X G a_power_of_ten,
     fun_mk (st := s_read_size) l_read_size cc_read_size k_read_size,
     PySem.W.mg_of X G a_read_size,
     fun_mk (st := s_read_number) l_read_number cc_read_number k_read_number,
     PySem.W.mg_of X G a_read_number,
     fun_mk (st := s_exact_text) l_exact_text cc_exact_text k_exact_text,
     PySem.W.mg_of X G a_exact_text,
     fun_mk (st := s_Plan_init) l_Plan_init cc_Plan_init k_Plan_init,
     fun_mk (st := s_Plan_comes_out) l_Plan_comes_out cc_Plan_comes_out k_Plan_comes_out,
     fun_mk (st := s_split_at_blanks) l_split_at_blanks cc_split_at_blanks k_split_at_blanks,
     PySem.W.mg_of X G a_split_at_blanks,
     fun_mk (st := s_may_count) l_may_count cc_may_count k_may_count,
     PySem.W.mg_of X G a_may_count,
     fun_mk (st := s_read_counts) l_read_counts cc_read_counts k_read_counts,
     PySem.W.mg_of X G a_read_counts,
     fun_mk (st := s_loads_fit) l_loads_fit cc_loads_fit k_loads_fit,
     PySem.W.mg_of X G a_loads_fit,
     fun_mk (st := s_common_bottom) l_common_bottom cc_common_bottom k_common_bottom,
     PySem.W.mg_of X G a_common_bottom,
     fun_mk (st := s_drift_goes_out) l_drift_goes_out cc_drift_goes_out k_drift_goes_out,
     PySem.W.mg_of X G a_drift_goes_out,
     fun_mk (st := s_read_plan) l_read_plan cc_read_plan k_read_plan,
     PySem.W.mg_of X G a_read_plan,
     fun_mk (st := s_Basis_init) l_Basis_init cc_Basis_init k_Basis_init,
     fun_mk (st := s_Measured_init) l_Measured_init cc_Measured_init k_Measured_init,
     fun_mk (st := s_read_unsigned) l_read_unsigned cc_read_unsigned k_read_unsigned,
     PySem.W.mg_of X G a_read_unsigned,
     fun_mk (st := s_read_basis) l_read_basis cc_read_basis k_read_basis,
     PySem.W.mg_of X G a_read_basis,
     fun_mk (st := s_bound_square) l_bound_square cc_bound_square k_bound_square,
     PySem.W.mg_of X G a_bound_square,
     fun_mk (st := s_counted_divisions) l_counted_divisions cc_counted_divisions k_counted_divisions,
     PySem.W.mg_of X G a_counted_divisions,
     fun_mk (st := s_division_worth) l_division_worth cc_division_worth k_division_worth,
     PySem.W.mg_of X G a_division_worth,
     fun_mk (st := s_told_reach) l_told_reach cc_told_reach k_told_reach,
     PySem.W.mg_of X G a_told_reach,
     fun_mk (st := s_told_square) l_told_square cc_told_square k_told_square,
     PySem.W.mg_of X G a_told_square,
     fun_mk (st := s_told) l_told cc_told k_told,
     PySem.W.mg_of X G a_told,
     fun_mk (st := s_Weighing_init) l_Weighing_init cc_Weighing_init k_Weighing_init,
     fun_mk (st := s_Weighing_steps) l_Weighing_steps cc_Weighing_steps k_Weighing_steps,
     fun_mk (st := s_Weighing_finished) l_Weighing_finished cc_Weighing_finished k_Weighing_finished,
     fun_mk (st := s_Weighing_next_load) l_Weighing_next_load cc_Weighing_next_load k_Weighing_next_load,
     fun_mk (st := s_text_answer) l_text_answer cc_text_answer k_text_answer,
     PySem.W.mg_of X G a_text_answer,
     fun_mk (st := s_Line_init) l_Line_init cc_Line_init k_Line_init,
     fun_mk (st := s_Line_begin) l_Line_begin cc_Line_begin k_Line_begin,
     fun_mk (st := s_Line_take) l_Line_take cc_Line_take k_Line_take,
     fun_mk (st := s_Line_state) l_Line_state cc_Line_state k_Line_state,
     fun_mk (st := s_Line_told_reading) l_Line_told_reading cc_Line_told_reading k_Line_told_reading,
     fun_mk (st := s_Line_back) l_Line_back cc_Line_back k_Line_back,
     fun_mk (st := s_Line_comes) l_Line_comes cc_Line_comes k_Line_comes,
     fun_mk (st := s_Line_says) l_Line_says cc_Line_says k_Line_says,
     fun_mk (st := s_answer_begin) l_answer_begin cc_answer_begin k_answer_begin,
     PySem.W.mg_of X G a_answer_begin,
     fun_mk (st := s_answer_says) l_answer_says cc_answer_says k_answer_says,
     PySem.W.mg_of X G a_answer_says,
     fun_mk (st := s_answer_call) l_answer_call cc_answer_call k_answer_call,
     PySem.W.mg_of X G a_answer_call,
     fun_mk (st := s_answers) l_answers cc_answers k_answers,
     PySem.W.mg_of X G a_answers,
     ⟨_, PySem.W.mg_of X G g_MINUS⟩,
     ⟨_, PySem.W.mg_of X G g_POINT⟩,
     ⟨_, PySem.W.mg_of X G g_SLASH⟩,
     ⟨_, PySem.W.mg_of X G g_NOUGHT⟩,
     ⟨_, PySem.W.mg_of X G g_NINE⟩,
     ⟨_, PySem.W.mg_of X G g_LONGEST_NUMBER⟩,
     ⟨_, PySem.W.mg_of X G g_MOST_STEPS⟩,
     ⟨_, PySem.W.mg_of X G g_HIGHEST_LOAD⟩,
     ⟨_, PySem.W.mg_of X G g_HIGHEST_DEGREE⟩,
     ⟨_, PySem.W.mg_of X G g_LONGEST_COUNTS⟩,
     ⟨_, PySem.W.mg_of X G g_BLANK⟩,
     ⟨_, PySem.W.mg_of X G g_TOP_LIMIT⟩,
     ⟨_, PySem.W.mg_of X G g_BOTTOM_LIMIT⟩,
     ⟨_, PySem.W.mg_of X G g_NUMBER⟩,
     ⟨_, PySem.W.mg_of X G g_REACH⟩,
     ⟨_, PySem.W.mg_of X G g_SQUARE⟩,
     ⟨_, PySem.W.mg_of X G g_BEGIN⟩,
     ⟨_, PySem.W.mg_of X G g_TAKE⟩,
     ⟨_, PySem.W.mg_of X G g_STATE⟩,
     ⟨_, PySem.W.mg_of X G g_READING⟩,
     ⟨_, PySem.W.mg_of X G g_BACK⟩,
     ⟨_, PySem.W.mg_of X G g_COMES⟩,
     ⟨_, PySem.W.mg_of X G g_SAYS⟩,
     ⟨_, PySem.W.mg_of X G g_DONE⟩,
     ⟨_, PySem.W.mg_of X G g_WRONG_CALL⟩,
     ⟨_, PySem.W.mg_of X G g_NOT_RIGHT⟩,
     ⟨_, PySem.W.mg_of X G g_OUT_OF_PLACE⟩,
     ⟨_, PySem.W.mg_of X G g_TOO_LARGE⟩,
     ⟨_, PySem.W.mg_of X G g_NO_LOAD⟩,
     ⟨_, PySem.W.mg_of X G g_MOST_BITS⟩,
     PySem.W.mg_none_of X G b_abs,
     PySem.W.mg_none_of X G b_len,
     PySem.W.mg_none_of X G b_max,
     PySem.W.mg_none_of X G b_ord,
     PySem.W.mg_none_of X G b_range,
     PySem.W.mg_none_of X G b_str,
     PySem.W.mg_none_of X G b_sum⟩⟩
theorem all_of {w : World} {K : PySem.W.Frag} {mg : Str → Option Value} {fa : Addr} (hfa : mg "answers" = some (.ref fa)) (tx : ∃ a : Ads, Tx K mg a) :
    ∃ fd : FuncData, (∀ (s : Shared) (us : List Value), us.length = (["calls"] : List Str).length → BindsTo s fd ⟨us, []⟩ ((["calls"] : List Str).zip us)) ∧ ∀ base : Heap, K.In base → base.Ns mainGlobals mg → FnOk P w K mg base CX0 50 fa fd ["calls"] (sp_answers K) := by
  obtain ⟨a, T⟩ := tx
  have e := T.m_answers.symm.trans hfa
  have e2 : a.f_answers = fa := by
    have := Option.some.inj e
    injection this
  subst e2
  refine ⟨a.d_answers, ?_, fun base _ _ => ok_answers T⟩
  obtain ⟨oc, od, kV, doc, pm, an, cdv, ct, osl, e3, _, _⟩ := T.F_answers.ex
  rw [e3]
  exact fun s us hu => match us, hu with | [_], _ => .of_eq rfl
end Pb
end

/-! Names that are taken: the second readings of the great collections, which the head does without. -/
def PySem.W.Fast.tw14916616699462126283 : Nat := 0
def PySem.W.Fast.tw6644028917427264153 : Nat := 0
def PySem.W.Fast.tw1245345233408728601 : Nat := 0
def PySem.W.Fast.tw4748093313338118606 : Nat := 0
def PySem.W.Fast.tw13789918189296951522 : Nat := 0
def PySem.W.Fast.tw14065052145547681430 : Nat := 0
def PySem.W.Fast.tw17958134189169245396 : Nat := 0
def PySem.W.Fast.tw2828376330537230833 : Nat := 0
def PySem.W.Fast.tw1432162737328071560 : Nat := 0
def PySem.W.Fast.tw12403113035528301464 : Nat := 0
def PySem.W.Fast.tw137800716071244176 : Nat := 0
def PySem.W.Fast.tw8821381665388780597 : Nat := 0
def PySem.W.Fast.tw9849274453612334915 : Nat := 0
open PySem PySem.W PyProof.Rows
set_option maxRecDepth 100000 in
set_option maxHeartbeats 0 in
theorem PySem.Challenge.cw_planbeam_s01_answers_holds : PySem.Challenge.rw_planbeam_s01_answers.Holds := by
  w_on; k_headS; (case hw => exact ⟨[.list []], by decide +kernel, by decide +kernel⟩)
  k_fillS
  refine L2.walk_specK (r := PySem.Challenge.rw_planbeam_s01_answers) (k := 50) (CX := L2.CX0) (ps := ["calls"]) (sp := Pb.sp_answers) (by decide +kernel) (by decide +kernel) rfl rfl ⟨rfl, by decide, by decide⟩ (fun w h Y => PySem.W.kIn_of Y) ?F ?S (fun _ _ _ _ z => z)
  case F =>
    intro w mg fa h Y KX G hmg
    refine' Pb.all_of hmg (Pb.tx_mk KX G ?a_CallReader ?pg_CallReader ?hd_CallReader ?po_CallReader ?sa_CallReader ?mk_CallReader ?kc_CallReader ?no_CallReader_calls ?no_CallReader_place ?a_Ratio ?pg_Ratio ?hd_Ratio ?po_Ratio ?sa_Ratio ?mk_Ratio ?kc_Ratio ?no_Ratio_top ?no_Ratio_bottom ?a_Plan ?pg_Plan ?hd_Plan ?po_Plan ?sa_Plan ?mk_Plan ?kc_Plan ?no_Plan_loads ?no_Plan_tops ?no_Plan_bottom ?a_Basis ?pg_Basis ?hd_Basis ?po_Basis ?sa_Basis ?mk_Basis ?kc_Basis ?no_Basis_worth ?no_Basis_bound ?no_Basis_nearness ?no_Basis_square ?a_Measured ?pg_Measured ?hd_Measured ?po_Measured ?sa_Measured ?mk_Measured ?kc_Measured ?no_Measured_number ?no_Measured_reach ?no_Measured_square ?a_Weighing ?pg_Weighing ?hd_Weighing ?po_Weighing ?sa_Weighing ?mk_Weighing ?kc_Weighing ?no_Weighing_plan ?no_Weighing_readings ?a_Line ?pg_Line ?hd_Line ?po_Line ?sa_Line ?mk_Line ?kc_Line ?no_Line_weighing ?a_CallReader_init ?i_CallReader_init ?l_CallReader_init ?cc_CallReader_init ?k_CallReader_init ?a_CallReader_at_end ?i_CallReader_at_end ?l_CallReader_at_end ?cc_CallReader_at_end ?k_CallReader_at_end ?a_CallReader_next_number ?i_CallReader_next_number ?l_CallReader_next_number ?cc_CallReader_next_number ?k_CallReader_next_number ?a_CallReader_next_row ?i_CallReader_next_row ?l_CallReader_next_row ?cc_CallReader_next_row ?k_CallReader_next_row ?a_common_factor ?l_common_factor ?cc_common_factor ?k_common_factor ?a_Ratio_init ?i_Ratio_init ?l_Ratio_init ?cc_Ratio_init ?k_Ratio_init ?a_Ratio_plus ?i_Ratio_plus ?l_Ratio_plus ?cc_Ratio_plus ?k_Ratio_plus ?a_Ratio_times ?i_Ratio_times ?l_Ratio_times ?cc_Ratio_times ?k_Ratio_times ?a_Ratio_size ?i_Ratio_size ?l_Ratio_size ?cc_Ratio_size ?k_Ratio_size ?a_digits_end ?l_digits_end ?cc_digits_end ?k_digits_end ?a_digits_value ?l_digits_value ?cc_digits_value ?k_digits_value ?a_power_of_ten ?l_power_of_ten ?cc_power_of_ten ?k_power_of_ten ?a_read_size ?l_read_size ?cc_read_size ?k_read_size ?a_read_number ?l_read_number ?cc_read_number ?k_read_number ?a_exact_text ?l_exact_text ?cc_exact_text ?k_exact_text ?a_Plan_init ?i_Plan_init ?l_Plan_init ?cc_Plan_init ?k_Plan_init ?a_Plan_comes_out ?i_Plan_comes_out ?l_Plan_comes_out ?cc_Plan_comes_out ?k_Plan_comes_out ?a_split_at_blanks ?l_split_at_blanks ?cc_split_at_blanks ?k_split_at_blanks ?a_may_count ?l_may_count ?cc_may_count ?k_may_count ?a_read_counts ?l_read_counts ?cc_read_counts ?k_read_counts ?a_loads_fit ?l_loads_fit ?cc_loads_fit ?k_loads_fit ?a_common_bottom ?l_common_bottom ?cc_common_bottom ?k_common_bottom ?a_drift_goes_out ?l_drift_goes_out ?cc_drift_goes_out ?k_drift_goes_out ?a_read_plan ?l_read_plan ?cc_read_plan ?k_read_plan ?a_Basis_init ?i_Basis_init ?l_Basis_init ?cc_Basis_init ?k_Basis_init ?a_Measured_init ?i_Measured_init ?l_Measured_init ?cc_Measured_init ?k_Measured_init ?a_read_unsigned ?l_read_unsigned ?cc_read_unsigned ?k_read_unsigned ?a_read_basis ?l_read_basis ?cc_read_basis ?k_read_basis ?a_bound_square ?l_bound_square ?cc_bound_square ?k_bound_square ?a_counted_divisions ?l_counted_divisions ?cc_counted_divisions ?k_counted_divisions ?a_division_worth ?l_division_worth ?cc_division_worth ?k_division_worth ?a_told_reach ?l_told_reach ?cc_told_reach ?k_told_reach ?a_told_square ?l_told_square ?cc_told_square ?k_told_square ?a_told ?l_told ?cc_told ?k_told ?a_Weighing_init ?i_Weighing_init ?l_Weighing_init ?cc_Weighing_init ?k_Weighing_init ?a_Weighing_steps ?i_Weighing_steps ?l_Weighing_steps ?cc_Weighing_steps ?k_Weighing_steps ?a_Weighing_finished ?i_Weighing_finished ?l_Weighing_finished ?cc_Weighing_finished ?k_Weighing_finished ?a_Weighing_next_load ?i_Weighing_next_load ?l_Weighing_next_load ?cc_Weighing_next_load ?k_Weighing_next_load ?a_text_answer ?l_text_answer ?cc_text_answer ?k_text_answer ?a_Line_init ?i_Line_init ?l_Line_init ?cc_Line_init ?k_Line_init ?a_Line_begin ?i_Line_begin ?l_Line_begin ?cc_Line_begin ?k_Line_begin ?a_Line_take ?i_Line_take ?l_Line_take ?cc_Line_take ?k_Line_take ?a_Line_state ?i_Line_state ?l_Line_state ?cc_Line_state ?k_Line_state ?a_Line_told_reading ?i_Line_told_reading ?l_Line_told_reading ?cc_Line_told_reading ?k_Line_told_reading ?a_Line_back ?i_Line_back ?l_Line_back ?cc_Line_back ?k_Line_back ?a_Line_comes ?i_Line_comes ?l_Line_comes ?cc_Line_comes ?k_Line_comes ?a_Line_says ?i_Line_says ?l_Line_says ?cc_Line_says ?k_Line_says ?a_answer_begin ?l_answer_begin ?cc_answer_begin ?k_answer_begin ?a_answer_says ?l_answer_says ?cc_answer_says ?k_answer_says ?a_answer_call ?l_answer_call ?cc_answer_call ?k_answer_call ?a_answers ?l_answers ?cc_answers ?k_answers ?g_MINUS ?g_POINT ?g_SLASH ?g_NOUGHT ?g_NINE ?g_LONGEST_NUMBER ?g_MOST_STEPS ?g_HIGHEST_LOAD ?g_HIGHEST_DEGREE ?g_LONGEST_COUNTS ?g_BLANK ?g_TOP_LIMIT ?g_BOTTOM_LIMIT ?g_NUMBER ?g_REACH ?g_SQUARE ?g_BEGIN ?g_TAKE ?g_STATE ?g_READING ?g_BACK ?g_COMES ?g_SAYS ?g_DONE ?g_WRONG_CALL ?g_NOT_RIGHT ?g_OUT_OF_PLACE ?g_TOO_LARGE ?g_NO_LOAD ?g_MOST_BITS ?b_abs ?b_len ?b_max ?b_ord ?b_range ?b_str ?b_sum)
    (case a_CallReader => k_is)
    (case pg_CallReader => k_is)
    (case hd_CallReader => k_is)
    (case po_CallReader => k_is)
    (case sa_CallReader => k_is)
    (case mk_CallReader => k_is)
    (case kc_CallReader => k_is)
    (case no_CallReader_calls => k_is)
    (case no_CallReader_place => k_is)
    (case a_Ratio => k_is)
    (case pg_Ratio => k_is)
    (case hd_Ratio => k_is)
    (case po_Ratio => k_is)
    (case sa_Ratio => k_is)
    (case mk_Ratio => k_is)
    (case kc_Ratio => k_is)
    (case no_Ratio_top => k_is)
    (case no_Ratio_bottom => k_is)
    (case a_Plan => k_is)
    (case pg_Plan => k_is)
    (case hd_Plan => k_is)
    (case po_Plan => k_is)
    (case sa_Plan => k_is)
    (case mk_Plan => k_is)
    (case kc_Plan => k_is)
    (case no_Plan_loads => k_is)
    (case no_Plan_tops => k_is)
    (case no_Plan_bottom => k_is)
    (case a_Basis => k_is)
    (case pg_Basis => k_is)
    (case hd_Basis => k_is)
    (case po_Basis => k_is)
    (case sa_Basis => k_is)
    (case mk_Basis => k_is)
    (case kc_Basis => k_is)
    (case no_Basis_worth => k_is)
    (case no_Basis_bound => k_is)
    (case no_Basis_nearness => k_is)
    (case no_Basis_square => k_is)
    (case a_Measured => k_is)
    (case pg_Measured => k_is)
    (case hd_Measured => k_is)
    (case po_Measured => k_is)
    (case sa_Measured => k_is)
    (case mk_Measured => k_is)
    (case kc_Measured => k_is)
    (case no_Measured_number => k_is)
    (case no_Measured_reach => k_is)
    (case no_Measured_square => k_is)
    (case a_Weighing => k_is)
    (case pg_Weighing => k_is)
    (case hd_Weighing => k_is)
    (case po_Weighing => k_is)
    (case sa_Weighing => k_is)
    (case mk_Weighing => k_is)
    (case kc_Weighing => k_is)
    (case no_Weighing_plan => k_is)
    (case no_Weighing_readings => k_is)
    (case a_Line => k_is)
    (case pg_Line => k_is)
    (case hd_Line => k_is)
    (case po_Line => k_is)
    (case sa_Line => k_is)
    (case mk_Line => k_is)
    (case kc_Line => k_is)
    (case no_Line_weighing => k_is)
    (case a_CallReader_init => k_is)
    (case i_CallReader_init => k_is)
    (case l_CallReader_init => k_is)
    (case cc_CallReader_init => k_is)
    (case k_CallReader_init => k_is)
    (case a_CallReader_at_end => k_is)
    (case i_CallReader_at_end => k_is)
    (case l_CallReader_at_end => k_is)
    (case cc_CallReader_at_end => k_is)
    (case k_CallReader_at_end => k_is)
    (case a_CallReader_next_number => k_is)
    (case i_CallReader_next_number => k_is)
    (case l_CallReader_next_number => k_is)
    (case cc_CallReader_next_number => k_is)
    (case k_CallReader_next_number => k_is)
    (case a_CallReader_next_row => k_is)
    (case i_CallReader_next_row => k_is)
    (case l_CallReader_next_row => k_is)
    (case cc_CallReader_next_row => k_is)
    (case k_CallReader_next_row => k_is)
    (case a_common_factor => k_is)
    (case l_common_factor => k_is)
    (case cc_common_factor => k_is)
    (case k_common_factor => k_is)
    (case a_Ratio_init => k_is)
    (case i_Ratio_init => k_is)
    (case l_Ratio_init => k_is)
    (case cc_Ratio_init => k_is)
    (case k_Ratio_init => k_is)
    (case a_Ratio_plus => k_is)
    (case i_Ratio_plus => k_is)
    (case l_Ratio_plus => k_is)
    (case cc_Ratio_plus => k_is)
    (case k_Ratio_plus => k_is)
    (case a_Ratio_times => k_is)
    (case i_Ratio_times => k_is)
    (case l_Ratio_times => k_is)
    (case cc_Ratio_times => k_is)
    (case k_Ratio_times => k_is)
    (case a_Ratio_size => k_is)
    (case i_Ratio_size => k_is)
    (case l_Ratio_size => k_is)
    (case cc_Ratio_size => k_is)
    (case k_Ratio_size => k_is)
    (case a_digits_end => k_is)
    (case l_digits_end => k_is)
    (case cc_digits_end => k_is)
    (case k_digits_end => k_is)
    (case a_digits_value => k_is)
    (case l_digits_value => k_is)
    (case cc_digits_value => k_is)
    (case k_digits_value => k_is)
    (case a_power_of_ten => k_is)
    (case l_power_of_ten => k_is)
    (case cc_power_of_ten => k_is)
    (case k_power_of_ten => k_is)
    (case a_read_size => k_is)
    (case l_read_size => k_is)
    (case cc_read_size => k_is)
    (case k_read_size => k_is)
    (case a_read_number => k_is)
    (case l_read_number => k_is)
    (case cc_read_number => k_is)
    (case k_read_number => k_is)
    (case a_exact_text => k_is)
    (case l_exact_text => k_is)
    (case cc_exact_text => k_is)
    (case k_exact_text => k_is)
    (case a_Plan_init => k_is)
    (case i_Plan_init => k_is)
    (case l_Plan_init => k_is)
    (case cc_Plan_init => k_is)
    (case k_Plan_init => k_is)
    (case a_Plan_comes_out => k_is)
    (case i_Plan_comes_out => k_is)
    (case l_Plan_comes_out => k_is)
    (case cc_Plan_comes_out => k_is)
    (case k_Plan_comes_out => k_is)
    (case a_split_at_blanks => k_is)
    (case l_split_at_blanks => k_is)
    (case cc_split_at_blanks => k_is)
    (case k_split_at_blanks => k_is)
    (case a_may_count => k_is)
    (case l_may_count => k_is)
    (case cc_may_count => k_is)
    (case k_may_count => k_is)
    (case a_read_counts => k_is)
    (case l_read_counts => k_is)
    (case cc_read_counts => k_is)
    (case k_read_counts => k_is)
    (case a_loads_fit => k_is)
    (case l_loads_fit => k_is)
    (case cc_loads_fit => k_is)
    (case k_loads_fit => k_is)
    (case a_common_bottom => k_is)
    (case l_common_bottom => k_is)
    (case cc_common_bottom => k_is)
    (case k_common_bottom => k_is)
    (case a_drift_goes_out => k_is)
    (case l_drift_goes_out => k_is)
    (case cc_drift_goes_out => k_is)
    (case k_drift_goes_out => k_is)
    (case a_read_plan => k_is)
    (case l_read_plan => k_is)
    (case cc_read_plan => k_is)
    (case k_read_plan => k_is)
    (case a_Basis_init => k_is)
    (case i_Basis_init => k_is)
    (case l_Basis_init => k_is)
    (case cc_Basis_init => k_is)
    (case k_Basis_init => k_is)
    (case a_Measured_init => k_is)
    (case i_Measured_init => k_is)
    (case l_Measured_init => k_is)
    (case cc_Measured_init => k_is)
    (case k_Measured_init => k_is)
    (case a_read_unsigned => k_is)
    (case l_read_unsigned => k_is)
    (case cc_read_unsigned => k_is)
    (case k_read_unsigned => k_is)
    (case a_read_basis => k_is)
    (case l_read_basis => k_is)
    (case cc_read_basis => k_is)
    (case k_read_basis => k_is)
    (case a_bound_square => k_is)
    (case l_bound_square => k_is)
    (case cc_bound_square => k_is)
    (case k_bound_square => k_is)
    (case a_counted_divisions => k_is)
    (case l_counted_divisions => k_is)
    (case cc_counted_divisions => k_is)
    (case k_counted_divisions => k_is)
    (case a_division_worth => k_is)
    (case l_division_worth => k_is)
    (case cc_division_worth => k_is)
    (case k_division_worth => k_is)
    (case a_told_reach => k_is)
    (case l_told_reach => k_is)
    (case cc_told_reach => k_is)
    (case k_told_reach => k_is)
    (case a_told_square => k_is)
    (case l_told_square => k_is)
    (case cc_told_square => k_is)
    (case k_told_square => k_is)
    (case a_told => k_is)
    (case l_told => k_is)
    (case cc_told => k_is)
    (case k_told => k_is)
    (case a_Weighing_init => k_is)
    (case i_Weighing_init => k_is)
    (case l_Weighing_init => k_is)
    (case cc_Weighing_init => k_is)
    (case k_Weighing_init => k_is)
    (case a_Weighing_steps => k_is)
    (case i_Weighing_steps => k_is)
    (case l_Weighing_steps => k_is)
    (case cc_Weighing_steps => k_is)
    (case k_Weighing_steps => k_is)
    (case a_Weighing_finished => k_is)
    (case i_Weighing_finished => k_is)
    (case l_Weighing_finished => k_is)
    (case cc_Weighing_finished => k_is)
    (case k_Weighing_finished => k_is)
    (case a_Weighing_next_load => k_is)
    (case i_Weighing_next_load => k_is)
    (case l_Weighing_next_load => k_is)
    (case cc_Weighing_next_load => k_is)
    (case k_Weighing_next_load => k_is)
    (case a_text_answer => k_is)
    (case l_text_answer => k_is)
    (case cc_text_answer => k_is)
    (case k_text_answer => k_is)
    (case a_Line_init => k_is)
    (case i_Line_init => k_is)
    (case l_Line_init => k_is)
    (case cc_Line_init => k_is)
    (case k_Line_init => k_is)
    (case a_Line_begin => k_is)
    (case i_Line_begin => k_is)
    (case l_Line_begin => k_is)
    (case cc_Line_begin => k_is)
    (case k_Line_begin => k_is)
    (case a_Line_take => k_is)
    (case i_Line_take => k_is)
    (case l_Line_take => k_is)
    (case cc_Line_take => k_is)
    (case k_Line_take => k_is)
    (case a_Line_state => k_is)
    (case i_Line_state => k_is)
    (case l_Line_state => k_is)
    (case cc_Line_state => k_is)
    (case k_Line_state => k_is)
    (case a_Line_told_reading => k_is)
    (case i_Line_told_reading => k_is)
    (case l_Line_told_reading => k_is)
    (case cc_Line_told_reading => k_is)
    (case k_Line_told_reading => k_is)
    (case a_Line_back => k_is)
    (case i_Line_back => k_is)
    (case l_Line_back => k_is)
    (case cc_Line_back => k_is)
    (case k_Line_back => k_is)
    (case a_Line_comes => k_is)
    (case i_Line_comes => k_is)
    (case l_Line_comes => k_is)
    (case cc_Line_comes => k_is)
    (case k_Line_comes => k_is)
    (case a_Line_says => k_is)
    (case i_Line_says => k_is)
    (case l_Line_says => k_is)
    (case cc_Line_says => k_is)
    (case k_Line_says => k_is)
    (case a_answer_begin => k_is)
    (case l_answer_begin => k_is)
    (case cc_answer_begin => k_is)
    (case k_answer_begin => k_is)
    (case a_answer_says => k_is)
    (case l_answer_says => k_is)
    (case cc_answer_says => k_is)
    (case k_answer_says => k_is)
    (case a_answer_call => k_is)
    (case l_answer_call => k_is)
    (case cc_answer_call => k_is)
    (case k_answer_call => k_is)
    (case a_answers => k_is)
    (case l_answers => k_is)
    (case cc_answers => k_is)
    (case k_answers => k_is)
    (case g_MINUS => k_is)
    (case g_POINT => k_is)
    (case g_SLASH => k_is)
    (case g_NOUGHT => k_is)
    (case g_NINE => k_is)
    (case g_LONGEST_NUMBER => k_is)
    (case g_MOST_STEPS => k_is)
    (case g_HIGHEST_LOAD => k_is)
    (case g_HIGHEST_DEGREE => k_is)
    (case g_LONGEST_COUNTS => k_is)
    (case g_BLANK => k_is)
    (case g_TOP_LIMIT => k_is)
    (case g_BOTTOM_LIMIT => k_is)
    (case g_NUMBER => k_is)
    (case g_REACH => k_is)
    (case g_SQUARE => k_is)
    (case g_BEGIN => k_is)
    (case g_TAKE => k_is)
    (case g_STATE => k_is)
    (case g_READING => k_is)
    (case g_BACK => k_is)
    (case g_COMES => k_is)
    (case g_SAYS => k_is)
    (case g_DONE => k_is)
    (case g_WRONG_CALL => k_is)
    (case g_NOT_RIGHT => k_is)
    (case g_OUT_OF_PLACE => k_is)
    (case g_TOO_LARGE => k_is)
    (case g_NO_LOAD => k_is)
    (case g_MOST_BITS => k_is)
    (case b_abs => k_is)
    (case b_len => k_is)
    (case b_max => k_is)
    (case b_ord => k_is)
    (case b_range => k_is)
    (case b_str => k_is)
    (case b_sum => k_is)

  case S =>
    intro K H xs a hO hwi hask hx
    cases hx with
    | cons h1 h2 =>
      cases h2
      cases h1 with
      | lst hs ha =>
        have e := L2.ints_dw a.1 _ ha
        subst e
        refine ⟨_, a.1, rfl, ?_, hask, fun H' p hp => .lst (L2.SqL.of hp) (L2.dw_ints _)⟩
        rcases hs with (hs | ⟨o, hs⟩) | hs
        · rcases hO _ with z | ⟨ob, u, z⟩
          · rw [z] at hs; cases hs
          · rw [z] at hs; cases hs
        · exact .inl ⟨o, hs⟩
        · exact .inr fun H' => .inr hs


import PyProof.Rows.All
import Wide.All
import OpenK.AllK
import Wide.FinOn
import PyProof.EqAt
import PyProof.EqKinds
import PyProof.TupleCall
import KE.BitLaws
import Open.SpecLaws
import KE.OsHead
import KE.OsGo
import PySem.Challenge.RW_gangwaycards_s01_answers
import PyProof.MaxThree
import PyKm440
-- CHANGE: your row's module here, as the last of these rows
set_option Elab.async false
set_option linter.all false
set_option maxRecDepth 100000
/-! THE HAND LAYER, for ints, bools, texts, own classes, lists, tuples, dicts, comprehensions, walks over dicts, enumerate, zip, reversed, texts, calls, loops. Paste it whole ahead of your own text; what your proof does not reach may be deleted. -/
namespace L2
open PySem PySem.Spec PyProof.Rows

/-- a key: an int or a str -/
abbrev Key := Sum Int Str
def keyIs : Key → Value → Bool
  | .inl k, v => Value.isInt k v
  | .inr x, v => Value.isStrOf x v
def keyH (w : World) : Key → Int
  | .inl k => hashInt k
  | .inr x => hashStr w x
theorem keyIs_shape : ∀ {k : Key} {v : Value}, keyIs k v = true → (∃ i t, k = Sum.inl i ∧ v = Value.int i t) ∨ (∃ x t, k = Sum.inr x ∧ v = Value.str x t)
  | .inl i, v, h => by
    obtain ⟨t, e⟩ := Value.isInt_shape (k := i) (v := v) h
    exact .inl ⟨i, t, rfl, e⟩
  | .inr x, v, h => by
    obtain ⟨t, e⟩ := Value.isStrOf_shape (x := x) (v := v) h
    exact .inr ⟨x, t, rfl, e⟩
theorem keyIs_int (i : Int) (t : Tok) : keyIs (.inl i) (.int i t) = true := by simp [keyIs, Value.isInt]
theorem keyIs_str (x : Str) (t : Tok) : keyIs (.inr x) (.str x t) = true := by simp [keyIs, Value.isStrOf]
theorem key_ll (a b : Int) : decide ((Sum.inl a : Key) = Sum.inl b) = (a == b) := by
  by_cases e : a = b
  · subst e; simp
  · have h : ¬ (Sum.inl a : Key) = Sum.inl b := fun q => e (Sum.inl.inj q)
    rw [decide_eq_false h]
    exact (beq_eq_false_iff_ne.mpr e).symm
theorem key_rr (a b : Str) : decide ((Sum.inr a : Key) = Sum.inr b) = decide (a = b) := by
  by_cases e : a = b
  · subst e; simp
  · have h : ¬ (Sum.inr a : Key) = Sum.inr b := fun q => e (Sum.inr.inj q)
    rw [decide_eq_false h, decide_eq_false e]
theorem key_lr (a : Int) (b : Str) : decide ((Sum.inl a : Key) = Sum.inr b) = false := decide_eq_false (fun q => nomatch q)
theorem key_rl (a : Str) (b : Int) : decide ((Sum.inr a : Key) = Sum.inl b) = false := decide_eq_false (fun q => nomatch q)

def mixKind (prog : Program) (w : World) : PySem.KeyKind prog w Key where
  is := keyIs
  hash := keyH w
  inj := fun v a b ha hb => by
    rcases keyIs_shape ha with ⟨i, t, rfl, rfl⟩ | ⟨x, t, rfl, rfl⟩
    · rcases keyIs_shape hb with ⟨j, u, rfl, e⟩ | ⟨y, u, rfl, e⟩
      · injection e with e1 _; rw [e1]
      · exact nomatch e
    · rcases keyIs_shape hb with ⟨j, u, rfl, e⟩ | ⟨y, u, rfl, e⟩
      · exact nomatch e
      · injection e with e1 _; rw [e1]
  byValue := fun k v h => by
    rcases keyIs_shape h with ⟨i, t, rfl, rfl⟩ | ⟨x, t, rfl, rfl⟩ <;> rfl
  pyHash := fun hv h => by
    rcases keyIs_shape hv with ⟨i, t, rfl, rfl⟩ | ⟨x, t, rfl, rfl⟩
    · exact wpAny_pyHash_int h
    · exact wpAny_pyHash_str h
  eqBool := fun hu hv h => by
    rcases keyIs_shape hu with ⟨i, t, rfl, rfl⟩ | ⟨x, t, rfl, rfl⟩
    · rcases keyIs_shape hv with ⟨j, u, rfl, rfl⟩ | ⟨y, u, rfl, rfl⟩
      · rw [key_ll] at h; exact wpAny_eqBool_int h
      · rw [key_lr] at h; exact SeqAt.EqAt.int_str i t y u _ _ _ _ h
    · rcases keyIs_shape hv with ⟨j, u, rfl, rfl⟩ | ⟨y, u, rfl, rfl⟩
      · rw [key_rl] at h; exact SeqAt.EqAt.str_int x t j u _ _ _ _ h
      · rw [key_rr] at h; exact wpAny_eqBool_str h
  «strs» := fun k x t v h => by
    rcases keyIs_shape h with ⟨i, u, rfl, e⟩ | ⟨y, u, rfl, e⟩
    · exact nomatch e
    · injection e with e1 _
      subst e1
      cases v <;> rfl

theorem mixKind_is (prog : Program) (w : World) (k : Key) (v : Value) : (mixKind prog w).is k v = keyIs k v := rfl
theorem mixKind_int (prog : Program) (w : World) (i : Int) (t : Tok) : (mixKind prog w).is (.inl i) (.int i t) = true := keyIs_int i t
theorem mixKind_str (prog : Program) (w : World) (x : Str) (t : Tok) : (mixKind prog w).is (.inr x) (.str x t) = true := keyIs_str x t
end L2

namespace L2
open PySem PySem.Spec PyProof.Rows

/-- a value, without the heap -/
inductive V where
  | non | bl (b : Bool) | int (i : Int) | str (x : Str) | byt (b : Array UInt8) | flt (b : UInt64) | ref (a : Addr) | ty (n : String)
  deriving DecidableEq

def RelV : V → Value → Prop
  | .non, u => u = Value.none
  | .bl b, u => u = Value.bool b
  | .int i, u => ∃ t, u = Value.int i t
  | .str x, u => ∃ t, u = Value.str x t
  | .byt b, u => ∃ t, u = Value.bytes b t
  | .flt b, u => ∃ t, u = Value.float b t
  | .ref a, u => u = Value.ref a
  | .ty n, u => u = Value.type n

abbrev Vals : List V → List Value → Prop := Paired RelV
theorem Vals.length {xs : List V} {us : List Value} (r : Vals xs us) : xs.length = us.length := Paired.length r
theorem Vals.get : ∀ {xs : List V} {us : List Value} {i : Nat} {x : V}, Vals xs us → xs[i]? = some x → ∃ u, us[i]? = some u ∧ RelV x u
  | _, _, _, _, .nil, e => by simp at e
  | _, _, 0, _, .cons r _, e => by simp at e; subst e; exact ⟨_, rfl, r⟩
  | _, _, i + 1, x, .cons _ t, e => by
    obtain ⟨u, h1, h2⟩ := Vals.get (i := i) (x := x) t (by simpa using e)
    exact ⟨u, by simpa using h1, h2⟩
theorem Vals.set {x : V} {u : Value} (r : RelV x u) : ∀ {xs : List V} {us : List Value} (i : Nat), Vals xs us → Vals (xs.set i x) (us.set i u)
  | _, _, _, .nil => .nil
  | _, _, 0, .cons _ t => .cons r t
  | _, _, i + 1, .cons q t => .cons q (Vals.set r i t)
theorem Vals.append : ∀ {xs ys : List V} {us ws : List Value}, Vals xs us → Vals ys ws → Vals (xs ++ ys) (us ++ ws)
  | _, _, _, _, .nil, s => s
  | _, _, _, _, .cons r t, s => .cons r (Vals.append t s)
theorem Vals.take : ∀ {xs : List V} {us : List Value} (n : Nat), Vals xs us → Vals (xs.take n) (us.take n)
  | _, _, 0, _ => .nil
  | _, _, _ + 1, .nil => .nil
  | _, _, n + 1, .cons r t => .cons r (Vals.take n t)
theorem Vals.drop : ∀ {xs : List V} {us : List Value} (n : Nat), Vals xs us → Vals (xs.drop n) (us.drop n)
  | _, _, 0, r => r
  | _, _, _ + 1, .nil => .nil
  | _, _, n + 1, .cons _ t => Vals.drop n t
theorem Vals.none_of : ∀ {xs : List V} {us : List Value} {i : Nat}, Vals xs us → xs[i]? = none → us[i]? = none := fun {xs us i} r e => by
  have h1 := r.length
  have h2 : xs.length ≤ i := List.getElem?_eq_none_iff.mp e
  exact List.getElem?_eq_none_iff.mpr (by omega)

def RelO : Option V → Option Value → Prop
  | some v, some u => RelV v u
  | none, none => True
  | _, _ => False
def KV {κ : Type} : List (κ × V) → List (κ × Value) → Prop := Paired fun (p : κ × V) (q : κ × Value) => p.1 = q.1 ∧ RelV p.2 q.2

/-- a key of a dict (00_mix): an int or a text -/
def kV : Key → V
  | .inl i => .int i
  | .inr x => .str x

/-- what stands at a tracked address -/
inductive HO where
  /-- a list -/
  | lst (xs : List V)
  /-- a tuple (never changes) -/
  | tup (xs : List V)
  /-- a dict whose keys are ints and texts; one whose keys are tuples of ints and texts (the empty one is both) -/
  | dK (kvs : List (Key × V)) | dT (kvs : List (List Key × V))
  /-- a set of ints: its members, its size -/
  | set (S : Int → Bool) (n : Nat)
  /-- an instance of the class at C, its dict at dx, its attributes -/
  | ins (C dx : Addr) (fs : List (Str × V))
  /-- the dict of the instance at x -/
  | own (x : Addr)
  /-- the dict of an exception -/
  | xd (fs : List (Str × V))
  /-- a bound method, f of x -/
  | met (f x : Addr)
  /-- a range object lo, lo + 1, .. below hi -/
  | rng (lo hi : Int)
  /-- a thing that is known to the object (the script; a dict while a loop walks it): read, never written while it is so -/
  | frz (o : Obj) (u : HO)
  /-- a code object's table -/
  | tbl (ps : Array Value)
  /-- any other thing, by what is true of its one object (a def of one's own: SetO a S n := HO.ext fun h => ..) -/
  | ext (φ : Heap → Prop)

abbrev Hp := Addr → Option HO
def upd (H : Hp) (a : Addr) (o : HO) : Hp := fun b => if b = a then some o else H b
theorem upd_same {H : Hp} {a : Addr} {o : HO} : upd H a o a = some o := by unfold upd; rw [if_pos rfl]
theorem upd_ne {H : Hp} {a b : Addr} {o : HO} (h : b ≠ a) : upd H a o b = H b := by unfold upd; rw [if_neg h]
theorem upd_upd {H : Hp} {a : Addr} {o u : HO} : upd (upd H a o) a u = upd H a u := by
  funext b; unfold upd; split <;> rfl
/-- two objects of different content stand apart -/
theorem ne_of {H : Hp} {a b : Addr} {o u : HO} (h : H a = some o) (h' : H b = some u) (d : o ≠ u) : a ≠ b := by
  intro e; subst e; rw [h] at h'; exact d (Option.some.inj h')
theorem ne_of_none {H : Hp} {a b : Addr} {o : HO} (h : H a = some o) (h' : H b = none) : a ≠ b := by
  intro e; subst e; rw [h] at h'; cases h'

section
variable (P : Program) (w : World)
def ObjOk (H : Hp) (h : Heap) (a : Addr) : HO → Prop
  | .lst xs => xs.length ≤ sizeLine ∧ ∃ (its : List Value) (n : Nat), Vals xs its ∧ h.get? a = some { cls := .type "list", data := .seq its.toArray n }
  | .tup xs => xs.length ≤ sizeLine ∧ ∃ its : List Value, Vals xs its ∧ IsTup h a its.toArray
  | .dK kvs => kvs.length ≤ sizeLine ∧ (a == sysModules) = false ∧ ∃ vs, KV kvs vs ∧ h.DictOf (mixKind P w) a vs
  | .dT kvs => kvs.length ≤ sizeLine ∧ (a == sysModules) = false ∧ ∃ xs : List (List Key × Addr × Value),
      Paired (fun (p : List Key × V) (q : List Key × Addr × Value) => p.1 = q.1 ∧ H q.2.1 = some (.tup (p.1.map kV)) ∧ RelV p.2 q.2.2) kvs xs ∧
      ∃ o es ep, h.get? a = some o ∧ o.ExactDict ∧ o.data = .dict es ep ∧ es.toList = xs.map (entryOfKey (tupleKind (mixKind P w))) ∧ (xs.map (·.1)).Nodup
  | .set S n => h.SetOf (intKind P w) a S n
  | .ins C dx fs => H dx = some (.own a) ∧ fs.length ≤ 1000 ∧ dx ≠ a ∧ h.get? a = some (PySem.W.instObj C dx) ∧
      ∃ mA, h.Ns1 dx mA ∧ (∀ f, RelO (fs.lookup f) (mA f)) ∧ PySem.Within mA (fs.map (·.1))
  | .own _ => ∃ o, h.get? a = some o
  | .xd fs => ∃ mA, h.Ns1 a mA ∧ ∀ f, RelO (fs.lookup f) (mA f)
  | .rng lo hi => ∃ t u v, h.get? a = some { cls := .type "range", data := .fields #[.int lo t, .int hi u, .int 1 v] }
  | .frz o u => h.get? a = some o ∧ ObjOk H h a u
  | .tbl ps => h.get? a = some { cls := .none, data := .fields ps }
  | .met f x => h.get? a = some (PySem.W.methodObj (.ref f) (.ref x))
  | .ext φ => φ h ∧ (∃ o, h.get? a = some o) ∧ ∀ h1 h2 : Heap, φ h1 → (∀ o, h1.get? a = some o → h2.get? a = some o) → φ h2
/-- the abstract heap is held -/
def HOk (H : Hp) (h : Heap) : Prop := ∀ a o, H a = some o → ObjOk P w H h a o
end

section
variable {P : Program} {w : World} {H H' : Hp} {h h' : Heap} {a : Addr} {o : HO}
theorem ObjOk.lt (x : ObjOk P w H h a o) : a < h.objs.size := by
  cases o with
  | lst xs => obtain ⟨_, _, _, _, e⟩ := x; exact Heap.lt_size e
  | tup xs => obtain ⟨_, _, _, p⟩ := x; exact p.lt
  | dK kvs => obtain ⟨_, _, _, _, o, _, _, e, _⟩ := x; exact Heap.lt_size e
  | dT kvs => obtain ⟨_, _, _, _, o, _, _, e, _⟩ := x; exact Heap.lt_size e
  | set S n => obtain ⟨o, _, _, _, e, _⟩ := x; exact Heap.lt_size e
  | ins C dx fs => obtain ⟨_, _, _, e, _⟩ := x; exact Heap.lt_size e
  | own y => obtain ⟨_, e⟩ := x; exact Heap.lt_size e
  | xd fs => obtain ⟨_, ⟨_, _, _, e, _⟩, _⟩ := x; exact Heap.lt_size e
  | rng lo hi => obtain ⟨_, _, _, e⟩ := x; exact Heap.lt_size e
  | frz ob u => obtain ⟨e, _⟩ := x; exact Heap.lt_size e
  | tbl ps => exact Heap.lt_size (show h.get? a = some _ from x)
  | met f y => exact Heap.lt_size (show h.get? a = some _ from x)
  | ext φ => obtain ⟨_, ⟨_, e⟩, _⟩ := x; exact Heap.lt_size e
theorem Paired.mapP {α β : Type} {F G : α → β → Prop} : ∀ {l₁ : List α} {l₂ : List β}, Paired F l₁ l₂ → (∀ a b, F a b → G a b) → Paired G l₁ l₂
  | _, _, .nil, _ => .nil
  | _, _, .cons r t, f => .cons (f _ _ r) (Paired.mapP t f)
theorem Paired.imp' {α β : Type} {F G : α → β → Prop} (f : ∀ a b, F a b → G a b) {l₁ : List α} {l₂ : List β} (r : Paired F l₁ l₂) : Paired G l₁ l₂ := Paired.mapP r f
/-- what an object's description leans on: its own object, its own dict, the tuples -/
theorem ObjOk.stay (x : ObjOk P w H h a o) (k : ∀ b u, (b = a ∨ H b = some (.own a)) → h.get? b = some u → h'.get? b = some u)
    (ho : ∀ b, H b = some (.own a) → H' b = some (.own a)) (ht : ∀ b xs, H b = some (.tup xs) → H' b = some (.tup xs)) : ObjOk P w H' h' a o := by
  induction o with
  | lst xs => obtain ⟨z, its, n, r, e⟩ := x; exact ⟨z, its, n, r, k _ _ (.inl rfl) e⟩
  | tup xs => obtain ⟨z, its, r, ob, e, c⟩ := x; exact ⟨z, its, r, ob, k _ _ (.inl rfl) e, c⟩
  | dK kvs => obtain ⟨z, y, vs, r, ob, es, ep, e, c⟩ := x; exact ⟨z, y, vs, r, ob, es, ep, k _ _ (.inl rfl) e, c⟩
  | dT kvs =>
    obtain ⟨z, y, xs, r, ob, es, ep, e, c⟩ := x
    exact ⟨z, y, xs, Paired.mapP r fun p q z => ⟨z.1, ht _ _ z.2.1, z.2.2⟩, ob, es, ep, k _ _ (.inl rfl) e, c⟩
  | set S n => obtain ⟨ob, es, ep, t, e, c⟩ := x; exact ⟨ob, es, ep, t, k _ _ (.inl rfl) e, c⟩
  | ins C dx fs =>
    obtain ⟨d, z, ne, e, mA, ⟨od, es, ep, e2, c⟩, r⟩ := x
    exact ⟨ho _ d, z, ne, k _ _ (.inl rfl) e, mA, ⟨od, es, ep, k _ _ (.inr d) e2, c⟩, r⟩
  | own y => obtain ⟨ob, e⟩ := x; exact ⟨ob, k _ _ (.inl rfl) e⟩
  | xd fs => obtain ⟨mA, ⟨od, es, ep, e, c⟩, r⟩ := x; exact ⟨mA, ⟨od, es, ep, k _ _ (.inl rfl) e, c⟩, r⟩
  | rng lo hi => obtain ⟨t, u, v, e⟩ := x; exact ⟨t, u, v, k _ _ (.inl rfl) e⟩
  | frz ob u ih => obtain ⟨e, q⟩ := x; exact ⟨k _ _ (.inl rfl) e, ih q⟩
  | tbl ps =>
    have e : h.get? a = some { cls := .none, data := .fields ps } := x
    show h'.get? a = some { cls := .none, data := .fields ps }
    exact k a _ (.inl rfl) e
  | met f y =>
    have e : h.get? a = some (PySem.W.methodObj (.ref f) (.ref y)) := x
    show h'.get? a = some (PySem.W.methodObj (.ref f) (.ref y))
    exact k a _ (.inl rfl) e
  | ext φ => obtain ⟨p, ⟨o, e⟩, st⟩ := x; exact ⟨st _ _ p fun o q => k _ _ (.inl rfl) q, ⟨o, k _ _ (.inl rfl) e⟩, st⟩
theorem HOk.lt (x : HOk P w H h) (e : H a = some o) : a < h.objs.size := (x a o e).lt
theorem HOk.fresh (x : HOk P w H h) (e : h.objs.size ≤ a) : H a = none := by
  cases q : H a with
  | none => rfl
  | some u => exact absurd (Nat.lt_of_lt_of_le (x.lt q) e) (Nat.lt_irrefl _)
/-- every object of the heap is kept -/
theorem HOk.kept (x : HOk P w H h) (k : ∀ b u, h.get? b = some u → h'.get? b = some u) : HOk P w H h' := fun a o e =>
  (x a o e).stay (fun b u _ q => k b u q) (fun _ q => q) fun _ _ q => q
/-- a new object is laid and tracked -/
theorem HOk.laid (x : HOk P w H h) (k : ∀ b u, h.get? b = some u → h'.get? b = some u) (hp : h.objs.size ≤ a) (new : ObjOk P w (upd H a o) h' a o) : HOk P w (upd H a o) h' := fun b u e => by
  have hn := x.fresh hp
  by_cases hb : b = a
  · subst hb; rw [upd_same] at e; cases e; exact new
  · rw [upd_ne hb] at e
    exact (x b u e).stay (fun c v _ q => k c v q) (fun c q => by rw [upd_ne (ne_of_none q hn)]; exact q) fun c xs q => by rw [upd_ne (ne_of_none q hn)]; exact q
end

/-- what may be read as u: it is u, or a known u -/
def Rd (H : Hp) (a : Addr) (u : HO) : Prop := H a = some u ∨ ∃ o, H a = some (.frz o u)
theorem Rd.of {H : Hp} {a : Addr} {u : HO} (h : H a = some u) : Rd H a u := .inl h
theorem Rd.ok {P : Program} {w : World} {H : Hp} {h : Heap} {a : Addr} {u : HO} (r : Rd H a u) (x : HOk P w H h) : ObjOk P w H h a u := by
  rcases r with r | ⟨o, r⟩
  · exact x a u r
  · obtain ⟨_, q⟩ := x a _ r
    exact q
/-- what may be written -/
def Mut : Option HO → Prop
  | some (.lst _) => True
  | some (.dK _) => True
  | some (.dT _) => True
  | some (.set _ _) => True
  | some (.ins _ _ _) => True
  | some (.ext _) => True
  | _ => False
section
variable {P : Program} {w : World} {H : Hp} {h h' : Heap} {x e : Addr} {o' : HO}
/-- the object at e is changed: x itself, or the dict of the instance x -/
theorem HOk.write (ok : HOk P w H h) (mu : Mut (H x)) (he : e = x ∨ H e = some (.own x)) (k : ∀ b u, b ≠ e → h.get? b = some u → h'.get? b = some u) (heo : ∃ u, h'.get? e = some u)
    (new : ObjOk P w (upd H x o') h' x o') : HOk P w (upd H x o') h' := fun b u q => by
  have nown : ∀ c y, H c = some (.own y) → c ≠ x := fun c y r z => by subst z; rw [r] at mu; exact mu
  have ntup : ∀ c xs, H c = some (.tup xs) → c ≠ x := fun c xs r z => by subst z; rw [r] at mu; exact mu
  by_cases hb : b = x
  · subst hb; rw [upd_same] at q; cases q; exact new
  · rw [upd_ne hb] at q
    by_cases hbe : b = e
    · have q' : H b = some (.own x) := by
        rcases he with z | z
        · exact absurd (hbe.trans z) hb
        · rw [hbe]; exact z
      rw [q] at q'; cases q'
      obtain ⟨v, hv⟩ := heo
      exact ⟨v, by rw [hbe]; exact hv⟩
    · refine (ok b u q).stay (fun c v hc r => k c v ?_ r) (fun c r => by rw [upd_ne (nown c b r)]; exact r) fun c xs r => by rw [upd_ne (ntup c xs r)]; exact r
      rcases hc with rfl | hc
      · exact hbe
      · rintro rfl
        rcases he with z | z
        · exact nown c b hc z
        · rw [hc] at z; cases z; exact hb rfl
end

/-! ### kept unless tracked; of the frames at fs (the callers') the slots may change (an exception that passes writes there); of the records at ex (iterators) nothing is said -/
structure Un (fs ex : List Addr) (H H' : Hp) (h h' : Heap) : Prop where
  keep : ∀ b o, h.get? b = some o → H b = none → b ∉ fs → b ∉ ex → h'.get? b = some o
  slot : ∀ b o, h.get? b = some o → H b = none → b ∈ fs → b ∉ ex → ∃ sl, h'.get? b = some { o with slots := sl }
  free : ∀ b o, h.get? b = some o → H b = none → b ∉ ex → H' b = none
  there : ∀ b o, h.get? b = some o → b ∉ ex → ∃ o', h'.get? b = some o'
  tups : ∀ b xs, H b = some (.tup xs) → H' b = some (.tup xs)
  frzs : ∀ b o u, H b = some (.frz o u) → H' b = some (.frz o u)
  tbls : ∀ b ps, H b = some (.tbl ps) → ∃ more, H' b = some (.tbl (ps ++ more))
section
variable {fs fs' ex ex' : List Addr} {H H1 H2 : Hp} {h h1 h2 h' : Heap} {a x e : Addr} {o : HO}
theorem Un.any (u : Un fs ex H H1 h h1) {b : Addr} {ob : Obj} (q : h.get? b = some ob) (n : H b = none) (hx : b ∉ ex) : ∃ sl, h1.get? b = some { ob with slots := sl } := by
  by_cases hb : b ∈ fs
  · exact u.slot b ob q n hb hx
  · exact ⟨ob.slots, u.keep b ob q n hb hx⟩
theorem Un.trans (a : Un fs ex H H1 h h1) (b : Un fs ex H1 H2 h1 h2) : Un fs ex H H2 h h2 where
  keep := fun c ob q n hc hx => b.keep c ob (a.keep c ob q n hc hx) (a.free c ob q n hx) hc hx
  slot := fun c ob q n hc hx => by
    obtain ⟨sl, e1⟩ := a.slot c ob q n hc hx
    obtain ⟨sl', e2⟩ := b.slot c _ e1 (a.free c ob q n hx) hc hx
    exact ⟨sl', e2⟩
  free := fun c ob q n hx => by
    obtain ⟨o', e1⟩ := a.there c ob q hx
    exact b.free c o' e1 (a.free c ob q n hx) hx
  there := fun c ob q hx => by
    obtain ⟨o', e1⟩ := a.there c ob q hx
    exact b.there c o' e1 hx
  tups := fun c xs q => b.tups c xs (a.tups c xs q)
  frzs := fun c ob xs q => b.frzs c ob xs (a.frzs c ob xs q)
  tbls := fun c ps q => by
    obtain ⟨m1, e1⟩ := a.tbls c ps q
    obtain ⟨m2, e2⟩ := b.tbls c _ e1
    exact ⟨m1 ++ m2, by rw [e2, Array.append_assoc]⟩
theorem Un.kept (k : ∀ b u, h.get? b = some u → h'.get? b = some u) : Un fs ex H H h h' :=
  ⟨fun b ob q _ _ _ => k b ob q, fun b ob q _ _ _ => ⟨ob.slots, k b ob q⟩, fun _ _ _ n _ => n, fun b ob q _ => ⟨ob, k b ob q⟩, fun _ _ q => q, fun _ _ _ q => q, fun _ ps q => ⟨#[], by rw [q]; simp⟩⟩
theorem Un.refl : Un fs ex H H h h := Un.kept fun _ _ q => q
theorem Un.laid (k : ∀ b u, h.get? b = some u → h'.get? b = some u) (hp : h.objs.size ≤ a) (hn : H a = none) : Un fs ex H (upd H a o) h h' where
  keep := fun b u q _ _ _ => k b u q
  slot := fun b u q _ _ _ => ⟨u.slots, k b u q⟩
  free := fun b u q n _ => by rw [upd_ne (Nat.ne_of_lt (Nat.lt_of_lt_of_le (Heap.lt_size q) hp))]; exact n
  there := fun b u q _ => ⟨u, k b u q⟩
  tups := fun b xs q => by rw [upd_ne (ne_of_none q hn)]; exact q
  frzs := fun b u xs q => by rw [upd_ne (ne_of_none q hn)]; exact q
  tbls := fun b ps q => ⟨#[], by rw [upd_ne (ne_of_none q hn), q]; simp⟩
theorem Un.write (mu : Mut (H x)) (he : e = x ∨ H e = some (.own x)) (k : ∀ b u, b ≠ e → h.get? b = some u → h'.get? b = some u) (heo : ∃ u, h'.get? e = some u) : Un fs ex H (upd H x o) h h' := by
  have hx : ∀ b, H b = none → b ≠ x := fun b n z => by subst z; rw [n] at mu; exact mu
  have hb : ∀ b, H b = none → b ≠ e := fun b n z => by
    subst z
    rcases he with r | r
    · exact hx b n r
    · rw [n] at r; cases r
  have hm : ∀ b u, H b = some u → ¬ Mut (some u) → b ≠ x := fun b u q nm z => by subst z; rw [q] at mu; exact nm mu
  refine ⟨fun b u q n _ _ => k b u (hb b n) q, fun b u q n _ _ => ⟨u.slots, k b u (hb b n) q⟩, fun b u q n _ => by rw [upd_ne (hx b n)]; exact n, fun b u q _ => ?_,
    fun b xs q => by rw [upd_ne (hm b _ q fun z => z)]; exact q, fun b u xs q => by rw [upd_ne (hm b _ q fun z => z)]; exact q, fun b ps q => ⟨#[], by rw [upd_ne (hm b _ q fun z => z), q]; simp⟩⟩
  by_cases hbe : b = e
  · subst hbe; exact heo
  · exact ⟨u, k b u hbe q⟩
theorem Un.mono (u : Un fs ex H H1 h h1) (hs : ∀ b ∈ fs, b ∈ fs') (hx : ∀ b ∈ ex, b ∈ ex') : Un fs' ex' H H1 h h1 :=
  ⟨fun b ob q n hb he => u.keep b ob q n (fun z => hb (hs b z)) fun z => he (hx b z), fun _ _ q n _ he => u.any q n fun z => he (hx _ z), fun b ob q n he => u.free b ob q n fun z => he (hx b z), fun b ob q he => u.there b ob q fun z => he (hx b z), u.tups, u.frzs, u.tbls⟩
end

/-! ### the heap without what is tracked -/
def trk (h : Heap) (H : Hp) : List Addr := (List.range h.objs.size).filter fun a => (H a).isSome
def hidT (h : Heap) (H : Hp) : Heap := PySem.W.hideAll h (trk h H)
theorem hidT_size (h : Heap) (H : Hp) : (hidT h H).objs.size = h.objs.size := PySem.W.hideAll_size _ _
theorem hidT_get {h : Heap} {H : Hp} {b : Addr} {o : Obj} (e : h.get? b = some o) (n : H b = none) : (hidT h H).get? b = some o :=
  PySem.W.hideAll_get _ e fun hm => by
    have q : (H b).isSome = true := (List.mem_filter.mp hm).2
    rw [n] at q; simp at q
theorem of_hidT {h : Heap} {H : Hp} {b : Addr} {o : Obj} (e : (hidT h H).get? b = some o) : h.get? b = some o ∧ H b = none := by
  have e' : h.get? b = some o := PySem.W.of_hideAll (trk h H) e
  refine ⟨e', ?_⟩
  cases q : H b with
  | none => rfl
  | some x =>
    have hm : b ∈ trk h H := List.mem_filter.mpr ⟨List.mem_range.mpr (Heap.lt_size e'), by simp [q]⟩
    have z : (hidT h H).get? b = none := PySem.W.hideAll_none (trk h H) hm
    rw [z] at e; cases e

/-! ### OpenK's ledger, filled with every new object but one -/
def allNews (g h : Heap) (L : Addr) : List (Addr × Obj) := (List.range h.objs.size).filterMap fun a => if a = L ∨ (g.get? a).isSome = true then none else (h.get? a).map fun o => (a, o)
theorem mem_allNews {g h : Heap} {L a : Addr} {o : Obj} (h1 : a ≠ L) (h2 : g.get? a = none) (h3 : h.get? a = some o) : (a, o) ∈ allNews g h L :=
  List.mem_filterMap.mpr ⟨a, List.mem_range.mpr (Heap.lt_size h3), by simp [h1, h2, h3]⟩
theorem of_mem_allNews {g h : Heap} {L : Addr} {p : Addr × Obj} (hp : p ∈ allNews g h L) : p.1 ≠ L ∧ g.get? p.1 = none ∧ h.get? p.1 = some p.2 := by
  obtain ⟨b, _, e⟩ := List.mem_filterMap.mp hp
  split at e
  · cases e
  · rename_i hn
    cases q : h.get? b with
    | none => rw [q] at e; simp at e
    | some u =>
      rw [q] at e
      simp only [Option.map_some, Option.some.injEq] at e
      subst e
      refine ⟨fun z => hn (.inl z), ?_, q⟩
      show g.get? b = none
      cases r : g.get? b with
      | none => rfl
      | some v => exact (hn (.inr (by simp [r]))).elim
def rest (g h : Heap) (L d : Addr) : List (Addr × Obj) := (allNews g h L).filter fun p => decide (p.1 ≠ d)
theorem rest_ne {g h : Heap} {L d : Addr} : ∀ p ∈ rest g h L d, p.1 ≠ d := fun p hp => of_decide_eq_true (List.mem_filter.mp hp).2
theorem mem_rest {g h : Heap} {L d a : Addr} {o : Obj} (h1 : a ≠ L) (h2 : g.get? a = none) (h3 : h.get? a = some o) (h4 : a ≠ d) : (a, o) ∈ rest g h L d :=
  List.mem_filter.mpr ⟨mem_allNews h1 h2 h3, decide_eq_true h4⟩
theorem news_all {g h : Heap} {L : Addr} : News g L h (allNews g h L) := fun p hp => let ⟨a, b, c⟩ := of_mem_allNews hp; ⟨c, a, b⟩
theorem news_at {g h : Heap} {L d : Addr} {o : Obj} (h1 : d ≠ L) (h2 : g.get? d = none) (h3 : h.get? d = some o) : News g L h ((d, o) :: rest g h L d) := fun p hp => by
  rcases List.mem_cons.mp hp with rfl | hp
  · exact ⟨h3, h1, h2⟩
  · exact news_all p (List.mem_filter.mp hp).1
/-- behind a rule that changed d alone: all else but the frame is kept -/
theorem kept_of_news {g h h' : Heap} {L d : Addr} {m : Str → Option Value} (k : ∀ b o, g.get? b = some o → h.get? b = some o) (F : Fr g L h' m) (N : News g L h' (rest g h L d)) :
    ∀ b o, b ≠ L → b ≠ d → h.get? b = some o → h'.get? b = some o := fun b o h1 h2 e => by
  cases q : g.get? b with
  | some u =>
    have := k b u q
    rw [e] at this; cases this
    exact F.keep b _ q
  | none => exact (N (b, o) (mem_rest h1 q e h2)).1
end L2

namespace L2
open PySem PySem.Spec PyProof.Rows

/-- the module's facts, over the base: the heap at the law's entry without what is tracked there -/
structure Mod (K : PySem.W.Frag) (mg : Str → Option Value) (base : Heap) : Prop where
  kin : K.In base
  glob : base.Ns mainGlobals mg
  blt : ∃ mb, base.Ns builtinsNs mb ∧ ∀ x : Str, x ≠ "__name__" → mb x = bootBuiltins x
  nolimit : base.NoLimit

/-- the context: a def's body (or a comprehension's block) running. base: fixed through the whole law; s₀, H₀: the entry; outer: the frames whose slots others may change (a def's callers); stack: all frames that run;
   ex: iterators that were made ahead of the entry and are walked here (a comprehension's); fn: the names whose cells were made at the entry (a def: all; a comprehension's block: its own); calm: not within an except suite; pn: pins that every state bears; xe: what is wanted of an exception that leaves the code -/
structure Cx where
  prog : Program
  w : World
  K : PySem.W.Frag
  mg : Str → Option Value
  base : Heap
  A : Around
  N : List Str
  s_0 : Shared
  H_0 : Hp
  env : Env
  outer : List Env
  stack : List Env
  ex : List Addr
  fn : Str → Bool
  calm : Bool
  pn : List (Addr × Obj)
  xe : Value → Shared → Prop
/-- the callers' frames -/
def frs (l : List Env) : List Addr := l.filterMap (·.frame)
abbrev Cx.fs (X : Cx) : List Addr := frs X.outer

def Vis (sc : Scope) (x : Str) : Prop := sc.names.lookup x = some .local ∨ sc.names.lookup x = some .cell ∨ sc.names.lookup x = some .free
def Loc (sc : Scope) (x : Str) : Prop := sc.names.lookup x = some .local ∨ sc.names.lookup x = some .cell
def Look (env : Env) (h : Heap) (m : Str → Option Value) (x : Str) (u : Value) : Prop :=
  (env.kindOf x = some .local ∧ m x = some u) ∨ ((env.kindOf x = some .cell ∨ env.kindOf x = some .free) ∧ ∃ c, env.cells.lookup x = some c ∧ h.IsCell c (some u))

structure Cx.Ok (X : Cx) : Prop where
  mod : Mod X.K X.mg X.base
  kind : X.env.scope.kind = .function
  glob : X.env.globals = mainGlobals
  blt : X.env.builtins = builtinsNs
  above : X.s_0.heap.objs.size ≤ X.env.locals
  inj : ∀ x y c, X.env.cells.lookup x = some c → X.env.cells.lookup y = some c → x = y
  has : ∀ x, (X.env.kindOf x = some .cell ∨ X.env.kindOf x = some .free) → ∃ c, X.env.cells.lookup x = some c
  cab : ∀ x c, X.fn x = true → X.env.cells.lookup x = some c → X.s_0.heap.objs.size ≤ c
  hd : X.calm = true → X.A.handled = none
  frames : X.A.frames = some X.stack
  stk : X.stack = X.outer ∨ (X.stack = X.env :: X.outer ∧ X.env.frame = some X.env.locals)
  exf : ∀ b ∈ X.ex, b ≠ X.env.locals ∧ ∀ x c, X.env.cells.lookup x = some c → c ≠ b
  bs : ∀ b o, X.base.get? b = some o → X.s_0.heap.get? b = some o ∧ X.H_0 b = none
  bsz : X.base.objs.size ≤ X.s_0.heap.objs.size
  noex : ∀ b o, X.base.get? b = some o → b ∉ X.ex
  exfs : ∀ b ∈ X.ex, b ∉ X.fs
  funs : X.s_0.heap.FunFrames X.base X.outer
  frf : ∀ b ∈ X.fs, X.H_0 b = none

structure Inv (X : Cx) (pins : List (Addr × Obj)) (σ : List (Option V)) (H : Hp) (s : Shared) : Prop where
  ok : X.Ok
  os : s.os = X.s_0.os
  bare : AllBare s.gens
  base : Un X.fs X.ex X.H_0 H X.s_0.heap s.heap
  loc : ∃ m, s.heap.Ns X.env.locals m ∧ ∀ (i : Nat) (x : Str) (v : V), X.N[i]? = some x → σ[i]? = some (some v) → Vis X.env.scope x → ∃ u, RelV v u ∧ Look X.env s.heap m x u
  cell : ∀ x c, X.env.cells.lookup x = some c → ∃ v, s.heap.IsCell c v
  free : H X.env.locals = none
  freeC : ∀ x c, X.env.cells.lookup x = some c → H c = none
  pin : ∀ p ∈ X.pn ++ pins, s.heap.get? p.1 = some p.2 ∧ H p.1 = none ∧ p.1 ≠ X.env.locals ∧ p.1 ∉ X.fs ∧ ∀ v, p.2.data ≠ .cell v
  hok : HOk X.prog X.w H s.heap
  len : σ.length = X.N.length

section
variable {X : Cx} {pins : List (Addr × Obj)} {σ : List (Option V)} {H H' : Hp} {s : Shared} {h' : Heap}

theorem Cx.Ok.nofr (ok : X.Ok) {b : Addr} {o : Obj} (e : X.base.get? b = some o) : b ∉ X.fs := fun hb => by
  have := (ok.funs.mem hb).1
  rw [e] at this; cases this
theorem Inv.bs (I : Inv X pins σ H s) : ∀ b o, X.base.get? b = some o → s.heap.get? b = some o ∧ H b = none := fun b o e =>
  ⟨I.base.keep b o (I.ok.bs b o e).1 (I.ok.bs b o e).2 (I.ok.nofr e) (I.ok.noex b o e), I.base.free b o (I.ok.bs b o e).1 (I.ok.bs b o e).2 (I.ok.noex b o e)⟩
theorem Inv.bk (I : Inv X pins σ H s) : ∀ b o, X.base.get? b = some o → s.heap.get? b = some o := fun b o e => (I.bs b o e).1
theorem Inv.mod (I : Inv X pins σ H s) : Mod X.K X.mg X.base := I.ok.mod
theorem Inv.kIn (I : Inv X pins σ H s) : X.K.In s.heap := I.ok.mod.kin.keeps I.bk
theorem Inv.nolimit (I : Inv X pins σ H s) : s.heap.NoLimit := I.ok.mod.nolimit.keeps I.bk
/-- the frame over the base: for OpenK's rules (K.In X.base is I.mod.kin) -/
theorem Inv.fr (I : Inv X pins σ H s) : ∃ m, Fr X.base X.env.locals s.heap m :=
  let ⟨m, hn, _⟩ := I.loc
  ⟨m, hn, I.bk, Nat.le_trans I.ok.bsz I.ok.above⟩
theorem Inv.lt (I : Inv X pins σ H s) : X.env.locals < s.heap.objs.size := let ⟨_, hn, _⟩ := I.loc; hn.lt
theorem Inv.sz (I : Inv X pins σ H s) : X.s_0.heap.objs.size ≤ s.heap.objs.size := Nat.le_trans I.ok.above (Nat.le_of_lt I.lt)
theorem Inv.nofs (I : Inv X pins σ H s) {a : Addr} (h : s.heap.objs.size ≤ a) : a ∉ X.fs := fun hb => by
  obtain ⟨_, o, ho, _⟩ := I.ok.funs.mem hb
  exact absurd (Nat.lt_of_lt_of_le (Heap.lt_size ho) (Nat.le_trans I.sz h)) (Nat.lt_irrefl _)
theorem Inv.cne (I : Inv X pins σ H s) : ∀ x c, X.env.cells.lookup x = some c → c ≠ X.env.locals := fun x c e z => by
  obtain ⟨v, o, ho, hd⟩ := I.cell x c e
  obtain ⟨m, ⟨o', es, ep, ho', hd', _⟩, _⟩ := I.loc
  rw [z, ho'] at ho; cases ho; rw [hd'] at hd; cases hd
theorem Inv.funs (I : Inv X pins σ H s) : s.heap.FunFrames X.base X.outer := by
  have all : ∀ (l : List Env), (∀ b ∈ frs l, b ∈ X.fs) → X.s_0.heap.FunFrames X.base l → s.heap.FunFrames X.base l := by
    intro l
    induction l with
    | nil => intro _ _; trivial
    | cons env r ih =>
      intro hs hl
      obtain ⟨hk, ⟨L, o, hf, hn, ho, hd⟩, hr⟩ := hl
      have hL : L ∈ X.fs := hs L (by unfold frs; rw [List.filterMap_cons, hf]; exact List.mem_cons_self)
      obtain ⟨sl, e⟩ := I.base.slot L o ho (I.ok.frf L hL) hL fun z => I.ok.exfs L z hL
      exact ⟨hk, ⟨L, _, hf, hn, e, hd⟩, ih (fun b hb => hs b (by unfold frs; rw [List.filterMap_cons, hf]; exact List.mem_cons_of_mem _ hb)) hr⟩
  exact all X.outer (fun _ hb => hb) I.ok.funs

/-- the frames that run, for a call -/
theorem Inv.stack (I : Inv X pins σ H s) : s.heap.FunFrames X.base X.stack := by
  rcases I.ok.stk with e | ⟨e, hf⟩
  · rw [e]; exact I.funs
  · rw [e]
    obtain ⟨m, hn, _⟩ := I.loc
    refine .cons (by rw [I.ok.kind]; decide) hf hn ?_ I.funs
    exact Heap.get?_none_of_le (Nat.le_trans I.ok.bsz I.ok.above)
theorem Inv.stkSub (I : Inv X pins σ H s) : ∀ b ∈ frs X.stack, b ∈ X.env.locals :: X.fs := fun b hb => by
  rcases I.ok.stk with e | ⟨e, hf⟩
  · rw [e] at hb; exact List.mem_cons_of_mem _ hb
  · rw [e] at hb
    unfold frs at hb
    rw [List.filterMap_cons, hf] at hb
    exact hb
theorem Inv.stkFree (I : Inv X pins σ H s) : ∀ b ∈ frs X.stack, H b = none := fun b hb => by
  rcases List.mem_cons.mp (I.stkSub b hb) with e | hb
  · rw [e]; exact I.free
  · obtain ⟨_, o, ho, _⟩ := I.ok.funs.mem hb
    exact I.base.free b o ho (I.ok.frf b hb) fun z => I.ok.exfs b z hb

/-- THE STEP: the untracked objects but the frame and the records at ch are kept (the callers' frames up to slots), the frame's map is kept, the new abstract heap is held -/
theorem Inv.step {g' : Array GenState} {t' : Nat} {d' : Drawn} {ch : List Addr} (I : Inv X pins σ H s)
    (hch : ∀ b ∈ ch, (b ∈ X.ex ∨ X.s_0.heap.objs.size ≤ b) ∧ b ≠ X.env.locals ∧ (∀ x c, X.env.cells.lookup x = some c → c ≠ b) ∧ ∀ p ∈ X.pn ++ pins, p.1 ≠ b)
    (keep : ∀ b o, b ≠ X.env.locals → b ∉ X.fs → b ∉ ch → s.heap.get? b = some o → H b = none → h'.get? b = some o)
    (slot : ∀ b o, b ≠ X.env.locals → b ∈ X.fs → b ∉ ch → s.heap.get? b = some o → H b = none → ∃ sl, h'.get? b = some { o with slots := sl }) (free : ∀ b o, b ∉ ch → s.heap.get? b = some o → H b = none → H' b = none)
    (there : ∀ b o, b ∉ ch → s.heap.get? b = some o → ∃ o', h'.get? b = some o')
    (tups : ∀ b xs, H b = some (.tup xs) → H' b = some (.tup xs)) (frzs : ∀ b o u, H b = some (.frz o u) → H' b = some (.frz o u)) (tbls : ∀ b ps, H b = some (.tbl ps) → ∃ more, H' b = some (.tbl (ps ++ more)))
    (ns : ∀ m, s.heap.Ns X.env.locals m → h'.Ns X.env.locals m) (hok : HOk X.prog X.w H' h') (hg : AllBare g') :
    Inv X pins σ H' { s with heap := h', gens := g', drawn := d', toks := t' } := by
  have neL : ∀ b o, X.s_0.heap.get? b = some o → b ≠ X.env.locals := fun b o e => Nat.ne_of_lt (Nat.lt_of_lt_of_le (Heap.lt_size e) I.ok.above)
  have neC : ∀ b o, X.s_0.heap.get? b = some o → b ∉ X.ex → b ∉ ch := fun b o e hx hb => by
    rcases (hch b hb).1 with z | z
    · exact hx z
    · exact absurd (Nat.lt_of_lt_of_le (Heap.lt_size e) z) (Nat.lt_irrefl _)
  have cellK : ∀ x c, X.env.cells.lookup x = some c → ∀ v, s.heap.IsCell c v → h'.IsCell c v := fun x c e v ⟨o, ho, hd⟩ => by
    have nch : c ∉ ch := fun z => (hch c z).2.2.1 x c e rfl
    by_cases hc : c ∈ X.fs
    · obtain ⟨sl, q⟩ := slot c o (I.cne x c e) hc nch ho (I.freeC x c e)
      exact ⟨_, q, hd⟩
    · exact ⟨o, keep c o (I.cne x c e) hc nch ho (I.freeC x c e), hd⟩
  refine ⟨I.ok, I.os, hg, ⟨fun b o e n hb hx => ?_, fun b o e n hb hx => ?_, fun b o e n hx => ?_, fun b o e hx => ?_, fun b xs e => tups b xs (I.base.tups b xs e), fun b o xs e => frzs b o xs (I.base.frzs b o xs e), fun b ps e => ?_⟩, ?_, fun x c e => ?_, ?_, fun x c e => ?_, fun p hp => ?_, hok, I.len⟩
  · exact keep b o (neL b o e) hb (neC b o e hx) (I.base.keep b o e n hb hx) (I.base.free b o e n hx)
  · obtain ⟨sl, e1⟩ := I.base.slot b o e n hb hx
    obtain ⟨sl', e2⟩ := slot b _ (neL b o e) hb (neC b o e hx) e1 (I.base.free b o e n hx)
    exact ⟨sl', e2⟩
  · obtain ⟨o', e1⟩ := I.base.there b o e hx
    exact free b o' (neC b o e hx) e1 (I.base.free b o e n hx)
  · obtain ⟨o', e1⟩ := I.base.there b o e hx
    exact there b o' (neC b o e hx) e1
  · obtain ⟨m1, e1⟩ := I.base.tbls b ps e
    obtain ⟨m2, e2⟩ := tbls b _ e1
    exact ⟨m1 ++ m2, by rw [e2, Array.append_assoc]⟩
  · obtain ⟨m, hn, hl⟩ := I.loc
    refine ⟨m, ns m hn, fun i x v e1 e2 e3 => ?_⟩
    obtain ⟨u, r, l⟩ := hl i x v e1 e2 e3
    refine ⟨u, r, ?_⟩
    rcases l with l | ⟨k, c, e, z⟩
    · exact .inl l
    · exact .inr ⟨k, c, e, cellK x c e _ z⟩
  · obtain ⟨v, z⟩ := I.cell x c e
    exact ⟨v, cellK x c e v z⟩
  · obtain ⟨m, ⟨o, _, _, ho, _⟩, _⟩ := I.loc
    exact free _ o (fun z => (hch _ z).2.1 rfl) ho I.free
  · obtain ⟨v, o, ho, hd⟩ := I.cell x c e
    exact free c o (fun z => (hch c z).2.2.1 x c e rfl) ho (I.freeC x c e)
  · obtain ⟨e, n, ne, nf, d⟩ := I.pin p hp
    have nch : p.1 ∉ ch := fun z => (hch p.1 z).2.2.2 p hp rfl
    exact ⟨keep p.1 p.2 ne nf nch e n, free p.1 p.2 nch e n, ne, nf, d⟩
/-- .. where the frame's own object is kept too -/
theorem Inv.un {t' : Nat} (I : Inv X pins σ H s) (u : Un X.fs [] H H' s.heap h') (hok : HOk X.prog X.w H' h') : Inv X pins σ H' { s with heap := h', toks := t' } := by
  obtain ⟨m, ⟨o, es, ep, ho, r⟩, _⟩ := id I.loc
  obtain ⟨sl, hL⟩ := u.any ho I.free (by simp)
  exact I.step (g' := s.gens) (d' := s.drawn) (ch := []) (fun _ z => nomatch z) (fun b o _ hb _ e n => u.keep b o e n hb (by simp)) (fun b o _ hb _ e n => u.slot b o e n hb (by simp)) (fun b o _ e n => u.free b o e n (by simp)) (fun b o _ e => u.there b o e (by simp)) u.tups u.frzs u.tbls (fun m' hm => by
    obtain ⟨o', es', ep', ho', r'⟩ := hm
    rw [ho] at ho'; cases ho'
    exact ⟨_, es', ep', hL, r'⟩) hok I.bare
/-- behind a call (or a comprehension's block): the slots of this frame may have changed too, the records at ch may have turned -/
theorem Inv.call {g' : Array GenState} {t' : Nat} {d' : Drawn} {ch : List Addr} (I : Inv X pins σ H s) (u : Un (frs X.stack) ch H H' s.heap h') (hok : HOk X.prog X.w H' h') (hg : AllBare g')
    (hch : ∀ b ∈ ch, (b ∈ X.ex ∨ X.s_0.heap.objs.size ≤ b) ∧ b ≠ X.env.locals ∧ (∀ x c, X.env.cells.lookup x = some c → c ≠ b) ∧ ∀ p ∈ X.pn ++ pins, p.1 ≠ b) :
    Inv X pins σ H' { s with heap := h', gens := g', drawn := d', toks := t' } := by
  obtain ⟨m, ⟨o, es, ep, ho, r⟩, _⟩ := id I.loc
  obtain ⟨sl, hL⟩ := u.any ho I.free fun z => (hch _ z).2.1 rfl
  exact I.step (ch := ch) hch (fun b o hL hb hc e n => u.keep b o e n (fun z => (List.mem_cons.mp (I.stkSub b z)).elim hL hb) hc) (fun b o _ _ hc e n => u.any e n hc) (fun b o hc e n => u.free b o e n hc) (fun b o hc e => u.there b o e hc) u.tups u.frzs u.tbls (fun m' hm => by
    obtain ⟨o', es', ep', ho', r'⟩ := hm
    rw [ho] at ho'; cases ho'
    exact ⟨_, es', ep', hL, r'⟩) hok hg
/-- an untracked record of ours (an iterator) has turned -/
theorem Inv.turned {t' : Nat} {it : Addr} (I : Inv X pins σ H s) (k : ∀ b o, b ≠ it → s.heap.get? b = some o → h'.get? b = some o) (hn : H it = none) (hL : it ≠ X.env.locals)
    (h1 : it ∈ X.ex ∨ X.s_0.heap.objs.size ≤ it) (h2 : ∀ x c, X.env.cells.lookup x = some c → c ≠ it) (h3 : ∀ p ∈ X.pn ++ pins, p.1 ≠ it) : Inv X pins σ H { s with heap := h', toks := t' } := by
  have nit : ∀ b u, H b = some u → b ≠ it := fun b u e z => by rw [z, hn] at e; cases e
  refine I.step (g' := s.gens) (d' := s.drawn) (ch := [it]) (fun b hb => ?_) (fun b o _ _ hc e _ => k b o (fun z => hc (by simp [z])) e) (fun b o _ _ hc e _ => ⟨o.slots, k b o (fun z => hc (by simp [z])) e⟩) (fun _ _ _ _ n => n)
    (fun b o hc e => ⟨o, k b o (fun z => hc (by simp [z])) e⟩) (fun _ _ e => e) (fun _ _ _ e => e) (fun b ps e => ⟨#[], by rw [e]; simp⟩) (fun m hm => ?_) (fun b u e => ?_) I.bare
  · have e : b = it := by simpa using hb
    subst e
    exact ⟨h1, hL, h2, h3⟩
  · obtain ⟨o, es, ep, ho, r⟩ := hm
    exact ⟨o, es, ep, k _ o (Ne.symm hL) ho, r⟩
  · refine (I.hok b u e).stay (fun c v hc q => k c v ?_ q) (fun _ q => q) fun _ _ q => q
    rcases hc with z | z
    · rw [z]; exact nit b u e
    · exact nit c _ z
theorem Inv.tok (I : Inv X pins σ H s) (t : Nat) : Inv X pins σ H { s with toks := t } := I.un (h' := s.heap) (t' := t) Un.refl I.hok
/-- all objects kept -/
theorem Inv.kept {t' : Nat} (I : Inv X pins σ H s) (k : ∀ b u, s.heap.get? b = some u → h'.get? b = some u) : Inv X pins σ H { s with heap := h', toks := t' } := I.un (Un.kept k) (I.hok.kept k)
/-- a new object laid and tracked -/
theorem Inv.laid {a : Addr} {o : HO} {t' : Nat} (I : Inv X pins σ H s) (k : ∀ b u, s.heap.get? b = some u → h'.get? b = some u) (hp : s.heap.objs.size ≤ a) (new : ObjOk X.prog X.w (upd H a o) h' a o) :
    Inv X pins σ (upd H a o) { s with heap := h', toks := t' } := I.un (Un.laid k hp (I.hok.fresh hp)) (I.hok.laid k hp new)
/-- an object written -/
theorem Inv.write {x e : Addr} {o : HO} {t' : Nat} (I : Inv X pins σ H s) (mu : Mut (H x)) (he : e = x ∨ H e = some (.own x)) (k : ∀ b u, b ≠ e → s.heap.get? b = some u → h'.get? b = some u) (heo : ∃ u, h'.get? e = some u)
    (new : ObjOk X.prog X.w (upd H x o) h' x o) : Inv X pins σ (upd H x o) { s with heap := h', toks := t' } := I.un (Un.write mu he k heo) (I.hok.write mu he k heo new)
/-- forgetting slots, pins -/
theorem Inv.weak {σ' : List (Option V)} (I : Inv X pins σ H s) (hl : σ'.length = σ.length) (w : ∀ (i : Nat) v, σ'[i]? = some (some v) → σ[i]? = some (some v)) : Inv X pins σ' H s :=
  ⟨I.ok, I.os, I.bare, I.base, let ⟨m, hn, hl'⟩ := I.loc; ⟨m, hn, fun i x v e1 e2 e3 => hl' i x v e1 (w i v e2) e3⟩, I.cell, I.free, I.freeC, I.pin, I.hok, hl.trans I.len⟩
theorem Inv.pins_of {pins' : List (Addr × Obj)} (I : Inv X pins σ H s) (h : ∀ p ∈ pins', s.heap.get? p.1 = some p.2 ∧ H p.1 = none ∧ p.1 ≠ X.env.locals ∧ p.1 ∉ X.fs ∧ ∀ v, p.2.data ≠ .cell v) : Inv X pins' σ H s :=
  ⟨I.ok, I.os, I.bare, I.base, I.loc, I.cell, I.free, I.freeC, fun p hp => (List.mem_append.mp hp).elim (fun z => I.pin p (List.mem_append_left _ z)) (h p), I.hok, I.len⟩

theorem nodup_ix {N : List Str} (hN : N.Nodup) {i j : Nat} {x : Str} (a : N[i]? = some x) (b : N[j]? = some x) : i = j := by
  obtain ⟨h1, e1⟩ := List.getElem?_eq_some_iff.mp a
  obtain ⟨h2, e2⟩ := List.getElem?_eq_some_iff.mp b
  exact (List.getElem_inj hN).mp (e1.trans e2.symm)

/-- a name is stored; what changed -/
theorem store_ok2 {M : Model} {A : Around} {E : Value → Shared → Prop} {i : Nat} {x : Str} {v : V} {u : Value} {Q : Unit → Shared → Prop} (I : Inv X pins σ H s) (hN : X.N.Nodup) (hi : X.N[i]? = some x) (hx : Loc X.env.scope x) (r : RelV v u)
    (h : ∀ s', Inv X pins (σ.set i (some v)) H s' → (∃ a, Heap.SameBut a s.heap s'.heap ∧ (a = X.env.locals ∨ X.env.cells.lookup x = some a)) → Q () s') (hf : X.fn x = true ∨ X.env.scope.names.lookup x = some .local := by first | exact .inl rfl | exact .inr rfl | assumption) : wpAny M A (storeName X.env x u) Q E s := by
  obtain ⟨m, hn, hl⟩ := id I.loc
  have hcls : (X.env.scope.kind == .class || (X.env.scope.kind == .module && X.env.locals != X.env.globals)) = false := by rw [I.ok.kind]; rfl
  have hiσ : i < σ.length := by rw [I.len]; exact (List.getElem?_eq_some_iff.mp hi).1
  have cne := I.cne
  have tracked : ∀ {a : Addr} {h' : Heap}, (∃ o, s.heap.get? a = some o ∧ H a = none) → Heap.SameBut a s.heap h' → HOk X.prog X.w H h' := fun {a h'} ha hs b ob e => by
    obtain ⟨_, _, hfree⟩ := ha
    refine (I.hok b ob e).stay (fun c w' hc q => (hs.2 c ?_).trans q) (fun _ q => q) fun _ _ q => q
    rintro rfl
    rcases hc with rfl | hc
    · rw [hfree] at e; cases e
    · rw [hfree] at hc; cases hc
  rcases hx with hk | hk
  · refine wpAny_storeName_local hk hn (fun h' hn' hs => ?_) hcls
    obtain ⟨oL, _, _, hoL, _⟩ := id hn
    refine h _ ⟨I.ok, I.os, I.bare, ⟨fun b o e n hb hx => ?_, fun b o e n hb hx => ?_, I.base.free, fun b o e hx => ?_, I.base.tups, I.base.frzs, I.base.tbls⟩, ⟨_, hn', fun j y v' e1 e2 e3 => ?_⟩, fun y c e => ?_, I.free, I.freeC, fun p hp => ?_, tracked ⟨oL, hoL, I.free⟩ hs, by simpa using I.len⟩ ⟨_, hs, .inl rfl⟩
    · exact (hs.2 b (Nat.ne_of_lt (Nat.lt_of_lt_of_le (Heap.lt_size e) I.ok.above))).trans (I.base.keep b o e n hb hx)
    · obtain ⟨sl, e1⟩ := I.base.slot b o e n hb hx
      exact ⟨sl, (hs.2 b (Nat.ne_of_lt (Nat.lt_of_lt_of_le (Heap.lt_size e) I.ok.above))).trans e1⟩
    · obtain ⟨o', e1⟩ := I.base.there b o e hx
      exact ⟨o', (hs.2 b (Nat.ne_of_lt (Nat.lt_of_lt_of_le (Heap.lt_size e) I.ok.above))).trans e1⟩
    · by_cases hj : j = i
      · subst hj
        rw [hi] at e1; cases e1
        rw [List.getElem?_set_self hiσ] at e2
        cases e2
        exact ⟨u, r, .inl ⟨hk, by simp⟩⟩
      · rw [List.getElem?_set_ne (Ne.symm hj)] at e2
        obtain ⟨u', r', q⟩ := hl j y v' e1 e2 e3
        refine ⟨u', r', ?_⟩
        rcases q with ⟨k, e⟩ | ⟨k, c, e, z⟩
        · refine .inl ⟨k, ?_⟩
          have : y ≠ x := fun e => hj (nodup_ix hN e1 (e ▸ hi))
          simp [this, e]
        · exact .inr ⟨k, c, e, z.sameBut hs (cne y c e)⟩
    · obtain ⟨w', z⟩ := I.cell y c e
      exact ⟨w', z.sameBut hs (cne y c e)⟩
    · obtain ⟨e, n, ne, nf, d⟩ := I.pin p hp
      exact ⟨(hs.2 p.1 ne).trans e, n, ne, nf, d⟩
  · have hfn : X.fn x = true := by
      rcases hf with z | z
      · exact z
      · rw [z] at hk; cases hk
    obtain ⟨c, hc⟩ := I.ok.has x (.inl hk)
    obtain ⟨w', z⟩ := I.cell x c hc
    refine wpAny_storeName_cell I.ok.kind hk hc z (fun h' hc' hs => ?_)
    obtain ⟨oc, hoc, hocd⟩ := id z
    refine h { s with heap := h' } ⟨I.ok, I.os, I.bare, ⟨fun b o e n hb hx => ?_, fun b o e n hb hx => ?_, I.base.free, fun b o e hx => ?_, I.base.tups, I.base.frzs, I.base.tbls⟩, ⟨m, hn.sameBut hs (Ne.symm (cne x c hc)), fun j y v' e1 e2 e3 => ?_⟩, fun y c' e => ?_, I.free, I.freeC, fun p hp => ?_, tracked ⟨oc, hoc, I.freeC x c hc⟩ hs, by simpa using I.len⟩ ⟨c, hs, .inr hc⟩
    · exact (hs.2 b (Nat.ne_of_lt (Nat.lt_of_lt_of_le (Heap.lt_size e) (I.ok.cab x c hfn hc)))).trans (I.base.keep b o e n hb hx)
    · obtain ⟨sl, e1⟩ := I.base.slot b o e n hb hx
      exact ⟨sl, (hs.2 b (Nat.ne_of_lt (Nat.lt_of_lt_of_le (Heap.lt_size e) (I.ok.cab x c hfn hc)))).trans e1⟩
    · obtain ⟨o', e1⟩ := I.base.there b o e hx
      exact ⟨o', (hs.2 b (Nat.ne_of_lt (Nat.lt_of_lt_of_le (Heap.lt_size e) (I.ok.cab x c hfn hc)))).trans e1⟩
    · by_cases hj : j = i
      · subst hj
        rw [hi] at e1; cases e1
        rw [List.getElem?_set_self hiσ] at e2
        cases e2
        exact ⟨u, r, .inr ⟨.inl hk, c, hc, hc'⟩⟩
      · rw [List.getElem?_set_ne (Ne.symm hj)] at e2
        obtain ⟨u', r', q⟩ := hl j y v' e1 e2 e3
        refine ⟨u', r', ?_⟩
        rcases q with q | ⟨k, c', e, z'⟩
        · exact .inl q
        · refine .inr ⟨k, c', e, z'.sameBut hs ?_⟩
          rintro rfl
          exact hj (nodup_ix hN e1 (I.ok.inj _ _ _ e hc ▸ hi))
    · by_cases hcc : c' = c
      · subst hcc; exact ⟨_, hc'⟩
      · obtain ⟨w2, z2⟩ := I.cell y c' e
        exact ⟨w2, z2.sameBut hs hcc⟩
    · obtain ⟨e, n, ne, nf, d⟩ := I.pin p hp
      refine ⟨(hs.2 p.1 ?_).trans e, n, ne, nf, d⟩
      intro q
      rw [q, hoc] at e
      have q' : oc = p.2 := Option.some.inj e
      exact d w' (by rw [← q']; exact hocd)
theorem store_ok {M : Model} {A : Around} {E : Value → Shared → Prop} {i : Nat} {x : Str} {v : V} {u : Value} {Q : Unit → Shared → Prop} (I : Inv X pins σ H s) (hN : X.N.Nodup) (hi : X.N[i]? = some x) (hx : Loc X.env.scope x) (r : RelV v u)
    (h : ∀ s', Inv X pins (σ.set i (some v)) H s' → Q () s') (hf : X.fn x = true ∨ X.env.scope.names.lookup x = some .local := by first | exact .inl rfl | exact .inr rfl | assumption) : wpAny M A (storeName X.env x u) Q E s :=
  store_ok2 I hN hi hx r (fun s' I' _ => h s' I') hf
/-- behind a call or a block, the state as it is -/
theorem Inv.call' {s' : Shared} {ch : List Addr} (I : Inv X pins σ H s) (ho : s'.os = s.os) (u : Un (frs X.stack) ch H H' s.heap s'.heap) (hok : HOk X.prog X.w H' s'.heap) (hg : AllBare s'.gens)
    (hch : ∀ b ∈ ch, (b ∈ X.ex ∨ X.s_0.heap.objs.size ≤ b) ∧ b ≠ X.env.locals ∧ (∀ x c, X.env.cells.lookup x = some c → c ≠ b) ∧ ∀ p ∈ X.pn ++ pins, p.1 ≠ b) : Inv X pins σ H' s' := by
  obtain ⟨h', g', d', t', o'⟩ := s'
  have e : o' = s.os := ho
  subst e
  exact I.call (g' := g') (t' := t') (d' := d') u hok hg hch
end

/-! ### the judgements -/
/-- an exception: its class, its own dict's address (where it has one), the abstract heap behind it -/
abbrev XK := Value → Option Addr → Hp → Prop
abbrev St := List (Option V)
abbrev VK := V → Hp → Prop
/-- an expression's reading; a test's; an argument list's -/
abbrev TE := St → Hp → VK → Prop
abbrev TT := St → Hp → (Bool → Hp → Prop) → Prop
abbrev TA := St → Hp → (List V → Hp → Prop) → Prop
/-- what is wanted behind a statement -/
structure Ends where
  nx : St → Hp → Prop
  rt : VK
  bk : St → Hp → Prop := fun _ _ => False
  ct : St → Hp → Prop := fun _ _ => False
abbrev TS := Ends → St → Hp → Prop

def EP (X : Cx) (pins : List (Addr × Obj)) (σ : St) (Q : VK) (u : Value) (s' : Shared) : Prop := ∃ v H', Inv X pins σ H' s' ∧ RelV v u ∧ Q v H'
def TP (X : Cx) (pins : List (Addr × Obj)) (σ : St) (Q : Bool → Hp → Prop) (b : Bool) (s' : Shared) : Prop := ∃ H', Inv X pins σ H' s' ∧ Q b H'
def AP (X : Cx) (pins : List (Addr × Obj)) (σ : St) (Q : List V → Hp → Prop) (us : List Value) (s' : Shared) : Prop := ∃ vs H', Inv X pins σ H' s' ∧ Vals vs us ∧ Q vs H'
def SP (X : Cx) (pins : List (Addr × Obj)) (D : Ends) (f : Flow) (s' : Shared) : Prop :=
  match f with
  | .next => ∃ σ' H', Inv X pins σ' H' s' ∧ D.nx σ' H'
  | .brk => ∃ σ' H', Inv X pins σ' H' s' ∧ D.bk σ' H'
  | .cont => ∃ σ' H', Inv X pins σ' H' s' ∧ D.ct σ' H'
  | .ret u => ∃ v σ' H', Inv X pins σ' H' s' ∧ RelV v u ∧ D.rt v H'

def PE (X : Cx) (e : Expr) (t : TE) : Prop :=
  ∀ (pins : List (Addr × Obj)) (s : Shared) (σ : St) (H : Hp) (Q : VK), Inv X pins σ H s → t σ H Q → wpAny (model X.prog X.w) X.A (eval e X.env) (EP X pins σ Q) X.xe s
def PT (X : Cx) (e : Expr) (t : TT) : Prop :=
  ∀ (pins : List (Addr × Obj)) (s : Shared) (σ : St) (H : Hp) (Q : Bool → Hp → Prop), Inv X pins σ H s → t σ H Q → wpAny (model X.prog X.w) X.A (isTrue e X.env (eval e X.env)) (TP X pins σ Q) X.xe s
/-- a test whatever its 'whole' is (and, or) -/
def PW (X : Cx) (e : Expr) (t : TT) : Prop :=
  ∀ (whole : Sem Value) (pins : List (Addr × Obj)) (s : Shared) (σ : St) (H : Hp) (Q : Bool → Hp → Prop), Inv X pins σ H s → t σ H Q → wpAny (model X.prog X.w) X.A (isTrue e X.env whole) (TP X pins σ Q) X.xe s
theorem PW.pt {X : Cx} {e : Expr} {t : TT} (h : PW X e t) : PT X e t := h _
/-- an argument list (no star), from the left -/
def PA (X : Cx) (es : List Expr) (t : TA) : Prop :=
  ∀ (pos : Pos) (pins : List (Addr × Obj)) (s : Shared) (σ : St) (H : Hp) (Q : List V → Hp → Prop), Inv X pins σ H s → t σ H Q → wpAny (model X.prog X.w) X.A (spliced (backTo pos (starEach es X.env))) (AP X pins σ Q) X.xe s
def PS (X : Cx) (st : Stmt) (t : TS) : Prop :=
  ∀ (pins : List (Addr × Obj)) (s : Shared) (σ : St) (H : Hp) (D : Ends), Inv X pins σ H s → t D σ H → wpAny (model X.prog X.w) X.A (exec st X.env) (SP X pins D) X.xe s
def PSs (X : Cx) (st : List Stmt) (t : TS) : Prop :=
  ∀ (pins : List (Addr × Obj)) (s : Shared) (σ : St) (H : Hp) (D : Ends), Inv X pins σ H s → t D σ H → wpAny (model X.prog X.w) X.A (execs st X.env) (SP X pins D) X.xe s
/-- weaken the end -/
theorem thn {α : Type} {t : Sem α} {Q Q' : α → Shared → Prop} {M : Model} {A : Around} {E : Value → Shared → Prop} {s : Shared} (h : wpAny M A t Q E s) (hQ : ∀ a s, Q a s → Q' a s) : wpAny M A t Q' E s := wpAny_mono h hQ fun _ _ x => x
end L2

namespace L2
open PySem PySem.Spec PyProof.Rows
section
variable {X : Cx}

/-- two expressions in a row -/
theorem bin {a b : Expr} {ta tb : TE} (ha : PE X a ta) (hb : PE X b tb) {pins : List (Addr × Obj)} {s : Shared} {σ : St} {H : Hp} {R : V → V → Hp → Prop} (I : Inv X pins σ H s) (h : ta σ H fun x H1 => tb σ H1 fun y H2 => R x y H2)
    {α : Type} {Q : α → Shared → Prop} {f : Value → Value → Sem α}
    (hf : ∀ v u s2 x y H2, Inv X pins σ H2 s2 → RelV x v → RelV y u → R x y H2 → wpAny (model X.prog X.w) X.A (f v u) Q X.xe s2) :
    wpAny (model X.prog X.w) X.A (eval a X.env) (fun v s₁ => wpAny (model X.prog X.w) X.A (eval b X.env) (fun u s₂ => wpAny (model X.prog X.w) X.A (f v u) Q X.xe s₂) X.xe s₁) X.xe s := by
  refine thn (ha pins s σ H _ I h) fun v s1 ⟨x, H1, I1, r1, q1⟩ => ?_
  refine thn (hb pins s1 σ H1 _ I1 q1) fun u s2 ⟨y, H2, I2, r2, q2⟩ => ?_
  exact hf v u s2 x y H2 I2 r1 r2 q2

/-! ### names and constants -/
def tVar (i : Nat) : TE := fun σ H Q => ∃ v, σ[i]? = some (some v) ∧ Q v H
def tC (v : V) : TE := fun _ H Q => Q v H
theorem pe_var {i : Nat} {x : Str} {pos : Pos} (hN : X.N[i]? = some x) (hv : Vis X.env.scope x) (hd : (x == ("__debug__" : Str)) = false := by decide) (hcd : (x == ("__classdict__" : Str)) = false := by decide) : PE X (.Name x pos) (tVar i) := by
  intro pins s σ H Q I h
  obtain ⟨v, e, h⟩ := h
  obtain ⟨m, hn, hl⟩ := I.loc
  obtain ⟨u, r, l⟩ := hl i x v hN e hv
  have fin : EP X pins σ Q u s := ⟨v, H, I, r, h⟩
  rcases l with ⟨hk, hm⟩ | ⟨hk, c, hc, hcell⟩
  · exact wpAny_Name (wpAny_loadName_local I.ok.kind hk hn hm fin) hd
  · rcases hk with hk | hk
    · exact wpAny_Name (wpAny_loadName_cell I.ok.kind hk hc hcell fin) hd
    · exact wpAny_Name (wpAny_loadName_free I.ok.kind hk hc hcell fin hcd) hd
theorem pe_int {i j pos} : PE X (.Constant (.int i) j pos) (tC (.int i)) := fun _ _ _ H _ I h => wpAny_Constant_int ⟨.int i, H, I.tok _, ⟨_, rfl⟩, h⟩
theorem pe_bl {b j pos} : PE X (.Constant (.bool b) j pos) (tC (.bl b)) := fun _ _ _ H _ I h => Constant_bool ⟨.bl b, H, I, rfl, h⟩
theorem pe_non {j pos} : PE X (.Constant .none j pos) (tC .non) := fun _ _ _ H _ I h => Constant_none ⟨.non, H, I, rfl, h⟩
theorem pe_str {x j pos} : PE X (.Constant (.str x) j pos) (tC (.str x)) := fun _ _ _ H _ I h => Calls.Constant_str ⟨.str x, H, I.tok _, ⟨_, rfl⟩, h⟩

/-- a global name of the def -/
def Gl (X : Cx) (x : Str) : Prop := X.env.kindOf x = some .globalImplicit
theorem ld_glob {E : Value → Shared → Prop} {pins : List (Addr × Obj)} {s : Shared} {σ : St} {H : Hp} {x : Str} {u : Value} {pos : Pos} {Q : Value → Shared → Prop} (I : Inv X pins σ H s) (hg : Gl X x) (hm : X.mg x = some u) (h : Q u s)
    (hd : (x == ("__debug__" : Str)) = false := by decide) : wpAny (model X.prog X.w) X.A (eval (.Name x pos) X.env) Q E s :=
  Calls.Name_function_global I.ok.kind hg (Calls.loadGlobal_global (by rw [I.ok.glob]; exact I.mod.glob.keeps I.bk) hm h) hd
theorem ld_blt {E : Value → Shared → Prop} {pins : List (Addr × Obj)} {s : Shared} {σ : St} {H : Hp} {x : Str} {u : Value} {pos : Pos} {Q : Value → Shared → Prop} (I : Inv X pins σ H s) (hg : Gl X x) (hm : X.mg x = none) (hv : bootBuiltins x = some u) (h : Q u s)
    (hn : x ≠ "__name__" := by decide) (hd : (x == ("__debug__" : Str)) = false := by decide) : wpAny (model X.prog X.w) X.A (eval (.Name x pos) X.env) Q E s := by
  obtain ⟨mb, h1, h2⟩ := I.mod.blt
  exact Calls.Name_function_global I.ok.kind hg (Calls.loadGlobal_builtin (by rw [I.ok.glob]; exact I.mod.glob.keeps I.bk) hm (by rw [I.ok.blt]; exact h1.keeps I.bk) ((h2 x hn).trans hv) h) hd
/-- a module's constant, a class, a function, as a value -/
theorem pe_glob {x : Str} {v : V} {u : Value} {pos : Pos} (hg : Gl X x) (hm : X.mg x = some u) (r : RelV v u) (hd : (x == ("__debug__" : Str)) = false := by decide) : PE X (.Name x pos) (tC v) :=
  fun _ _ _ H _ I h => ld_glob I hg hm ⟨v, H, I, r, h⟩ hd
theorem pe_bltn {x : Str} {v : V} {u : Value} {pos : Pos} (hg : Gl X x) (hm : X.mg x = none) (hv : bootBuiltins x = some u) (r : RelV v u) (hn : x ≠ "__name__" := by decide) (hd : (x == ("__debug__" : Str)) = false := by decide) : PE X (.Name x pos) (tC v) :=
  fun _ _ _ H _ I h => ld_blt I hg hm hv ⟨v, H, I, r, h⟩ hn hd

/-! ### arithmetic -/
/-- two ints -/
def t2I (ta tb : TE) (k : Int → Int → Hp → Prop) : St → Hp → Prop := fun σ H => ta σ H fun x H1 => tb σ H1 fun y H2 => ∃ i j, x = .int i ∧ y = .int j ∧ k i j H2
def tAdd (ta tb : TE) : TE := fun σ H Q => t2I ta tb (fun i j H2 => Q (.int (i + j)) H2) σ H
def tSub (ta tb : TE) : TE := fun σ H Q => t2I ta tb (fun i j H2 => Q (.int (i - j)) H2) σ H
/-- the left factor below 2^64 -/
def tMul (ta tb : TE) : TE := fun σ H Q => t2I ta tb (fun i j H2 => (-(2 ^ 64) < i ∧ i < 2 ^ 64) ∧ Q (.int (i * j)) H2) σ H
variable {a b : Expr} {ta tb : TE} {pos : Pos}
theorem pe_add (ha : PE X a ta) (hb : PE X b tb) : PE X (.BinOp a .Add b pos) (tAdd ta tb) := by
  intro pins s σ H Q I h
  refine wpAny_BinOp (bin ha hb I h fun v u s2 x y H2 I2 rx ry q => ?_)
  obtain ⟨i, j, rfl, rfl, q⟩ := q
  obtain ⟨t, rfl⟩ := rx
  obtain ⟨t', rfl⟩ := ry
  exact add_int ⟨.int _, H2, I2.tok _, ⟨_, rfl⟩, q⟩
theorem pe_sub (ha : PE X a ta) (hb : PE X b tb) : PE X (.BinOp a .Sub b pos) (tSub ta tb) := by
  intro pins s σ H Q I h
  refine wpAny_BinOp (bin ha hb I h fun v u s2 x y H2 I2 rx ry q => ?_)
  obtain ⟨i, j, rfl, rfl, q⟩ := q
  obtain ⟨t, rfl⟩ := rx
  obtain ⟨t', rfl⟩ := ry
  exact sub_int ⟨.int _, H2, I2.tok _, ⟨_, rfl⟩, q⟩
theorem pe_mul (ha : PE X a ta) (hb : PE X b tb) : PE X (.BinOp a .Mult b pos) (tMul ta tb) := by
  intro pins s σ H Q I h
  refine wpAny_BinOp (bin ha hb I h fun v u s2 x y H2 I2 rx ry q => ?_)
  obtain ⟨i, j, rfl, rfl, ⟨q1, q2⟩, q⟩ := q
  obtain ⟨t, rfl⟩ := rx
  obtain ⟨t', rfl⟩ := ry
  exact mul_int ⟨.int _, H2, I2.tok _, ⟨_, rfl⟩, q⟩ (.of_left (intBits_le_64 q1 q2))

/-! ### comparisons -/
def PC (X : Cx) (op : CmpOp) (a b : Expr) (t : TE) : Prop :=
  ∀ (pins : List (Addr × Obj)) (s : Shared) (σ : St) (H : Hp) (Q : VK), Inv X pins σ H s → t σ H Q →
    wpAny (model X.prog X.w) X.A (eval a X.env) (fun v s₁ => wpAny (model X.prog X.w) X.A (eval b X.env) (fun u s₂ => wpAny (model X.prog X.w) X.A (compareOp op v u) (EP X pins σ Q) X.xe s₂) X.xe s₁) X.xe s
theorem nobehind (b : Expr) {op : CmpOp} (h : op ≠ .In) (h2 : op ≠ .NotIn) : behindInMarks op b = false := by
  have e1 : (op == CmpOp.In) = false := by cases op <;> first | rfl | exact absurd rfl h
  have e2 : (op == CmpOp.NotIn) = false := by cases op <;> first | rfl | exact absurd rfl h2
  cases b <;> simp [behindInMarks, e1, e2]
def tCmp (p : Int → Int → Bool) (ta tb : TE) : TE := fun σ H Q => t2I ta tb (fun i j H2 => Q (.bl (p i j)) H2) σ H
abbrev tLt : TE → TE → TE := tCmp fun i j => decide (i < j)
abbrev tLe : TE → TE → TE := tCmp fun i j => decide (i ≤ j)
abbrev tGt : TE → TE → TE := tCmp fun i j => decide (j < i)
abbrev tGe : TE → TE → TE := tCmp fun i j => decide (j ≤ i)
abbrev tEqI : TE → TE → TE := tCmp fun i j => decide (i = j)
abbrev tNeI : TE → TE → TE := tCmp fun i j => !decide (i = j)
/-- a comparison of two ints, by its rule -/
theorem pc_int {op : CmpOp} {p : Int → Int → Bool} (ha : PE X a ta) (hb : PE X b tb)
    (rule : ∀ (i j : Int) (t u : Tok) (Q : Value → Shared → Prop) (s : Shared), Q (.bool (p i j)) s → wpAny (model X.prog X.w) X.A (compareOp op (.int i t) (.int j u)) Q X.xe s) : PC X op a b (tCmp p ta tb) := by
  intro pins s σ H Q I h
  refine bin ha hb I h fun v u s2 x y H2 I2 rx ry q => ?_
  obtain ⟨i, j, rfl, rfl, q⟩ := q
  obtain ⟨t, rfl⟩ := rx
  obtain ⟨t', rfl⟩ := ry
  exact rule i j t t' _ s2 ⟨.bl _, H2, I2, rfl, q⟩
theorem pc_lt (ha : PE X a ta) (hb : PE X b tb) : PC X .Lt a b (tLt ta tb) := pc_int ha hb fun _ _ _ _ _ _ h => lt_int h
theorem pc_le (ha : PE X a ta) (hb : PE X b tb) : PC X .LtE a b (tLe ta tb) := pc_int ha hb fun _ _ _ _ _ _ h => le_int h
theorem pc_gt (ha : PE X a ta) (hb : PE X b tb) : PC X .Gt a b (tGt ta tb) := pc_int ha hb fun _ _ _ _ _ _ h => gt_int h
theorem pc_ge (ha : PE X a ta) (hb : PE X b tb) : PC X .GtE a b (tGe ta tb) := pc_int ha hb fun _ _ _ _ _ _ h => ge_int h
theorem pc_eqI (ha : PE X a ta) (hb : PE X b tb) : PC X .Eq a b (tEqI ta tb) := pc_int ha hb fun _ _ _ _ _ _ h => eq_int (by rw [Bool.beq_eq_decide_eq]; exact h)
theorem pc_neI (ha : PE X a ta) (hb : PE X b tb) : PC X .NotEq a b (tNeI ta tb) := pc_int ha hb fun _ _ _ _ _ _ h => ne_int (by rw [bne, Bool.beq_eq_decide_eq]; exact h)
/-- is None -/
def tIsN (ta : TE) : TE := fun σ H Q => ta σ H fun x H1 => Q (.bl (decide (x = .non))) H1
def tNotN (ta : TE) : TE := fun σ H Q => ta σ H fun x H1 => Q (.bl (!decide (x = .non))) H1
theorem RelV.none_iff {x : V} {v : Value} (r : RelV x v) : (v == Value.none) = decide (x = .non) := by
  cases x with
  | non => cases r; rfl
  | bl _ => cases r; rfl
  | int _ => obtain ⟨t, rfl⟩ := r; rfl
  | str _ => obtain ⟨t, rfl⟩ := r; rfl
  | byt _ => obtain ⟨t, rfl⟩ := r; rfl
  | flt _ => obtain ⟨t, rfl⟩ := r; rfl
  | ref _ => cases r; rfl
  | ty _ => cases r; rfl
theorem pc_isN {j pos'} (ha : PE X a ta) : PC X .Is a (.Constant .none j pos') (tIsN ta) := by
  intro pins s σ H Q I h
  refine thn (ha pins s σ H _ I h) fun v s1 ⟨x, H1, I1, r1, q1⟩ => ?_
  exact Constant_none (is_none_gen ⟨.bl _, H1, I1, by rw [r1.none_iff]; rfl, q1⟩)
theorem pc_notN {j pos'} (ha : PE X a ta) : PC X .IsNot a (.Constant .none j pos') (tNotN ta) := by
  intro pins s σ H Q I h
  refine thn (ha pins s σ H _ I h) fun v s1 ⟨x, H1, I1, r1, q1⟩ => ?_
  exact Constant_none (isnot_none_gen ⟨.bl _, H1, I1, by rw [r1.none_iff]; rfl, q1⟩)
/-- a comparison as a value, as a test -/
def tB (t : TE) : TT := fun σ H Q => t σ H fun x H1 => ∃ c, x = .bl c ∧ Q c H1
theorem pe_cmp {op : CmpOp} {t : TE} (h : PC X op a b t) (h1 : behindInMarks op b = false := by first | exact nobehind _ (by decide) (by decide) | rfl) : PE X (.Compare a [op] [b] pos) t := fun pins s σ H Q I hw => wpAny_Compare1 (h pins s σ H Q I hw) h1
theorem pt_cmp {op : CmpOp} {t : TE} (h : PC X op a b t) (h1 : behindInMarks op b = false := by first | exact nobehind _ (by decide) (by decide) | rfl) : PT X (.Compare a [op] [b] pos) (tB t) := by
  intro pins s σ H Q I hw
  refine wpAny_isTrue_Compare1 (thn (h pins s σ H _ I hw) fun v s1 h1 => thn h1 fun u s2 h2 => thn h2 fun c s3 ⟨x, H1, I1, r1, q1⟩ => ?_) h1
  obtain ⟨d, rfl, q⟩ := q1
  cases r1
  exact wpAny_truthy_bool ⟨H1, I1, q⟩
/-- an expression whose value is a bool, as a test -/
theorem pt_val {e : Expr} {t : TE} (h : PE X e t) (he : ∀ whole, isTrue e X.env whole = (do let v ← whole; standAt e.pos; holding [v] (truthy v)) := by intro _; rfl) : PT X e (tB t) := by
  intro pins s σ H Q I hw
  refine isTrue_plain (thn (h pins s σ H _ I hw) fun v s1 ⟨x, H1, I1, r1, q1⟩ => ?_) (he _)
  obtain ⟨d, rfl, q⟩ := q1
  cases r1
  exact wpAny_truthy_bool ⟨H1, I1, q⟩

/-! ### and, or, not -/
variable {tA tB' : TT} {rest : List Expr}
def tAnd (t u : TT) : TT := fun σ H Q => t σ H fun c H1 => if c = true then u σ H1 Q else Q false H1
def tOr (t u : TT) : TT := fun σ H Q => t σ H fun c H1 => if c = true then Q true H1 else u σ H1 Q
def tNot (t : TT) : TT := fun σ H Q => t σ H fun c H1 => Q (!c) H1
theorem pw_and1 (ha : PT X a tA) : PW X (.BoolOp .And [a] pos) tA := by
  intro wh pins s σ H Q I h
  refine isTrue_and (thn (ha pins s σ H Q I h) fun c s1 e => ?_)
  cases c with
  | true => exact isTrue_and_nil e
  | false => exact e
theorem pw_or1 (ha : PT X a tA) : PW X (.BoolOp .Or [a] pos) tA := by
  intro wh pins s σ H Q I h
  refine isTrue_or (thn (ha pins s σ H Q I h) fun c s1 e => ?_)
  cases c with
  | false => exact isTrue_or_nil e
  | true => exact e
theorem pw_and (ha : PT X a tA) (hb : PW X (.BoolOp .And (b :: rest) pos) tB') : PW X (.BoolOp .And (a :: b :: rest) pos) (tAnd tA tB') := by
  intro wh pins s σ H Q I h
  refine isTrue_and (thn (ha pins s σ H _ I h) fun c s1 ⟨H1, I1, q1⟩ => ?_)
  cases c with
  | true => exact hb wh pins s1 σ H1 Q I1 q1
  | false => exact ⟨H1, I1, q1⟩
theorem pw_or (ha : PT X a tA) (hb : PW X (.BoolOp .Or (b :: rest) pos) tB') : PW X (.BoolOp .Or (a :: b :: rest) pos) (tOr tA tB') := by
  intro wh pins s σ H Q I h
  refine isTrue_or (thn (ha pins s σ H _ I h) fun c s1 ⟨H1, I1, q1⟩ => ?_)
  cases c with
  | true => exact ⟨H1, I1, q1⟩
  | false => exact hb wh pins s1 σ H1 Q I1 q1
theorem pt_not (ha : PT X a tA) : PT X (.UnaryOp .Not a pos) (tNot tA) := by
  intro pins s σ H Q I h
  exact isTrue_not (ha pins s σ H (fun c H1 => Q (!c) H1) I h)
/-- .. as values (bools) -/
def tAndV (ta tb : TE) : TE := fun σ H Q => ta σ H fun x H1 => ∃ c, x = .bl c ∧ if c = true then tb σ H1 Q else Q (.bl false) H1
def tOrV (ta tb : TE) : TE := fun σ H Q => ta σ H fun x H1 => ∃ c, x = .bl c ∧ if c = true then Q (.bl true) H1 else tb σ H1 Q
def tNotV (ta : TE) : TE := fun σ H Q => ta σ H fun x H1 => ∃ c, x = .bl c ∧ Q (.bl (!c)) H1
theorem pe_one {op} {t : TE} (h : PE X a t) : PE X (.BoolOp op [a] pos) t := fun pins s σ H Q I hw => BoolOp_one (h pins s σ H Q I hw)
theorem pe_and (ha : PE X a ta) (hb : PE X (.BoolOp .And (b :: rest) pos) tb) : PE X (.BoolOp .And (a :: b :: rest) pos) (tAndV ta tb) := by
  intro pins s σ H Q I h
  refine BoolOp_and (thn (ha pins s σ H _ I h) fun v s1 ⟨x, H1, I1, r1, q1⟩ => ?_)
  obtain ⟨c, rfl, q1⟩ := q1
  cases r1
  refine wpAny_truthy_bool ?_
  cases c with
  | true => exact hb pins s1 σ H1 Q I1 q1
  | false => exact ⟨.bl false, H1, I1, rfl, q1⟩
theorem pe_or (ha : PE X a ta) (hb : PE X (.BoolOp .Or (b :: rest) pos) tb) : PE X (.BoolOp .Or (a :: b :: rest) pos) (tOrV ta tb) := by
  intro pins s σ H Q I h
  refine BoolOp_or (thn (ha pins s σ H _ I h) fun v s1 ⟨x, H1, I1, r1, q1⟩ => ?_)
  obtain ⟨c, rfl, q1⟩ := q1
  cases r1
  refine wpAny_truthy_bool ?_
  cases c with
  | false => exact hb pins s1 σ H1 Q I1 q1
  | true => exact ⟨.bl true, H1, I1, rfl, q1⟩
theorem pe_not (ha : PE X a ta) : PE X (.UnaryOp .Not a pos) (tNotV ta) := by
  intro pins s σ H Q I h
  refine UnaryOp_ (thn (ha pins s σ H _ I h) fun v s1 ⟨x, H1, I1, r1, q1⟩ => ?_)
  obtain ⟨c, rfl, q1⟩ := q1
  cases r1
  exact not_of (wpAny_truthy_bool ⟨.bl (!c), H1, I1, rfl, q1⟩)
/-- a if t else b -/
def tIf (t : TT) (ta tb : TE) : TE := fun σ H Q => t σ H fun c H1 => if c = true then ta σ H1 Q else tb σ H1 Q
theorem pe_ifExp {c : Expr} (hc : PT X c tA) (ha : PE X a ta) (hb : PE X b tb) : PE X (.IfExp c a b pos) (tIf tA ta tb) := by
  intro pins s σ H Q I h
  refine wpAny_IfExp (thn (hc pins s σ H _ I h) fun d s1 ⟨H1, I1, q1⟩ => ?_)
  cases d with
  | true => exact ha pins s1 σ H1 Q I1 q1
  | false => exact hb pins s1 σ H1 Q I1 q1
end
end L2

namespace L2
open PySem PySem.Spec PyProof.Rows

/-! ### a list, a tuple that is read: tracked, frozen, or an object of the module -/
def SqL (K : PySem.W.Frag) (H : Hp) (a : Addr) (xs : List V) : Prop :=
  Rd H a (.lst xs) ∨
    ∃ (o : Obj) (its : Array Value) (n : Nat), K.lookup a = some o ∧ o.cls = .type "list" ∧ o.dict = none ∧ o.data = .seq its n ∧ its.size ≤ sizeLine ∧ Vals xs its.toList
def SqT (K : PySem.W.Frag) (H : Hp) (a : Addr) (xs : List V) : Prop :=
  Rd H a (.tup xs) ∨
    ∃ (o : Obj) (its : Array Value) (n : Nat), K.lookup a = some o ∧ o.cls = .type "tuple" ∧ o.data = .seq its n ∧ its.size ≤ sizeLine ∧ Vals xs its.toList
def absV : Value → Option V
  | .none => some .non
  | .bool b => some (.bl b)
  | .int i _ => some (.int i)
  | .str x _ => some (.str x)
  | .bytes b _ => some (.byt b)
  | .float b _ => some (.flt b)
  | .ref a => some (.ref a)
  | .type n => some (.ty n)
  | _ => none
theorem RelV.abs {x : V} {u : Value} (r : RelV x u) : absV u = some x := by
  cases x with
  | non => cases r; rfl
  | bl _ => cases r; rfl
  | int _ => obtain ⟨t, rfl⟩ := r; rfl
  | str _ => obtain ⟨t, rfl⟩ := r; rfl
  | byt _ => obtain ⟨t, rfl⟩ := r; rfl
  | flt _ => obtain ⟨t, rfl⟩ := r; rfl
  | ref _ => cases r; rfl
  | ty _ => cases r; rfl
theorem RelV.inj {x y : V} {u : Value} (r : RelV x u) (q : RelV y u) : x = y := Option.some.inj (r.abs.symm.trans q.abs)
theorem Vals.inj : ∀ {xs ys : List V} {us : List Value}, Vals xs us → Vals ys us → xs = ys
  | _, _, _, .nil, .nil => rfl
  | _, _, _, .cons r t, .cons r' t' => by rw [r.inj r', Vals.inj t t']
section
variable {X : Cx} {pins : List (Addr × Obj)} {σ : St} {H : Hp} {s : Shared} {a : Addr} {xs ys : List V}
theorem SqL.of {K : PySem.W.Frag} (h : H a = some (.lst xs)) : SqL K H a xs := .inl (.inl h)
theorem SqT.of {K : PySem.W.Frag} (h : H a = some (.tup xs)) : SqT K H a xs := .inl (.inl h)
theorem Inv.list (I : Inv X pins σ H s) (h : SqL X.K H a xs) : ∃ its : List Value, Vals xs its ∧ PlainL s.heap a its.toArray ∧ xs.length ≤ sizeLine := by
  rcases h with h | ⟨o, its, n, hk, hc, hd, hs, hz, r⟩
  · obtain ⟨z, its, n, r, e⟩ := h.ok I.hok
    exact ⟨its, r, ⟨_, n, e, rfl, rfl, rfl⟩, z⟩
  · refine ⟨its.toList, r, ⟨o, n, I.kIn a o hk, hc, hd, by simpa using hs⟩, ?_⟩
    have e := r.length
    simp only [Array.length_toList] at e
    omega
theorem Inv.tuple (I : Inv X pins σ H s) (h : SqT X.K H a xs) : ∃ its : List Value, Vals xs its ∧ IsTup s.heap a its.toArray ∧ xs.length ≤ sizeLine := by
  rcases h with h | ⟨o, its, n, hk, hc, hs, hz, r⟩
  · obtain ⟨z, its, r, p⟩ := h.ok I.hok
    exact ⟨its, r, p, z⟩
  · refine ⟨its.toList, r, ⟨o, I.kIn a o hk, hc, n, by simpa using hs⟩, ?_⟩
    have e := r.length
    simp only [Array.length_toList] at e
    omega
theorem Inv.list_inj (I : Inv X pins σ H s) (h : SqL X.K H a xs) (h' : SqL X.K H a ys) : xs = ys := by
  obtain ⟨its, r, ⟨o, n, e, _, _, d⟩, _⟩ := I.list h
  obtain ⟨its', r', ⟨o', n', e', _, _, d'⟩, _⟩ := I.list h'
  rw [e] at e'; cases e'
  rw [d] at d'
  injection d' with d1 _
  have : its = its' := by simpa using congrArg Array.toList d1
  subst this
  exact r.inj r'
theorem Inv.tuple_inj (I : Inv X pins σ H s) (h : SqT X.K H a xs) (h' : SqT X.K H a ys) : xs = ys := by
  obtain ⟨its, r, ⟨o, e, _, n, d⟩, _⟩ := I.tuple h
  obtain ⟨its', r', ⟨o', e', _, n', d'⟩, _⟩ := I.tuple h'
  rw [e] at e'; cases e'
  rw [d] at d'
  injection d' with d1 _
  have : its = its' := by simpa using congrArg Array.toList d1
  subst this
  exact r.inj r'
end

/-! ### another wish about exceptions -/
abbrev Cx.wish (X : Cx) (E : Value → Shared → Prop) : Cx := { X with xe := E }
/-- no exception leaves -/
abbrev Cx.nox (X : Cx) : Cx := X.wish fun _ _ => False
theorem Cx.Ok.wish {X : Cx} (ok : X.Ok) (E : Value → Shared → Prop) : (X.wish E).Ok :=
  ⟨ok.mod, ok.kind, ok.glob, ok.blt, ok.above, ok.inj, ok.has, ok.cab, ok.hd, ok.frames, ok.stk, ok.exf, ok.bs, ok.bsz, ok.noex, ok.exfs, ok.funs, ok.frf⟩
theorem Cx.Ok.unwish {X : Cx} {E : Value → Shared → Prop} (ok : (X.wish E).Ok) : X.Ok :=
  ⟨ok.mod, ok.kind, ok.glob, ok.blt, ok.above, ok.inj, ok.has, ok.cab, ok.hd, ok.frames, ok.stk, ok.exf, ok.bs, ok.bsz, ok.noex, ok.exfs, ok.funs, ok.frf⟩
section
variable {X : Cx} {pins : List (Addr × Obj)} {σ : St} {H : Hp} {s : Shared} {E : Value → Shared → Prop}
theorem Inv.wish (I : Inv X pins σ H s) (E : Value → Shared → Prop) : Inv (X.wish E) pins σ H s := ⟨I.ok.wish E, I.os, I.bare, I.base, I.loc, I.cell, I.free, I.freeC, I.pin, I.hok, I.len⟩
theorem Inv.unwish (I : Inv (X.wish E) pins σ H s) : Inv X pins σ H s := ⟨I.ok.unwish, I.os, I.bare, I.base, I.loc, I.cell, I.free, I.freeC, I.pin, I.hok, I.len⟩
theorem SP.unwish {D : Ends} {f : Flow} {s' : Shared} (h : SP (X.wish E) pins D f s') : SP X pins D f s' := by
  cases f with
  | next => obtain ⟨σ', H', I, q⟩ := h; exact ⟨σ', H', I.unwish, q⟩
  | brk => obtain ⟨σ', H', I, q⟩ := h; exact ⟨σ', H', I.unwish, q⟩
  | cont => obtain ⟨σ', H', I, q⟩ := h; exact ⟨σ', H', I.unwish, q⟩
  | ret u => obtain ⟨v, σ', H', I, r, q⟩ := h; exact ⟨v, σ', H', I.unwish, r, q⟩
theorem PE.nox {e : Expr} {t : TE} (h : PE X.nox e t) : PE X e t := fun pins s σ H Q I hw =>
  wpAny_mono (h pins s σ H Q (I.wish _) hw) (fun _ _ ⟨v, H', I', r, q⟩ => ⟨v, H', I'.unwish, r, q⟩) fun _ _ z => False.elim z
theorem PT.nox {e : Expr} {t : TT} (h : PT X.nox e t) : PT X e t := fun pins s σ H Q I hw =>
  wpAny_mono (h pins s σ H Q (I.wish _) hw) (fun _ _ ⟨H', I', q⟩ => ⟨H', I'.unwish, q⟩) fun _ _ z => False.elim z
theorem PSs.nox {st : List Stmt} {t : TS} (h : PSs X.nox st t) : PSs X st t := fun pins s σ H D I hw =>
  wpAny_mono (h pins s σ H D (I.wish _) hw) (fun _ _ q => q.unwish) fun _ _ z => False.elim z
end

/-! ### blocks and small statements -/
section
variable {X : Cx} {st : Stmt} {rest : List Stmt} {t u : TS} {e : Expr} {te : TE} {pos : Pos}
def tNext : TS := fun D σ H => D.nx σ H
def tSeq (t u : TS) : TS := fun D σ H => t { D with nx := u D } σ H
theorem pss_nil : PSs X [] tNext := fun _ _ σ H _ I h => wpAny_execs_nil ⟨σ, H, I, h⟩
theorem pss_cons (h1 : PS X st t) (h2 : PSs X rest u) : PSs X (st :: rest) (tSeq t u) := by
  intro pins s σ H D I h
  refine wpAny_execs_cons (thn (h1 pins s σ H { D with nx := u D } I h) fun f s1 q => ?_)
  cases f with
  | next =>
    obtain ⟨σ', H', I', q⟩ := q
    exact h2 pins s1 σ' H' D I' q
  | ret v => exact q
  | brk => exact q
  | cont => exact q
theorem pss_one (h1 : PS X st t) : PSs X [st] t := by
  intro pins s σ H D I h
  refine wpAny_execs_cons (thn (h1 pins s σ H D I h) fun f s1 q => ?_)
  cases f with
  | next => exact wpAny_execs_nil q
  | ret v => exact q
  | brk => exact q
  | cont => exact q
def tBreak : TS := fun D σ H => D.bk σ H
def tCont : TS := fun D σ H => D.ct σ H
theorem ps_pass : PS X (.Pass pos) tNext := fun _ _ σ H _ I h => wpAny_Pass ⟨σ, H, I, h⟩
theorem ps_break : PS X (.Break pos) tBreak := fun _ _ σ H _ I h => wpAny_Break ⟨σ, H, I, h⟩
theorem ps_continue : PS X (.Continue pos) tCont := fun _ _ σ H _ I h => wpAny_Continue ⟨σ, H, I, h⟩
/-- in a def's body nothing is shown -/
theorem Inv.quiet {pins : List (Addr × Obj)} {σ : St} {H : Hp} {s : Shared} (I : Inv X pins σ H s) : interactive X.env = false := by simp [interactive, I.ok.kind]
/-- a docstring -/
theorem ps_doc {x j pos pos'} : PS X (.Expr (.Constant (.str x) j pos) pos') tNext := fun _ s σ H _ I h => wpAny_Expr (Calls.Constant_str (show SP X _ _ .next { s with toks := s.toks + 1 } from ⟨σ, H, I.tok _, h⟩)) I.quiet
/-- an expression whose value is dropped -/
def tDrop (te : TE) : TS := fun D σ H => te σ H fun _ H1 => D.nx σ H1
theorem ps_expr (he : PE X e te) (hs : swapsWith e none pos.line X.env = pure false := by rfl) : PS X (.Expr e pos) (tDrop te) := by
  intro pins s σ H D I h
  exact wpAny_Expr_any (thn (he pins s σ H _ I h) fun v s1 ⟨x, H1, I1, r1, q1⟩ => ⟨σ, H1, I1, q1⟩) I.quiet hs
def tRet (te : TE) : TS := fun D σ H => te σ H D.rt
theorem ps_ret (he : PE X e te) : PS X (.Return (some e) pos) (tRet te) := by
  intro pins s σ H D I h
  exact wpAny_Return_some (thn (he pins s σ H _ I h) fun v s1 ⟨x, H1, I1, r1, q1⟩ => ⟨x, σ, H1, I1, r1, q1⟩)
def tRetN : TS := fun D _ H => D.rt .non H
theorem ps_retN : PS X (.Return none pos) tRetN := fun _ _ σ H _ I h => wpAny_Return_none ⟨.non, σ, H, I, rfl, h⟩
def tIfS (c : TT) (t u : TS) : TS := fun D σ H => c σ H fun b H1 => if b = true then t D σ H1 else u D σ H1
theorem ps_if {c : Expr} {a b : List Stmt} {tc : TT} (hc : PT X c tc) (ha : PSs X a t) (hb : PSs X b u) : PS X (.If c a b pos) (tIfS tc t u) := by
  intro pins s σ H D I h
  refine wpAny_If (thn (hc pins s σ H _ I h) fun d s1 ⟨H1, I1, q1⟩ => ?_)
  cases d with
  | true => exact ha pins s1 σ H1 D I1 q1
  | false => exact hb pins s1 σ H1 D I1 q1
/-- code that the proof never comes to -/
def tNever : TS := fun _ _ _ => False
theorem ps_never : PS X st tNever := fun _ _ _ _ _ _ h => h.elim
theorem pss_never {sts : List Stmt} : PSs X sts tNever := fun _ _ _ _ _ _ h => h.elim
end

/-! ### targets -/
abbrev TG := V → St → Hp → (St → Hp → Prop) → Prop
abbrev TGs := List V → St → Hp → (St → Hp → Prop) → Prop
def PG (X : Cx) (target : Expr) (t : TG) : Prop :=
  ∀ (pins : List (Addr × Obj)) (s : Shared) (σ : St) (H : Hp) (v : V) (u : Value) (Q : St → Hp → Prop), Inv X pins σ H s → RelV v u → t v σ H Q →
    wpAny (model X.prog X.w) X.A (assign target X.env u) (fun _ s' => ∃ σ' H', Inv X pins σ' H' s' ∧ Q σ' H') X.xe s
/-- several targets, one after another -/
def PGs (X : Cx) (ts : List Expr) (t : TGs) : Prop :=
  ∀ (pins : List (Addr × Obj)) (s : Shared) (σ : St) (H : Hp) (vs : List V) (us : List Value) (Q : St → Hp → Prop), Inv X pins σ H s → Vals vs us → t vs σ H Q →
    wpAny (model X.prog X.w) X.A (assignInOrder ((assignEach ts X.env).map (·.2)) us) (fun _ s' => ∃ σ' H', Inv X pins σ' H' s' ∧ Q σ' H') X.xe s
/-- o[i] = v, by values -/
abbrev TSet := V → V → V → Hp → (Hp → Prop) → Prop
def PSet (X : Cx) (t : TSet) : Prop :=
  ∀ (pins : List (Addr × Obj)) (s : Shared) (σ : St) (H : Hp) (o i v : V) (ov iv u : Value) (Q : Hp → Prop), Inv X pins σ H s → RelV o ov → RelV i iv → RelV v u → t o i v H Q →
    wpAny (model X.prog X.w) X.A (setItem ov iv u) (fun _ s' => ∃ H', Inv X pins σ H' s' ∧ Q H') X.xe s
/-- a op= b, by values -/
abbrev TIp := V → V → Hp → VK → Prop
def PIp (X : Cx) (op : Operator) (t : TIp) : Prop :=
  ∀ (pins : List (Addr × Obj)) (s : Shared) (σ : St) (H : Hp) (x y : V) (v u : Value) (Q : VK), Inv X pins σ H s → RelV x v → RelV y u → t x y H Q →
    wpAny (model X.prog X.w) X.A (inplaceOp op v u) (EP X pins σ Q) X.xe s
section
variable {X : Cx} {pos : Pos}
def gName (i : Nat) : TG := fun v σ H Q => Q (σ.set i (some v)) H
theorem pg_name {i : Nat} {x : Str} (hN : X.N.Nodup) (hi : X.N[i]? = some x) (hx : Loc X.env.scope x) (hf : X.fn x = true ∨ X.env.scope.names.lookup x = some .local := by first | exact .inl rfl | exact .inr rfl | assumption) : PG X (.Name x pos) (gName i) := by
  intro pins s σ H v u Q I r h
  exact wpAny_assign_Name (store_ok I hN hi hx r (fun s' I' => ⟨_, H, I', h⟩) hf)
def gNil : TGs := fun vs σ H Q => vs = [] ∧ Q σ H
def gCons (t : TG) (u : TGs) : TGs := fun vs σ H Q => ∃ v r, vs = v :: r ∧ t v σ H fun σ' H' => u r σ' H' Q
theorem pgs_nil : PGs X [] gNil := by
  intro pins s σ H vs us Q I r h
  obtain ⟨e, h⟩ := h
  subst e
  cases r
  exact assignInOrder_nil ⟨σ, H, I, h⟩
theorem pgs_cons {e : Expr} {es : List Expr} {t : TG} {u : TGs} (h1 : PG X e t) (h2 : PGs X es u)
    (hs : (assignEach (e :: es) X.env).map (·.2) = assign e X.env :: (assignEach es X.env).map (·.2) := by rfl) : PGs X (e :: es) (gCons t u) := by
  intro pins s σ H vs us Q I r h
  obtain ⟨v, vr, e1, h⟩ := h
  subst e1
  cases r with
  | cons r rr =>
    rw [hs]
    refine assignInOrder_cons (thn (h1 pins s σ H _ _ _ I r h) fun _ s1 ⟨σ1, H1, I1, q1⟩ => ?_)
    exact h2 pins s1 σ1 H1 _ _ Q I1 rr q1
/-- (a, b, ..) = a tuple of that length -/
def gTup (K : PySem.W.Frag) (n : Nat) (t : TGs) : TG := fun v σ H Q => ∃ a xs, v = .ref a ∧ SqT K H a xs ∧ xs.length = n ∧ t xs σ H Q
theorem pg_tup {es : List Expr} {k : Nat} {t : TGs} {n : Nat} (hc : X.calm = true) (h : PGs X es t)
    (hn : (assignEach es X.env).length = n := by rfl) (hst : (assignEach es X.env).findIdx? (·.1) = none := by rfl) : PG X (.Tuple es k pos) (gTup X.K n t) := by
  intro pins s σ H v u Q I r hw
  obtain ⟨a, xs, e1, hq, hl, hw⟩ := hw
  subst e1
  cases r
  obtain ⟨its, rv, ht, hz⟩ := I.tuple hq
  refine assign_Tuple_tuple (I.ok.hd hc) ht (by simp [hn, ← hl, rv.length]) hst fun h' hx => ?_
  have I1 : Inv X pins σ H { s with heap := h' } := I.kept (t' := s.toks) fun b o e => hx b o (Nat.ne_of_lt (Heap.lt_size e)) e
  exact h pins _ σ H xs _ Q I1 (by simpa using rv) hw
/-- o[i] = .. -/
def gSub (to ti : TE) (t : TSet) : TG := fun v σ H Q => to σ H fun o H1 => ti σ H1 fun i H2 => t o i v H2 fun H3 => Q σ H3
theorem pg_sub {o i : Expr} {to ti : TE} {t : TSet} (ho : PE X o to) (hi : PE X i ti) (hs : PSet X t)
    (ha : ∀ v, assign (.Subscript o i pos) X.env v = (do
      let ov ← holding [v] (eval o X.env)
      let iv ← holding [v, ov] (eval i X.env)
      standAt pos
      holding [v, ov, iv] (setItem ov iv v)
      release [v, ov, iv] []) := by intro _; rfl) : PG X (.Subscript o i pos) (gSub to ti t) := by
  intro pins s σ H v u Q I r h
  rw [ha]
  refine wpAny_bind (wpAny_holding (thn (ho pins s σ H _ I h) fun ov s1 ⟨x, H1, I1, r1, q1⟩ => ?_))
  refine wpAny_bind (wpAny_holding (thn (hi pins s1 σ H1 _ I1 q1) fun iv s2 ⟨y, H2, I2, r2, q2⟩ => ?_))
  refine wpAny_bind (wpAny_standAt (wpAny_bind (wpAny_holding (thn (hs pins s2 σ H2 x y v ov iv u _ I2 r1 r2 r q2) fun _ s3 ⟨H3, I3, q3⟩ => ?_))))
  exact wpAny_release ⟨σ, H3, I3, q3⟩
/-- target = value -/
def tAsg (te : TE) (g : TG) : TS := fun D σ H => te σ H fun x H1 => g x σ H1 D.nx
theorem ps_asg {tg e : Expr} {te : TE} {g : TG} (he : PE X e te) (hg : PG X tg g) (hs : swapsWithSole [tg] e pos.line X.env = pure false := by rfl) (hw : swappedStores [tg] e X.env = pure none := by rfl)
    (h1 : (assignEach [tg] X.env).map (·.2) = [assign tg X.env] := by rfl) : PS X (.Assign [tg] e pos) (tAsg te g) := by
  intro pins s σ H D I h
  refine wpAny_Assign_stores (thn (he pins s σ H _ I h) fun v s1 ⟨x, H1, I1, r1, q1⟩ => ?_) hs hw
  rw [h1]
  exact thn (hg pins s1 σ H1 x v _ I1 r1 q1) fun _ s2 q => q
/-- name = value -/
theorem ps_set {i : Nat} {x : Str} {e : Expr} {te : TE} {pos' : Pos} (hN : X.N.Nodup) (hi : X.N[i]? = some x) (hx : Loc X.env.scope x) (he : PE X e te) (hs : swapsWith e (some (.Name x pos')) pos.line X.env = pure false := by rfl) (hf : X.fn x = true ∨ X.env.scope.names.lookup x = some .local := by first | exact .inl rfl | exact .inr rfl | assumption) :
    PS X (.Assign [.Name x pos'] e pos) (tAsg te (gName i)) := by
  intro pins s σ H D I h
  refine wpAny_Assign_Name (thn (he pins s σ H _ I h) fun v s1 ⟨y, H1, I1, r1, q1⟩ => ?_) hs
  exact store_ok I1 hN hi hx r1 (fun s2 I2 => ⟨_, H1, I2, q1⟩) hf
/-- a, b = x, y with plain local names: stored from the right; the pair itself is not tracked (the opening rows as in PyProof/Rows/TupAssign.lean:23) -/
def tPar (i j : Nat) (ta : TA) : TS := fun D σ H => ta σ H fun vs H1 => ∃ v w, vs = [v, w] ∧ D.nx ((σ.set i (some v)).set j (some w)) H1
theorem ps_par {i j : Nat} {x y : Str} {a b : Expr} {ta : TA} {px py pt : Pos} {kt k2 pt2} (hc : X.calm = true) (hN : X.N.Nodup) (hi : X.N[i]? = some x) (hj : X.N[j]? = some y) (hij : i ≠ j)
    (hx : X.env.scope.names.lookup x = some .local) (hy : X.env.scope.names.lookup y = some .local) (ha : PA X [a, b] ta)
    (hw : swappedStores [.Tuple [.Name x px, .Name y py] kt pt] (.Tuple [a, b] k2 pt2) X.env = pure (some [x, y]))
    (hs : swapsWithSole [.Tuple [.Name x px, .Name y py] kt pt] (.Tuple [a, b] k2 pt2) pos.line X.env = pure false := by rfl) :
    PS X (.Assign [.Tuple [.Name x px, .Name y py] kt pt] (.Tuple [a, b] k2 pt2) pos) (tPar i j ta) := by
  intro pins s σ H D I h
  rw [exec_Assign_arm]
  refine wpAny_bind (wpAny_standAt ?_)
  rw [hs]
  refine wpAny_bind (wpAny_pure ?_)
  rw [if_neg (by decide)]
  refine wpAny_bind (Tuple_ (thn (ha _ pins s σ H _ I h) fun us s1 ⟨vs, H1, I1, r1, q1⟩ => ?_))
  obtain ⟨v, w, e1, q1⟩ := q1
  subst e1
  obtain ⟨u1, u2, rfl, rv, rw'⟩ : ∃ u1 u2, us = [u1, u2] ∧ RelV v u1 ∧ RelV w u2 := by
    cases r1 with
    | cons p q =>
      cases q with
      | cons p' q' =>
        cases q'
        exact ⟨_, _, rfl, p, p'⟩
  refine wpAny_newObj_type ?_ (by show 2 ≤ sizeLine; decide)
  have I2 : Inv X pins σ H1 { s1 with heap := s1.heap.push { cls := .type "tuple", data := .seq [u1, u2].toArray } } := I1.kept (t' := s1.toks) fun b o e => Heap.get?_push_of_some _ e
  rw [hw]
  refine wpAny_bind (wpAny_pure ?_)
  show wpAny (model X.prog X.w) X.A (do rule "assign.swapped-stores"; let items ← unpackItems (.ref s1.heap.objs.size) 2 none; assignInOrder [fun v => bindName X.env y v, fun v => bindName X.env x v] items.reverse; pure Flow.next) _ _ _
  refine wpAny_bind (wpAny_rule (wpAny_bind (unpackItems_tuple (items := #[u1, u2]) (I.ok.hd hc) (IsTup.new s1.heap _) fun h' hx' => ?_)))
  have I3 := I2.kept (h' := h') (t' := s1.toks) fun b o e => hx' b o (Nat.ne_of_lt (Heap.lt_size e)) e
  show wpAny _ _ (assignInOrder [fun v => bindName X.env y v, fun v => bindName X.env x v] [u2, u1] >>= fun _ => pure Flow.next) _ _ _
  refine wpAny_bind (assignInOrder_cons (wpAny_bindName (store_ok I3 hN hj (.inl hy) rw' (fun s2 I4 => ?_) (.inr hy))))
  refine assignInOrder_cons (wpAny_bindName (store_ok I4 hN hi (.inl hx) rv (fun s3 I5 => assignInOrder_nil (wpAny_pure ?_)) (.inr hx)))
  rw [List.set_comm _ _ (Ne.symm hij)] at I5
  exact ⟨_, H1, I5, q1⟩
/-- name op= e -/
def tAug (i : Nat) (te : TE) (ti : TIp) : TS := fun D σ H => ∃ x, σ[i]? = some (some x) ∧ te σ H fun y H1 => ti x y H1 fun z H2 => D.nx (σ.set i (some z)) H2
theorem ps_aug {i : Nat} {x : Str} {e : Expr} {te : TE} {op : Operator} {ti : TIp} {pos' : Pos} (hN : X.N.Nodup) (hi : X.N[i]? = some x) (hx : Loc X.env.scope x) (he : PE X e te) (ho : PIp X op ti) (hf : X.fn x = true ∨ X.env.scope.names.lookup x = some .local := by first | exact .inl rfl | exact .inr rfl | assumption) :
    PS X (.AugAssign (.Name x pos') op e pos) (tAug i te ti) := by
  intro pins s σ H D I h
  obtain ⟨v, e1, h⟩ := h
  obtain ⟨m, hn, hl⟩ := I.loc
  have vis : Vis X.env.scope x := by rcases hx with k | k; exact .inl k; exact .inr (.inl k)
  obtain ⟨u, r, l⟩ := hl i x v hi e1 vis
  refine wpAny_AugAssign_Name ?_
  have go : wpAny (model X.prog X.w) X.A (eval e X.env) (fun w s₂ => wpAny (model X.prog X.w) X.A (inplaceOp op u w) (fun r s₃ => wpAny (model X.prog X.w) X.A (storeName X.env x r) (fun _ => SP X pins D .next) X.xe s₃) X.xe s₂) X.xe s := by
    refine thn (he pins s σ H _ I h) fun w s1 ⟨y, H1, I1, r1, q1⟩ => ?_
    refine thn (ho pins s1 σ H1 v y u w _ I1 r r1 q1) fun z s2 ⟨zv, H2, I2, r2, q2⟩ => ?_
    exact store_ok I2 hN hi hx r2 (fun s3 I3 => ⟨_, H2, I3, q2⟩) hf
  rcases l with ⟨hk, hm⟩ | ⟨hk, c, hc, hcell⟩
  · exact wpAny_loadName_local I.ok.kind hk hn hm go
  · rcases hk with hk | hk
    · exact wpAny_loadName_cell I.ok.kind hk hc hcell go
    · rcases hx with k | k
      · have : X.env.scope.names.lookup x = some .free := hk
        rw [k] at this; cases this
      · have : X.env.scope.names.lookup x = some .free := hk
        rw [k] at this; cases this
/-- o[i] op= e -/
def tAugS (to ti te : TE) (tget : V → V → Hp → VK → Prop) (tip : TIp) (tset : TSet) : TS := fun D σ H => to σ H fun o H1 => ti σ H1 fun i H2 => tget o i H2 fun x H3 => te σ H3 fun y H4 => tip x y H4 fun z H5 => tset o i z H5 fun H6 => D.nx σ H6
/-- o[i], by values -/
def PGet (X : Cx) (t : V → V → Hp → VK → Prop) : Prop :=
  ∀ (pins : List (Addr × Obj)) (s : Shared) (σ : St) (H : Hp) (o i : V) (ov iv : Value) (Q : VK), Inv X pins σ H s → RelV o ov → RelV i iv → t o i H Q →
    wpAny (model X.prog X.w) X.A (getItem ov iv) (EP X pins σ Q) X.xe s
theorem ps_augS {o i e : Expr} {to ti te : TE} {tget : V → V → Hp → VK → Prop} {tip : TIp} {tset : TSet} {op : Operator} {tpos : Pos} (ho : PE X o to) (hi : PE X i ti) (hg : PGet X tget) (he : PE X e te) (hp : PIp X op tip) (hs : PSet X tset)
    (ha : ∀ ov iv new, augStore i ov iv new = (do holding [new, ov, iv] (setItem ov iv new); release [new, ov, iv] []; pure .next) := by intros; rfl) : PS X (.AugAssign (.Subscript o i tpos) op e pos) (tAugS to ti te tget tip tset) := by
  intro pins s σ H D I h
  refine wpAny_AugAssign_SubscriptAny (thn (ho pins s σ H _ I h) fun ov s1 ⟨x1, H1, I1, r1, q1⟩ => ?_) ha
  refine thn (hi pins s1 σ H1 _ I1 q1) fun iv s2 ⟨x2, H2, I2, r2, q2⟩ => ?_
  refine thn (hg pins s2 σ H2 x1 x2 ov iv _ I2 r1 r2 q2) fun old s3 ⟨x3, H3, I3, r3, q3⟩ => ?_
  refine thn (he pins s3 σ H3 _ I3 q3) fun v s4 ⟨x4, H4, I4, r4, q4⟩ => ?_
  refine thn (hp pins s4 σ H4 x3 x4 old v _ I4 r3 r4 q4) fun new s5 ⟨x5, H5, I5, r5, q5⟩ => ?_
  exact thn (hs pins s5 σ H5 x1 x2 x5 ov iv new _ I5 r1 r2 r5 q5) fun _ s6 ⟨H6, I6, q6⟩ => ⟨σ, H6, I6, q6⟩
/-- ints -/
def ipI (f : Int → Int → Int) : TIp := fun x y H Q => ∃ i j, x = .int i ∧ y = .int j ∧ Q (.int (f i j)) H
theorem ip_add : PIp X .Add (ipI fun i j => i + j) := by
  intro pins s σ H x y v u Q I r1 r2 h
  obtain ⟨i, j, e1, e2, q⟩ := h
  subst e1; subst e2
  obtain ⟨t, rfl⟩ := r1
  obtain ⟨t', rfl⟩ := r2
  exact iadd_int ⟨.int _, H, I.tok _, ⟨_, rfl⟩, q⟩
theorem ip_sub : PIp X .Sub (ipI fun i j => i - j) := by
  intro pins s σ H x y v u Q I r1 r2 h
  obtain ⟨i, j, e1, e2, q⟩ := h
  subst e1; subst e2
  obtain ⟨t, rfl⟩ := r1
  obtain ⟨t', rfl⟩ := r2
  exact isub_int ⟨.int _, H, I.tok _, ⟨_, rfl⟩, q⟩
end

/-! ### while -/
section
variable {X : Cx} {pos : Pos}
/-- the invariant W with its measure -/
def tWhile (c : TT) (tb : TS) : TS := fun D σ H => ∃ W : Nat → St → Hp → Prop, (∃ m, W m σ H) ∧ ∀ m σ H, W m σ H →
  c σ H fun b H1 => if b = true then ∃ N : St → Hp → Prop, (∀ σ' H', N σ' H' → ∃ m', m' < m ∧ W m' σ' H') ∧ tb { D with nx := N, ct := N, bk := D.nx } σ H1 else D.nx σ H1
theorem ps_while {c : Expr} {body : List Stmt} {tc : TT} {tb : TS} (hp : PassesOwn (model X.prog X.w) X.A X.env X.xe) (hc : PT X c tc) (hb : PSs X body tb) : PS X (.While c body [] pos) (tWhile tc tb) := by
  intro pins s σ H D I h
  obtain ⟨W, ⟨m0, w0⟩, turn⟩ := h
  refine wpAny_While (codeAny_whileLoop (fun n s' => ∃ σ' H', Inv X pins σ' H' s' ∧ W n σ' H') ?_ m0 ⟨σ, H, I, w0⟩)
  rintro n s1 ⟨σ1, H1, I1, w1⟩
  refine wpAny_passesOwn hp (thn (hc pins s1 σ1 H1 _ I1 (turn n σ1 H1 w1)) fun b s2 ⟨H2, I2, q2⟩ => ?_)
  cases b with
  | true =>
    obtain ⟨N, hN, q2⟩ := q2
    rw [if_pos rfl]
    refine wpAny_passesOwn hp (thn (hb pins s2 σ1 H2 _ I2 q2) fun f s3 q3 => ?_)
    cases f with
    | next =>
      obtain ⟨σ3, H3, I3, n3⟩ := q3
      obtain ⟨m', hm, w3⟩ := hN σ3 H3 n3
      exact ⟨m', hm, σ3, H3, I3, w3⟩
    | cont =>
      obtain ⟨σ3, H3, I3, n3⟩ := q3
      obtain ⟨m', hm, w3⟩ := hN σ3 H3 n3
      exact ⟨m', hm, σ3, H3, I3, w3⟩
    | brk => exact q3
    | ret v => exact q3
  | false =>
    rw [if_neg Bool.false_ne_true]
    exact wpAny_execs_nil ⟨σ1, H2, I2, q2⟩
end

/-! ### what a loop or a comprehension walks -/
/-- at turn i: it yields x (the heap may grow), or it stops -/
structure It where
  go : Nat → Hp → Prop
  yld : Nat → Hp → V → Hp → Prop
  stop : Nat → Hp → Prop
/-- the iterator's own objects may turn: they are not the frame's, not pinned, younger than the entry (or a comprehension's own) -/
def FpOk (X : Cx) (pins : List (Addr × Obj)) (H : Hp) (b : Addr) : Prop :=
  H b = none ∧ b ≠ X.env.locals ∧ b ∉ X.fs ∧ (b ∈ X.ex ∨ X.s_0.heap.objs.size ≤ b) ∧ (∀ x c, X.env.cells.lookup x = some c → c ≠ b) ∧ ∀ p ∈ X.pn ++ pins, p.1 ≠ b
theorem Inv.fpOk {X : Cx} {pins : List (Addr × Obj)} {σ : St} {H H' : Hp} {s : Shared} {b : Addr} (I : Inv X pins σ H s) (hb : s.heap.objs.size ≤ b) (hn : H' b = none) : FpOk X pins H' b := by
  refine ⟨hn, Nat.ne_of_gt (Nat.lt_of_lt_of_le I.lt hb), I.nofs hb, .inr (Nat.le_trans I.sz hb), fun x c e z => ?_, fun p hp z => ?_⟩
  · obtain ⟨v, q⟩ := I.cell x c e
    exact absurd (Nat.lt_of_lt_of_le q.lt (by rw [z]; exact hb)) (Nat.lt_irrefl _)
  · exact absurd (Nat.lt_of_lt_of_le (Heap.lt_size (I.pin p hp).1) (by rw [z]; exact hb)) (Nat.lt_irrefl _)
structure Turn (P : Program) (w : World) (K : PySem.W.Frag) (tg : Expr) (J : It) (fp : List Addr) (it : Addr) (tn : Nat → Heap → Prop) : Prop where
  mem : it ∈ fp
  obj : ∀ i h, tn i h → ∀ b ∈ fp, ∃ o, h.get? b = some o ∧ ∀ v, o.data ≠ .cell v
  keep : ∀ i h h', tn i h → (∀ b ∈ fp, ∀ o, h.get? b = some o → h'.get? b = some o) → tn i h'
  item : ∀ (X : Cx), X.prog = P → X.w = w → X.K = K → X.calm = true → ∀ (i : Nat) (pins : List (Addr × Obj)) (s : Shared) (σ : St) (H : Hp) (E : Value → Shared → Prop), Inv X pins σ H s → (∀ b ∈ fp, FpOk X pins H b) → tn i s.heap → J.go i H →
    wpAny (model P w) X.A (pyNext (.ref it)) (fun r s1 => ∃ u, r = some u ∧
      wpAny (model P w) X.A (letOwnedTupleGo tg (.ref it) u) (fun _ s2 => ∃ x H', Inv X pins σ H' s2 ∧ RelV x u ∧ J.yld i H x H' ∧ tn (i + 1) s2.heap ∧ ∀ b ∈ fp, H' b = none) E s1) E s
  done : ∀ (X : Cx), X.prog = P → X.w = w → X.K = K → X.calm = true → ∀ (i : Nat) (pins : List (Addr × Obj)) (s : Shared) (σ : St) (H : Hp) (E : Value → Shared → Prop), Inv X pins σ H s → (∀ b ∈ fp, FpOk X pins H b) → tn i s.heap → J.stop i H →
    wpAny (model P w) X.A (pyNext (.ref it)) (fun r s1 => r = none ∧ Inv X pins σ H s1) E s
  self : ∀ (A : Around) (i : Nat) (s : Shared) (Q : Value → Shared → Prop) (E : Value → Shared → Prop), tn i s.heap → Q (.ref it) s → wpAny (model P w) A (pyIter (.ref it)) Q E s
abbrev TI := St → Hp → (It → Hp → Prop) → Prop
/-- an iterator has come -/
def PIE (X : Cx) (pins : List (Addr × Obj)) (σ : St) (tg : Expr) (R : It → Hp → Prop) (itv : Value) (s2 : Shared) : Prop :=
  ∃ (it : Addr) (fp : List Addr) (tn : Nat → Heap → Prop) (J : It) (H' : Hp), itv = .ref it ∧ Inv X pins σ H' s2 ∧ Turn X.prog X.w X.K tg J fp it tn ∧ tn 0 s2.heap ∧ (∀ b ∈ fp, FpOk X pins H' b) ∧ R J H'
def PI (X : Cx) (tg iter : Expr) (wi : TI) : Prop :=
  ∀ (pins : List (Addr × Obj)) (s : Shared) (σ : St) (H : Hp) (R : It → Hp → Prop), Inv X pins σ H s → wi σ H R →
    wpAny (model X.prog X.w) X.A (eval iter X.env) (fun v s1 => wpAny (model X.prog X.w) X.A (pyIter v) (PIE X pins σ tg R) X.xe s1) X.xe s

/-- the step ahead of the store is nothing for an iterator that keeps no tuple -/
theorem go_of {M : Model} {A : Around} {E : Value → Shared → Prop} {s : Shared} {tg : Expr} {it : Addr} {u : Value} {o : Obj} {n : String} {vs : Array Value} {Q : Unit → Shared → Prop} (ho : s.heap.get? it = some o) (hc : o.cls = .type n) (hd : o.data = .fields vs)
    (hn : ["enumerate", "zip", "dict_itemiterator", "dict_reverseitemiterator", "odict_iterator", "itertools.zip_longest", "itertools.pairwise"].contains n = false) (hQ : Q () s) : wpAny M A (letOwnedTupleGo tg (.ref it) u) Q E s := by
  unfold letOwnedTupleGo
  cases tg <;> first
    | exact wpAny_pure hQ
    | (cases u <;> first
        | exact wpAny_pure hQ
        | (refine wpAny_bind (wpAny_load ho ?_)
           rw [hc, hd]
           show wpAny M A (if (["enumerate", "zip", "dict_itemiterator", "dict_reverseitemiterator", "odict_iterator", "itertools.zip_longest", "itertools.pairwise"].contains n && vs[0]? == some (rawInt _)) = true then _ else _) Q E s
           rw [if_neg (by intro h; rw [hn, Bool.false_and] at h; cases h)]
           exact wpAny_pure hQ))

/-- the list at a, as it stands at each turn (a loop may append to it) -/
def Itl (K : PySem.W.Frag) (a : Addr) : It :=
  ⟨fun i H => ∃ xs x, SqL K H a xs ∧ xs[i]? = some x, fun i H x H' => H' = H ∧ ∀ xs, SqL K H a xs → xs[i]? = some x, fun i H => ∃ xs, SqL K H a xs ∧ xs.length ≤ i⟩
def Itt (K : PySem.W.Frag) (a : Addr) : It :=
  ⟨fun i H => ∃ xs x, SqT K H a xs ∧ xs[i]? = some x, fun i H x H' => H' = H ∧ ∀ xs, SqT K H a xs → xs[i]? = some x, fun i H => ∃ xs, SqT K H a xs ∧ xs.length ≤ i⟩
/-- lo, lo + 1, .. (n of them) -/
def Itr (lo : Int) (n : Nat) : It := ⟨fun i _ => i < n, fun i H x H' => H' = H ∧ x = .int (lo + i), fun i _ => n ≤ i⟩
theorem turn_list {P : Program} {w : World} {K : PySem.W.Frag} {tg : Expr} (a it : Addr) : Turn P w K tg (Itl K a) [it] it (fun i h => h.IsListIter it a i) where
  mem := by simp
  obj := fun i h st b hb => by
    have e : b = it := by simpa using hb
    subst e
    obtain ⟨o, e, c, d⟩ := st
    exact ⟨o, e, fun v z => by rw [d] at z; cases z⟩
  keep := fun i h h' st k => st.at fun o e => k it (by simp) o e
  item := by
    intro X hP hw hK hc i pins s σ H E I hf st hg
    subst hP hw hK
    obtain ⟨xs, x, hq, hx⟩ := hg
    obtain ⟨its, rv, p, hz⟩ := I.list hq
    obtain ⟨u, hu, ru⟩ := rv.get hx
    obtain ⟨f0, f1, f2, f3, f4, f5⟩ := hf it (by simp)
    refine wpAny_pyNext_list_item st p.isList (x := u) (by simpa using hu) fun h' st' sb => ?_
    have I1 : Inv X pins σ H { s with heap := h' } := I.turned (t' := s.toks) (fun b o hb e => (sb.2 b hb).trans e) f0 f1 f3 f4 f5
    obtain ⟨o, e, c, d⟩ := id st'
    exact ⟨u, rfl, go_of (s := { s with heap := h' }) e c d (by decide) ⟨x, H, I1, ru, ⟨rfl, fun ys hy => by rw [I.list_inj hy hq]; exact hx⟩, st', fun b hb => (hf b hb).1⟩⟩
  done := by
    intro X hP hw hK hc i pins s σ H E I hf st hg
    subst hP hw hK
    obtain ⟨xs, hq, hx⟩ := hg
    obtain ⟨its, rv, p, hz⟩ := I.list hq
    obtain ⟨f0, f1, f2, f3, f4, f5⟩ := hf it (by simp)
    have hl := rv.length
    exact wpAny_pyNext_list_end (I.ok.hd hc) st p.isList (by simp; omega) fun h' eb => ⟨rfl, I.turned (t' := s.toks) (fun b o hb e => eb b o hb e) f0 f1 f3 f4 f5⟩
  self := fun _ _ _ _ _ st h => wpAny_pyIter_listiter st h
theorem turn_tuple {P : Program} {w : World} {K : PySem.W.Frag} {tg : Expr} (a it : Addr) : Turn P w K tg (Itt K a) [it] it (fun i h => h.IsTupleIter it a i) where
  mem := by simp
  obj := fun i h st b hb => by
    have e : b = it := by simpa using hb
    subst e
    obtain ⟨o, e, c, d⟩ := st
    exact ⟨o, e, fun v z => by rw [d] at z; cases z⟩
  keep := fun i h h' st k => st.at fun o e => k it (by simp) o e
  item := by
    intro X hP hw hK hc i pins s σ H E I hf st hg
    subst hP hw hK
    obtain ⟨xs, x, hq, hx⟩ := hg
    obtain ⟨its, rv, p, hz⟩ := I.tuple hq
    obtain ⟨u, hu, ru⟩ := rv.get hx
    obtain ⟨f0, f1, f2, f3, f4, f5⟩ := hf it (by simp)
    refine wpAny_pyNext_tuple_item st (show s.heap.IsTuple a its.toArray from p) (x := u) (by simpa using hu) fun h' st' sb => ?_
    have I1 : Inv X pins σ H { s with heap := h' } := I.turned (t' := s.toks) (fun b o hb e => (sb.2 b hb).trans e) f0 f1 f3 f4 f5
    obtain ⟨o, e, c, d⟩ := id st'
    exact ⟨u, rfl, go_of (s := { s with heap := h' }) e c d (by decide) ⟨x, H, I1, ru, ⟨rfl, fun ys hy => by rw [I.tuple_inj hy hq]; exact hx⟩, st', fun b hb => (hf b hb).1⟩⟩
  done := by
    intro X hP hw hK hc i pins s σ H E I hf st hg
    subst hP hw hK
    obtain ⟨xs, hq, hx⟩ := hg
    obtain ⟨its, rv, p, hz⟩ := I.tuple hq
    obtain ⟨f0, f1, f2, f3, f4, f5⟩ := hf it (by simp)
    have hl := rv.length
    exact wpAny_pyNext_tuple_end (I.ok.hd hc) st (show s.heap.IsTuple a its.toArray from p) (by simp; omega) fun h' eb => ⟨rfl, I.turned (t' := s.toks) (fun b o hb e => eb b o hb e) f0 f1 f3 f4 f5⟩
  self := fun _ _ _ _ _ st h => wpAny_pyIter_tupleiter st h
theorem turn_range {P : Program} {w : World} {K : PySem.W.Frag} {tg : Expr} (it : Addr) (lo : Int) (n : Nat) : Turn P w K tg (Itr lo n) [it] it (fun i h => IsRangeIter h it (lo + (i : Nat) * 1) ((n : Int) - (i : Nat)) 1) where
  mem := by simp
  obj := fun i h st b hb => by
    have e : b = it := by simpa using hb
    subst e
    exact ⟨_, st, fun v z => by
      have z' : Data.fields _ = Data.cell v := z
      cases z'⟩
  keep := fun i h h' st k => k it (by simp) _ st
  item := by
    intro X hP hw hK hc i pins s σ H E I hf st hg
    subst hP hw hK
    obtain ⟨f0, f1, f2, f3, f4, f5⟩ := hf it (by simp)
    have W := Walks.range (prog := X.prog) (w := X.w) (I.ok.hd hc) it lo 1 n
    refine W.item i s _ _ hg st fun v h' tk hv st' kk => ?_
    obtain ⟨t, rfl⟩ := hv
    have I1 : Inv X pins σ H { s with heap := h', toks := tk } := I.turned (fun b o hb e => kk b o (by simpa using hb) e) f0 f1 f3 f4 f5
    refine ⟨_, rfl, go_of (s := { s with heap := h', toks := tk }) (n := "range_iterator") st' rfl rfl (by decide) ⟨.int (lo + i), H, I1, ⟨t, ?_⟩, ⟨rfl, rfl⟩, st', fun b hb => (hf b hb).1⟩⟩
    rw [Int.mul_one]
  done := by
    intro X hP hw hK hc i pins s σ H E I hf st hg
    subst hP hw hK
    obtain ⟨f0, f1, f2, f3, f4, f5⟩ := hf it (by simp)
    exact wpAny_pyNext_range_end (I.ok.hd hc) st (by have : n ≤ i := hg; omega) fun h' eb => ⟨rfl, I.turned (t' := s.toks) (fun b o hb e => eb b o hb e) f0 f1 f3 f4 f5⟩
  self := fun _ _ _ _ _ st h => wpAny_pyIter_rangeiter st h
end L2

namespace L2
open PySem PySem.Spec PyProof.Rows
section
variable {X : Cx} {tg : Expr}
def iList (K : PySem.W.Frag) (tl : TE) : TI := fun σ H R => tl σ H fun x H1 => ∃ a, x = .ref a ∧ (∃ xs, SqL K H1 a xs) ∧ R (Itl K a) H1
def iTup (K : PySem.W.Frag) (tl : TE) : TI := fun σ H R => tl σ H fun x H1 => ∃ a, x = .ref a ∧ (∃ xs, SqT K H1 a xs) ∧ R (Itt K a) H1
theorem pi_list {l : Expr} {tl : TE} (hl : PE X l tl) : PI X tg l (iList X.K tl) := by
  intro pins s σ H R I h
  refine thn (hl pins s σ H _ I h) fun v s1 ⟨x, H1, I1, r1, q1⟩ => ?_
  obtain ⟨a, e, ⟨xs, hq⟩, q⟩ := q1
  subst e
  cases r1
  obtain ⟨its, rv, p, hz⟩ := I1.list hq
  refine wpAny_pyIter_list p.isList ?_
  refine ⟨s1.heap.objs.size, [s1.heap.objs.size], _, _, H1, rfl, I1.kept (t' := s1.toks) fun b o e => Heap.get?_push_of_some _ e, turn_list a _, ⟨_, Heap.get?_push_size _ rfl, rfl, rfl⟩, fun b hb => ?_, q⟩
  have e : b = s1.heap.objs.size := by simpa using hb
  subst e
  exact I1.fpOk (Nat.le_refl _) (I1.hok.fresh (Nat.le_refl _))
theorem pi_tup {l : Expr} {tl : TE} (hl : PE X l tl) : PI X tg l (iTup X.K tl) := by
  intro pins s σ H R I h
  refine thn (hl pins s σ H _ I h) fun v s1 ⟨x, H1, I1, r1, q1⟩ => ?_
  obtain ⟨a, e, ⟨xs, hq⟩, q⟩ := q1
  subst e
  cases r1
  obtain ⟨its, rv, p, hz⟩ := I1.tuple hq
  refine wpAny_pyIter_tuple (show s1.heap.IsTuple a its.toArray from p) ?_
  refine ⟨s1.heap.objs.size, [s1.heap.objs.size], _, _, H1, rfl, I1.kept (t' := s1.toks) fun b o e => Heap.get?_push_of_some _ e, turn_tuple a _, ⟨_, Heap.get?_push_size _ rfl, rfl, rfl⟩, fun b hb => ?_, q⟩
  have e : b = s1.heap.objs.size := by simpa using hb
  subst e
  exact I1.fpOk (Nat.le_refl _) (I1.hok.fresh (Nat.le_refl _))
/-- a range object just made, walked -/
theorem range_it {pins : List (Addr × Obj)} {σ : St} {H : Hp} {s : Shared} {R : It → Hp → Prop} {E : Value → Shared → Prop} {lo hi : Int} {t u v : Tok} {tk : Nat} (I : Inv X pins σ H s) (h1 : -(2 ^ 62) ≤ lo) (h2 : lo < 2 ^ 62) (h3 : -(2 ^ 62) ≤ hi) (h4 : hi < 2 ^ 62)
    (q : R (Itr lo (hi - lo).toNat) H) : wpAny (model X.prog X.w) X.A (pyIter (.ref s.heap.objs.size)) (PIE X pins σ tg R) E { s with heap := s.heap.push { cls := .type "range", data := .fields #[.int lo t, .int hi u, .int 1 v] }, toks := tk } := by
  refine wpAny_pyIter_range (IsRange.new ..) (small_one h1 h2 h3 h4) ?_
  have I1 : Inv X pins σ H { s with heap := s.heap.push { cls := .type "range", data := .fields #[.int lo t, .int hi u, .int 1 v] }, toks := tk } := I.kept fun b o e => Heap.get?_push_of_some _ e
  refine ⟨(s.heap.push { cls := .type "range", data := .fields #[.int lo t, .int hi u, .int 1 v] }).objs.size, [(s.heap.push { cls := .type "range", data := .fields #[.int lo t, .int hi u, .int 1 v] }).objs.size], _, _, H, rfl,
    I1.kept (t' := tk) fun b o e => Heap.get?_push_of_some _ e, turn_range _ lo (hi - lo).toNat, ?_, fun b hb => ?_, q⟩
  · have e1 : lo + ((0 : Nat) : Int) * 1 = lo := by simp
    have e2 : (((hi - lo).toNat : Nat) : Int) - ((0 : Nat) : Int) = Builtin.Range.rangeSize lo hi 1 := by rw [rangeSize_one]; split <;> omega
    show IsRangeIter _ _ (lo + ((0 : Nat) : Int) * 1) ((((hi - lo).toNat : Nat) : Int) - ((0 : Nat) : Int)) 1
    rw [e1, e2]
    exact Heap.get?_push_size _ rfl
  · have e : b = (s.heap.push { cls := .type "range", data := .fields #[.int lo t, .int hi u, .int 1 v] }).objs.size := by simpa using hb
    subst e
    exact I1.fpOk (Nat.le_refl _) (I1.hok.fresh (Nat.le_refl _))
def iRng1 (ta : TA) : TI := fun σ H R => ta σ H fun vs H1 => ∃ j : Int, vs = [.int j] ∧ -(2 ^ 62) ≤ j ∧ j < 2 ^ 62 ∧ R (Itr 0 j.toNat) H1
def iRng2 (ta : TA) : TI := fun σ H R => ta σ H fun vs H1 => ∃ i j : Int, vs = [.int i, .int j] ∧ (-(2 ^ 62) ≤ i ∧ i < 2 ^ 62 ∧ -(2 ^ 62) ≤ j ∧ j < 2 ^ 62) ∧ R (Itr i (j - i).toNat) H1
theorem pi_range1 {a : Expr} {ta : TA} {p pos : Pos} (hg : Gl X "range") (hm : X.mg "range" = none) (ha : PA X [a] ta) (hs : starEach [a] X.env = [(false, eval a X.env)] := by rfl) : PI X tg (.Call (.Name "range" p) [a] [] pos) (iRng1 ta) := by
  intro pins s σ H R I h
  refine Call_ (ld_blt I hg hm boot_range (PyProof.Rows.callWith_type1 (thn (ha pos pins s σ H _ I h) fun us s1 ⟨vs, H1, I1, r1, q1⟩ => ?_) hs rfl))
  obtain ⟨j, e, q1, q2, q⟩ := q1
  subst e
  cases r1 with
  | cons r rr =>
    cases rr
    obtain ⟨t, rfl⟩ := r
    exact call_range_1 (range_it I1 (by omega) (by omega) q1 q2 (by simpa using q))
theorem pi_range2 {a b : Expr} {ta : TA} {p pos : Pos} (hg : Gl X "range") (hm : X.mg "range" = none) (ha : PA X [a, b] ta) (hs : starEach [a, b] X.env = [(false, eval a X.env), (false, eval b X.env)] := by rfl) (hs2 : starEach [b] X.env = [(false, eval b X.env)] := by rfl) :
    PI X tg (.Call (.Name "range" p) [a, b] [] pos) (iRng2 ta) := by
  intro pins s σ H R I h
  refine Call_ (ld_blt I hg hm boot_range (PyProof.Rows.callWith_type1 (thn (ha pos pins s σ H _ I h) fun us s1 ⟨vs, H1, I1, r1, q1⟩ => ?_) (by rw [hs, hs2]) (by rw [hs2]; rfl)))
  obtain ⟨i, j, e, ⟨q1, q2, q3, q4⟩, q⟩ := q1
  subst e
  cases r1 with
  | cons r rr =>
    cases rr with
    | cons r' rr =>
      cases rr
      obtain ⟨t, rfl⟩ := r
      obtain ⟨t', rfl⟩ := r'
      exact call_range_2 (range_it I1 q1 q2 q3 q4 q)

/-! ### for -/
/-- W: the invariant by the turn and a measure; N: what the body is to reach -/
def tFor (wi : TI) (g : TG) (tb : TS) : TS := fun D σ H => wi σ H fun J H1 => ∃ W : Nat → Nat → St → Hp → Prop, (∃ m, W 0 m σ H1) ∧ ∀ i m σ H, W i m σ H →
  (J.stop i H ∧ D.nx σ H) ∨ (J.go i H ∧ ∃ N : St → Hp → Prop, (∀ σ' H', N σ' H' → ∃ m', m' < m ∧ W (i + 1) m' σ' H') ∧ ∀ x H', J.yld i H x H' → g x σ H' fun σ2 H2 => tb { D with nx := N, ct := N, bk := D.nx } σ2 H2)
/-- the records at fp as they stand -/
def pinsAt (fp : List Addr) (h : Heap) : List (Addr × Obj) := fp.filterMap fun b => (h.get? b).map fun o => (b, o)
theorem mem_pinsAt {fp : List Addr} {h : Heap} {b : Addr} {o : Obj} (hb : b ∈ fp) (e : h.get? b = some o) : (b, o) ∈ pinsAt fp h := List.mem_filterMap.mpr ⟨b, hb, by rw [e]; rfl⟩
theorem of_pinsAt {fp : List Addr} {h : Heap} {p : Addr × Obj} (hp : p ∈ pinsAt fp h) : p.1 ∈ fp ∧ h.get? p.1 = some p.2 := by
  obtain ⟨b, hb, e⟩ := List.mem_filterMap.mp hp
  cases q : h.get? b with
  | none => rw [q] at e; cases e
  | some o =>
    rw [q] at e
    have e' : (b, o) = p := Option.some.inj e
    subst e'
    exact ⟨hb, q⟩
theorem Inv.pinned {pins : List (Addr × Obj)} {σ : St} {H : Hp} {s : Shared} {fp : List Addr} (I : Inv X pins σ H s) (hf : ∀ b ∈ fp, FpOk X pins H b) (ho : ∀ b ∈ fp, ∃ o, s.heap.get? b = some o ∧ ∀ v, o.data ≠ .cell v) : Inv X (pins ++ pinsAt fp s.heap) σ H s :=
  I.pins_of fun p hp => (List.mem_append.mp hp).elim (fun z => I.pin p (List.mem_append_right _ z)) fun z => by
    obtain ⟨hb, e⟩ := of_pinsAt z
    obtain ⟨f0, f1, f2, _⟩ := hf p.1 hb
    obtain ⟨o, e', d⟩ := ho p.1 hb
    rw [e] at e'; cases e'
    exact ⟨e, f0, f1, f2, d⟩
theorem Inv.unpinned {pins pl : List (Addr × Obj)} {σ : St} {H : Hp} {s : Shared} (I : Inv X (pins ++ pl) σ H s) : Inv X pins σ H s := I.pins_of fun p hp => I.pin p (List.mem_append_right _ (List.mem_append_left _ hp))
theorem ps_for {iter : Expr} {body : List Stmt} {wi : TI} {g : TG} {tb : TS} {pos : Pos} (hp : PassesOwn (model X.prog X.w) X.A X.env X.xe) (hc : X.calm = true) (hi : PI X tg iter wi) (hg : PG X tg g) (hb : PSs X body tb)
    (hs : ∀ x, foldedSetIterable iter X.env x = pure x := by intro _; rfl) : PS X (.For tg iter body [] pos) (tFor wi g tb) := by
  intro pins s σ H D I h
  refine wpAny_For (thn (hi pins s σ H _ I h) fun v s1 h1 => thn h1 fun itv s2 h2 => ?_) hs
  obtain ⟨it, fp, tn, J, H2, e, I2, T, st2, f2, W, ⟨m0, w0⟩, turn⟩ := h2
  subst e
  -- what stays true of the iterator's objects through the loop
  have stat : ∀ {H' : Hp}, (∀ b ∈ fp, H' b = none) → ∀ b ∈ fp, FpOk X pins H' b := fun hn b hb => ⟨hn b hb, (f2 b hb).2⟩
  refine codeAny_forLoop_any (fun n s' => ∃ i σ' H', Inv X pins σ' H' s' ∧ tn i s'.heap ∧ (∀ b ∈ fp, H' b = none) ∧ W i n σ' H') ?_ m0 ⟨0, σ, H2, I2, st2, fun b hb => (f2 b hb).1, w0⟩
  rintro n s3 ⟨i, σ3, H3, I3, st3, fr3, w3⟩
  rcases turn i n σ3 H3 w3 with ⟨stop, qn⟩ | ⟨go, N, hN, step⟩
  · refine wpAny_passesOwn hp (thn (T.done X rfl rfl rfl hc i pins s3 σ3 H3 X.xe I3 (stat fr3) st3 stop) fun r s4 ⟨hr, I4⟩ => ?_)
    subst hr
    exact wpAny_execs_nil ⟨σ3, H3, I4, qn⟩
  · refine wpAny_passesOwn hp (thn (T.item X rfl rfl rfl hc i pins s3 σ3 H3 X.xe I3 (stat fr3) st3 go) fun r s4 ⟨u, hr, h4⟩ => ?_)
    subst hr
    refine wpAny_passesOwn hp (thn h4 fun _ s5 ⟨x, H5, I5, r5, y5, st5, fr5⟩ => ?_)
    have I5' := I5.pinned (stat fr5) (T.obj _ _ st5)
    refine wpAny_passesOwn hp (thn (hg _ s5 σ3 H5 x u _ I5' r5 (step x H5 y5)) fun _ s6 ⟨σ6, H6, I6, q6⟩ => ?_)
    refine wpAny_passesOwn hp (thn (hb _ s6 σ6 H6 _ I6 q6) fun f s7 q7 => ?_)
    have again : ∀ {σ7 : St} {H7 : Hp}, Inv X (pins ++ pinsAt fp s5.heap) σ7 H7 s7 → N σ7 H7 → ∃ m, m < n ∧ ∃ i σ' H', Inv X pins σ' H' s7 ∧ tn i s7.heap ∧ (∀ b ∈ fp, H' b = none) ∧ W i m σ' H' := fun {σ7 H7} I7 n7 => by
      obtain ⟨m', hm, w7⟩ := hN σ7 H7 n7
      refine ⟨m', hm, i + 1, σ7, H7, I7.unpinned, T.keep _ _ _ st5 fun b hb o e => (I7.pin (b, o) (List.mem_append_right _ (List.mem_append_right _ (mem_pinsAt hb e)))).1, fun b hb => ?_, w7⟩
      obtain ⟨o, e, d⟩ := T.obj _ _ st5 b hb
      exact (I7.pin (b, o) (List.mem_append_right _ (List.mem_append_right _ (mem_pinsAt hb e)))).2.1
    cases f with
    | next => obtain ⟨σ7, H7, I7, n7⟩ := q7; exact again I7 n7
    | cont => obtain ⟨σ7, H7, I7, n7⟩ := q7; exact again I7 n7
    | brk => obtain ⟨σ7, H7, I7, q7⟩ := q7; exact ⟨σ7, H7, I7.unpinned, q7⟩
    | ret v => obtain ⟨x7, σ7, H7, I7, r7, q7⟩ := q7; exact ⟨x7, σ7, H7, I7.unpinned, r7, q7⟩
end

/-! ### the forms one uses -/
/-- over a list that the body leaves as it is -/
theorem for_list {K : PySem.W.Frag} {a : Addr} {xs : List V} {g : TG} {tb : TS} {D : Ends} {σ : St} {H : Hp} (Pv : Nat → St → Hp → Prop) (h0 : Pv 0 σ H) (hl : ∀ i σ H, i ≤ xs.length → Pv i σ H → SqL K H a xs)
    (hs : ∀ i x σ H, xs[i]? = some x → Pv i σ H → g x σ H fun σ2 H2 => tb { D with nx := Pv (i + 1), ct := Pv (i + 1), bk := D.nx } σ2 H2) (hd : ∀ σ H, Pv xs.length σ H → D.nx σ H) :
    ∃ W : Nat → Nat → St → Hp → Prop, (∃ m, W 0 m σ H) ∧ ∀ i m σ H, W i m σ H →
      ((Itl K a).stop i H ∧ D.nx σ H) ∨ ((Itl K a).go i H ∧ ∃ N : St → Hp → Prop, (∀ σ' H', N σ' H' → ∃ m', m' < m ∧ W (i + 1) m' σ' H') ∧ ∀ x H', (Itl K a).yld i H x H' → g x σ H' fun σ2 H2 => tb { D with nx := N, ct := N, bk := D.nx } σ2 H2) := by
  refine ⟨fun i m σ H => m = xs.length - i ∧ i ≤ xs.length ∧ Pv i σ H, ⟨xs.length, by simp, Nat.zero_le _, h0⟩, ?_⟩
  rintro i m σ H ⟨rfl, hi, p⟩
  have q := hl i σ H hi p
  by_cases hlt : i < xs.length
  · refine .inr ⟨⟨xs, xs[i], q, by simp [hlt]⟩, Pv (i + 1), fun σ' H' p' => ⟨xs.length - (i + 1), by omega, rfl, hlt, p'⟩, fun x H' y => ?_⟩
    obtain ⟨e, y⟩ := y
    subst e
    exact hs i x σ _ (y xs q) p
  · have e : i = xs.length := by omega
    subst e
    exact .inl ⟨⟨xs, q, Nat.le_refl _⟩, hd σ H p⟩
theorem for_tup {K : PySem.W.Frag} {a : Addr} {xs : List V} {g : TG} {tb : TS} {D : Ends} {σ : St} {H : Hp} (Pv : Nat → St → Hp → Prop) (h0 : Pv 0 σ H) (hl : ∀ i σ H, i ≤ xs.length → Pv i σ H → SqT K H a xs)
    (hs : ∀ i x σ H, xs[i]? = some x → Pv i σ H → g x σ H fun σ2 H2 => tb { D with nx := Pv (i + 1), ct := Pv (i + 1), bk := D.nx } σ2 H2) (hd : ∀ σ H, Pv xs.length σ H → D.nx σ H) :
    ∃ W : Nat → Nat → St → Hp → Prop, (∃ m, W 0 m σ H) ∧ ∀ i m σ H, W i m σ H →
      ((Itt K a).stop i H ∧ D.nx σ H) ∨ ((Itt K a).go i H ∧ ∃ N : St → Hp → Prop, (∀ σ' H', N σ' H' → ∃ m', m' < m ∧ W (i + 1) m' σ' H') ∧ ∀ x H', (Itt K a).yld i H x H' → g x σ H' fun σ2 H2 => tb { D with nx := N, ct := N, bk := D.nx } σ2 H2) := by
  refine ⟨fun i m σ H => m = xs.length - i ∧ i ≤ xs.length ∧ Pv i σ H, ⟨xs.length, by simp, Nat.zero_le _, h0⟩, ?_⟩
  rintro i m σ H ⟨rfl, hi, p⟩
  have q := hl i σ H hi p
  by_cases hlt : i < xs.length
  · refine .inr ⟨⟨xs, xs[i], q, by simp [hlt]⟩, Pv (i + 1), fun σ' H' p' => ⟨xs.length - (i + 1), by omega, rfl, hlt, p'⟩, fun x H' y => ?_⟩
    obtain ⟨e, y⟩ := y
    subst e
    exact hs i x σ _ (y xs q) p
  · have e : i = xs.length := by omega
    subst e
    exact .inl ⟨⟨xs, q, Nat.le_refl _⟩, hd σ H p⟩
theorem for_range {lo : Int} {n : Nat} {g : TG} {tb : TS} {D : Ends} {σ : St} {H : Hp} (Pv : Nat → St → Hp → Prop) (h0 : Pv 0 σ H)
    (hs : ∀ i σ H, i < n → Pv i σ H → g (.int (lo + i)) σ H fun σ2 H2 => tb { D with nx := Pv (i + 1), ct := Pv (i + 1), bk := D.nx } σ2 H2) (hd : ∀ σ H, Pv n σ H → D.nx σ H) :
    ∃ W : Nat → Nat → St → Hp → Prop, (∃ m, W 0 m σ H) ∧ ∀ i m σ H, W i m σ H →
      ((Itr lo n).stop i H ∧ D.nx σ H) ∨ ((Itr lo n).go i H ∧ ∃ N : St → Hp → Prop, (∀ σ' H', N σ' H' → ∃ m', m' < m ∧ W (i + 1) m' σ' H') ∧ ∀ x H', (Itr lo n).yld i H x H' → g x σ H' fun σ2 H2 => tb { D with nx := N, ct := N, bk := D.nx } σ2 H2) := by
  refine ⟨fun i m σ H => m = n - i ∧ i ≤ n ∧ Pv i σ H, ⟨n, by simp, Nat.zero_le _, h0⟩, ?_⟩
  rintro i m σ H ⟨rfl, hi, p⟩
  by_cases hlt : i < n
  · refine .inr ⟨hlt, Pv (i + 1), fun σ' H' p' => ⟨n - (i + 1), by omega, rfl, hlt, p'⟩, fun x H' y => ?_⟩
    obtain ⟨e, y⟩ := y
    subst e y
    exact hs i σ _ hlt p
  · have e : i = n := by omega
    subst e
    exact .inl ⟨Nat.le_refl _, hd σ H p⟩
/-- while, by a word and a measure of the state -/
theorem while_by {c : TT} {tb : TS} {D : Ends} {σ : St} {H : Hp} (Pv : St → Hp → Prop) (μ : St → Hp → Nat) (h0 : Pv σ H)
    (hs : ∀ σ H, Pv σ H → c σ H fun b H1 => if b = true then tb { D with nx := fun σ' H' => Pv σ' H' ∧ μ σ' H' < μ σ H, ct := fun σ' H' => Pv σ' H' ∧ μ σ' H' < μ σ H, bk := D.nx } σ H1 else D.nx σ H1)
    (mono : ∀ σ H Q Q', (∀ b H1, Q b H1 → Q' b H1) → c σ H Q → c σ H Q') : tWhile c tb D σ H := by
  refine ⟨fun m σ H => m = μ σ H ∧ Pv σ H, ⟨_, rfl, h0⟩, ?_⟩
  rintro m σ H ⟨rfl, p⟩
  refine mono σ H _ _ (fun b H1 q => ?_) (hs σ H p)
  cases b with
  | true => exact ⟨_, fun σ' H' ⟨p', l⟩ => ⟨_, l, rfl, p'⟩, q⟩
  | false => exact q
end L2

namespace L2
open PySem PySem.Spec PyProof.Rows

abbrev R2 := V → V → Hp → VK → Prop
/-- a two-place operation on values: f is binaryOp op, inplaceOp op or compareOp op -/
def OpR (X : Cx) (f : Value → Value → Sem Value) (r : R2) : Prop :=
  ∀ (pins : List (Addr × Obj)) (s : Shared) (σ : St) (H : Hp) (x y : V) (v u : Value) (Q : VK), Inv X pins σ H s → RelV x v → RelV y u → r x y H Q →
    wpAny (model X.prog X.w) X.A (f v u) (EP X pins σ Q) X.xe s
/-- a one-place operation -/
def UnR (X : Cx) (f : Value → Sem Value) (r : V → Hp → VK → Prop) : Prop :=
  ∀ (pins : List (Addr × Obj)) (s : Shared) (σ : St) (H : Hp) (x : V) (v : Value) (Q : VK), Inv X pins σ H s → RelV x v → r x H Q →
    wpAny (model X.prog X.w) X.A (f v) (EP X pins σ Q) X.xe s
/-- a call of a value that is known (a builtin, a type) with values -/
def CallR (X : Cx) (f : Value) (r : List V → Hp → VK → Prop) : Prop :=
  ∀ (pins : List (Addr × Obj)) (s : Shared) (σ : St) (H : Hp) (xs : List V) (us : List Value) (Q : VK), Inv X pins σ H s → Vals xs us → r xs H Q →
    wpAny (model X.prog X.w) X.A (call f us) (EP X pins σ Q) X.xe s
/-- a value's truth -/
def TruR (X : Cx) (r : V → Hp → (Bool → Hp → Prop) → Prop) : Prop :=
  ∀ (pins : List (Addr × Obj)) (s : Shared) (σ : St) (H : Hp) (x : V) (v : Value) (Q : Bool → Hp → Prop), Inv X pins σ H s → RelV x v → r x H Q →
    wpAny (model X.prog X.w) X.A (truthy v) (TP X pins σ Q) X.xe s

def tOp (r : R2) (ta tb : TE) : TE := fun σ H Q => ta σ H fun x H1 => tb σ H1 fun y H2 => r x y H2 Q
def tUn (r : V → Hp → VK → Prop) (ta : TE) : TE := fun σ H Q => ta σ H fun x H1 => r x H1 Q
/-- ints in, under C, and a value out -/
def rI (C : Int → Int → Prop) (g : Int → Int → V) : R2 := fun x y H Q => ∃ i j, x = .int i ∧ y = .int j ∧ C i j ∧ Q (g i j) H
def rI0 (g : Int → Int → V) : R2 := fun x y H Q => ∃ i j, x = .int i ∧ y = .int j ∧ Q (g i j) H
def rU (g : Int → V) : V → Hp → VK → Prop := fun x H Q => ∃ i, x = .int i ∧ Q (g i) H

section
variable {X : Cx} {a b c : Expr} {ta tb tc : TE} {pos : Pos}

theorem binT (ha : PE X a ta) (hb : PE X b tb) {pins : List (Addr × Obj)} {s : Shared} {σ : St} {H : Hp} {R : V → V → Hp → Prop} (I : Inv X pins σ H s)
    (h : ta σ H fun x H1 => tb σ H1 fun y H2 => R x y H2) {Q : Value → Shared → Prop} {f : Value → Value → Sem Value}
    (hf : ∀ v u s2 x y H2, Inv X pins σ H2 s2 → RelV x v → RelV y u → R x y H2 → wpAny (model X.prog X.w) X.A (f v u) Q X.xe s2) :
    wpAny (model X.prog X.w) X.A (eval a X.env) (fun v s₁ => wpAny (model X.prog X.w) X.A (eval b X.env) (fun u s₂ => wpAny (model X.prog X.w) X.A (f v u) Q X.xe s₂) X.xe s₁) X.xe s := by
  refine thn (ha pins s σ H _ I h) fun v s1 ⟨x, H1, I1, r1, q1⟩ => ?_
  refine thn (hb pins s1 σ H1 _ I1 q1) fun u s2 ⟨y, H2, I2, r2, q2⟩ => ?_
  exact hf v u s2 x y H2 I2 r1 r2 q2

theorem pe_op {op : Operator} {r : R2} (ho : OpR X (binaryOp op) r) (ha : PE X a ta) (hb : PE X b tb) : PE X (.BinOp a op b pos) (tOp r ta tb) := by
  intro pins s σ H Q I h
  exact wpAny_BinOp (binT ha hb I h fun v u s2 x y H2 I2 rx ry q => ho pins s2 σ H2 x y v u Q I2 rx ry q)
theorem pe_un {op : UnaryOp} {r : V → Hp → VK → Prop} (ho : UnR X (unaryOp op) r) (ha : PE X a ta) : PE X (.UnaryOp op a pos) (tUn r ta) := by
  intro pins s σ H Q I h
  exact UnaryOp_ (thn (ha pins s σ H _ I h) fun v s1 ⟨x, H1, I1, r1, q1⟩ => ho pins s1 σ H1 x v Q I1 r1 q1)
/-- a op= e at a name: the name's slot i -/
theorem augR {op : Operator} {r : R2} (ho : OpR X (inplaceOp op) r) {pins : List (Addr × Obj)} {s : Shared} {σ : St} {H : Hp} {x y : V} {v u : Value} {Q : VK} (I : Inv X pins σ H s)
    (rx : RelV x v) (ry : RelV y u) (q : r x y H Q) : wpAny (model X.prog X.w) X.A (inplaceOp op v u) (EP X pins σ Q) X.xe s := ho pins s σ H x y v u Q I rx ry q

/-! ### ints -/
theorem opI {f : Value → Value → Sem Value} {C : Int → Int → Prop} {g : Int → Int → Int}
    (rule : ∀ (i j : Int) (t u : Tok) (s : Shared) (Q : Value → Shared → Prop) (E : Value → Shared → Prop), C i j → Q (.int (g i j) s.toks) { s with toks := s.toks + 1 } → wpAny (model X.prog X.w) X.A (f (.int i t) (.int j u)) Q E s) :
    OpR X f (rI C fun i j => .int (g i j)) := by
  intro pins s σ H x y v u Q I rx ry h
  obtain ⟨i, j, rfl, rfl, hc, q⟩ := h
  obtain ⟨t, rfl⟩ := rx
  obtain ⟨t', rfl⟩ := ry
  exact rule i j t t' s _ _ hc ⟨.int (g i j), H, I.tok _, ⟨_, rfl⟩, q⟩
theorem opI0 {f : Value → Value → Sem Value} {g : Int → Int → Int}
    (rule : ∀ (i j : Int) (t u : Tok) (s : Shared) (Q : Value → Shared → Prop) (E : Value → Shared → Prop), Q (.int (g i j) s.toks) { s with toks := s.toks + 1 } → wpAny (model X.prog X.w) X.A (f (.int i t) (.int j u)) Q E s) :
    OpR X f (rI0 fun i j => .int (g i j)) := by
  intro pins s σ H x y v u Q I rx ry h
  obtain ⟨i, j, rfl, rfl, q⟩ := h
  obtain ⟨t, rfl⟩ := rx
  obtain ⟨t', rfl⟩ := ry
  exact rule i j t t' s _ _ ⟨.int (g i j), H, I.tok _, ⟨_, rfl⟩, q⟩
theorem opB0 {f : Value → Value → Sem Value} {g : Int → Int → Bool}
    (rule : ∀ (i j : Int) (t u : Tok) (s : Shared) (Q : Value → Shared → Prop) (E : Value → Shared → Prop), Q (.bool (g i j)) s → wpAny (model X.prog X.w) X.A (f (.int i t) (.int j u)) Q E s) :
    OpR X f (rI0 fun i j => .bl (g i j)) := by
  intro pins s σ H x y v u Q I rx ry h
  obtain ⟨i, j, rfl, rfl, q⟩ := h
  obtain ⟨t, rfl⟩ := rx
  obtain ⟨t', rfl⟩ := ry
  exact rule i j t t' s _ _ ⟨.bl (g i j), H, I, rfl, q⟩

def CDiv (i j : Int) : Prop := 0 < j ∧ j < 1073741824
def CDivN (i j : Int) : Prop := j ≠ 0 ∧ j.natAbs < 1073741824
def CPow (i j : Int) : Prop := 0 ≤ j ∧ j ≤ 1000000 ∧ i.natAbs < 2 ^ 64
def CMul (i j : Int) : Prop := (-(2 ^ 64) < i ∧ i < 2 ^ 64) ∨ (-(2 ^ 64) < j ∧ j < 2 ^ 64)
theorem CMul.ok {i j : Int} (h : CMul i j) : IntMulOk i j := by
  rcases h with ⟨h1, h2⟩ | ⟨h1, h2⟩
  · exact .of_left (intBits_le_64 h1 h2)
  · exact .of_right (intBits_le_64 h1 h2)
theorem two_pow_nn (k : Nat) : (0 : Int) ≤ 2 ^ k := by
  rw [two_pow_cast]
  exact Int.natCast_nonneg _

theorem op_add : OpR X (binaryOp .Add) (rI0 fun i j => .int (i + j)) := opI0 fun _ _ _ _ _ _ _ q => add_int q
theorem op_sub : OpR X (binaryOp .Sub) (rI0 fun i j => .int (i - j)) := opI0 fun _ _ _ _ _ _ _ q => sub_int q
theorem op_mul : OpR X (binaryOp .Mult) (rI CMul fun i j => .int (i * j)) := opI fun _ _ _ _ _ _ _ hc q => mul_int q hc.ok
/-- // by a positive divisor -/
theorem op_fdiv : OpR X (binaryOp .FloorDiv) (rI CDiv fun i j => .int (i / j)) := opI fun i j _ _ _ _ _ hc q => by
  have h1 : (0 : Int) < j := hc.1
  have h2 : j < 1073741824 := hc.2
  exact floordiv_int (by omega) (by rw [Int.fdiv_eq_ediv_of_nonneg i (by omega)]; exact q) (.inl (PyProof.noPylong_small (by omega)))
theorem op_fdivN : OpR X (binaryOp .FloorDiv) (rI CDivN fun i j => .int (i.fdiv j)) := opI fun _ _ _ _ _ _ _ hc q => floordiv_int hc.1 q (.inl (PyProof.noPylong_small hc.2))
/-- % by a positive divisor of any size -/
theorem op_mod : OpR X (binaryOp .Mod) (rI (fun _ j => 0 < j) fun i j => .int (i % j)) := opI fun i j _ _ _ _ _ hc q => by
  have h1 : (0 : Int) < j := hc
  exact mod_int' (by omega) (by rw [Int.fmod_eq_emod_of_nonneg i (by omega)]; exact q)
theorem op_modN : OpR X (binaryOp .Mod) (rI (fun _ j => j ≠ 0) fun i j => .int (i.fmod j)) := opI fun _ _ _ _ _ _ _ hc q => mod_int' hc q
theorem op_pow : OpR X (binaryOp .Pow) (rI CPow fun i j => .int (i ^ j.toNat)) := opI fun _ _ _ _ _ _ _ hc q => pow_int_small hc.1 hc.2.1 hc.2.2 q
theorem op_shl : OpR X (binaryOp .LShift) (rI CPow fun i j => .int (i * 2 ^ j.toNat)) := opI fun _ _ _ _ _ _ _ hc q => lshift_int_small hc.1 hc.2.1 hc.2.2 q
theorem op_shr : OpR X (binaryOp .RShift) (rI (fun _ j => 0 ≤ j) fun i j => .int (i / 2 ^ j.toNat)) := opI fun i j _ _ _ _ _ hc q =>
  rshift_int hc (by rw [Int.fdiv_eq_ediv_of_nonneg i (two_pow_nn _)]; exact q)
theorem op_and : OpR X (binaryOp .BitAnd) (rI0 fun i j => .int (Builtin.bitAnd i j)) := opI0 fun _ _ _ _ _ _ _ q => and_int q
theorem op_or : OpR X (binaryOp .BitOr) (rI0 fun i j => .int (Builtin.bitOr i j)) := opI0 fun _ _ _ _ _ _ _ q => or_int q
theorem op_xor : OpR X (binaryOp .BitXor) (rI0 fun i j => .int (Builtin.bitXor i j)) := opI0 fun _ _ _ _ _ _ _ q => xor_int q

theorem iop_add : OpR X (inplaceOp .Add) (rI0 fun i j => .int (i + j)) := opI0 fun _ _ _ _ _ _ _ q => iadd_int q
theorem iop_sub : OpR X (inplaceOp .Sub) (rI0 fun i j => .int (i - j)) := opI0 fun _ _ _ _ _ _ _ q => isub_int q
theorem iop_mul : OpR X (inplaceOp .Mult) (rI CMul fun i j => .int (i * j)) := opI fun _ _ _ _ _ _ _ hc q => imul_int q hc.ok
theorem iop_fdiv : OpR X (inplaceOp .FloorDiv) (rI CDiv fun i j => .int (i / j)) := opI fun i j _ _ _ _ _ hc q => by
  have h1 : (0 : Int) < j := hc.1
  have h2 : j < 1073741824 := hc.2
  exact ifloordiv_int (by omega) (by rw [Int.fdiv_eq_ediv_of_nonneg i (by omega)]; exact q) (.inl (PyProof.noPylong_small (by omega)))
theorem iop_mod : OpR X (inplaceOp .Mod) (rI (fun _ j => 0 < j) fun i j => .int (i % j)) := opI fun i j _ _ _ _ _ hc q => by
  have h1 : (0 : Int) < j := hc
  exact imod_int (by omega) (by rw [Int.fmod_eq_emod_of_nonneg i (by omega)]; exact q)
theorem iop_shl : OpR X (inplaceOp .LShift) (rI CPow fun i j => .int (i * 2 ^ j.toNat)) := opI fun _ _ _ _ _ _ _ hc q => ilshift_int_small hc.1 hc.2.1 hc.2.2 q
theorem iop_shr : OpR X (inplaceOp .RShift) (rI (fun _ j => 0 ≤ j) fun i j => .int (i / 2 ^ j.toNat)) := opI fun i j _ _ _ _ _ hc q =>
  irshift_int hc (by rw [Int.fdiv_eq_ediv_of_nonneg i (two_pow_nn _)]; exact q)
theorem iop_and : OpR X (inplaceOp .BitAnd) (rI0 fun i j => .int (Builtin.bitAnd i j)) := opI0 fun _ _ _ _ _ _ _ q => iand_int q
theorem iop_or : OpR X (inplaceOp .BitOr) (rI0 fun i j => .int (Builtin.bitOr i j)) := opI0 fun _ _ _ _ _ _ _ q => ior_int q
theorem iop_xor : OpR X (inplaceOp .BitXor) (rI0 fun i j => .int (Builtin.bitXor i j)) := opI0 fun _ _ _ _ _ _ _ q => ixor_int q

theorem unI {f : Value → Sem Value} {g : Int → Int}
    (rule : ∀ (i : Int) (t : Tok) (s : Shared) (Q : Value → Shared → Prop) (E : Value → Shared → Prop), Q (.int (g i) s.toks) { s with toks := s.toks + 1 } → wpAny (model X.prog X.w) X.A (f (.int i t)) Q E s) :
    UnR X f (rU fun i => .int (g i)) := by
  intro pins s σ H x v Q I rx h
  obtain ⟨i, rfl, q⟩ := h
  obtain ⟨t, rfl⟩ := rx
  exact rule i t s _ _ ⟨.int (g i), H, I.tok _, ⟨_, rfl⟩, q⟩
theorem un_neg : UnR X (unaryOp .USub) (rU fun i => .int (-i)) := unI fun _ _ _ _ _ q => neg_int q
theorem un_inv : UnR X (unaryOp .Invert) (rU fun i => .int (Builtin.bitNot i)) := unI fun _ _ _ _ _ q => invert_int q

/-! ### bools among ints: n += (a < b) -/
theorem op_add_ib : OpR X (binaryOp .Add) (fun x y H Q => ∃ i k, x = .int i ∧ y = .bl k ∧ Q (.int (i + b2i k)) H) := by
  intro pins s σ H x y v u Q I rx ry h
  obtain ⟨i, k, rfl, rfl, q⟩ := h
  obtain ⟨t, rfl⟩ := rx
  cases ry
  exact add_int_bool ⟨.int (i + b2i k), H, I.tok _, ⟨_, rfl⟩, q⟩
end

/-! ### comparisons -/
/-- the scalars that == tells apart as data does -/
def scal : V → V → Bool
  | .non, .non => true | .non, .int _ => true | .int _, .non => true | .non, .bl _ => true | .bl _, .non => true | .non, .str _ => true | .str _, .non => true
  | .int _, .int _ => true | .bl _, .bl _ => true | .str _, .str _ => true | .byt _, .byt _ => true
  | .int _, .str _ => true | .str _, .int _ => true | .bl _, .str _ => true | .str _, .bl _ => true
  | _, _ => false
def rEq : R2 := fun x y H Q => scal x y = true ∧ Q (.bl (decide (x = y))) H
def rNe : R2 := fun x y H Q => scal x y = true ∧ Q (.bl (!decide (x = y))) H

theorem dec_int {i j : Int} : decide (V.int i = V.int j) = (i == j) := by
  rw [Bool.eq_iff_iff]
  simp
theorem dec_bl {i j : Bool} : decide (V.bl i = V.bl j) = (i == j) := by
  rw [Bool.eq_iff_iff]
  simp
theorem dec_str {i j : Str} : decide (V.str i = V.str j) = (i == j) := by
  rw [Bool.eq_iff_iff]
  simp
theorem dec_byt {i j : Array UInt8} : decide (V.byt i = V.byt j) = (i.toList == j.toList) := by
  rw [Bool.eq_iff_iff]
  cases i
  cases j
  simp

section
variable {X : Cx} {a b c : Expr} {ta tb tc : TE} {pos : Pos}
theorem fin_bl {pins : List (Addr × Obj)} {σ : St} {H : Hp} {s : Shared} {Q : VK} {k k' : Bool} (I : Inv X pins σ H s) (q : Q (.bl k) H) (e : k = k') : EP X pins σ Q (.bool k') s := by
  subst e
  exact ⟨.bl k, H, I, rfl, q⟩
theorem op_eq : OpR X (compareOp .Eq) rEq := by
  intro pins s σ H x y v u Q I rx ry h
  obtain ⟨hs, q⟩ := h
  cases x with
  | non =>
    cases rx
    cases y with
    | non => cases ry; exact PySem.EqNone.eq_none_none (fin_bl I q (by simp))
    | bl j => cases ry; exact PySem.EqNone.eq_none_bool (fin_bl I q (by simp))
    | int j => obtain ⟨t', rfl⟩ := ry; exact PySem.EqNone.eq_none_int (fin_bl I q (by simp))
    | str j => obtain ⟨t', rfl⟩ := ry; exact PySem.EqNone.eq_none_str (fin_bl I q (by simp))
    | _ => exact absurd (show false = true from hs) Bool.false_ne_true
  | bl i =>
    cases rx
    cases y with
    | non => cases ry; exact PySem.EqNone.eq_bool_none (fin_bl I q (by simp))
    | bl j => cases ry; exact eq_bool (fin_bl I q dec_bl)
    | str j => obtain ⟨t', rfl⟩ := ry; exact PySem.EqMixed.eq_bool_str (fin_bl I q (by simp))
    | _ => exact absurd (show false = true from hs) Bool.false_ne_true
  | int i =>
    obtain ⟨t, rfl⟩ := rx
    cases y with
    | non => cases ry; exact PySem.EqNone.eq_int_none (fin_bl I q (by simp))
    | int j => obtain ⟨t', rfl⟩ := ry; exact eq_int (fin_bl I q dec_int)
    | str j => obtain ⟨t', rfl⟩ := ry; exact PySem.EqMixed.eq_int_str (fin_bl I q (by simp))
    | _ => exact absurd (show false = true from hs) Bool.false_ne_true
  | str i =>
    obtain ⟨t, rfl⟩ := rx
    cases y with
    | non => cases ry; exact PySem.EqNone.eq_str_none (fin_bl I q (by simp))
    | bl j => cases ry; exact PySem.EqMixed.eq_str_bool (fin_bl I q (by simp))
    | int j => obtain ⟨t', rfl⟩ := ry; exact PySem.EqMixed.eq_str_int (fin_bl I q (by simp))
    | str j => obtain ⟨t', rfl⟩ := ry; exact eq_str (fin_bl I q dec_str)
    | _ => exact absurd (show false = true from hs) Bool.false_ne_true
  | byt i =>
    obtain ⟨t, rfl⟩ := rx
    cases y with
    | byt j => obtain ⟨t', rfl⟩ := ry; exact PySem.W.eq_bytes (fin_bl I q dec_byt)
    | _ => exact absurd (show false = true from hs) Bool.false_ne_true
  | _ => cases y <;> exact absurd (show false = true from hs) Bool.false_ne_true
theorem op_ne : OpR X (compareOp .NotEq) rNe := by
  intro pins s σ H x y v u Q I rx ry h
  obtain ⟨hs, q⟩ := h
  cases x with
  | non =>
    cases rx
    cases y with
    | non => cases ry; exact PySem.EqNone.ne_none_none (fin_bl I q (by simp))
    | bl j => cases ry; exact PySem.EqNone.ne_none_bool (fin_bl I q (by simp))
    | int j => obtain ⟨t', rfl⟩ := ry; exact PySem.EqNone.ne_none_int (fin_bl I q (by simp))
    | str j => obtain ⟨t', rfl⟩ := ry; exact PySem.EqNone.ne_none_str (fin_bl I q (by simp))
    | _ => exact absurd (show false = true from hs) Bool.false_ne_true
  | bl i =>
    cases rx
    cases y with
    | non => cases ry; exact PySem.EqNone.ne_bool_none (fin_bl I q (by simp))
    | bl j => cases ry; exact ne_bool (fin_bl I q (congrArg not dec_bl))
    | str j => obtain ⟨t', rfl⟩ := ry; exact PySem.EqMixed.ne_bool_str (fin_bl I q (by simp))
    | _ => exact absurd (show false = true from hs) Bool.false_ne_true
  | int i =>
    obtain ⟨t, rfl⟩ := rx
    cases y with
    | non => cases ry; exact PySem.EqNone.ne_int_none (fin_bl I q (by simp))
    | int j => obtain ⟨t', rfl⟩ := ry; exact ne_int (fin_bl I q (congrArg not dec_int))
    | str j => obtain ⟨t', rfl⟩ := ry; exact PySem.EqMixed.ne_int_str (fin_bl I q (by simp))
    | _ => exact absurd (show false = true from hs) Bool.false_ne_true
  | str i =>
    obtain ⟨t, rfl⟩ := rx
    cases y with
    | non => cases ry; exact PySem.EqNone.ne_str_none (fin_bl I q (by simp))
    | bl j => cases ry; exact PySem.EqMixed.ne_str_bool (fin_bl I q (by simp))
    | int j => obtain ⟨t', rfl⟩ := ry; exact PySem.EqMixed.ne_str_int (fin_bl I q (by simp))
    | str j => obtain ⟨t', rfl⟩ := ry; exact ne_str (fin_bl I q (congrArg not dec_str))
    | _ => exact absurd (show false = true from hs) Bool.false_ne_true
  | byt i =>
    obtain ⟨t, rfl⟩ := rx
    cases y with
    | byt j => obtain ⟨t', rfl⟩ := ry; exact PySem.W.ne_bytes (fin_bl I q (congrArg not dec_byt))
    | _ => exact absurd (show false = true from hs) Bool.false_ne_true
  | _ => cases y <;> exact absurd (show false = true from hs) Bool.false_ne_true

theorem op_lt : OpR X (compareOp .Lt) (rI0 fun i j => .bl (decide (i < j))) := opB0 fun _ _ _ _ _ _ _ q => lt_int q
theorem op_le : OpR X (compareOp .LtE) (rI0 fun i j => .bl (decide (i ≤ j))) := opB0 fun _ _ _ _ _ _ _ q => le_int q
theorem op_gt : OpR X (compareOp .Gt) (rI0 fun i j => .bl (decide (j < i))) := opB0 fun _ _ _ _ _ _ _ q => gt_int q
theorem op_ge : OpR X (compareOp .GtE) (rI0 fun i j => .bl (decide (j ≤ i))) := opB0 fun _ _ _ _ _ _ _ q => ge_int q
theorem op_lt_str : OpR X (compareOp .Lt) (fun x y H Q => ∃ i j, x = .str i ∧ y = .str j ∧ Q (.bl (decide (i.cps.toList < j.cps.toList))) H) := by
  intro pins s σ H x y v u Q I rx ry h
  obtain ⟨i, j, rfl, rfl, q⟩ := h
  obtain ⟨t, rfl⟩ := rx
  obtain ⟨t', rfl⟩ := ry
  exact lt_str (fin_bl I q rfl)
/-- the one string within the other -/
theorem op_in_str : OpR X (compareOp .In) (fun x y H Q => ∃ i j, x = .str i ∧ y = .str j ∧ Q (.bl (!(Builtin.Str.occurrences j i 0 j.length 1).isEmpty)) H) := by
  intro pins s σ H x y v u Q I rx ry h
  obtain ⟨i, j, rfl, rfl, q⟩ := h
  obtain ⟨t, rfl⟩ := rx
  obtain ⟨t', rfl⟩ := ry
  exact in_str (fin_bl I q rfl)

/-- is None, is not None: the right side a value none -/
theorem op_isN : OpR X (compareOp .Is) (fun x y H Q => y = .non ∧ Q (.bl (decide (x = .non))) H) := by
  intro pins s σ H x y v u Q I rx ry h
  obtain ⟨rfl, q⟩ := h
  cases ry
  refine is_none_gen (fin_bl I q ?_)
  cases x <;> first
    | (cases rx; rfl)
    | (obtain ⟨t, rfl⟩ := rx; rfl)
theorem op_notN : OpR X (compareOp .IsNot) (fun x y H Q => y = .non ∧ Q (.bl (!decide (x = .non))) H) := by
  intro pins s σ H x y v u Q I rx ry h
  obtain ⟨rfl, q⟩ := h
  cases ry
  refine isnot_none_gen (fin_bl I q ?_)
  cases x <;> first
    | (cases rx; rfl)
    | (obtain ⟨t, rfl⟩ := rx; rfl)

theorem op_notin_str : OpR X (compareOp .NotIn) (fun x y H Q => ∃ i j, x = .str i ∧ y = .str j ∧ Q (.bl (!(!(Builtin.Str.occurrences j i 0 j.length 1).isEmpty))) H) := by
  intro pins s σ H x y v u Q I rx ry h
  obtain ⟨i, j, rfl, rfl, q⟩ := h
  obtain ⟨t, rfl⟩ := rx
  obtain ⟨t', rfl⟩ := ry
  exact notIn_str (fin_bl I q rfl)
/-- is, is not of two objects that are tracked lists or instances -/
def isObj : HO → Bool
  | .lst _ => true
  | .ins _ _ _ => true
  | _ => false
theorem obj_there {pins : List (Addr × Obj)} {s : Shared} {σ : St} {H : Hp} {a : Addr} {o : HO} (I : Inv X pins σ H s) (h : H a = some o) (p : isObj o = true) : ∃ ob, s.heap.get? a = some ob ∧ ob.cls ≠ .type "tuple" := by
  cases o with
  | lst xs =>
    obtain ⟨_, its, n, _, e⟩ : xs.length ≤ sizeLine ∧ ∃ (its : List Value) (n : Nat), Vals xs its ∧ s.heap.get? a = some { cls := .type "list", data := .seq its.toArray n } := I.hok a _ h
    exact ⟨_, e, (by show Value.type "list" ≠ .type "tuple"; decide +kernel)⟩
  | ins C dx fs =>
    have x := I.hok a _ h
    obtain ⟨_, _, _, e, _⟩ := x
    exact ⟨_, e, (by show Value.ref C ≠ .type "tuple"; exact fun z => by cases z)⟩
  | _ => exact absurd (show false = true from p) Bool.false_ne_true
theorem op_is_ref : OpR X (compareOp .Is) (fun x y H Q => ∃ a b oa ob, x = .ref a ∧ y = .ref b ∧ H a = some oa ∧ isObj oa = true ∧ H b = some ob ∧ isObj ob = true ∧ Q (.bl (decide (a = b))) H) := by
  intro pins s σ H x y v u Q I rx ry h
  obtain ⟨a, b, oa, ob, rfl, rfl, ha, pa, hb, pb, q⟩ := h
  cases rx
  cases ry
  obtain ⟨o1, e1, n1⟩ := obj_there I ha pa
  obtain ⟨o2, e2, _⟩ := obj_there I hb pb
  by_cases z : a = b
  · subst z
    exact wpAny_is_ref_self (fin_bl I q (by simp))
  · exact wpAny_is_ref_other z e1 e2 n1 (fin_bl I q (by simp [z]))
theorem op_isnot_ref : OpR X (compareOp .IsNot) (fun x y H Q => ∃ a b oa ob, x = .ref a ∧ y = .ref b ∧ H a = some oa ∧ isObj oa = true ∧ H b = some ob ∧ isObj ob = true ∧ Q (.bl (!decide (a = b))) H) := by
  intro pins s σ H x y v u Q I rx ry h
  obtain ⟨a, b, oa, ob, rfl, rfl, ha, pa, hb, pb, q⟩ := h
  cases rx
  cases ry
  obtain ⟨o1, e1, n1⟩ := obj_there I ha pa
  obtain ⟨o2, e2, _⟩ := obj_there I hb pb
  by_cases z : a = b
  · subst z
    exact wpAny_isNot_ref_self (fin_bl I q (by simp))
  · exact wpAny_isNot_ref_other z e1 e2 n1 (fin_bl I q (by simp [z]))

/-- two rules for one operation: by cases -/
theorem OpR.or {f : Value → Value → Sem Value} {r r' : R2} (h : OpR X f r) (h' : OpR X f r') : OpR X f (fun x y H Q => r x y H Q ∨ r' x y H Q) := by
  intro pins s σ H x y v u Q I rx ry q
  rcases q with q | q
  · exact h pins s σ H x y v u Q I rx ry q
  · exact h' pins s σ H x y v u Q I rx ry q

theorem nomark (b : Expr) {op : CmpOp} (h : op ≠ .In := by decide) (h2 : op ≠ .NotIn := by decide) : behindInMarks op b = false := by
  have e1 : (op == CmpOp.In) = false := by cases op <;> first | rfl | exact absurd rfl h
  have e2 : (op == CmpOp.NotIn) = false := by cases op <;> first | rfl | exact absurd rfl h2
  cases b <;> simp [behindInMarks, e1, e2]
/-- a comparison as a value; hm: nomark b, or (for in, not in) by with_unfolding_all rfl -/
theorem pe_cmpR {op : CmpOp} {r : R2} (ho : OpR X (compareOp op) r) (ha : PE X a ta) (hb : PE X b tb) (hm : behindInMarks op b = false) : PE X (.Compare a [op] [b] pos) (tOp r ta tb) := by
  intro pins s σ H Q I h
  exact wpAny_Compare1 (binT ha hb I h fun v u s2 x y H2 I2 rx ry q => ho pins s2 σ H2 x y v u Q I2 rx ry q) hm
/-- a reading of a value as a test -/
def tTest (t : TE) : TT := fun σ H Q => t σ H fun x H' => ∃ k, x = .bl k ∧ Q k H'
theorem pt_cmpR {op : CmpOp} {r : R2} (ho : OpR X (compareOp op) r) (ha : PE X a ta) (hb : PE X b tb) (hm : behindInMarks op b = false) : PT X (.Compare a [op] [b] pos) (tTest (tOp r ta tb)) := by
  intro pins s σ H Q I h
  refine wpAny_isTrue_Compare1 (thn (ha pins s σ H _ I h) fun v s1 ⟨x, H1, I1, r1, q1⟩ => thn (hb pins s1 σ H1 _ I1 q1) fun u s2 ⟨y, H2, I2, r2, q2⟩ =>
    thn (ho pins s2 σ H2 x y v u _ I2 r1 r2 q2) fun c s3 ⟨z, H3, I3, r3, k, e, q3⟩ => ?_) hm
  subst e
  cases r3
  exact wpAny_truthy_bool ⟨H3, I3, q3⟩
/-- a op1 b op2 c -/
def tChain (r r' : R2) (ta tb tc : TE) : TE := fun σ H Q => ta σ H fun x H1 => tb σ H1 fun y H2 => r x y H2 fun z H3 => ∃ k, z = .bl k ∧
  (if k = true then tc σ H3 fun w' H4 => r' y w' H4 Q else Q (.bl false) H3)
theorem pe_chain {op op' : CmpOp} {r r' : R2} (ho : OpR X (compareOp op) r) (ho' : OpR X (compareOp op') r') (ha : PE X a ta) (hb : PE X b tb) (hc : PE X c tc)
    (hm : lastMarks [op, op'] [b, c] = false := by with_unfolding_all rfl) : PE X (.Compare a [op, op'] [b, c] pos) (tChain r r' ta tb tc) := by
  intro pins s σ H Q I h
  refine Compare_chain (thn (ha pins s σ H _ I h) fun v s1 ⟨x, H1, I1, r1, q1⟩ => chain_link (thn (hb pins s1 σ H1 _ I1 q1) fun u s2 ⟨y, H2, I2, r2, q2⟩ =>
    thn (ho pins s2 σ H2 x y v u _ I2 r1 r2 q2) fun d s3 ⟨z, H3, I3, r3, k, e, q3⟩ => ?_)) hm
  subst e
  cases r3
  refine wpAny_truthy_bool ?_
  cases k with
  | false => exact ite_ff ⟨.bl false, H3, I3, rfl, q3⟩
  | true => exact ite_tt (chain_last (thn (hc pins s3 σ H3 _ I3 q3) fun w' s4 ⟨z', H4, I4, r4, q4⟩ => ho' pins s4 σ H4 y z' u w' Q I4 r2 r4 q4))
theorem pt_chain {op op' : CmpOp} {r r' : R2} (ho : OpR X (compareOp op) r) (ho' : OpR X (compareOp op') r') (ha : PE X a ta) (hb : PE X b tb) (hc : PE X c tc)
    (hm : lastMarks [op, op'] [b, c] = false := by with_unfolding_all rfl) : PT X (.Compare a [op, op'] [b, c] pos) (tTest (tChain r r' ta tb tc)) := by
  intro pins s σ H Q I h
  refine isTrue_chain (thn (ha pins s σ H _ I h) fun v s1 ⟨x, H1, I1, r1, q1⟩ => test_link (thn (hb pins s1 σ H1 _ I1 q1) fun u s2 ⟨y, H2, I2, r2, q2⟩ =>
    thn (ho pins s2 σ H2 x y v u _ I2 r1 r2 q2) fun d s3 ⟨z, H3, I3, r3, k, e, q3⟩ => ?_)) hm
  subst e
  cases r3
  refine wpAny_truthy_bool ?_
  cases k with
  | false =>
    obtain ⟨k', e', q'⟩ := q3
    cases e'
    exact ite_ff ⟨H3, I3, q'⟩
  | true =>
    refine ite_tt (test_last (thn (hc pins s3 σ H3 _ I3 q3) fun w' s4 ⟨z', H4, I4, r4, q4⟩ => thn (ho' pins s4 σ H4 y z' u w' _ I4 r2 r4 q4) fun d' s5 ⟨z2, H5, I5, r5, k2, e2, q5⟩ => ?_))
    subst e2
    cases r5
    exact wpAny_truthy_bool ⟨H5, I5, q5⟩

/-! ### truth -/
/-- a value's truth by the abstract heap -/
def TruV (K : PySem.W.Frag) (x : V) (H : Hp) (k : Bool) : Prop :=
  match x with
  | .non => k = false
  | .bl b => k = b
  | .int i => k = (i != 0)
  | .str y => y.length ≤ sizeLine ∧ k = ((y.length : Int) != 0)
  | .byt y => y.size ≤ sizeLine ∧ k = ((y.size : Int) != 0)
  | .ref p => (∃ xs, SqL K H p xs ∧ k = !xs.isEmpty) ∨ (∃ xs, SqT K H p xs ∧ k = !xs.isEmpty) ∨ ∃ kvs, H p = some (.dK kvs) ∧ k = !kvs.isEmpty
  | _ => False
theorem isEmpty_kv {κ : Type} {kvs : List (κ × V)} {vs : List (κ × Value)} (r : KV kvs vs) : (!vs.isEmpty) = !kvs.isEmpty := by
  cases r <;> rfl
theorem isEmpty_of {xs : List V} {its : List Value} (r : Vals xs its) : (!its.toArray.isEmpty) = !xs.isEmpty := by
  cases r <;> simp
theorem line63 : (sizeLine : Nat) < 2 ^ 63 := by rw [sizeLine_eq]; decide
theorem tru_ok : TruR X (fun x H Q => ∃ k, TruV X.K x H k ∧ Q k H) := by
  intro pins s σ H x v Q I rx h
  obtain ⟨k, e, q⟩ := h
  have hl := line63
  have hs : sizeLine = 16777216 := sizeLine_eq
  cases x with
  | non =>
    cases rx
    have e' : k = false := e
    subst e'
    exact truthy_none ⟨H, I, q⟩
  | bl b =>
    cases rx
    have e' : k = b := e
    subst e'
    exact wpAny_truthy_bool ⟨H, I, q⟩
  | int i =>
    obtain ⟨t, rfl⟩ := rx
    have e' : k = (i != 0) := e
    subst e'
    exact PySem.P.truthy_int ⟨H, I, q⟩
  | str y =>
    obtain ⟨t, rfl⟩ := rx
    obtain ⟨hy, e'⟩ : y.length ≤ sizeLine ∧ k = ((y.length : Int) != 0) := e
    subst e'
    exact PySem.P.truthy_str (by omega) ⟨H, I.tok _, q⟩
  | byt y =>
    obtain ⟨t, rfl⟩ := rx
    obtain ⟨hy, e'⟩ : y.size ≤ sizeLine ∧ k = ((y.size : Int) != 0) := e
    subst e'
    exact PySem.W.truthy_bytes (by omega) ⟨H, I.tok _, q⟩
  | ref p =>
    cases rx
    have e' : (∃ xs, SqL X.K H p xs ∧ k = !xs.isEmpty) ∨ (∃ xs, SqT X.K H p xs ∧ k = !xs.isEmpty) ∨ ∃ kvs, H p = some (.dK kvs) ∧ k = !kvs.isEmpty := e
    rcases e' with ⟨xs, hx, e'⟩ | ⟨xs, hx, e'⟩ | ⟨kvs, hx, e'⟩
    · subst e'
      obtain ⟨its, r, pl, hz⟩ := I.list hx
      have hlen := r.length
      exact wpAny_truthy_list pl.isList (by simp only [List.size_toArray]; omega) ⟨H, I.tok _, by rw [isEmpty_of r]; exact q⟩
    · subst e'
      obtain ⟨its, r, pl, hz⟩ := I.tuple hx
      have hlen := r.length
      exact truthy_tuple pl (by simp only [List.size_toArray]; omega) ⟨H, I.tok _, by rw [isEmpty_of r]; exact q⟩
    · subst e'
      obtain ⟨hz, hS, vs, r, m⟩ : kvs.length ≤ sizeLine ∧ (p == sysModules) = false ∧ ∃ vs, KV kvs vs ∧ s.heap.DictOf (mixKind X.prog X.w) p vs := I.hok p _ hx
      have hlen : kvs.length = vs.length := Paired.length r
      exact wpAny_truthy_dict hS m (by omega) ⟨H, I.tok _, by rw [isEmpty_kv r]; exact q⟩
  | _ => exact (show False from e).elim
/-- any expression whose test is its value's truth (a name, a call, a subscript, a field ..: he by fun _ => rfl) -/
theorem pt_truth (ha : PE X a ta) (he : ∀ whole, isTrue a X.env whole = (do let v ← whole; standAt a.pos; holding [v] (truthy v))) :
    PT X a (fun σ H Q => ta σ H fun x H' => ∃ k, TruV X.K x H' k ∧ Q k H') := by
  intro pins s σ H Q I h
  exact isTrue_plain (thn (ha pins s σ H _ I h) fun v s1 ⟨x, H1, I1, r1, q1⟩ => tru_ok pins s1 σ H1 x v Q I1 r1 q1) (he _)

/-! ### strs and bytes -/
theorem pe_byt {x : List UInt8} {k : Nat} : PE X (.Constant (.bytes x) k pos) (fun _ H Q => Q (.byt x.toArray) H) := fun _ _ _ H _ I h => PySem.W.Constant_bytes ⟨.byt x.toArray, H, I.tok _, ⟨_, rfl⟩, h⟩
theorem op_add_str : OpR X (binaryOp .Add) (fun x y H Q => ∃ i j, x = .str i ∧ y = .str j ∧ i.length + j.length ≤ sizeLine ∧ Q (.str (i ++ j)) H) := by
  intro pins s σ H x y v u Q I rx ry h
  obtain ⟨i, j, rfl, rfl, hz, q⟩ := h
  obtain ⟨t, rfl⟩ := rx
  obtain ⟨t', rfl⟩ := ry
  exact add_str (fun t' tk => ⟨.str (i ++ j), H, I.tok _, ⟨_, rfl⟩, q⟩) hz
theorem iop_add_str : OpR X (inplaceOp .Add) (fun x y H Q => ∃ i j, x = .str i ∧ y = .str j ∧ i.length + j.length ≤ sizeLine ∧ Q (.str (i ++ j)) H) := by
  intro pins s σ H x y v u Q I rx ry h
  obtain ⟨i, j, rfl, rfl, hz, q⟩ := h
  obtain ⟨t, rfl⟩ := rx
  obtain ⟨t', rfl⟩ := ry
  exact iadd_str (fun t' tk => ⟨.str (i ++ j), H, I.tok _, ⟨_, rfl⟩, q⟩) hz
theorem op_add_byt : OpR X (binaryOp .Add) (fun x y H Q => ∃ i j, x = .byt i ∧ y = .byt j ∧ i.size + j.size ≤ 16777216 ∧ Q (.byt (i ++ j)) H) := by
  intro pins s σ H x y v u Q I rx ry h
  obtain ⟨i, j, rfl, rfl, hz, q⟩ := h
  obtain ⟨t, rfl⟩ := rx
  obtain ⟨t', rfl⟩ := ry
  exact PySem.W.KBy.add_bytes hz (fun t' tk => ⟨.byt (i ++ j), H, I.tok _, ⟨_, rfl⟩, q⟩)

def PlainIxT (b : Expr) : Prop := ∀ o i, subscripted b false o i = operate [o, i] (getItem o i)
/-- s[i], 0 ≤ i < len -/
theorem pe_item_str (ha : PE X a ta) (hb : PE X b tb) (hs : PlainIxT b) :
    PE X (.Subscript a b pos) (tOp (fun x y H Q => ∃ z i c, x = .str z ∧ y = .int i ∧ 0 ≤ i ∧ i < 2 ^ 63 ∧ i < z.length ∧ z.cps[i.toNat]? = some c ∧ Q (.str ⟨#[c]⟩) H) ta tb) := by
  intro pins s σ H Q I h
  refine Subscript_ (binT ha hb I h fun v u s2 x y H2 I2 rx ry q => ?_)
  obtain ⟨z, i, c, rfl, rfl, h0, h63, h1, hc, q⟩ := q
  obtain ⟨t, rfl⟩ := rx
  obtain ⟨t', rfl⟩ := ry
  have e : seqIndex? i z.length = some i.toNat := PySem.StrLaws.seqIndex_nonneg h0 h1
  exact tail_any (typeIs_str s2 z t) slot_str_getitem.lookup (getItem_str (c := c) (by
    have e1 : decide (i < -(2 ^ 63 : Int)) = false := decide_eq_false (by omega)
    have e2 : decide (i ≥ 2 ^ 63) = false := decide_eq_false (by omega)
    rw [e1, e2] <;> rfl) (by rw [e]; exact hc) ⟨.str ⟨#[c]⟩, H2, I2.tok _, ⟨_, rfl⟩, q⟩) (hs _ _)
/-- b[i], 0 ≤ i < len -/
theorem pe_item_byt (ha : PE X a ta) (hb : PE X b tb) (hs : PlainIxT b) :
    PE X (.Subscript a b pos) (tOp (fun x y H Q => ∃ (z : List UInt8) (i : Int), x = .byt z.toArray ∧ y = .int i ∧ z.length ≤ sizeLine ∧ 0 ≤ i ∧ i < z.length ∧ Q (.int ((z.getD i.toNat 0).toNat : Nat)) H) ta tb) := by
  intro pins s σ H Q I h
  refine Subscript_ (binT ha hb I h fun v u s2 x y H2 I2 rx ry q => ?_)
  obtain ⟨z, i, rfl, rfl, hz, h0, h1, q⟩ := q
  obtain ⟨t, rfl⟩ := rx
  obtain ⟨t', rfl⟩ := ry
  have hl : sizeLine = 16777216 := sizeLine_eq
  exact tail_any (PySem.W.typeIs_bytes s2 z.toArray t) PySem.W.FB.slot_bytes_getitem.lookup (PySem.W.getItem_bytes (by omega) h0 h1 ⟨.int ((z.getD i.toNat 0).toNat : Nat), H2, I2.tok _, ⟨_, rfl⟩, q⟩) (hs _ _)

/-! ### scalar builtins, by CallR -/
theorem vals1 {x : V} {us : List Value} (r : Vals [x] us) : ∃ u, us = [u] ∧ RelV x u := by
  cases r with
  | cons r1 r2 => cases r2; exact ⟨_, rfl, r1⟩
theorem vals2 {x y : V} {us : List Value} (r : Vals [x, y] us) : ∃ u w', us = [u, w'] ∧ RelV x u ∧ RelV y w' := by
  cases r with
  | cons r1 r2 =>
    cases r2 with
    | cons r3 r4 => cases r4; exact ⟨_, _, rfl, r1, r3⟩
theorem call_abs : CallR X (.builtin "abs") (fun xs H Q => ∃ i, xs = [.int i] ∧ Q (.int (if i < 0 then -i else i)) H) := by
  intro pins s σ H xs us Q I r h
  obtain ⟨i, rfl, q⟩ := h
  obtain ⟨u, rfl, t, rfl⟩ := vals1 r
  exact call_abs_int fun u tk => ⟨.int (if i < 0 then -i else i), H, I.tok _, ⟨_, rfl⟩, q⟩
theorem call_max2 (hc : X.calm = true) : CallR X (.builtin "max") (fun xs H Q => ∃ i j, xs = [.int i, .int j] ∧ Q (.int (if j > i then j else i)) H) := by
  intro pins s σ H xs us Q I r h
  obtain ⟨i, j, rfl, q⟩ := h
  obtain ⟨u, w', rfl, ⟨t, rfl⟩, ⟨t', rfl⟩⟩ := vals2 r
  refine max_two_ints (I.ok.hd hc) fun h' tk k => ⟨_, H, I.kept k, ?_, q⟩
  by_cases hj : j > i
  · rw [if_pos hj, if_pos hj]; exact ⟨_, rfl⟩
  · rw [if_neg hj, if_neg hj]; exact ⟨_, rfl⟩
theorem call_min2 (hc : X.calm = true) : CallR X (.builtin "min") (fun xs H Q => ∃ i j, xs = [.int i, .int j] ∧ Q (.int (if j < i then j else i)) H) := by
  intro pins s σ H xs us Q I r h
  obtain ⟨i, j, rfl, q⟩ := h
  obtain ⟨u, w', rfl, ⟨t, rfl⟩, ⟨t', rfl⟩⟩ := vals2 r
  refine min_two_ints (I.ok.hd hc) fun h' tk k => ⟨_, H, I.kept k, ?_, q⟩
  by_cases hj : j < i
  · rw [if_pos hj, if_pos hj]; exact ⟨_, rfl⟩
  · rw [if_neg hj, if_neg hj]; exact ⟨_, rfl⟩
theorem call_int1 : CallR X (.type "int") (fun xs H Q => (∃ i, xs = [.int i] ∧ Q (.int i) H) ∨ ∃ k, xs = [.bl k] ∧ Q (.int (if k then 1 else 0)) H) := by
  intro pins s σ H xs us Q I r h
  rcases h with ⟨i, rfl, q⟩ | ⟨k, rfl, q⟩
  · obtain ⟨u, rfl, t, rfl⟩ := vals1 r
    exact call_int_int ⟨.int i, H, I, ⟨_, rfl⟩, q⟩
  · obtain ⟨u, rfl, r1⟩ := vals1 r
    cases r1
    exact call_int_bool ⟨.int (if k then 1 else 0), H, I.tok _, ⟨_, rfl⟩, q⟩
theorem call_bool1 : CallR X (.type "bool") (fun xs H Q => (∃ i, xs = [.int i] ∧ Q (.bl (i != 0)) H) ∨ ∃ k, xs = [.bl k] ∧ Q (.bl k) H) := by
  intro pins s σ H xs us Q I r h
  rcases h with ⟨i, rfl, q⟩ | ⟨k, rfl, q⟩
  · obtain ⟨u, rfl, t, rfl⟩ := vals1 r
    exact call_bool_int ⟨.bl (i != 0), H, I, rfl, q⟩
  · obtain ⟨u, rfl, r1⟩ := vals1 r
    cases r1
    exact call_bool_bool ⟨.bl k, H, I, rfl, q⟩
theorem call_str_int : CallR X (.type "str") (fun xs H Q => ∃ i, xs = [.int i] ∧ i.natAbs.log2 < 1920 ∧ Q (.str (toString i)) H) := by
  intro pins s σ H xs us Q I r h
  obtain ⟨i, rfl, hz, q⟩ := h
  obtain ⟨u, rfl, t, rfl⟩ := vals1 r
  exact PySem.P.str_of_int hz ⟨.str _, H, I.tok _, ⟨_, rfl⟩, q⟩
theorem call_ord : CallR X (.builtin "ord") (fun xs H Q => ∃ x, xs = [.str x] ∧ x.length = 1 ∧ Q (.int (x.cps.getD 0 0 : Nat)) H) := by
  intro pins s σ H xs us Q I r h
  obtain ⟨x, rfl, hz, q⟩ := h
  obtain ⟨u, rfl, t, rfl⟩ := vals1 r
  exact ord_of_one hz ⟨.int _, H, I.tok _, ⟨_, rfl⟩, q⟩
theorem call_chr : CallR X (.builtin "chr") (fun xs H Q => ∃ i, xs = [.int i] ∧ 0 ≤ i ∧ i ≤ 1114111 ∧ Q (.str ⟨#[i.toNat]⟩) H) := by
  intro pins s σ H xs us Q I r h
  obtain ⟨i, rfl, h0, h1, q⟩ := h
  obtain ⟨u, rfl, t, rfl⟩ := vals1 r
  exact chr_of_range h0 h1 ⟨.str _, H, I.tok _, ⟨_, rfl⟩, q⟩
/-- len of a str, a bytes, a list, a tuple -/
def LenV (K : PySem.W.Frag) (x : V) (H : Hp) (n : Nat) : Prop :=
  match x with
  | .str y => y.length ≤ sizeLine ∧ n = y.length
  | .byt y => y.size ≤ sizeLine ∧ n = y.size
  | .ref p => (∃ xs, SqL K H p xs ∧ n = xs.length) ∨ ∃ xs, SqT K H p xs ∧ n = xs.length
  | _ => False
theorem call_len : CallR X (.builtin "len") (fun xs H Q => ∃ x n, xs = [x] ∧ LenV X.K x H n ∧ Q (.int n) H) := by
  intro pins s σ H xs us Q I r h
  obtain ⟨x, n, rfl, e, q⟩ := h
  obtain ⟨u, rfl, rx⟩ := vals1 r
  have hl := line63
  have hs : sizeLine = 16777216 := sizeLine_eq
  cases x with
  | str y =>
    obtain ⟨t, rfl⟩ := rx
    obtain ⟨hy, e'⟩ : y.length ≤ sizeLine ∧ n = y.length := e
    subst e'
    exact len_str (by omega) ⟨.int _, H, I.tok _, ⟨_, rfl⟩, q⟩
  | byt y =>
    obtain ⟨t, rfl⟩ := rx
    obtain ⟨hy, e'⟩ : y.size ≤ sizeLine ∧ n = y.size := e
    subst e'
    exact PySem.W.len_bytes (by omega) ⟨.int _, H, I.tok _, ⟨_, rfl⟩, q⟩
  | ref p =>
    cases rx
    have e' : (∃ xs, SqL X.K H p xs ∧ n = xs.length) ∨ ∃ xs, SqT X.K H p xs ∧ n = xs.length := e
    rcases e' with ⟨xs, hx, e'⟩ | ⟨xs, hx, e'⟩
    · subst e'
      obtain ⟨its, r', pl, hz⟩ := I.list hx
      have hlen := r'.length
      exact Calls.call_len_list pl.isList (by simp only [List.size_toArray]; omega) ⟨.int xs.length, H, I.tok _, ⟨_, by simp only [List.size_toArray]; rw [hlen]⟩, q⟩
    · subst e'
      obtain ⟨its, r', pl, hz⟩ := I.tuple hx
      have hlen := r'.length
      exact len_tuple pl (by simp only [List.size_toArray]; omega) ⟨.int xs.length, H, I.tok _, ⟨_, by simp only [List.size_toArray]; rw [hlen]⟩, q⟩
  | _ => exact (show False from e).elim
/-- divmod: a new tuple -/
theorem call_divmod : CallR X (.builtin "divmod") (fun xs H Q => ∃ i j, xs = [.int i, .int j] ∧ CDiv i j ∧ ∀ p, H p = none → Q (.ref p) (upd H p (.tup [.int (i / j), .int (i % j)]))) := by
  intro pins s σ H xs us Q I r h
  obtain ⟨i, j, rfl, ⟨h1, h2⟩, q⟩ := h
  obtain ⟨u, w', rfl, ⟨t, rfl⟩, ⟨t', rfl⟩⟩ := vals2 r
  refine divmod_int (by omega) ?_ (.inl (PyProof.noPylong_small (by omega)))
  rw [Int.fdiv_eq_ediv_of_nonneg i (by omega), Int.fmod_eq_emod_of_nonneg i (by omega)]
  have hn : H s.heap.objs.size = none := I.hok.fresh (Nat.le_refl _)
  refine ⟨.ref s.heap.objs.size, _, ?_, rfl, q _ hn⟩
  refine I.laid (fun b o e => Heap.get?_push_of_some _ e) (Nat.le_refl _) ⟨by simp only [List.length_cons, List.length_nil]; rw [sizeLine_eq]; decide, [.int (i / j) s.toks, .int (i % j) (s.toks + 1)], .cons ⟨_, rfl⟩ (.cons ⟨_, rfl⟩ .nil), ?_⟩
  exact ⟨_, Heap.get?_push_size s.heap rfl, rfl, 0, rfl⟩
end
end L2

namespace L2
open PySem PySem.Spec PyProof.Rows

/-! ### an instance, its attributes a map -/
structure ObjM (h : Heap) (x dx C : Addr) (mA : Str → Option Value) : Prop where
  obj : h.get? x = some (PySem.W.instObj C dx)
  ns : h.Ns1 dx mA
  ne : dx ≠ x

theorem lookIn_ns {h : Heap} {dx : Addr} {mA : Str → Option Value} (n : h.Ns1 dx mA) : ∃ od, h.get? dx = some od ∧ ∀ name, PySem.W.lookIn name od = some (mA name) := by
  obtain ⟨o, es, ep, ho, hd, hk, _, hm⟩ := n
  refine ⟨o, ho, fun name => ?_⟩
  have e := hm name
  unfold nsFind findBy at e
  rw [← Array.find?_toList] at e
  unfold PySem.W.lookIn
  rw [hd]
  dsimp only
  split
  · rename_i y q
    rw [q] at e
    exact congrArg some e
  · rename_i q
    rw [q] at e
    have a : es.toList.any (·.refKey) = false := by
      rw [List.any_eq_false]
      intro y hy
      obtain ⟨z, t, hkey⟩ := hk y (Array.mem_toList_iff.mp hy)
      simp [DictEntry.refKey, hkey]
    have a' : ¬ es.toList.any (·.refKey) = true := by rw [a]; exact Bool.false_ne_true
    rw [if_neg a']
    exact congrArg some e

theorem ObjM.look {h : Heap} {x dx C : Addr} {mA : Str → Option Value} (I : ObjM h x dx C mA) : ∃ od, PySem.W.InstAt h x (PySem.W.instObj C dx) C (some od) ∧ ∀ name, PySem.W.lookIn name od = some (mA name) :=
  let ⟨od, ho, hl⟩ := lookIn_ns I.ns
  ⟨od, ⟨I.obj, rfl, rfl, ho⟩, hl⟩

section
variable {prog : Program} {w : World} {A : Around} {E : Value → Shared → Prop} {s : Shared} {K : PySem.W.Frag} {x dx C f : Addr} {mA : Str → Option Value} {name : Str} {v : Value}

theorem get_map {expr : Bool} {Q : Value → Shared → Prop} (X : K.In s.heap) (I : ObjM s.heap x dx C mA) (hg : PySem.W.plainGet K C name = true) (hh : PySem.W.hasDictIn K C = true)
    (ha : PySem.W.findIn K (.ref C) name = some none) (hv : mA name = some v) (hv' : PySem.W.handedIn v = true) (h : Q v { s with toks := s.toks + 1 }) :
    wpAny (model prog w) A (getAttr (.ref x) name expr) Q E s := by
  obtain ⟨od, J, hl⟩ := I.look
  exact PySem.W.get_value X J (PySem.W.plainGet_of hg).1 (PySem.W.findObj_own hh ha rfl (by rw [hl, hv])) hv' h

theorem get_const {expr : Bool} {a : Value} {Q : Value → Shared → Prop} (X : K.In s.heap) (I : ObjM s.heap x dx C mA) (hg : PySem.W.plainGet K C name = true) (hh : PySem.W.hasDictIn K C = true)
    (ha : PySem.W.findIn K (.ref C) name = some (some a)) (hn : PySem.W.specialIn K a "__get__" = some none) (hc : PySem.W.copiedNames.contains name = false) (hv : mA name = none) (hv' : PySem.W.handedIn a = true)
    (h : Q a { s with toks := s.toks + 1 }) : wpAny (model prog w) A (getAttr (.ref x) name expr) Q E s := by
  obtain ⟨od, J, hl⟩ := I.look
  exact PySem.W.get_value X J (PySem.W.plainGet_of hg).1 (PySem.W.findObj_cls hh ha hn hv' hc (by rw [hl, hv])) hv' h

theorem get_meth {pl : Sem Bool} {Q : Value × List Value → Shared → Prop} (X : K.In s.heap) (I : ObjM s.heap x dx C mA) (hg : PySem.W.plainGet K C name = true)
    (hf : PySem.W.findIn K (.ref C) name = some (some (.ref f))) (ht : PySem.W.isFn K (.ref f) = true) (hv : mA name = none) (h : Q (.ref f, [.ref x]) s) :
    wpAny (model prog w) A (getMethod (.ref x) name pl) Q E s := by
  obtain ⟨od, J, hl⟩ := I.look
  exact PySem.W.method_fn X J (PySem.W.plainGet_of hg).1 (PySem.W.plainGet_of hg).2 hf (beq_iff_eq.mp ht) (by show (PySem.W.lookIn name od).map (·.isSome) = some false; rw [hl, hv]; rfl) h

theorem set_map {ns : List Str} {Q : Unit → Shared → Prop} (X : K.In s.heap) (I : ObjM s.heap x dx C mA)
    (hs : PySem.W.findIn K (.ref C) "__setattr__" = some (some (.builtin "object.__setattr__"))) (hp : PySem.W.plainOver K C = true) (ht : PySem.W.takerIn K C name = some none) (hh : PySem.W.hasDictIn K C = true)
    (hw : PySem.Within mA ns) (hsz : ns.length ≤ sizeLine)
    (h : ∀ h', ObjM h' x dx C (fun y => if y = name then some v else mA y) → Heap.SameBut dx s.heap h' → Q () { s with heap := h', toks := s.toks + 2 }) :
    wpAny (model prog w) A (setAttr (.ref x) name v) Q E s := by
  obtain ⟨od, J, hl⟩ := I.look
  refine PySem.W.set_plain X J hs (PySem.W.osa_open (s := { s with toks := s.toks + 1 }) (r := none) X J hp ht fun b => ?_)
  obtain ⟨cd, hc, hd'⟩ := PySem.W.any_some hh
  have hx : s.heap.get? x = some ⟨.ref C, some dx, .plain, #[]⟩ := I.obj
  refine wpAny_bind (wpAny_pure (wpAny_bind (wpAny_bind (wpAny_loadPart hx (wpAny_bind (PySem.W.Looks.here (s := { s with toks := s.toks + 1 }) (PySem.W.looks_clsIn X hc) ?_))))))
  rw [hd']
  refine wpAny_pure (a := some dx) (wpAny_bind (wpAny_pure (wpAny_bind ?_)))
  refine wpAny_nsSet1 (s := { s with toks := s.toks + 1 }) I.ns fun h' hn2 hs2 => ?_
  obtain ⟨oD, esD, epD, hoD, hdD, hcD⟩ := hn2.count (PySem.Within.cons name v hw)
  refine wpAny_bind (wpAny_lookBehind hoD (by rw [hdD]; exact pastItsLine_dict (Nat.le_trans hcD (by rw [List.length_cons]; omega))) ?_)
  exact wpAny_pure (h _ ⟨(hs2.2 _ (Ne.symm I.ne)).trans I.obj, hn2, I.ne⟩ hs2)

/-- C(..): the dict at the heap's end, the instance behind it; then its __init__ -/
theorem make_map {R : Result → Shared → Prop} {vs : List Value} {kw : List (Str × Value)} (X : K.In s.heap) (hm : PySem.W.makesIn K C = true)
    (hi : PySem.W.findIn K (.ref C) "__init__" = some (some (.ref f))) (hf : PySem.W.typeIn K (.ref f) = some (.type "function"))
    (h : codeAny (model prog w) (A.under (.builtin "type.__call__" ⟨.ref C :: vs, kw⟩)) (.call (.ref f) ⟨.ref (s.heap.objs.size + 1) :: vs, kw⟩) (PySem.W.InitBack (s.heap.objs.size + 1) R)
      { s with heap := (s.heap.push PySem.W.emptyDict).push (PySem.W.instObj C s.heap.objs.size) }) :
    codeAny (model prog w) A (.call (.ref C) ⟨vs, kw⟩) R s := by
  obtain ⟨hh, g, d, t, os⟩ := s
  exact PySem.W.make_core (PySem.W.makes_of X hm) (PySem.W.looks_findIn X hi) (fun self => PySem.W.bind_fn X self hf) (.inl rfl) h
/-- C() where there is no __init__ but object's -/
theorem make_map0 {R : Result → Shared → Prop} (X : K.In s.heap) (hm : PySem.W.makesIn K C = true)
    (hi : PySem.W.findIn K (.ref C) "__init__" = some (some (.builtin "object.__init__")))
    (hb : ∀ self, PySem.W.Looks (model prog w) s.heap (bindSpecial (.builtin "object.__init__") self) (.builtin "object.__init__", [self]))
    (h : codeAny (model prog w) (A.under (.builtin "type.__call__" ⟨[.ref C], []⟩)) (.call (.builtin "object.__init__") ⟨[.ref (s.heap.objs.size + 1)], []⟩) (PySem.W.InitBack (s.heap.objs.size + 1) R)
      { s with heap := (s.heap.push PySem.W.emptyDict).push (PySem.W.instObj C s.heap.objs.size) }) :
    codeAny (model prog w) A (.call (.ref C) ⟨[], []⟩) R s := by
  obtain ⟨hh, g, d, t, os⟩ := s
  exact PySem.W.make_core (PySem.W.makes_of X hm) (PySem.W.looks_findIn X hi) hb (.inr ⟨rfl, rfl⟩) h
end

/-! ### the attributes as a list of pairs -/
def putF (f : Str) (v : V) : List (Str × V) → List (Str × V)
  | [] => [(f, v)]
  | (g, x) :: r => if g = f then (g, v) :: r else (g, x) :: putF f v r
theorem lookup_putF (f g : Str) (v : V) : ∀ fs : List (Str × V), (putF f v fs).lookup g = if g = f then some v else fs.lookup g
  | [] => by
    show List.lookup g [(f, v)] = _
    by_cases h : g = f
    · have hb : (g == f) = true := beq_iff_eq.mpr h
      simp only [List.lookup, hb, if_pos h]
    · have hb : (g == f) = false := beq_eq_false_iff_ne.mpr h
      simp only [List.lookup, hb, if_neg h]
  | (k, x) :: r => by
    have ih := lookup_putF f g v r
    rw [show putF f v ((k, x) :: r) = (if k = f then (k, v) :: r else (k, x) :: putF f v r) from rfl]
    by_cases hk : k = f
    · rw [if_pos hk]
      by_cases h : g = k
      · have hb : (g == k) = true := beq_iff_eq.mpr h
        simp only [List.lookup, hb, if_pos (h.trans hk)]
      · have hb : (g == k) = false := beq_eq_false_iff_ne.mpr h
        simp only [List.lookup, hb, if_neg (fun e : g = f => h (e.trans hk.symm))]
    · rw [if_neg hk]
      by_cases h : g = k
      · have hb : (g == k) = true := beq_iff_eq.mpr h
        simp only [List.lookup, hb, if_neg (fun e : g = f => hk (h.symm.trans e))]
      · have hb : (g == k) = false := beq_eq_false_iff_ne.mpr h
        simp only [List.lookup, hb]
        exact ih
theorem keys_putF (f : Str) (v : V) : ∀ fs : List (Str × V), f ∈ (putF f v fs).map (·.1) ∧ ∀ g, g ∈ fs.map (·.1) → g ∈ (putF f v fs).map (·.1)
  | [] => ⟨by simp [putF], fun g h => by simp at h⟩
  | (k, x) :: r => by
    obtain ⟨i1, i2⟩ := keys_putF f v r
    rw [show putF f v ((k, x) :: r) = (if k = f then (k, v) :: r else (k, x) :: putF f v r) from rfl]
    by_cases hk : k = f
    · rw [if_pos hk]
      subst hk
      exact ⟨by simp, fun g h => by simpa using h⟩
    · rw [if_neg hk]
      refine ⟨?_, fun g h => ?_⟩
      · rw [List.map_cons]
        exact List.mem_cons_of_mem _ i1
      · rw [List.map_cons] at h ⊢
        rcases List.mem_cons.mp h with e | e
        · exact List.mem_cons.mpr (.inl e)
        · exact List.mem_cons_of_mem _ (i2 g e)
theorem length_putF (f : Str) (v : V) : ∀ fs : List (Str × V), (putF f v fs).length ≤ fs.length + 1
  | [] => by simp [putF]
  | (k, x) :: r => by
    have ih := length_putF f v r
    rw [show putF f v ((k, x) :: r) = (if k = f then (k, v) :: r else (k, x) :: putF f v r) from rfl]
    by_cases hk : k = f
    · rw [if_pos hk, List.length_cons, List.length_cons]; omega
    · rw [if_neg hk, List.length_cons, List.length_cons]; omega

theorem RelO.some_of {v : V} {o : Option Value} (r : RelO (some v) o) : ∃ u, o = some u ∧ RelV v u := by
  cases o with
  | none => exact (show False from r).elim
  | some u => exact ⟨u, rfl, r⟩
theorem RelO.none_of {o : Option Value} (r : RelO none o) : o = none := by
  cases o with
  | none => rfl
  | some u => exact (show False from r).elim
theorem handed_of {v : V} {u : Value} (r : RelV v u) : PySem.W.handedIn u = true := by
  cases v with
  | non => cases (show u = Value.none from r); rfl
  | bl b => cases (show u = Value.bool b from r); rfl
  | int i => obtain ⟨t, e⟩ := (show ∃ t, u = Value.int i t from r); cases e; rfl
  | str x => obtain ⟨t, e⟩ := (show ∃ t, u = Value.str x t from r); cases e; rfl
  | byt b => obtain ⟨t, e⟩ := (show ∃ t, u = Value.bytes b t from r); cases e; rfl
  | flt b => obtain ⟨t, e⟩ := (show ∃ t, u = Value.float b t from r); cases e; rfl
  | ref a => cases (show u = Value.ref a from r); rfl
  | ty n => cases (show u = Value.type n from r); rfl

section
variable {P : Program} {w : World} {H H' : Hp} {h h' : Heap} {a C dx : Addr} {fs fs' : List (Str × V)}
theorem ins_get (hok : HOk P w H h) (e : H a = some (.ins C dx fs)) : ∃ mA, ObjM h a dx C mA ∧ (∀ f, RelO (fs.lookup f) (mA f)) ∧ PySem.Within mA (fs.map (·.1)) ∧ fs.length ≤ 1000 ∧ H dx = some (.own a) := by
  obtain ⟨d, z, ne, ob, mA, n, r, q⟩ := (show ObjOk P w H h a (.ins C dx fs) from hok a _ e)
  exact ⟨mA, ⟨ob, n, ne⟩, r, q, z, d⟩
end

/-! ### what of the text a class must have -/
structure Cls (K : PySem.W.Frag) (C : Addr) : Prop where
  pg : PySem.W.plainGet K C Str.empty = true
  hd : PySem.W.hasDictIn K C = true
  po : PySem.W.plainOver K C = true
  sa : PySem.W.findIn K (.ref C) "__setattr__" = some (some (.builtin "object.__setattr__"))
theorem Cls.get {K : PySem.W.Frag} {C : Addr} (c : Cls K C) (f : Str) : PySem.W.plainGet K C f = true := c.pg
/-- no class of it has the name -/
def NoAttr (K : PySem.W.Frag) (C : Addr) (f : Str) : Prop := PySem.W.findIn K (.ref C) f = some none
theorem NoAttr.taker {K : PySem.W.Frag} {C : Addr} {f : Str} (n : NoAttr K C f) : PySem.W.takerIn K C f = some none := by
  unfold PySem.W.takerIn
  rw [show PySem.W.findIn K (.ref C) f = some none from n]
  rfl
/-- a constant of the class -/
structure Con (K : PySem.W.Frag) (C : Addr) (f : Str) (v : V) (u : Value) : Prop where
  at_ : PySem.W.findIn K (.ref C) f = some (some u)
  rel : RelV v u
  get : PySem.W.specialIn K u "__get__" = some none
  cp : PySem.W.copiedNames.contains f = false
/-- a method: a plain def of the class or of one above it -/
structure Meth (K : PySem.W.Frag) (C : Addr) (m : Str) (f : Addr) : Prop where
  at_ : PySem.W.findIn K (.ref C) m = some (some (.ref f))
  fn : PySem.W.isFn K (.ref f) = true
  kp : PySem.W.keepIn K (.ref f) = true

section
variable {X : Cx} {pins : List (Addr × Obj)} {σ : St} {H : Hp} {s : Shared} {a C dx : Addr} {fs : List (Str × V)} {f : Str} {v : V} {A : Around} {E : Value → Shared → Prop}

theorem getattr_ok {b : Bool} {Q : Value → Shared → Prop} (I : Inv X pins σ H s) (e : H a = some (.ins C dx fs)) (c : Cls X.K C) (n : NoAttr X.K C f) (l : fs.lookup f = some v)
    (h : ∀ u s', Inv X pins σ H s' → RelV v u → Q u s') : wpAny (model X.prog X.w) A (getAttr (.ref a) f b) Q E s := by
  obtain ⟨mA, O, r, _, _, _⟩ := ins_get I.hok e
  obtain ⟨u, hu, ru⟩ := RelO.some_of (v := v) (o := mA f) (by rw [← l]; exact r f)
  exact get_map I.kIn O (c.get f) c.hd n hu (handed_of ru) (h u _ (I.tok _) ru)

theorem getcon_ok {b : Bool} {u : Value} {Q : Value → Shared → Prop} (I : Inv X pins σ H s) (e : H a = some (.ins C dx fs)) (c : Cls X.K C) (k : Con X.K C f v u) (l : fs.lookup f = none)
    (h : ∀ s', Inv X pins σ H s' → Q u s') : wpAny (model X.prog X.w) A (getAttr (.ref a) f b) Q E s := by
  obtain ⟨mA, O, r, _, _, _⟩ := ins_get I.hok e
  have hn : mA f = none := RelO.none_of (by rw [← l]; exact r f)
  exact get_const I.kIn O (c.get f) c.hd k.at_ k.get k.cp hn (handed_of k.rel) (h _ (I.tok _))

theorem getmeth_ok {m : Str} {g : Addr} {pl : Sem Bool} {Q : Value × List Value → Shared → Prop} (I : Inv X pins σ H s) (e : H a = some (.ins C dx fs)) (c : Cls X.K C) (k : Meth X.K C m g) (l : fs.lookup m = none)
    (h : Q (.ref g, [.ref a]) s) : wpAny (model X.prog X.w) A (getMethod (.ref a) m pl) Q E s := by
  obtain ⟨mA, O, r, _, _, _⟩ := ins_get I.hok e
  have hn : mA m = none := RelO.none_of (by rw [← l]; exact r m)
  exact get_meth I.kIn O (c.get m) k.at_ k.fn hn h

theorem setattr_ok {y : V} {u : Value} {Q : Unit → Shared → Prop} (I : Inv X pins σ H s) (e : H a = some (.ins C dx fs)) (c : Cls X.K C) (n : NoAttr X.K C f) (hl : fs.length < 1000) (ry : RelV y u)
    (h : ∀ s', Inv X pins σ (upd H a (.ins C dx (putF f y fs))) s' → Q () s') : wpAny (model X.prog X.w) A (setAttr (.ref a) f u) Q E s := by
  obtain ⟨mA, O, r, wi, _, ho⟩ := ins_get I.hok e
  have hz : (fs.map (·.1)).length ≤ sizeLine := by rw [List.length_map, sizeLine_eq]; omega
  refine set_map I.kIn O c.sa c.po n.taker c.hd wi hz fun h' O' sb => h _ ?_
  have hd : ∃ o, h'.get? dx = some o := let ⟨o, _, _, e', _⟩ := O'.ns; ⟨o, e'⟩
  refine I.write (x := a) (e := dx) (by rw [e]; exact True.intro) (.inr ho) (fun b q hb z => (sb.2 b hb).trans z) hd ?_
  refine ⟨by rw [upd_ne O.ne]; exact ho, ?_, O.ne, O'.obj, _, O'.ns, fun g => ?_, fun g hg => ?_⟩
  · have := length_putF f y fs; omega
  · show RelO ((putF f y fs).lookup g) (if g = f then some u else mA g)
    rw [lookup_putF]
    by_cases q : g = f
    · rw [if_pos q, if_pos q]; exact ry
    · rw [if_neg q, if_neg q]; exact r g
  · by_cases q : g = f
    · rw [q]; exact (keys_putF f y fs).1
    · refine (keys_putF f y fs).2 g (wi g fun z => hg ?_)
      show (if g = f then some u else mA g) = none
      rw [if_neg q]; exact z

/-- a new instance, tracked, without attributes -/
theorem Inv.made (I : Inv X pins σ H s) : Inv X pins σ (upd (upd H s.heap.objs.size (.own (s.heap.objs.size + 1))) (s.heap.objs.size + 1) (.ins C s.heap.objs.size []))
    { s with heap := (s.heap.push PySem.W.emptyDict).push (PySem.W.instObj C s.heap.objs.size) } := by
  have e1 : (s.heap.push PySem.W.emptyDict).get? s.heap.objs.size = some PySem.W.emptyDict := Heap.get?_push_size s.heap rfl
  have e2 : ((s.heap.push PySem.W.emptyDict).push (PySem.W.instObj C s.heap.objs.size)).get? (s.heap.objs.size + 1) = some (PySem.W.instObj C s.heap.objs.size) := by
    have := Heap.get?_push_size (s.heap.push PySem.W.emptyDict) (o := PySem.W.instObj C s.heap.objs.size) rfl
    rwa [Heap.size_push] at this
  have e3 : (s.heap.push PySem.W.emptyDict).Ns s.heap.objs.size (fun _ => none) := ⟨PySem.W.emptyDict, #[], _, e1, rfl, (fun e he => absurd he (by simp)), fun _ => rfl⟩
  have I1 := I.laid (a := s.heap.objs.size) (o := .own (s.heap.objs.size + 1)) (h' := s.heap.push PySem.W.emptyDict) (t' := s.toks) (fun b u q => Heap.get?_push_of_some _ q) (Nat.le_refl _) ⟨_, e1⟩
  refine I1.laid (a := s.heap.objs.size + 1) (o := .ins C s.heap.objs.size []) (t' := s.toks) (fun b u q => Heap.get?_push_of_some _ q) (Nat.le_of_eq (Heap.size_push _ _)) ?_
  have ne : s.heap.objs.size ≠ s.heap.objs.size + 1 := Nat.ne_of_lt (Nat.lt_succ_self _)
  refine ⟨by rw [upd_ne ne, upd_same], Nat.zero_le _, ne, e2, fun _ => none, (Heap.Ns1.of_empty e3).at fun o q => Heap.get?_push_of_some _ q, fun _ => True.intro, fun y hy => absurd rfl hy⟩

/-- e.f where nothing but the object is asked: through attributeBase (super) and the last hold -/
theorem attr_of {prog : Program} {w : World} {env : Env} {e : Expr} {f : Str} {pos : Pos} {s : Shared} {Q : Value → Shared → Prop} (hb : attributeBase e f env (eval e env) = eval e env)
    (h : wpAny (model prog w) A (eval e env) (fun o s₁ => wpAny (model prog w) A (getAttr o f true) Q E s₁) E s) : wpAny (model prog w) A (eval (.Attribute e f pos) env) Q E s :=
  Attribute_any_ h (by rw [arm_eval_Attribute, hb])
end

/-! ### readings and rules -/
/-- e.f, an attribute of the instance -/
def tFld (K : PySem.W.Frag) (ta : TE) (f : Str) : TE := fun σ H Q => ta σ H fun x H1 => ∃ a C dx fs v, x = .ref a ∧ H1 a = some (.ins C dx fs) ∧ Cls K C ∧ NoAttr K C f ∧ fs.lookup f = some v ∧ Q v H1
/-- e.f, a constant of the class -/
def tCon (K : PySem.W.Frag) (ta : TE) (f : Str) : TE := fun σ H Q => ta σ H fun x H1 => ∃ a C dx fs v u, x = .ref a ∧ H1 a = some (.ins C dx fs) ∧ Cls K C ∧ Con K C f v u ∧ fs.lookup f = none ∧ Q v H1
/-- e.f = value -/
def sFld (K : PySem.W.Frag) (ta tv : TE) (f : Str) : TS := fun D σ H => tv σ H fun y H1 => ta σ H1 fun x H2 => ∃ a C dx fs, x = .ref a ∧ H2 a = some (.ins C dx fs) ∧ Cls K C ∧ NoAttr K C f ∧ fs.length < 1000 ∧
  D.nx σ (upd H2 a (.ins C dx (putF f y fs)))
/-- an augmented operator on two values -/
def InOp (X : Cx) (op : Operator) (rd : V → V → Hp → VK → Prop) : Prop :=
  ∀ (pins : List (Addr × Obj)) (s : Shared) (σ : St) (H : Hp) (x y : V) (u v : Value) (Q : VK), Inv X pins σ H s → RelV x u → RelV y v → rd x y H Q → wpAny (model X.prog X.w) X.A (inplaceOp op u v) (EP X pins σ Q) X.xe s
/-- e.f op= value -/
def sFldAug (K : PySem.W.Frag) (ta tv : TE) (rd : V → V → Hp → VK → Prop) (f : Str) : TS := fun D σ H => ta σ H fun x H1 => ∃ a C dx fs v, x = .ref a ∧ H1 a = some (.ins C dx fs) ∧ Cls K C ∧ NoAttr K C f ∧ fs.lookup f = some v ∧
  tv σ H1 fun y H2 => rd v y H2 fun z H3 => ∃ dx' fs', H3 a = some (.ins C dx' fs') ∧ fs'.length < 1000 ∧ D.nx σ (upd H3 a (.ins C dx' (putF f z fs')))

section
variable {X : Cx} {o e value : Expr} {f : Str} {pos pos' tpos : Pos} {ta tv : TE}
theorem pe_fld (he : PE X e ta) (hb : attributeBase e f X.env (eval e X.env) = eval e X.env) : PE X (.Attribute e f pos) (tFld X.K ta f) := by
  intro pins s σ H Q I h
  refine attr_of hb (thn (he pins s σ H _ I h) fun u s1 ⟨x, H1, I1, rx, a, C, dx, fs, v, ex, ea, c, n, l, q⟩ => ?_)
  subst ex
  obtain rfl : u = Value.ref a := rx
  exact getattr_ok I1 ea c n l fun u' s2 I2 ru => ⟨v, H1, I2, ru, q⟩
theorem pe_con (he : PE X e ta) (hb : attributeBase e f X.env (eval e X.env) = eval e X.env) : PE X (.Attribute e f pos) (tCon X.K ta f) := by
  intro pins s σ H Q I h
  refine attr_of hb (thn (he pins s σ H _ I h) fun u s1 ⟨x, H1, I1, rx, a, C, dx, fs, v, u0, ex, ea, c, k, l, q⟩ => ?_)
  subst ex
  obtain rfl : u = Value.ref a := rx
  exact getcon_ok I1 ea c k l fun s2 I2 => ⟨v, H1, I2, k.rel, q⟩
theorem ps_fld (ha : PE X o ta) (hv : PE X value tv) (hs : swapsWith value (some (.Attribute o f pos')) pos.line X.env = pure false) : PS X (.Assign [.Attribute o f pos'] value pos) (sFld X.K ta tv f) := by
  intro pins s σ H D I h
  refine plainObj_wpAny_Assign_Attribute (thn (hv pins s σ H _ I h) fun u s1 ⟨y, H1, I1, ry, q⟩ => thn (ha pins s1 σ H1 _ I1 q) fun ov s2 ⟨x, H2, I2, rx, a, C, dx, fs, ex, ea, c, n, l, q2⟩ => ?_) hs
  subst ex
  obtain rfl : ov = Value.ref a := rx
  exact setattr_ok I2 ea c n l ry fun s3 I3 => ⟨σ, _, I3, q2⟩
theorem ps_fldaug {op : Operator} {rd : V → V → Hp → VK → Prop} (ha : PE X o ta) (hv : PE X value tv) (hop : InOp X op rd) : PS X (.AugAssign (.Attribute o f tpos) op value pos) (sFldAug X.K ta tv rd f) := by
  intro pins s σ H D I h
  refine wpAny_AugAssign_AttributeAny (thn (ha pins s σ H _ I h) fun ov s1 ⟨x, H1, I1, rx, a, C, dx, fs, v, ex, ea, c, n, l, q⟩ => ?_)
  subst ex
  obtain rfl : ov = Value.ref a := rx
  refine getattr_ok I1 ea c n l fun u s2 I2 ru => thn (hv pins s2 σ H1 _ I2 q) fun w3 s3 ⟨y, H2, I3, ry, q3⟩ => thn (hop pins s3 σ H2 v y u w3 _ I3 ru ry q3) fun w4 s4 ⟨z, H3, I4, rz, dx', fs', ea', l', q4⟩ => ?_
  exact setattr_ok I4 ea' c n l' rz fun s5 I5 => ⟨σ, _, I5, q4⟩
def rAdd : V → V → Hp → VK → Prop := fun x y H Q => ∃ i j, x = .int i ∧ y = .int j ∧ Q (.int (i + j)) H
def rSub : V → V → Hp → VK → Prop := fun x y H Q => ∃ i j, x = .int i ∧ y = .int j ∧ Q (.int (i - j)) H
theorem in_add : InOp X .Add rAdd := by
  rintro pins s σ H x y u v Q I rx ry ⟨i, j, rfl, rfl, q⟩
  obtain ⟨t, rfl⟩ := (show ∃ t, u = Value.int i t from rx)
  obtain ⟨t', rfl⟩ := (show ∃ t', v = Value.int j t' from ry)
  exact PyProof.Rows.iadd_int ⟨.int (i + j), H, I.tok _, ⟨_, rfl⟩, q⟩
theorem in_sub : InOp X .Sub rSub := by
  rintro pins s σ H x y u v Q I rx ry ⟨i, j, rfl, rfl, q⟩
  obtain ⟨t, rfl⟩ := (show ∃ t, u = Value.int i t from rx)
  obtain ⟨t', rfl⟩ := (show ∃ t', v = Value.int j t' from ry)
  exact PyProof.Rows.isub_int ⟨.int (i - j), H, I.tok _, ⟨_, rfl⟩, q⟩

/-- what is between an instance and its method: the tree of a method call -/
theorem methcall_of {pl : Sem Bool} {m : Str} {apos : Pos} {args : List Expr} {pins : List (Addr × Obj)} {s : Shared} {σ : St} {H : Hp} {Q : Value → Shared → Prop} {te : TE} (he : PE X e te) (I : Inv X pins σ H s)
    (h : te σ H fun x H1 => ∃ a C dx fs g, x = .ref a ∧ H1 a = some (.ins C dx fs) ∧ Cls X.K C ∧ Meth X.K C m g ∧ fs.lookup m = none ∧
      ∀ s1, Inv X pins σ H1 s1 → wpAny (model X.prog X.w) X.A (callWith pos (.ref g) [.ref a] (backTo pos (starEach args X.env)) (backToKw pos (keywordEach [] X.env))) Q X.xe s1)
    (ht : eval (.Call (.Attribute e m apos) args [] pos) X.env = (do
      let ov ← eval e X.env
      standAt apos.atName
      let (f, first) ← holding [ov] (getMethod ov m pl)
      callWith pos f first (backTo pos (starEach args X.env)) (backToKw pos (keywordEach [] X.env)))) :
    wpAny (model X.prog X.w) X.A (eval (.Call (.Attribute e m apos) args [] pos) X.env) Q X.xe s := by
  refine PySem.W.methodCall_KW (pl := pl) (thn (he pins s σ H _ I h) fun u s1 ⟨x, H1, I1, rx, a, C, dx, fs, g, ex, ea, c, k, l, q⟩ => ?_) ht
  subst ex
  obtain rfl : u = Value.ref a := rx
  exact getmeth_ok I1 ea c k l (q s1 I1)
end

/-! ### isinstance -/
section
variable {X : Cx} {pins : List (Addr × Obj)} {σ : St} {H : Hp} {s : Shared} {A : Around} {E : Value → Shared → Prop} {Q : Value → Shared → Prop} {c : Value} {b : Bool}
/-- the type of a value, as the fragment's deciders take it; for an instance its class -/
inductive TyOf (K : PySem.W.Frag) (H : Hp) : V → Value → Prop where
  | non : TyOf K H .non (.type "NoneType")
  | bl (x : Bool) : TyOf K H (.bl x) (.type "bool")
  | int (i : Int) : TyOf K H (.int i) (.type "int")
  | str (x : Str) : TyOf K H (.str x) (.type "str")
  | flt (x : UInt64) : TyOf K H (.flt x) (.type "float")
  | lst {a : Addr} {xs : List V} (e : H a = some (.lst xs)) : TyOf K H (.ref a) (.type "list")
  | frz {a : Addr} {o : Obj} {xs : List V} (e : H a = some (.frz o (.lst xs))) : TyOf K H (.ref a) (.type "list")
  | tup {a : Addr} {xs : List V} (e : H a = some (.tup xs)) : TyOf K H (.ref a) (.type "tuple")
  | dK {a : Addr} {kvs : List (Key × V)} (e : H a = some (.dK kvs)) : TyOf K H (.ref a) (.type "dict")
  | dT {a : Addr} {kvs : List (List Key × V)} (e : H a = some (.dT kvs)) : TyOf K H (.ref a) (.type "dict")
  | ins {a C dx : Addr} {fs : List (Str × V)} (e : H a = some (.ins C dx fs)) (cl : Cls K C) (ha : PySem.W.findIn K (.ref C) "__class__" = some (some (.builtin "object.__class__")))
      (hn : PySem.W.specialIn K (.builtin "object.__class__") "__get__" = some (some (.builtin "getset_descriptor.__get__"))) (htk : PySem.W.takesIn K (.builtin "object.__class__") = some true)
      (hm : PySem.W.mroIn K C (.type "object") = some true) : TyOf K H (.ref a) (.ref C)
/-- isinstance(x, c) for one class c, a built-in or an own one: kitOne's answer -/
theorem isinst_ok {x : V} {u t : Value} (I : Inv X pins σ H s) (rx : RelV x u) (ty : TyOf X.K H x t) (e : PySem.W.kitOne X.K t c = some b) (h : ∀ tk, Q (.bool b) { s with toks := tk }) :
    wpAny (model X.prog X.w) A (call (.builtin "isinstance") [u, c]) Q E s := by
  cases ty with
  | non => cases (show u = Value.none from rx); exact PySem.W.kia_one PySem.W.kitx_none I.kIn True.intro e (fun z => nomatch z) h
  | bl y => cases (show u = Value.bool y from rx); exact PySem.W.kia_one PySem.W.kitx_bool I.kIn True.intro e (fun z => nomatch z) h
  | int i => obtain ⟨t, q⟩ := (show ∃ t, u = Value.int i t from rx); cases q; exact PySem.W.kia_one PySem.W.kitx_int I.kIn True.intro e (fun z => nomatch z) h
  | str y => obtain ⟨t, q⟩ := (show ∃ t, u = Value.str y t from rx); cases q; exact PySem.W.kia_one PySem.W.kitx_str I.kIn True.intro e (fun z => nomatch z) h
  | flt y => obtain ⟨t, q⟩ := (show ∃ t, u = Value.float y t from rx); cases q; exact PySem.W.kia_one PySem.W.kitx_float I.kIn True.intro e (fun z => nomatch z) h
  | @lst a xs ea =>
    cases (show u = Value.ref a from rx)
    obtain ⟨_, _, n, _, h1⟩ := (show ObjOk X.prog X.w H s.heap a (.lst xs) from I.hok a _ ea)
    exact PySem.W.kia_one PySem.W.kitx_list I.kIn ⟨_, h1, rfl⟩ e (fun z => nomatch z) h
  | @frz a ob xs ea =>
    cases (show u = Value.ref a from rx)
    obtain ⟨_, _, _, n, _, h1⟩ := (show ObjOk X.prog X.w H s.heap a (.frz ob (.lst xs)) from I.hok a _ ea)
    exact PySem.W.kia_one PySem.W.kitx_list I.kIn ⟨_, h1, rfl⟩ e (fun z => nomatch z) h
  | @tup a xs ea =>
    cases (show u = Value.ref a from rx)
    obtain ⟨_, _, _, p⟩ := (show ObjOk X.prog X.w H s.heap a (.tup xs) from I.hok a _ ea)
    obtain ⟨o, h1, h2, _⟩ := p
    exact PySem.W.kia_one PySem.W.kitx_tuple I.kIn ⟨o, h1, h2⟩ e (fun z => nomatch z) h
  | @dK a kvs ea =>
    cases (show u = Value.ref a from rx)
    obtain ⟨_, _, vs, _, p⟩ := (show ObjOk X.prog X.w H s.heap a (.dK kvs) from I.hok a _ ea)
    obtain ⟨o, es, ep, h1, h2, _⟩ := p
    exact PySem.W.kia_one PySem.W.kitx_dict I.kIn ⟨o, h1, h2.1⟩ e (fun z => nomatch z) h
  | @dT a kvs ea =>
    cases (show u = Value.ref a from rx)
    obtain ⟨_, _, xs, _, o, es, ep, h1, h2, _⟩ := (show ObjOk X.prog X.w H s.heap a (.dT kvs) from I.hok a _ ea)
    exact PySem.W.kia_one PySem.W.kitx_dict I.kIn ⟨o, h1, h2.1⟩ e (fun z => nomatch z) h
  | @ins a C dx fs ea cl ha hn htk hm =>
    cases (show u = Value.ref a from rx)
    obtain ⟨mA, O, _⟩ := ins_get I.hok ea
    obtain ⟨od, J, _⟩ := O.look
    exact PySem.W.kia_one (PySem.W.kitx_own (cl.get _) cl.hd ha hn htk hm) I.kIn J e (fun z => nomatch z) h
end
end L2

namespace L2
open PySem PySem.Spec PyProof.Rows

/-! ### room -/
structure Room (k : Nat) (A : Around) : Prop where
  hd : A.handled = none
  dp : A.depth + 3 * k + 5 < recursionLimit
  un : A.units + 16 * k + 200 < cLine
theorem Room.mono {j k : Nat} {A : Around} (r : Room k A) (h : j ≤ k) : Room j A := ⟨r.hd, by have := r.dp; omega, by have := r.un; omega⟩
theorem Room.deeper {k : Nat} {A : Around} (r : Room (k + 1) A) (env : Env) : Room k (A.deeper env) :=
  ⟨r.hd, by have := r.dp; show A.depth + 1 + 3 * k + 5 < _; omega, by have := r.un; show A.units + 3 + 16 * k + 200 < _; omega⟩
theorem Room.in1 {k : Nat} {A : Around} (r : Room (k + 1) A) : Room k A.in1 :=
  ⟨r.hd, by have := r.dp; show A.depth + 3 * k + 5 < _; omega, by have := r.un; show A.units + 1 + 16 * k + 200 < _; omega⟩
theorem make_depth {A : Around} {C : Addr} {us : List Value} {kw : List (Str × Value)} : (A.under (.builtin "type.__call__" ⟨.ref C :: us, kw⟩)).depth = A.depth + 1 := by
  first | rfl | simp [Around.under, Code.weight, Code.isCreation, Code.isGuard, Code.isCaller, Code.frames, Code.isFrame, guardIds]
theorem make_units {A : Around} {C : Addr} {us : List Value} {kw : List (Str × Value)} : (A.under (.builtin "type.__call__" ⟨.ref C :: us, kw⟩)).units = A.units + 1 := by
  first | rfl | simp [Around.under, Code.cUnits, Code.frames, Code.isFrame]
theorem Room.make {k : Nat} {A : Around} (r : Room (k + 1) A) (C : Addr) (us : List Value) (kw : List (Str × Value)) : Room k (A.under (.builtin "type.__call__" ⟨.ref C :: us, kw⟩)) :=
  ⟨r.hd, by have := r.dp; rw [make_depth]; omega, by have := r.un; rw [make_units]; omega⟩
theorem Room.depth {k : Nat} {A : Around} (r : Room k A) : A.depth < recursionLimit := by have := r.dp; omega
theorem Room.units {k : Nat} {A : Around} (r : Room k A) : A.units + 64 < cLine := by have := r.un; omega
theorem Room.units0 {k : Nat} {A : Around} (r : Room k A) : A.units < cLine := by have := r.un; omega

/-! ### argument lists and displays -/
def tNil : TA := fun _ H Q => Q [] H
def tCons (ta : TE) (tr : TA) : TA := fun σ H Q => ta σ H fun x H1 => tr σ H1 fun xs H2 => Q (x :: xs) H2
section
variable {X : Cx} {e : Expr} {es : List Expr} {te : TE} {t : TA} {pos : Pos}
theorem pa_nil : PA X [] tNil := fun _ _ _ _ H Q I h => Calls.spliced_nil ⟨[], H, I, .nil, h⟩
theorem pa_cons (ha : PE X e te) (hr : PA X es t) (hs : starEach (e :: es) X.env = (false, eval e X.env) :: starEach es X.env := by rfl) : PA X (e :: es) (tCons te t) := by
  intro pos pins s σ H Q I h
  rw [hs]
  show wpAny _ _ (spliced ((false, eval e X.env) :: backTo pos (starEach es X.env))) _ _ s
  refine Calls.spliced_cons (thn (ha pins s σ H _ I h) fun u s1 ⟨x, H1, I1, r1, q1⟩ => ?_)
  exact thn (hr pos pins s1 σ H1 _ I1 q1) fun us s2 ⟨xs, H2, I2, r2, q2⟩ => ⟨x :: xs, H2, I2, .cons r1 r2, q2⟩

/-- a tuple, a list of written items -/
def tTup (t : TA) : TE := fun σ H Q => t σ H fun xs H1 => xs.length ≤ sizeLine ∧ ∀ p, H1 p = none → Q (.ref p) (upd H1 p (.tup xs))
def tLst (t : TA) : TE := fun σ H Q => t σ H fun xs H1 => xs.length ≤ sizeLine ∧ ∀ p, H1 p = none → Q (.ref p) (upd H1 p (.lst xs))
theorem pe_tup {x1} (h : PA X es t) : PE X (.Tuple es x1 pos) (tTup t) := by
  intro pins s σ H Q I hq
  refine wpAny_Tuple_spliced (thn (h pos pins s σ H _ I hq) fun us s1 ⟨xs, H1, I1, r, z, q⟩ => ⟨by rw [← r.length]; exact z, ?_⟩)
  have hf : H1 s1.heap.objs.size = none := I1.hok.fresh (Nat.le_refl _)
  refine ⟨.ref s1.heap.objs.size, upd H1 s1.heap.objs.size (.tup xs), I1.laid (t' := s1.toks) (fun b u e => Heap.get?_push_of_some _ e) (Nat.le_refl _) ?_, rfl, q _ hf⟩
  exact ⟨z, us, r, ⟨_, Heap.get?_push_size _ rfl, rfl, _, rfl⟩⟩
theorem pe_lst (h : PA X es t) : PE X (.List es pos) (tLst t) := by
  intro pins s σ H Q I hq
  refine wpAny_List_spliced (thn (h pos pins s σ H _ I hq) fun us s1 ⟨xs, H1, I1, r, z, q⟩ => ⟨by rw [← r.length]; exact z, ?_⟩)
  have hf : H1 s1.heap.objs.size = none := I1.hok.fresh (Nat.le_refl _)
  refine ⟨.ref s1.heap.objs.size, upd H1 s1.heap.objs.size (.lst xs), I1.laid (t' := s1.toks) (fun b u e => Heap.get?_push_of_some _ e) (Nat.le_refl _) ?_, rfl, q _ hf⟩
  exact ⟨z, us, 0, r, Heap.get?_push_size _ rfl⟩
end

/-! ### what a def promises -/
/-- a def's promise: the bound arguments in the parameters' order, the heap, the wanted end, the wanted exception -/
abbrev Sp := List V → Hp → VK → XK → Prop
/-- how an exception lies behind a call (file 08 gives it): the callers' frames, abstract heap and state ahead of the call, the wish, the exception, the state -/
abbrev CXT := List Env → Hp → Shared → XK → Value → Shared → Prop

/-- the state at a call -/
structure Env0 (P : Program) (w : World) (K : PySem.W.Frag) (mg : Str → Option Value) (base : Heap) (A : Around) (outer : List Env) (s : Shared) (H : Hp) : Prop where
  frames : A.frames = some outer
  mod : Mod K mg base
  bs : ∀ b o, base.get? b = some o → s.heap.get? b = some o ∧ H b = none
  bsz : base.objs.size ≤ s.heap.objs.size
  funs : s.heap.FunFrames base outer
  frf : ∀ b ∈ frs outer, H b = none
  hok : HOk P w H s.heap
  bare : AllBare s.gens
/-- a call's end -/
def CE (outer : List Env) (P : Program) (w : World) (H : Hp) (s : Shared) (Q : VK) (u : Value) (s' : Shared) : Prop :=
  ∃ v H', s'.os = s.os ∧ AllBare s'.gens ∧ Un (frs outer) [] H H' s.heap s'.heap ∧ HOk P w H' s'.heap ∧ RelV v u ∧ Q v H'
def CR (CX : CXT) (outer : List Env) (P : Program) (w : World) (H : Hp) (s : Shared) (Q : VK) (E : XK) (r : Result) (s' : Shared) : Prop :=
  match r with
  | .ok (.ret u) => CE outer P w H s Q u s'
  | .ok _ => False
  | .error e => CX outer H s E e s'
structure FnOk (P : Program) (w : World) (K : PySem.W.Frag) (mg : Str → Option Value) (base : Heap) (CX : CXT) (k : Nat) (f : Addr) (fd : FuncData) (ps : List Str) (sp : Sp) : Prop where
  len : ∀ vs H Q E, sp vs H Q E → vs.length = ps.length
  run : ∀ (A : Around) (outer : List Env) (s : Shared) (H : Hp) (args : Args) (us : List Value) (vs : List V) (Q : VK) (E : XK), Room k A → Env0 P w K mg base A outer s H → BindsTo s fd args (ps.zip us) → Vals vs us → sp vs H Q E →
    codeAny (model P w) A (.call (.ref f) args) (CR CX outer P w H s Q E) s
theorem FnOk.mono {P : Program} {w : World} {K : PySem.W.Frag} {mg : Str → Option Value} {base : Heap} {CX : CXT} {j k : Nat} {f : Addr} {fd : FuncData} {ps : List Str} {sp : Sp} (F : FnOk P w K mg base CX j f fd ps sp) (h : j ≤ k) :
    FnOk P w K mg base CX k f fd ps sp := ⟨F.len, fun A outer s H args us vs Q E hr => F.run A outer s H args us vs Q E (hr.mono h)⟩
/-- a weaker promise -/
theorem FnOk.imp {P : Program} {w : World} {K : PySem.W.Frag} {mg : Str → Option Value} {base : Heap} {CX : CXT} {k : Nat} {f : Addr} {fd : FuncData} {ps : List Str} {sp sp' : Sp} (F : FnOk P w K mg base CX k f fd ps sp)
    (h : ∀ vs H Q E, sp' vs H Q E → sp vs H Q E) : FnOk P w K mg base CX k f fd ps sp' :=
  ⟨fun vs H Q E q => F.len vs H Q E (h _ _ _ _ q), fun A outer s H args us vs Q E hr he hb hv hs => F.run A outer s H args us vs Q E hr he hb hv (h _ _ _ _ hs)⟩

theorem Env0.make {P : Program} {w : World} {K : PySem.W.Frag} {mg : Str → Option Value} {base : Heap} {A : Around} {outer : List Env} {s : Shared} {H : Hp} (e : Env0 P w K mg base A outer s H) (C : Addr) (us : List Value) (kw : List (Str × Value)) :
    Env0 P w K mg base (A.under (.builtin "type.__call__" ⟨.ref C :: us, kw⟩)) outer s H := ⟨by first | exact e.frames | (simpa [Around.under, Code.envs, Code.isFrame, pushEnvs] using e.frames), e.mod, e.bs, e.bsz, e.funs, e.frf, e.hok, e.bare⟩
theorem Env0.in1 {P : Program} {w : World} {K : PySem.W.Frag} {mg : Str → Option Value} {base : Heap} {A : Around} {outer : List Env} {s : Shared} {H : Hp} (e : Env0 P w K mg base A outer s H) :
    Env0 P w K mg base A.in1 outer s H := ⟨e.frames, e.mod, e.bs, e.bsz, e.funs, e.frf, e.hok, e.bare⟩

section
variable {X : Cx} {pins : List (Addr × Obj)} {σ : St} {H : Hp} {s s' : Shared}
/-- from a body: what a callee wants -/
theorem Inv.env0 (I : Inv X pins σ H s) : Env0 X.prog X.w X.K X.mg X.base X.A X.stack s H :=
  ⟨I.ok.frames, I.ok.mod, I.bs, Nat.le_trans I.ok.bsz I.sz, I.stack, I.stkFree, I.hok, I.bare⟩
/-- behind a call -/
theorem Inv.after {Q : VK} {u : Value} (I : Inv X pins σ H s) (h : CE X.stack X.prog X.w H s Q u s') : EP X pins σ Q u s' := by
  obtain ⟨v, H', os, bare, un, hok, r, q⟩ := h
  obtain ⟨hh, g, d, t, os'⟩ := s'
  obtain rfl : os' = s.os := os
  exact ⟨v, H', I.call (h' := hh) (g' := g) (d' := d) (t' := t) (ch := []) un hok bare (fun b z => absurd z (by simp)), r, q⟩
end

/-! ### calls -/
/-- f(..): the written arguments, then the defaults dvs; E: what is wanted of an exception -/
def tCall (sp : Sp) (dvs : List V) (E : XK) (t : TA) : TE := fun σ H Q => t σ H fun vs H1 => sp (vs ++ dvs) H1 Q E
/-- o.m(..) of an instance of the class at C -/
def tMeth (C : Addr) (m : Str) (sp : Sp) (dvs : List V) (E : XK) (ta : TE) (t : TA) : TE := fun σ H Q => ta σ H fun x H1 => ∃ a dx fs, x = .ref a ∧ H1 a = some (.ins C dx fs) ∧ fs.lookup m = none ∧
  t σ H1 fun vs H2 => sp (x :: (vs ++ dvs)) H2 Q E
/-- C(..): a new instance and its dict, then __init__ -/
def tMake (C : Addr) (sp : Sp) (dvs : List V) (E : XK) (t : TA) : TE := fun σ H Q => t σ H fun vs H1 => ∀ x dx, H1 x = none → H1 dx = none → dx ≠ x →
  sp (.ref x :: (vs ++ dvs)) (upd (upd H1 dx (.own x)) x (.ins C dx [])) (fun v H2 => v = .non ∧ Q (.ref x) H2) E

/-- how the parameters are bound: us the positional arguments, kw the keywords' values by name, ds the defaults that fill up -/
def Binds (K : PySem.W.Frag) (fd : FuncData) (ps : List Str) (ds : List Value) : Prop :=
  ∀ (s : Shared) (us : List Value), K.In s.heap → (us ++ ds).length = ps.length → BindsTo s fd ⟨us, []⟩ (ps.zip (us ++ ds))
/-- every parameter is given -/
theorem Binds.all {K : PySem.W.Frag} {fd : FuncData} {ps : List Str} (h : ∀ us : List Value, us.length = ps.length → bindArgs fd ⟨us, []⟩ = pure (ps.zip us)) : Binds K fd ps [] := fun s us _ hl => by
  rw [List.append_nil] at hl ⊢
  exact .of_eq (h us hl)

/-- an exception of a callee reaches what this body wants of exceptions -/
def Passes (CX : CXT) (X : Cx) (E : XK) : Prop := ∀ (pins : List (Addr × Obj)) (σ : St) (H : Hp) (s : Shared) (e : Value) (s' : Shared), Inv X pins σ H s → CX X.stack H s E e s' → X.xe e s'

section
variable {X : Cx} {CX : CXT} {k : Nat} {f C : Addr} {fd : FuncData} {ps : List Str} {sp : Sp} {dvs : List V} {ds : List Value} {E : XK} {x m : Str} {p pos apos : Pos} {e o : Expr} {es : List Expr} {ta : TE} {t : TA}

/-- the callee runs -/
theorem run_fn {pins : List (Addr × Obj)} {σ : St} {H : Hp} {s : Shared} {Q : VK} {us : List Value} {vs : List V} (F : FnOk X.prog X.w X.K X.mg X.base CX k f fd ps sp) (hr : Room k X.A) (hb : Binds X.K fd ps ds) (hd : Vals dvs ds) (hx : Passes CX X E)
    (I : Inv X pins σ H s) (r : Vals vs us) (h : sp (vs ++ dvs) H Q E) : wpAny (model X.prog X.w) X.A (call (.ref f) us) (EP X pins σ Q) X.xe s := by
  have r2 : Vals (vs ++ dvs) (us ++ ds) := r.append hd
  have hl : (us ++ ds).length = ps.length := by rw [← r2.length]; exact F.len _ _ _ _ h
  refine wpAny_call (codeAny_mono (F.run X.A X.stack s H ⟨us, []⟩ (us ++ ds) (vs ++ dvs) Q E hr I.env0 (hb s us I.kIn hl) r2 h) fun r s' hq => ?_)
  cases r with
  | error e => exact hx pins σ H s e s' I hq
  | ok fl =>
    cases fl with
    | ret u => exact I.after hq
    | next => exact False.elim hq
    | brk => exact False.elim hq
    | cont => exact False.elim hq

theorem pe_call (F : FnOk X.prog X.w X.K X.mg X.base CX k f fd ps sp) (hr : Room k X.A) (hg : Gl X x) (hm : X.mg x = some (.ref f)) (hk : PySem.W.keepIn X.K (.ref f) = true) (hb : Binds X.K fd ps ds) (hd : Vals dvs ds) (hx : Passes CX X E)
    (ha : PA X (e :: es) t) (hdb : (x == ("__debug__" : Str)) = false := by decide) (he : starEach (e :: es) X.env = (false, eval e X.env) :: starEach es X.env := by rfl) (hpl : (backTo pos (starEach es X.env)).any (·.1) = false := by rfl) :
    PE X (.Call (.Name x p) (e :: es) [] pos) (tCall sp dvs E t) := by
  intro pins s σ H Q I h
  refine wpAny_Call_Name_kw (ld_glob I hg hm ?_ hdb)
  refine PySem.W.callWith_K (h₀ := X.base) I.ok.mod.kin hk (thn (ha pos pins s σ H _ I h) fun us s1 ⟨vs, H1, I1, r, q⟩ => ⟨I1.kIn, ?_⟩) he hpl
  exact run_fn F hr hb hd hx I1 r q
theorem pe_call0 (F : FnOk X.prog X.w X.K X.mg X.base CX k f fd ps sp) (hr : Room k X.A) (hg : Gl X x) (hm : X.mg x = some (.ref f)) (hk : PySem.W.keepIn X.K (.ref f) = true) (hb : Binds X.K fd ps ds) (hd : Vals dvs ds) (hx : Passes CX X E)
    (hdb : (x == ("__debug__" : Str)) = false := by decide) : PE X (.Call (.Name x p) [] [] pos) (tCall sp dvs E tNil) := by
  intro pins s σ H Q I h
  refine wpAny_Call_Name_kw (ld_glob I hg hm ?_ hdb)
  exact PySem.W.callWith_K0 I.kIn hk (run_fn (us := []) F hr hb hd hx I .nil h)

/-- o.m(e, ..) -/
theorem pe_meth {pl : Sem Bool} (he : PE X o ta) (c : Cls X.K C) (hm : Meth X.K C m f) (F : FnOk X.prog X.w X.K X.mg X.base CX k f fd ps sp) (hr : Room k X.A) (hb : Binds X.K fd ps ds) (hd : Vals dvs ds) (hx : Passes CX X E) (ha : PA X (e :: es) t)
    (hst : starEach (e :: es) X.env = (false, eval e X.env) :: starEach es X.env := by rfl) (hpl : (backTo pos (starEach es X.env)).any (·.1) = false := by rfl)
    (ht : eval (.Call (.Attribute o m apos) (e :: es) [] pos) X.env = (do
      let ov ← eval o X.env
      standAt apos.atName
      let (f, first) ← holding [ov] (getMethod ov m pl)
      callWith pos f first (backTo pos (starEach (e :: es) X.env)) (backToKw pos (keywordEach [] X.env))) := by rfl) :
    PE X (.Call (.Attribute o m apos) (e :: es) [] pos) (tMeth C m sp dvs E ta t) := by
  intro pins s σ H Q I h
  refine PySem.W.methodCall_KW (pl := pl) (thn (he pins s σ H _ I h) fun u s1 ⟨x, H1, I1, rx, a, dx, fs, ex, ea, l, q⟩ => ?_) ht
  subst ex
  obtain rfl : u = Value.ref a := rx
  refine getmeth_ok I1 ea c hm l ?_
  refine PySem.W.callWith_K (first := [.ref a]) (h₀ := X.base) I.ok.mod.kin hm.kp (thn (ha pos pins s1 σ H1 _ I1 q) fun us s2 ⟨vs, H2, I2, r, q2⟩ => ⟨I2.kIn, ?_⟩) hst hpl
  exact run_fn (us := .ref a :: us) (vs := .ref a :: vs) F hr hb hd hx I2 (.cons rfl r) q2
/-- o.m() -/
theorem pe_meth0 {pl : Sem Bool} (he : PE X o ta) (c : Cls X.K C) (hm : Meth X.K C m f) (F : FnOk X.prog X.w X.K X.mg X.base CX k f fd ps sp) (hr : Room k X.A) (hb : Binds X.K fd ps ds) (hd : Vals dvs ds) (hx : Passes CX X E)
    (ht : eval (.Call (.Attribute o m apos) [] [] pos) X.env = (do
      let ov ← eval o X.env
      standAt apos.atName
      let (f, first) ← holding [ov] (getMethod ov m pl)
      callWith pos f first (backTo pos (starEach [] X.env)) (backToKw pos (keywordEach [] X.env))) := by rfl) :
    PE X (.Call (.Attribute o m apos) [] [] pos) (tMeth C m sp dvs E ta tNil) := by
  intro pins s σ H Q I h
  refine PySem.W.methodCall_KW (pl := pl) (thn (he pins s σ H _ I h) fun u s1 ⟨x, H1, I1, rx, a, dx, fs, ex, ea, l, q⟩ => ?_) ht
  subst ex
  obtain rfl : u = Value.ref a := rx
  refine getmeth_ok I1 ea c hm l ?_
  exact PySem.W.callWith_K0 (first := [.ref a]) I1.kIn hm.kp (run_fn (us := [.ref a]) (vs := [.ref a]) F hr hb hd hx I1 (.cons rfl .nil) q)

/-- what a class must have to be made -/
structure Mk (K : PySem.W.Frag) (C f : Addr) : Prop where
  makes : PySem.W.makesIn K C = true
  init : PySem.W.findIn K (.ref C) "__init__" = some (some (.ref f))
  fn : PySem.W.isFn K (.ref f) = true
  kp : PySem.W.keepIn K (.ref C) = true

theorem run_make {pins : List (Addr × Obj)} {σ : St} {H : Hp} {s : Shared} {Q : VK} {us : List Value} {vs : List V} (M : Mk X.K C f) (F : FnOk X.prog X.w X.K X.mg X.base CX k f fd ps sp) (hr : Room (k + 1) X.A) (hb : Binds X.K fd ps ds) (hd : Vals dvs ds)
    (hx : Passes CX X E) (I : Inv X pins σ H s) (r : Vals vs us)
    (h : ∀ x dx, H x = none → H dx = none → dx ≠ x → sp (.ref x :: (vs ++ dvs)) (upd (upd H dx (.own x)) x (.ins C dx [])) (fun v H2 => v = .non ∧ Q (.ref x) H2) E) :
    wpAny (model X.prog X.w) X.A (call (.ref C) us) (EP X pins σ Q) X.xe s := by
  have hq := h (s.heap.objs.size + 1) s.heap.objs.size (I.hok.fresh (Nat.le_succ _)) (I.hok.fresh (Nat.le_refl _)) (Nat.ne_of_lt (Nat.lt_succ_self _))
  have I2 := Inv.made (C := C) I
  have r2 : Vals (V.ref (s.heap.objs.size + 1) :: (vs ++ dvs)) (Value.ref (s.heap.objs.size + 1) :: (us ++ ds)) := .cons rfl (r.append hd)
  have hl : (Value.ref (s.heap.objs.size + 1) :: us ++ ds).length = ps.length := by
    have e := r2.length
    rw [F.len _ _ _ _ hq] at e
    exact e.symm
  refine wpAny_call (make_map (f := f) I.kIn M.makes M.init (beq_iff_eq.mp M.fn) (codeAny_mono (F.run _ X.stack _ _ ⟨Value.ref (s.heap.objs.size + 1) :: us, []⟩ (Value.ref (s.heap.objs.size + 1) :: (us ++ ds)) _ _ E (hr.make C us [])
    (I2.env0.make C us []) (hb _ (Value.ref (s.heap.objs.size + 1) :: us) I2.kIn hl) r2 hq) fun r s' hq' => ?_))
  cases r with
  | error e => exact hx pins σ _ _ e s' I2 hq'
  | ok fl =>
    cases fl with
    | ret u =>
      obtain ⟨v, H', I3, rv, ev, q3⟩ := I2.after hq'
      subst ev
      exact ⟨rv, ⟨V.ref (s.heap.objs.size + 1), H', I3, rfl, q3⟩⟩
    | next => exact False.elim hq'
    | brk => exact False.elim hq'
    | cont => exact False.elim hq'
theorem pe_make (M : Mk X.K C f) (F : FnOk X.prog X.w X.K X.mg X.base CX k f fd ps sp) (hr : Room (k + 1) X.A) (hg : Gl X x) (hm : X.mg x = some (.ref C)) (hb : Binds X.K fd ps ds) (hd : Vals dvs ds) (hx : Passes CX X E)
    (ha : PA X (e :: es) t) (hdb : (x == ("__debug__" : Str)) = false := by decide) (he : starEach (e :: es) X.env = (false, eval e X.env) :: starEach es X.env := by rfl) (hpl : (backTo pos (starEach es X.env)).any (·.1) = false := by rfl) :
    PE X (.Call (.Name x p) (e :: es) [] pos) (tMake C sp dvs E t) := by
  intro pins s σ H Q I h
  refine wpAny_Call_Name_kw (ld_glob I hg hm ?_ hdb)
  refine PySem.W.callWith_K (h₀ := X.base) I.ok.mod.kin M.kp (thn (ha pos pins s σ H _ I h) fun us s1 ⟨vs, H1, I1, r, q⟩ => ⟨I1.kIn, ?_⟩) he hpl
  exact run_make M F hr hb hd hx I1 r q
theorem pe_make0 (M : Mk X.K C f) (F : FnOk X.prog X.w X.K X.mg X.base CX k f fd ps sp) (hr : Room (k + 1) X.A) (hg : Gl X x) (hm : X.mg x = some (.ref C)) (hb : Binds X.K fd ps ds) (hd : Vals dvs ds) (hx : Passes CX X E)
    (hdb : (x == ("__debug__" : Str)) = false := by decide) : PE X (.Call (.Name x p) [] [] pos) (tMake C sp dvs E tNil) := by
  intro pins s σ H Q I h
  refine wpAny_Call_Name_kw (ld_glob I hg hm ?_ hdb)
  exact PySem.W.callWith_K0 I.kIn M.kp (run_make (us := []) M F hr hb hd hx I .nil h)
end

/-! ### keywords -/
/-- the values of the keywords, from the left -/
def PK (X : Cx) (kws : List Keyword) (t : TA) : Prop :=
  ∀ (pos : Pos) (pins : List (Addr × Obj)) (s : Shared) (σ : St) (H : Hp) (Q : List V → Hp → Prop), Inv X pins σ H s → t σ H Q → wpAny (model X.prog X.w) X.A (evalAll ((backToKw pos (keywordEach kws X.env)).map (·.2))) (AP X pins σ Q) X.xe s
section
variable {X : Cx} {CX : CXT} {k : Nat} {f C : Addr} {fd : FuncData} {ps ks : List Str} {sp : Sp} {E : XK} {x m : Str} {p pos apos kpos : Pos} {e o : Expr} {es : List Expr} {kws : List Keyword} {te ta : TE} {t tk : TA} {nm : Option Str}
theorem pk_nil : PK X [] tNil := fun _ _ _ _ H Q I h => wpAny_evalAll_nil ⟨[], H, I, .nil, h⟩
theorem pk_cons (ha : PE X e te) (hr : PK X kws t) : PK X (⟨nm, e, kpos⟩ :: kws) (tCons te t) := by
  intro pos pins s σ H Q I h
  show wpAny _ _ (evalAll ((do let v ← eval e X.env; standAt pos; pure v) :: (backToKw pos (keywordEach kws X.env)).map (·.2))) _ _ s
  refine wpAny_evalAll_cons (wpAny_bind (thn (ha pins s σ H _ I h) fun u s1 ⟨x, H1, I1, r1, q1⟩ => wpAny_bind (wpAny_standAt (wpAny_pure ?_))))
  exact thn (hr pos pins s1 σ H1 _ I1 q1) fun us s2 ⟨xs, H2, I2, r2, q2⟩ => ⟨x :: xs, H2, I2, .cons r1 r2, q2⟩

/-- how a call with keywords binds: g puts the positional values us and the keywords' values ws (names ks) in the parameters' order, defaults among them -/
structure KBinds (K : PySem.W.Frag) (fd : FuncData) (ps ks : List Str) (g : List Value → List Value → List Value) (gV : List V → List V → List V) : Prop where
  to : ∀ (s : Shared) (us ws : List Value), K.In s.heap → (g us ws).length = ps.length → BindsTo s fd ⟨us, ks.zip ws⟩ (ps.zip (g us ws))
  rel : ∀ {vs : List V} {us : List Value} {zs : List V} {ws : List Value}, Vals vs us → Vals zs ws → Vals (gV vs zs) (g us ws)
def tCallK (sp : Sp) (gV : List V → List V → List V) (E : XK) (t tk : TA) : TE := fun σ H Q => t σ H fun vs H1 => tk σ H1 fun zs H2 => sp (gV vs zs) H2 Q E
variable {g : List Value → List Value → List Value} {gV : List V → List V → List V}
theorem run_fnk {pins : List (Addr × Obj)} {σ : St} {H : Hp} {s : Shared} {Q : VK} {us ws : List Value} {vs zs : List V} (F : FnOk X.prog X.w X.K X.mg X.base CX k f fd ps sp) (hr : Room k X.A) (hb : KBinds X.K fd ps ks g gV) (hx : Passes CX X E)
    (I : Inv X pins σ H s) (r : Vals vs us) (rz : Vals zs ws) (h : sp (gV vs zs) H Q E) : wpAny (model X.prog X.w) X.A (call (.ref f) us (ks.zip ws)) (EP X pins σ Q) X.xe s := by
  have r2 := hb.rel r rz
  have hl : (g us ws).length = ps.length := by rw [← r2.length]; exact F.len _ _ _ _ h
  refine wpAny_call (codeAny_mono (F.run X.A X.stack s H ⟨us, ks.zip ws⟩ (g us ws) (gV vs zs) Q E hr I.env0 (hb.to s us ws I.kIn hl) r2 h) fun r s' hq => ?_)
  cases r with
  | error e => exact hx pins σ H s e s' I hq
  | ok fl =>
    cases fl with
    | ret u => exact I.after hq
    | next => exact False.elim hq
    | brk => exact False.elim hq
    | cont => exact False.elim hq
/-- f(e, .., k = v, ..) -/
theorem pe_callK (F : FnOk X.prog X.w X.K X.mg X.base CX k f fd ps sp) (hr : Room k X.A) (hg : Gl X x) (hm : X.mg x = some (.ref f)) (hk : PySem.W.keepIn X.K (.ref f) = true) (hb : KBinds X.K fd ps ks g gV) (hx : Passes CX X E)
    (ha : PA X (e :: es) t) (hkw : PK X kws tk) (hall : (backToKw pos (keywordEach kws X.env)).all (·.1.isSome) = true := by rfl) (hks : (backToKw pos (keywordEach kws X.env)).filterMap (·.1) = ks := by rfl)
    (hdb : (x == ("__debug__" : Str)) = false := by decide) (he : starEach (e :: es) X.env = (false, eval e X.env) :: starEach es X.env := by rfl)
    (hpl : ((backTo pos (starEach (e :: es) X.env)).any (·.1) || (backToKw pos (keywordEach kws X.env)).any (·.1.isNone)) = false := by rfl) :
    PE X (.Call (.Name x p) (e :: es) kws pos) (tCallK sp gV E t tk) := by
  intro pins s σ H Q I h
  refine wpAny_Call_Name_kw (ld_glob I hg hm ?_ hdb)
  refine PySem.W.callWith_KW (h₀ := X.base) I.ok.mod.kin hk hall (thn (ha pos pins s σ H _ I h) fun us s1 ⟨vs, H1, I1, r, q⟩ => ?_) hpl he
  refine thn (hkw pos pins s1 σ H1 _ I1 q) fun ws s2 ⟨zs, H2, I2, rz, q2⟩ => ⟨I2.kIn, ?_⟩
  rw [hks]
  exact run_fnk F hr hb hx I2 r rz q2
end

/-! ### a def's body keeps its promise -/
/-- names: the parameters first -/
structure FnScope (N P : List Str) (sc : Scope) : Prop where
  kind : sc.kind = .function
  co : sc.isCoroutine = false
  gen : sc.isGenerator = false
  nd : N.Nodup
  pre : N.take P.length = P
  par : ∀ x ∈ P, sc.names.lookup x = some .local ∨ sc.names.lookup x = some .cell
  nofree : ∀ y ∈ sc.names, y.2 ≠ .free

theorem bindL_out {kindOf : Str → Option NameKind} {x : Str} : ∀ {binds : List (Str × Value)} {m : Str → Option Value}, (∀ v, (x, v) ∉ binds) → bindL kindOf binds m x = m x
  | [], _, _ => rfl
  | (n, v) :: r, m, h => by
    unfold bindL
    rw [bindL_out fun w hw => h w (List.mem_cons_of_mem _ hw)]
    split
    · have : x ≠ n := by rintro rfl; exact h v List.mem_cons_self
      simp [this]
    · rfl
theorem bindC_out {kindOf : Str → Option NameKind} {x : Str} : ∀ {binds : List (Str × Value)} {m : Str → Option Value}, (∀ v, (x, v) ∉ binds) → bindC kindOf binds m x = m x
  | [], _, _ => rfl
  | (n, v) :: r, m, h => by
    unfold bindC
    rw [bindC_out fun w hw => h w (List.mem_cons_of_mem _ hw)]
    split
    · rfl
    · have : x ≠ n := by rintro rfl; exact h v List.mem_cons_self
      simp [this]
theorem bindL_get {kindOf : Str → Option NameKind} {x : Str} {v : Value} : ∀ {P : List Str} {vs : List Value} {i : Nat} {m : Str → Option Value}, P.Nodup → P[i]? = some x → vs[i]? = some v → kindOf x = some .local →
    bindL kindOf (P.zip vs) m x = some v
  | [], _, _, _, _, h, _, _ => by simp at h
  | _ :: _, [], _, _, _, _, h, _ => by simp at h
  | p :: P, w :: vs, 0, m, nd, h1, h2, hk => by
    simp at h1 h2; subst h1; subst h2
    show bindL kindOf ((p, w) :: P.zip vs) m p = _
    unfold bindL
    rw [bindL_out fun v hv => (List.nodup_cons.mp nd).1 (List.of_mem_zip hv).1, if_pos hk]
    simp
  | p :: P, w :: vs, i + 1, m, nd, h1, h2, hk => by
    show bindL kindOf ((p, w) :: P.zip vs) m x = _
    unfold bindL
    exact bindL_get (i := i) (List.nodup_cons.mp nd).2 (by simpa using h1) (by simpa using h2) hk
theorem bindC_get {kindOf : Str → Option NameKind} {x : Str} {v : Value} : ∀ {P : List Str} {vs : List Value} {i : Nat} {m : Str → Option Value}, P.Nodup → P[i]? = some x → vs[i]? = some v → kindOf x ≠ some .local →
    bindC kindOf (P.zip vs) m x = some v
  | [], _, _, _, _, h, _, _ => by simp at h
  | _ :: _, [], _, _, _, _, h, _ => by simp at h
  | p :: P, w :: vs, 0, m, nd, h1, h2, hk => by
    simp at h1 h2; subst h1; subst h2
    show bindC kindOf ((p, w) :: P.zip vs) m p = _
    unfold bindC
    rw [bindC_out fun v hv => (List.nodup_cons.mp nd).1 (List.of_mem_zip hv).1, if_neg hk]
    simp
  | p :: P, w :: vs, i + 1, m, nd, h1, h2, hk => by
    show bindC kindOf ((p, w) :: P.zip vs) m x = _
    unfold bindC
    exact bindC_get (i := i) (List.nodup_cons.mp nd).2 (by simpa using h1) (by simpa using h2) hk

/-- the names' values at the entry -/
def start (N : List Str) (vs : List V) : St := vs.map some ++ List.replicate (N.length - vs.length) none

/-- the context of a def's body, at its entry; an exception leaves the frame, then lies as CX says -/
def cxOf (CX : CXT) (P : Program) (w : World) (K : PySem.W.Frag) (mg : Str → Option Value) (base : Heap) (N : List Str) (qual : Str) (scope : Scope) (f : Addr) (cd : Value) (A : Around) (outer : List Env) (s : Shared) (H : Hp) (E : XK) : Cx where
  prog := P
  w := w
  K := K
  mg := mg
  base := base
  A := A.deeper (envOfC qual scope s.heap.objs.size f cd)
  N := N
  s_0 := s
  H_0 := H
  env := envOfC qual scope s.heap.objs.size f cd
  outer := outer
  stack := envOfC qual scope s.heap.objs.size f cd :: outer
  ex := []
  calm := true
  fn := fun _ => true
  pn := []
  xe := fun e s' => wpAny (model P w) (A.deeper (envOfC qual scope s.heap.objs.size f cd)) (leaving (envOfC qual scope s.heap.objs.size f cd) e) (fun _ s'' => CX outer H s E e s'') (fun e' s'' => CX outer H s E e' s'') s'

theorem cell_has {sc : Scope} {n : Nat} {x : Str} (h : sc.names.lookup x = some .cell) : ∃ c, (cellsFrom n sc.names []).lookup x = some c := by
  have q := PySem.W.cellsFrom_some sc.names n [] (.inl h)
  exact Option.isSome_iff_exists.mp q

theorem inv_start {CX : CXT} {P : Program} {w : World} {K : PySem.W.Frag} {mg : Str → Option Value} {base : Heap} {N ps : List Str} {qual : Str} {scope : Scope} {f : Addr} {cd : Value} {A : Around} {outer : List Env} {s s1 : Shared} {H : Hp} {E : XK} {us : List Value} {vs : List V}
    (S : FnScope N ps scope) (hd : A.handled = none) (e0 : Env0 P w K mg base A outer s H) (hl : vs.length = ps.length) (r : Vals vs us)
    (x : InCallC s s.heap.objs.size (bindL (envOfC qual scope s.heap.objs.size f cd).kindOf (ps.zip us) fun _ => none) (cellsFrom (s.heap.objs.size + 1) scope.names []) (bindC (envOfC qual scope s.heap.objs.size f cd).kindOf (ps.zip us) fun _ => none) s1) :
    Inv (cxOf CX P w K mg base N qual scope f cd A outer s H E) [] (start N vs) H s1 := by
  have hpl : ps.length ≤ N.length := by have := congrArg List.length S.pre; rw [List.length_take] at this; omega
  obtain ⟨h1, tk, rfl, hk⟩ := x.done
  have noA : ∀ b : Addr, b ∉ (cxOf CX P w K mg base N qual scope f cd A outer s H E).ex := fun b z => absurd (show b ∈ ([] : List Addr) from z) (by simp)
  refine ⟨⟨e0.mod, S.kind, rfl, rfl, Nat.le_refl _, fun y z c h1 h2 => ?_, fun y hy => ?_, fun y c _ h => ?_, fun _ => hd, Around.frames_deeper e0.frames, .inr ⟨rfl, rfl⟩, fun b z => absurd z (noA b), e0.bs, e0.bsz, fun b _ _ => noA b, fun b z => absurd z (noA b), e0.funs, e0.frf⟩,
    rfl, e0.bare, Un.kept hk, ⟨_, x.toInCall.ns, fun i y v h1 h2 h3 => ?_⟩, fun y c h => ⟨_, x.cell y c h⟩, e0.hok.fresh (Nat.le_refl _), fun y c h => ?_, fun p hp => absurd (show p ∈ ([] : List (Addr × Obj)) from hp) (by simp), e0.hok.kept hk, ?_⟩
  · exact name_of_addr x.apart (PySem.mem_of_lookup h1) (PySem.mem_of_lookup h2)
  · have hy : scope.names.lookup y = some .cell ∨ scope.names.lookup y = some .free := hy
    rcases hy with hy | hy
    · exact cell_has hy
    · exact absurd rfl (S.nofree _ (PySem.mem_of_lookup hy))
  · exact Nat.le_of_lt (x.above y c (PySem.mem_of_lookup h))
  · have hi : i < vs.length := by
      unfold start at h2
      by_cases hi : i < vs.length
      · exact hi
      · rw [List.getElem?_append_right (by simpa using hi)] at h2
        rw [List.getElem?_replicate] at h2
        split at h2 <;> cases h2
    have ha : vs[i]? = some v := by
      unfold start at h2
      rw [List.getElem?_append_left (by simpa using hi), List.getElem?_map] at h2
      cases e : vs[i]? with
      | none => rw [e] at h2; cases h2
      | some a => rw [e] at h2; cases h2; rfl
    obtain ⟨u, hu, rv⟩ := r.get ha
    have hp : ps[i]? = some y := by
      rw [← S.pre, List.getElem?_take_of_lt (by omega)]; exact h1
    have ndP : ps.Nodup := by rw [← S.pre]; exact S.nd.sublist (List.take_sublist _ _)
    refine ⟨u, rv, ?_⟩
    rcases S.par y (List.mem_of_getElem? hp) with k | k
    · exact .inl ⟨k, bindL_get ndP hp hu k⟩
    · obtain ⟨c, e⟩ := cell_has (n := s.heap.objs.size + 1) k
      refine .inr ⟨.inl k, c, e, ?_⟩
      have q := x.cell y c e
      rw [bindC_get ndP hp hu (by show scope.names.lookup y ≠ _; rw [k]; decide)] at q
      exact q
  · exact e0.hok.fresh (Nat.le_of_lt (x.above y c (PySem.mem_of_lookup h)))
  · unfold start
    show _ = N.length
    rw [List.length_append, List.length_map, List.length_replicate]
    omega

/-- THE RULE: a def (or a method) of the text, by its body. The body's reading t is chosen for each entry; it is run at the parameters' values -/
theorem fn_of {CX : CXT} {P : Program} {w : World} {K : PySem.W.Frag} {mg : Str → Option Value} {base : Heap} {k : Nat} {f : Addr} {name qual : Str} {params : Arguments} {body : List Stmt} {scope : Scope} {dV kV doc pm cdv ct oc : Value} {an od : Option Addr}
    {osl : Array (Option Value)} {N ps : List Str} {sp : Sp} (lk : K.lookup f = some ⟨oc, od, .func (PySem.W.fnOf name qual params body scope dV kV doc pm an cdv ct), osl⟩) (hcd : PySem.W.codeIn K cdv qual = true) (S : FnScope N ps scope)
    (len : ∀ vs H Q E, sp vs H Q E → vs.length = ps.length)
    (hbody : ∀ (A : Around) (outer : List Env) (s : Shared) (H : Hp) (vs : List V) (Q : VK) (E : XK), Room k (A.deeper (envOfC qual scope s.heap.objs.size f cdv)) → sp vs H Q E →
      ∃ t, PSs (cxOf CX P w K mg base N qual scope f cdv A outer s H E) body t ∧ t { nx := fun _ H' => Q .non H', rt := Q } (start N vs) H) :
    FnOk P w K mg base CX (k + 1) f (PySem.W.fnOf name qual params body scope dV kV doc pm an cdv ct) ps sp := by
  refine ⟨len, fun A outer s H args us vs Q E hr e0 hb r hsp => ?_⟩
  have hl := len _ _ _ _ hsp
  have KX : K.In s.heap := e0.mod.kin.keeps fun b o e => (e0.bs b o e).1
  have lim : s.heap.NoLimit := e0.mod.nolimit.keeps fun b o e => (e0.bs b o e).1
  have hkind : ∀ y ∈ ps.zip us, scope.names.lookup y.1 = some .local ∨ (scope.names.lookup y.1 = some .cell ∧ ((cellsFrom (s.heap.objs.size + 1) scope.names []).lookup y.1).isSome = true) := fun ⟨n, v⟩ hy => by
    rcases S.par n (List.of_mem_zip hy).1 with q | q
    · exact .inl q
    · exact .inr ⟨q, PySem.W.cellsFrom_some _ _ _ (.inl q)⟩
  refine codeAny_call_function hr.depth (KX _ _ lk) rfl S.co S.gen rfl (PySem.W.codeRec_of KX hcd) (hb _ _ _ _ ?_)
  refine wpAny_newFunctionEnv_cells S.kind hkind fun env he s1 x => ?_
  subst he
  refine ⟨lim.keeps x.toInCall.keep, codeAny_func ?_⟩
  obtain ⟨t, ht, hq⟩ := hbody A outer s H vs Q E (hr.deeper _) hsp
  have I : Inv (cxOf CX P w K mg base N qual scope f cdv A outer s H E) [] (start N vs) H s1 := inv_start S hr.hd e0 hl r x
  refine wpAny_mono (ht [] s1 (start N vs) H _ I hq) (fun fl s' hs => ?_) fun e s' hs => hs
  have fin : ∀ {σ' : St} {H' : Hp} {v : V} {u : Value}, Inv (cxOf CX P w K mg base N qual scope f cdv A outer s H E) [] σ' H' s' → RelV v u → Q v H' → CE outer P w H s Q u s' :=
    fun {σ' H' v u} J rv q => ⟨v, H', J.os, J.bare, J.base, J.hok, rv, q⟩
  cases fl with
  | ret u =>
    obtain ⟨v, σ', H', J, rv, q⟩ := hs
    exact fin J rv q
  | next =>
    obtain ⟨σ', H', J, q⟩ := hs
    exact fin (v := V.non) (u := Value.none) J rfl q
  | brk =>
    obtain ⟨_, _, _, q⟩ := hs
    exact False.elim q
  | cont =>
    obtain ⟨_, _, _, q⟩ := hs
    exact False.elim q
end L2

namespace L2
open PySem PySem.Spec PyProof.Rows
section
variable {X : Cx} {x : Str} {p pos : Pos} {e : Expr} {es : List Expr} {t : TA} {id T : String} {r : List V → Hp → VK → Prop}

def tCB (r : List V → Hp → VK → Prop) (t : TA) : TE := fun σ H Q => t σ H fun vs H1 => r vs H1 Q
/-- f(e, ..), f a built-in function -/
theorem pe_callB (hc : CallR X (.builtin id) r) (hg : Gl X x) (hm : X.mg x = none) (hv : bootBuiltins x = some (.builtin id)) (ha : PA X (e :: es) t) (hn : x ≠ "__name__" := by decide) (hdb : (x == ("__debug__" : Str)) = false := by decide)
    (he : starEach (e :: es) X.env = (false, eval e X.env) :: starEach es X.env := by rfl) (hpl : (backTo pos (starEach es X.env)).any (·.1) = false := by rfl) : PE X (.Call (.Name x p) (e :: es) [] pos) (tCB r t) := by
  intro pins s σ H Q I h
  refine wpAny_Call_Name_kw (ld_blt I hg hm hv ?_ hn hdb)
  exact PyProof.Rows.callWith_builtin1 (thn (ha pos pins s σ H _ I h) fun us s1 ⟨vs, H1, I1, r1, q1⟩ => hc pins s1 σ H1 vs us Q I1 r1 q1) he hpl
/-- T(e, ..), T a built-in type -/
theorem pe_callTy (hc : CallR X (.type T) r) (hg : Gl X x) (hm : X.mg x = none) (hv : bootBuiltins x = some (.type T)) (ha : PA X (e :: es) t) (hn : x ≠ "__name__" := by decide) (hdb : (x == ("__debug__" : Str)) = false := by decide)
    (he : starEach (e :: es) X.env = (false, eval e X.env) :: starEach es X.env := by rfl) (hpl : (backTo pos (starEach es X.env)).any (·.1) = false := by rfl) : PE X (.Call (.Name x p) (e :: es) [] pos) (tCB r t) := by
  intro pins s σ H Q I h
  refine wpAny_Call_Name_kw (ld_blt I hg hm hv ?_ hn hdb)
  exact PyProof.Rows.callWith_type1 (thn (ha pos pins s σ H _ I h) fun us s1 ⟨vs, H1, I1, r1, q1⟩ => hc pins s1 σ H1 vs us Q I1 r1 q1) he hpl
/-- T() -/
theorem pe_callTy0 (hc : CallR X (.type T) r) (hg : Gl X x) (hm : X.mg x = none) (hv : bootBuiltins x = some (.type T)) (hn : x ≠ "__name__" := by decide) (hdb : (x == ("__debug__" : Str)) = false := by decide) :
    PE X (.Call (.Name x p) [] [] pos) (tCB r tNil) := by
  intro pins s σ H Q I h
  refine wpAny_Call_Name_kw (ld_blt I hg hm hv ?_ hn hdb)
  exact PyProof.Rows.callWith_type0 (hc pins s σ H [] [] Q I .nil h)
end
end L2

namespace HT
open PySem PyProof.Rows

/-- t < u of tuples of ints -/
def lexLt : List Int → List Int → Bool
  | [], [] => false
  | [], _ :: _ => true
  | _ :: _, [] => false
  | x :: xs, y :: ys => if x = y then lexLt xs ys else decide (x < y)
theorem lexLt_cons (x y : Int) (xs ys : List Int) : lexLt (x :: xs) (y :: ys) = if x = y then lexLt xs ys else decide (x < y) := rfl
theorem lexLt_nil_nil : lexLt [] [] = false := rfl
theorem lexLt_nil_cons (y : Int) (ys : List Int) : lexLt [] (y :: ys) = true := rfl
theorem lexLt_cons_nil (x : Int) (xs : List Int) : lexLt (x :: xs) [] = false := rfl

theorem eqAt_int (A : Around) (s : Shared) (a : Int) (t : Tok) (c : Int) (u : Tok) : ∃ e, SeqAt.EqAt A s (.int a t) (.int c u) e ∧ (e = true ↔ a = c) :=
  ⟨(a == c), SeqAt.EqAt.int_int a t c u, by simp⟩
theorem rcLt_int (A : Around) (s : Shared) (a : Int) (t : Tok) (c : Int) (u : Tok) (prog : Program) (w : World) (E : Value → Shared → Prop) (Q : Value → Shared → Prop) (h : Q (.bool (decide (a < c))) s) :
    wpAny (model prog w) A (richCompare .Lt (.int a t) (.int c u)) Q E s :=
  (PyProof.Rows.lt_int h : wpAny (model prog w) A (compareOp .Lt (.int a t) (.int c u)) Q E s)

section
open PySem.SeqAt
open PySem.AutoSeq1 (wpAny_loadPart')
open PySem.MeetsSeq PySem.MeetsSeq2 PySem.MeetsSeq3

theorem tuple_lt_ints (l b : Addr) (items items2 : Array Value) (n n2 : Nat) (dd dd2 : Option Addr) (sl sl2 : Array (Option Value)) (ns ms : List Int) (hi : IntsAre items.toList ns) (hj : IntsAre items2.toList ms) :
    Meets (Builtin.«tuple.__lt__» ⟨[.ref l, .ref b], []⟩)
      (fun _ R s => s.heap.get? l = some { cls := .type "tuple", dict := dd, data := .seq items n, slots := sl } ∧ s.heap.get? b = some { cls := .type "tuple", dict := dd2, data := .seq items2 n2, slots := sl2 } ∧
        R (.ok (.ret (.bool (lexLt ns ms)))) s) :=
  .of_wp fun prog w A R s h => by
    obtain ⟨hp, g, d, tk, os⟩ := s; obtain ⟨hl, hb, h⟩ := h
    have f2 := AutoSeq1.sub_tuple_tuple
    have z1 : items.size = ns.length := by rw [← hi.length]; simp
    have z2 : items2.size = ms.length := by rw [← hj.length]; simp
    wp_walk using wpAny_loadPart' hl, wpAny_loadPart' hb, wpAny_forIn_list _ (fun rest b s' => b.1 = none ∧ s' = ⟨hp, g, d, tk, os⟩ ∧ ∃ (vs ws : List Value) (ns' ms' : List Int), rest = vs.zip ws ∧
      IntsAre vs ns' ∧ IntsAre ws ms' ∧ ns'.length + items2.size = ms'.length + items.size ∧ R (.ok (.ret (.bool (lexLt ns' ms')))) ⟨hp, g, d, tk, os⟩) _
    case turn =>
      rintro ⟨y, x⟩ rest b s' ⟨hb', rfl, vs, ws, ns', ms', hz, hvi, hwi, hlen, hR⟩
      cases hvi with
      | nil => rw [List.zip_nil_left] at hz; cases hz
      | cons a t hvi' =>
        cases hwi with
        | nil => rw [List.zip_nil_right] at hz; cases hz
        | cons c u hwi' =>
          rw [List.zip_cons_cons] at hz
          injection hz with hyx hrest
          injection hyx with hy hx
          subst hy hx
          rw [lexLt_cons] at hR
          simp only [List.length_cons] at hlen
          obtain ⟨e, he, hiff⟩ := eqAt_int A.in1 ⟨hp, g, d, tk, os⟩ a t c u
          refine wpAny_bind (he prog w _ _ ?_)
          cases e with
          | true =>
            rw [if_pos (hiff.mp rfl)] at hR
            wp_walk
            exact ⟨rfl, rfl, _, _, _, _, hrest, hvi', hwi', by omega, hR⟩
          | false =>
            rw [if_neg (fun q => absurd (hiff.mpr q) Bool.false_ne_true)] at hR
            have hri := rcLt_int A.in1 ⟨hp, g, d, tk, os⟩ a t c u prog w
            wp_walk using hri
            exact ⟨_, rfl, by simpa using hR⟩
    case fin =>
      rintro ⟨b1, b2⟩ s' ⟨hb', rfl, vs, ws, ns', ms', hz, hvi, hwi, hlen, hR⟩
      simp only at hb'
      subst hb'
      have hv : lexLt ns' ms' = decide (items.size < items2.size) := by
        cases hvi with
        | nil =>
          cases hwi with
          | nil =>
            simp only [List.length_nil] at hlen
            rw [lexLt_nil_nil]
            exact (decide_eq_false (by omega)).symm
          | cons c u hw =>
            simp only [List.length_nil, List.length_cons] at hlen
            rw [lexLt_nil_cons]
            exact (decide_eq_true (by omega)).symm
        | cons a t hv =>
          cases hwi with
          | nil =>
            simp only [List.length_nil, List.length_cons] at hlen
            rw [lexLt_cons_nil]
            exact (decide_eq_false (by omega)).symm
          | cons c u hw =>
            rw [List.zip_cons_cons] at hz
            cases hz
      rw [hv] at hR
      wp_walk
      exact ⟨_, rfl, by simpa [Builtin.Tuple.tupleCompareSizes] using hR⟩
    case h =>
      exact ⟨rfl, rfl, items.toList, items2.toList, ns, ms, rfl, hi, hj, by omega, h⟩
end

section
variable {prog : Program} {w : World} {A : Around} {E : Value → Shared → Prop} {s : Shared}

theorem lt_tupInts {l b : Addr} {items items2 : Array Value} {ns ms : List Int} {Q : Value → Shared → Prop} (hl : IsTup s.heap l items) (hb : IsTup s.heap b items2) (hi : IntsAre items.toList ns) (hj : IntsAre items2.toList ms)
    (hu : A.units < cLine) (h : Q (.bool (lexLt ns ms)) s) : wpAny (model prog w) A (compareOp .Lt (.ref l) (.ref b)) Q E s := by
  obtain ⟨⟨cls, dd, data, sl⟩, ho, hc, n, hd⟩ := id hl
  obtain ⟨⟨cls2, dd2, data2, sl2⟩, ho2, hc2, n2, hd2⟩ := id hb
  simp only at hc hd hc2 hd2
  subst hc hd hc2 hd2
  exact richCompare_meets_room (op := .Lt) ⟨_, ho, rfl⟩ ⟨_, ho2, rfl⟩ PySem.F.slot_tuple_lt PySem.F.entry_tuple_lt (PySem.F.args_tuple_lt_2 _ _) (tuple_lt_ints l b items items2 n n2 dd dd2 sl sl2 ns ms hi hj)
    ⟨ho, ho2, show Value.bool (lexLt ns ms) ≠ Value.notImplemented ∧ Q (.bool (lexLt ns ms)) s from ⟨(fun x => nomatch x), h⟩⟩ hu

/-- t + u, t not empty -/
theorem cat_tup {t b : Addr} {vs ws : List Value} {Q : Value → Shared → Prop} (ht : IsTup s.heap t vs.toArray) (hb : IsTup s.heap b ws.toArray) (hv : vs ≠ [])
    (h1 : ws = [] → Q (.ref t) s) (h2 : ws ≠ [] → Q (.ref s.heap.objs.size) { s with heap := s.heap.push { cls := .type "tuple", data := .seq (vs ++ ws).toArray } })
    (hsz : vs.length + ws.length ≤ sizeLine) : wpAny (model prog w) A (binaryOp .Add (.ref t) (.ref b)) Q E s := by
  obtain ⟨⟨cls, dd, data, sl⟩, ho, hc, n, hd⟩ := id ht
  obtain ⟨⟨cls2, dd2, data2, sl2⟩, ho2, hc2, n2, hd2⟩ := id hb
  simp only at hc hd hc2 hd2
  subst hc hd hc2 hd2
  have e : vs.toArray ++ ws.toArray = (vs ++ ws).toArray := by simp
  by_cases hw : ws = []
  · exact concat_meets ⟨_, ho, rfl⟩ ⟨_, ho2, rfl⟩ noFill_tuple_add seq_tuple_add PySem.F.slot_tuple_add PySem.F.entry_tuple_add (PySem.F.args_tuple_add_2 _ _)
      (tuple_addW1 t b vs.toArray ws.toArray n n2 dd dd2 sl sl2 (by simpa using hv) (by simp [hw])) ⟨ho, ho2, h1 hw⟩
  · refine concat_meets ⟨_, ho, rfl⟩ ⟨_, ho2, rfl⟩ noFill_tuple_add seq_tuple_add PySem.F.slot_tuple_add PySem.F.entry_tuple_add (PySem.F.args_tuple_add_2 _ _)
      (tuple_addW2 t b vs.toArray ws.toArray n n2 dd dd2 sl sl2 (by simpa using hv) (by simpa using hw) (by rw [List.size_toArray, List.size_toArray]; exact hsz)) ⟨ho, ho2, ?_⟩
    rw [e]
    exact h2 hw

/-! ### t[a:b], not the whole -/
/-- a slice's bound as a place among n (d where it is left out) -/
def sIx (n d : Nat) : Option Int → Nat
  | none => d
  | some v => if v < 0 then (v + (n : Int)).toNat else min v.toNat n
theorem sIx_none (n d : Nat) : sIx n d none = d := rfl
theorem sIx_nat (n d k : Nat) : sIx n d (some (k : Int)) = min k n := by
  show (if (k : Int) < 0 then ((k : Int) + (n : Int)).toNat else min (k : Int).toNat n) = min k n
  rw [if_neg (by omega), Int.toNat_natCast]
theorem sIx_le (n d : Nat) (hd : d ≤ n) (o : Option Int) : sIx n d o ≤ n := by
  cases o with
  | none => exact hd
  | some v =>
    show (if v < 0 then (v + (n : Int)).toNat else min v.toNat n) ≤ n
    by_cases hv : v < 0
    · rw [if_pos hv]; omega
    · rw [if_neg hv]; exact Nat.min_le_right _ _
theorem clip_eq (v : Int) (n d : Nat) : (if v < 0 then max (v + (n : Int)) 0 else min v (n : Int)) = ((sIx n d (some v) : Nat) : Int) := by
  show (if v < 0 then max (v + (n : Int)) 0 else min v (n : Int)) = (((if v < 0 then (v + (n : Int)).toNat else min v.toNat n) : Nat) : Int)
  by_cases hv : v < 0
  · simp only [if_pos hv]; omega
  · simp only [if_neg hv]; omega
theorem adjust_gen (lo hi : Option Int) (n : Nat) : Builtin.Slice.sliceAdjust lo hi 1 (n : Int) = (((sIx n 0 lo : Nat) : Int), ((sIx n n hi : Nat) : Int)) := by
  have h1 : ¬ ((1 : Int) < 0) := by omega
  unfold Builtin.Slice.sliceAdjust
  simp only [h1, if_false]
  refine Prod.ext ?_ ?_
  · cases lo with
    | none => rfl
    | some v => exact clip_eq v n 0
  · cases hi with
    | none => rfl
    | some v => exact clip_eq v n n
theorem places_gen (i j : Nat) : Builtin.Slice.slicePlaces (i : Int) (j : Int) 1 = j - i := by
  unfold Builtin.Slice.slicePlaces
  have h1 : (1 : Int) > 0 := by omega
  simp only [h1, if_true, Int.ediv_one]
  split <;> omega
theorem slicePart_ {v : Value} {o : Option Int} {Q : Option Int → Shared → Prop} (p : IsPart v o) (h : Q o s) : wpAny (model prog w) A (Builtin.Slice.slicePartIndex v) Q E s := by
  cases p with
  | none => exact slicePart_none h
  | int i t => exact slicePart_int h
theorem sliceApplied_gen {sl : Addr} {vl vu : Value} {lo hi : Option Int} {n : Nat} {Q : Int × Int × Nat → Shared → Prop} (hs : s.heap.IsSliceOf sl vl vu .none) (pl : IsPart vl lo) (pu : IsPart vu hi)
    (h : Q (((sIx n 0 lo : Nat) : Int), 1, sIx n n hi - sIx n 0 lo) s) : wpAny (model prog w) A (Builtin.Slice.sliceApplied (.ref sl) (pure (n : Int))) Q E s := by
  obtain ⟨os, hos, hcs, hds⟩ := id hs
  unfold Builtin.Slice.sliceApplied Builtin.Slice.sliceFields
  refine wpAny_bind (wpAny_bind (wpAny_field hos hds (x := vl) rfl (wpAny_bind (wpAny_field hos hds (x := vu) rfl (wpAny_bind (wpAny_field hos hds (x := .none) rfl (wpAny_pure ?_)))))))
  refine wpAny_bind (slicePart_none ?_)
  show wpAny _ _ (if ((1 : Int) == 0) = true then _ else _) _ _ s
  rw [if_neg (by decide)]
  refine wpAny_bind (slicePart_ pl (wpAny_bind (slicePart_ pu (wpAny_bind (wpAny_pure ?_)))))
  show wpAny _ _ (match Builtin.Slice.sliceAdjust lo hi 1 (n : Int) with | (lo, hi) => pure (lo, (1 : Int), Builtin.Slice.slicePlaces lo hi 1)) _ _ s
  rw [adjust_gen lo hi n]
  show wpAny _ _ (pure (((sIx n 0 lo : Nat) : Int), (1 : Int), Builtin.Slice.slicePlaces ((sIx n 0 lo : Nat) : Int) ((sIx n n hi : Nat) : Int) 1)) _ _ s
  rw [places_gen]
  exact wpAny_pure h
theorem pick_gen (xs : Array Value) (i k : Nat) : ((List.range k).filterMap fun (m : Nat) => xs[((i : Int) + (m : Int) * 1).toNat]?).toArray = ((xs.toList.drop i).take k).toArray := by
  have e : (fun (m : Nat) => xs[((i : Int) + (m : Int) * 1).toNat]?) = fun m => xs[i + m]? := by
    funext m
    have : ((i : Int) + (m : Int) * 1).toNat = i + m := by omega
    rw [this]
  rw [e]
  have := pick_run xs i k
  rw [List.filterMap_map] at this
  have e2 : ((fun x => xs[x]?) ∘ fun x => i + x) = fun m => xs[i + m]? := rfl
  rw [e2] at this
  rw [this]

theorem getItem_tuple_cut {t sl : Addr} {items : Array Value} {vl vu : Value} {lo hi : Option Int} {Q : Value → Shared → Prop} (ht : IsTup s.heap t items) (hs : s.heap.IsSliceOf sl vl vu .none) (pl : IsPart vl lo) (pu : IsPart vu hi)
    (hw : ¬ (sIx items.size 0 lo = 0 ∧ sIx items.size items.size hi = items.size))
    (h : Q (.ref s.heap.objs.size) { s with heap := s.heap.push { cls := .type "tuple", data := .seq ((items.toList.drop (sIx items.size 0 lo)).take (sIx items.size items.size hi - sIx items.size 0 lo)).toArray } })
    (hsz : items.size ≤ sizeLine) : wpAny (model prog w) A (getItem (.ref t) (.ref sl)) Q E s := by
  have htake : sizeOk (.seq ((items.toList.drop (sIx items.size 0 lo)).take (sIx items.size items.size hi - sIx items.size 0 lo)).toArray) := by
    show ((items.toList.drop (sIx items.size 0 lo)).take (sIx items.size items.size hi - sIx items.size 0 lo)).toArray.size ≤ sizeLine
    rw [List.size_toArray, List.length_take, List.length_drop, Array.length_toList]
    omega
  have hj : sIx items.size items.size hi ≤ items.size := sIx_le _ _ (Nat.le_refl _) hi
  obtain ⟨os, hos, hcs, hds⟩ := id hs
  have hTs : s.TypeIs (.ref sl) "slice" := ⟨os, hos, hcs⟩
  unfold getItem
  try with_reducible refine wpAny_holding ?_
  first | refine wpAny_bind (wpAny_pure ?_) | skip
  refine wpAny_bind (wpAny_sequenceKey ht.typeIs (by decide) ?_)
  refine wpAny_bind (wpAny_callSpecial?_slot (name := Str.ofString "__getitem__") ht.typeIs PyProof.Rows.slot_tuple_getitem
    (wpAny_call_entry PyProof.Rows.slot_tuple_getitem ht.typeIs entry_tuple_getitem ?_ (args_tuple_getitem _ _)))
  show wpAny _ _ (Builtin.Tuple.tupleItemsOf (.ref t) >>= _) _ _ s
  refine wpAny_bind (tupleItemsOf_ ht ?_)
  refine wpAny_bind (wpAny_typeOf hTs ?_)
  rw [if_pos (by decide)]
  refine wpAny_bind (sliceApplied_gen hs pl pu ?_)
  have hno : ¬ ((((sIx items.size 0 lo : Nat) : Int) == 0 && (1 : Int) == 1 && (sIx items.size items.size hi - sIx items.size 0 lo) == items.size) = true) := by
    intro q
    rw [Bool.and_eq_true, Bool.and_eq_true] at q
    have q1 : ((sIx items.size 0 lo : Nat) : Int) = 0 := eq_of_beq q.1.1
    have q2 : sIx items.size items.size hi - sIx items.size 0 lo = items.size := eq_of_beq q.2
    exact hw ⟨by omega, by omega⟩
  show wpAny _ _ (if (((sIx items.size 0 lo : Nat) : Int) == 0 && (1 : Int) == 1 && (sIx items.size items.size hi - sIx items.size 0 lo) == items.size) = true then _ else _) _ _ s
  rw [if_neg hno, pick_gen]
  first
    | exact wpAny_bind (m := Builtin.Tuple.tupleExact _) (wpAny_newObj_type (wpAny_pure ⟨_, rfl, wpAny_pure h⟩) htake)
    | exact wpAny_bind (m := Builtin.Tuple.tupleExact _) (wpAny_newObj_type (wpAny_bind (wpAny_pure (wpAny_pure ⟨_, rfl, wpAny_pure h⟩))) htake)
    | exact wpAny_bind (wpAny_bind (m := Builtin.Tuple.tupleExact _) (wpAny_newObj_type (wpAny_pure (wpAny_pure ⟨_, rfl, wpAny_pure h⟩)) htake))
    | exact wpAny_bind (wpAny_bind (m := Builtin.Tuple.tupleExact _) (wpAny_newObj_type (wpAny_pure ⟨_, rfl, wpAny_pure h⟩) htake))
end
end HT

namespace L2
open PySem PySem.Spec PyProof.Rows

/-! ### the parts of a slice -/
abbrev TO := St → Hp → (Option Int → Hp → Prop) → Prop
/-- a slice's part (left out, or an int) -/
def PO (X : Cx) (e : Option Expr) (t : TO) : Prop :=
  ∀ (pins : List (Addr × Obj)) (s : Shared) (σ : St) (H : Hp) (Q : Option Int → Hp → Prop), Inv X pins σ H s → t σ H Q →
    wpAny (model X.prog X.w) X.A (evalPart e X.env) (fun u s' => ∃ o H', Inv X pins σ H' s' ∧ IsPart u o ∧ Q o H') X.xe s
def tNoPart : TO := fun _ H Q => Q none H
def tPart (t : TE) : TO := fun σ H Q => t σ H fun x H1 => ∃ i, x = .int i ∧ Q (some i) H1

theorem intsAre_of {ns : List Int} : ∀ {us : List Value}, Vals (ns.map V.int) us → IntsAre us ns := by
  induction ns with
  | nil => intro us r; rw [List.map_nil] at r; cases r; exact .nil
  | cons n ns ih =>
    intro us r
    rw [List.map_cons] at r
    cases r with
    | cons r1 r2 =>
      obtain ⟨t, e⟩ := r1
      subst e
      exact .cons n t (ih r2)

section
variable {X : Cx} {e : Expr} {te : TE} {lo hi : Option Expr} {tl th : TO} {pos p2 : Pos}

theorem po_none : PO X none tNoPart := by
  intro pins s σ H Q I h
  rw [evalPart_none]
  exact wpAny_pure ⟨none, H, I, .none, h⟩
theorem po_some (h : PE X e te) : PO X (some e) (tPart te) := by
  intro pins s σ H Q I hw
  rw [evalPart_some]
  refine thn (h pins s σ H _ I hw) fun u s1 ⟨x, H1, I1, r1, q1⟩ => ?_
  obtain ⟨i, rfl, q⟩ := q1
  obtain ⟨t, rfl⟩ := r1
  exact ⟨some i, H1, I1, .int i t, q⟩

/-- what a slice of a value is, by values: the slice object stands at sl -/
def SlR (X : Cx) (r : V → Option Int → Option Int → Hp → VK → Prop) : Prop :=
  ∀ (pins : List (Addr × Obj)) (s : Shared) (σ : St) (H : Hp) (x : V) (v vl vu : Value) (lo hi : Option Int) (sl : Addr) (Q : VK), Inv X pins σ H s → RelV x v → s.heap.IsSliceOf sl vl vu .none → IsPart vl lo → IsPart vu hi → r x lo hi H Q →
    ∃ T id, typeLookup (.type T) "__getitem__" = pure (some (.builtin id)) ∧ s.TypeIs v T ∧ wpAny (model X.prog X.w) X.A (getItem v (.ref sl)) (EP X pins σ Q) X.xe s
theorem SlR.or {r r' : V → Option Int → Option Int → Hp → VK → Prop} (h : SlR X r) (h' : SlR X r') : SlR X (fun x lo hi H Q => r x lo hi H Q ∨ r' x lo hi H Q) := by
  intro pins s σ H x v vl vu lo hi sl Q I rx hs pl pu q
  rcases q with q | q
  · exact h pins s σ H x v vl vu lo hi sl Q I rx hs pl pu q
  · exact h' pins s σ H x v vl vu lo hi sl Q I rx hs pl pu q
def tSl (r : V → Option Int → Option Int → Hp → VK → Prop) (te : TE) (tl th : TO) : TE := fun σ H Q => te σ H fun x H1 => tl σ H1 fun l H2 => th σ H2 fun u H3 => r x l u H3 Q
/-- a[lo:hi], any a -/
theorem pe_slice {r : V → Option Int → Option Int → Hp → VK → Prop} (hr : SlR X r) (he : PE X e te) (hl : PO X lo tl) (hu : PO X hi th) : PE X (.Subscript e (.Slice lo hi none p2) pos) (tSl r te tl th) := by
  intro pins s σ H Q I h
  refine Subscript_ (thn (he pins s σ H _ I h) fun v s1 ⟨x, H1, I1, r1, q1⟩ => ?_)
  refine wpAny_Slice (thn (hl pins s1 σ H1 _ I1 q1) fun vl s2 ⟨l, H2, I2, pl, q2⟩ => thn (hu pins s2 σ H2 _ I2 q2) fun vu s3 ⟨u, H3, I3, pu, q3⟩ => ?_)
  rw [evalPart_none]
  refine wpAny_pure ?_
  have I4 : Inv X pins σ H3 { s3 with heap := s3.heap.push { cls := .type "slice", data := .fields #[vl, vu, .none] } } := I3.kept (t' := s3.toks) fun b ob q => Heap.get?_push_of_some _ q
  obtain ⟨T, id, hT, ht, hg⟩ := hr pins { s3 with heap := s3.heap.push { cls := .type "slice", data := .fields #[vl, vu, .none] } } σ H3 x v vl vu l u s3.heap.objs.size Q I4 r1 (Heap.IsSliceOf.new ..) pl pu q3
  show wpAny (model X.prog X.w) X.A (subscriptTail e (.Slice lo hi none p2) v (.ref s3.heap.objs.size)) (EP X pins σ Q) X.xe { s3 with heap := s3.heap.push { cls := .type "slice", data := .fields #[vl, vu, .none] } }
  exact tail_any (ops := [.ref s3.heap.objs.size, v]) ht hT hg (by with_unfolding_all rfl)

/-- the items of xs[lo:hi] -/
def cutV (xs : List V) (lo hi : Option Int) : List V := (xs.drop (HT.sIx xs.length 0 lo)).take (HT.sIx xs.length xs.length hi - HT.sIx xs.length 0 lo)
theorem cutV_length (xs : List V) (lo hi : Option Int) : (cutV xs lo hi).length ≤ xs.length := by
  unfold cutV
  rw [List.length_take, List.length_drop]
  omega
/-- t[lo:hi], not the whole of it (the whole would be t itself) -/
def rSlT (K : PySem.W.Frag) : V → Option Int → Option Int → Hp → VK → Prop := fun x lo hi H Q => ∃ a xs, x = .ref a ∧ SqT K H a xs ∧
  ¬ (HT.sIx xs.length 0 lo = 0 ∧ HT.sIx xs.length xs.length hi = xs.length) ∧ ∀ p, H p = none → Q (.ref p) (upd H p (.tup (cutV xs lo hi)))
theorem sl_tup : SlR X (rSlT X.K) := by
  intro pins s σ H x v vl vu lo hi sl Q I rx hs pl pu h
  obtain ⟨a, xs, rfl, hx, hw, q⟩ := h
  cases rx
  obtain ⟨its, r, ht, hz⟩ := I.tuple hx
  have hlen : its.toArray.size = xs.length := by rw [List.size_toArray]; exact r.length.symm
  refine ⟨"tuple", _, PyProof.Rows.slot_tuple_getitem.lookup, ht.typeIs, ?_⟩
  refine HT.getItem_tuple_cut ht hs pl pu (by rw [hlen]; exact hw) ?_ (by rw [hlen]; exact hz)
  rw [hlen]
  refine ⟨.ref s.heap.objs.size, _, I.laid (t' := s.toks) (o := .tup (cutV xs lo hi)) (fun b ob q => Heap.get?_push_of_some _ q) (Nat.le_refl _) ?_, rfl, q _ (I.hok.fresh (Nat.le_refl _))⟩
  exact ⟨Nat.le_trans (cutV_length xs lo hi) hz, _, (r.drop (HT.sIx xs.length 0 lo)).take (HT.sIx xs.length xs.length hi - HT.sIx xs.length 0 lo), IsTup.new _ _⟩

/-! ### t < u, t + u -/
def rLtT (K : PySem.W.Frag) : R2 := fun x y H Q => ∃ a b ns ms, x = .ref a ∧ y = .ref b ∧ SqT K H a (ns.map V.int) ∧ SqT K H b (ms.map V.int) ∧ Q (.bl (HT.lexLt ns ms)) H
theorem op_ltT (hu : X.A.units < cLine) : OpR X (compareOp .Lt) (rLtT X.K) := by
  intro pins s σ H x y v u Q I rx ry h
  obtain ⟨a, b, ns, ms, rfl, rfl, ha, hb, q⟩ := h
  cases rx
  cases ry
  obtain ⟨its, r1, p1, _⟩ := I.tuple ha
  obtain ⟨its2, r2, p2, _⟩ := I.tuple hb
  have i1 : IntsAre its.toArray.toList ns := intsAre_of r1
  have i2 : IntsAre its2.toArray.toList ms := intsAre_of r2
  exact HT.lt_tupInts p1 p2 i1 i2 hu ⟨.bl (HT.lexLt ns ms), H, I, rfl, q⟩
/-- t + u, t not empty: u empty gives t itself -/
def rCatT (K : PySem.W.Frag) : R2 := fun x y H Q => ∃ a b xs ys, x = .ref a ∧ y = .ref b ∧ SqT K H a xs ∧ SqT K H b ys ∧ xs ≠ [] ∧ xs.length + ys.length ≤ sizeLine ∧
  (ys = [] → Q (.ref a) H) ∧ (ys ≠ [] → ∀ p, H p = none → Q (.ref p) (upd H p (.tup (xs ++ ys))))
theorem Vals.nil_iff {xs : List V} {us : List Value} (r : Vals xs us) : us = [] ↔ xs = [] := by
  cases r with
  | nil => simp
  | cons _ _ => simp
theorem op_catT : OpR X (binaryOp .Add) (rCatT X.K) := by
  intro pins s σ H x y v u Q I rx ry h
  obtain ⟨a, b, xs, ys, rfl, rfl, ha, hb, hx, hz, q1, q2⟩ := h
  cases rx
  cases ry
  obtain ⟨its, r1, p1, _⟩ := I.tuple ha
  obtain ⟨its2, r2, p2, _⟩ := I.tuple hb
  refine HT.cat_tup p1 p2 (fun z => hx (r1.nil_iff.mp z)) (fun z => ⟨.ref a, H, I, rfl, q1 (r2.nil_iff.mp z)⟩) (fun z => ?_) (by rw [← r1.length, ← r2.length]; exact hz)
  refine ⟨.ref s.heap.objs.size, _, I.laid (t' := s.toks) (o := .tup (xs ++ ys)) (fun b ob q => Heap.get?_push_of_some _ q) (Nat.le_refl _) ?_, rfl, q2 (fun w => z (r2.nil_iff.mpr w)) _ (I.hok.fresh (Nat.le_refl _))⟩
  exact ⟨by rw [List.length_append]; exact hz, _, r1.append r2, IsTup.new _ _⟩
/-- tuple(t) -/
theorem call_tupleT : CallR X (.type "tuple") (fun xs H Q => ∃ a ys, xs = [.ref a] ∧ SqT X.K H a ys ∧ Q (.ref a) H) := by
  intro pins s σ H xs us Q I r h
  obtain ⟨a, ys, rfl, ha, q⟩ := h
  obtain ⟨u, rfl, ru⟩ := vals1 r
  cases ru
  obtain ⟨its, _, p1, _⟩ := I.tuple ha
  exact call_tuple_same (items := its.toArray) p1 ⟨.ref a, H, I, rfl, q⟩
end
end L2

namespace L2
open PySem PySem.Spec PyProof.Rows

/-! ### places -/
/-- the place that an index of any sign means -/
def ixN (n : Nat) (i : Int) : Option Nat := if 0 ≤ i then (if i < n then some i.toNat else none) else if -(n : Int) ≤ i then some (i + n).toNat else none
def atI {α : Type} (xs : List α) (i : Int) : Option α := (ixN xs.length i).bind fun j => xs[j]?
theorem ixN_seq {n : Nat} {i : Int} {j : Nat} (h : ixN n i = some j) : seqIndex? i n = some j ∧ j < n ∧ -(n : Int) ≤ i ∧ i < n := by
  unfold ixN at h
  by_cases h0 : 0 ≤ i
  · rw [if_pos h0] at h
    by_cases h1 : i < n
    · rw [if_pos h1] at h
      have e : i.toNat = j := Option.some.inj h
      exact ⟨by rw [seqIndex_of h0 h1, e], by omega, by omega, h1⟩
    · rw [if_neg h1] at h; cases h
  · rw [if_neg h0] at h
    by_cases h1 : -(n : Int) ≤ i
    · rw [if_pos h1] at h
      have e : (i + n).toNat = j := Option.some.inj h
      exact ⟨by rw [seqIndex_neg (by omega) h1, e], by omega, h1, by omega⟩
    · rw [if_neg h1] at h; cases h
theorem atI_get {α : Type} {xs : List α} {i : Int} {v : α} (h : atI xs i = some v) : ∃ j, seqIndex? i xs.length = some j ∧ xs[j]? = some v ∧ j < xs.length ∧ -(xs.length : Int) ≤ i ∧ i < xs.length := by
  unfold atI at h
  cases e : ixN xs.length i with
  | none => rw [e] at h; cases h
  | some j =>
    rw [e] at h
    obtain ⟨h1, h2, h3, h4⟩ := ixN_seq e
    exact ⟨j, h1, h, h2, h3, h4⟩
theorem atI_nat {α : Type} {xs : List α} {j : Nat} {v : α} (h : xs[j]? = some v) : atI xs (j : Int) = some v := by
  have hj : j < xs.length := (List.getElem?_eq_some_iff.mp h).1
  have e : ixN xs.length (j : Int) = some j := by
    unfold ixN
    rw [if_pos (by omega), if_pos (by omega)]; simp
  unfold atI; rw [e]; exact h
theorem atI_last {α : Type} (xs : List α) (v : α) : atI (xs ++ [v]) (-1) = some v := by
  have hl : (xs ++ [v]).length = xs.length + 1 := by simp
  have e : ixN (xs ++ [v]).length (-1) = some xs.length := by
    unfold ixN
    rw [hl, if_neg (by decide), if_pos (by omega)]
    congr 1
    omega
  unfold atI
  rw [e]
  show (xs ++ [v])[xs.length]? = some v
  simp

/-! ### what may be subscripted -/
/-- what stands as an index of a plain subscript -/
def PlainIx (b : Expr) : Prop := ∀ o i, subscripted b false o i = operate [o, i] (getItem o i)
/-- a subscript by values -/
def IxR (X : Cx) (r : R2) : Prop :=
  ∀ (value slice : Expr) (pins : List (Addr × Obj)) (s : Shared) (σ : St) (H : Hp) (x y : V) (v u : Value) (Q : VK), Inv X pins σ H s → RelV x v → RelV y u → r x y H Q →
    subscripted slice false v u = operate [v, u] (getItem v u) → wpAny (model X.prog X.w) X.A (subscriptTail value slice v u) (EP X pins σ Q) X.xe s
/-- a call of a builtin's method by values: the receiver, the arguments -/
def MtR (X : Cx) (id : String) (r : V → List V → Hp → VK → Prop) : Prop :=
  ∀ (pins : List (Addr × Obj)) (s : Shared) (σ : St) (H : Hp) (x : V) (xs : List V) (v : Value) (us : List Value) (Q : VK), Inv X pins σ H s → RelV x v → Vals xs us → r x xs H Q →
    wpAny (model X.prog X.w) X.A (call (.builtin id) (v :: us)) (EP X pins σ Q) X.xe s
section
variable {X : Cx} {a b : Expr} {ta tb : TE} {pos : Pos}
theorem IxR.or {r r' : R2} (h : IxR X r) (h' : IxR X r') : IxR X (fun x y H Q => r x y H Q ∨ r' x y H Q) := by
  intro value slice pins s σ H x y v u Q I rx ry q hs
  rcases q with q | q
  · exact h value slice pins s σ H x y v u Q I rx ry q hs
  · exact h' value slice pins s σ H x y v u Q I rx ry q hs
theorem MtR.or {id : String} {r r' : V → List V → Hp → VK → Prop} (h : MtR X id r) (h' : MtR X id r') : MtR X id (fun x xs H Q => r x xs H Q ∨ r' x xs H Q) := by
  intro pins s σ H x xs v us Q I rx rs q
  rcases q with q | q
  · exact h pins s σ H x xs v us Q I rx rs q
  · exact h' pins s σ H x xs v us Q I rx rs q
/-- a[b] -/
theorem pe_ix {r : R2} (hr : IxR X r) (ha : PE X a ta) (hb : PE X b tb) (hs : PlainIx b) : PE X (.Subscript a b pos) (tOp r ta tb) := by
  intro pins s σ H Q I h
  exact Subscript_ (binT ha hb I h fun v u s2 x y H2 I2 rx ry q => hr a b pins s2 σ H2 x y v u Q I2 rx ry q (hs _ _))

def rIxL (K : PySem.W.Frag) : R2 := fun x y H Q => ∃ p xs i v, x = .ref p ∧ y = .int i ∧ SqL K H p xs ∧ atI xs i = some v ∧ Q v H
def rIxT (K : PySem.W.Frag) : R2 := fun x y H Q => ∃ p xs i v, x = .ref p ∧ y = .int i ∧ SqT K H p xs ∧ atI xs i = some v ∧ Q v H
def rIxS : R2 := fun x y H Q => ∃ z i c, x = .str z ∧ y = .int i ∧ z.length ≤ sizeLine ∧ atI z.cps.toList i = some c ∧ Q (.str ⟨#[c]⟩) H
theorem ix_list : IxR X (rIxL X.K) := by
  intro value slice pins s σ H x y v u Q I rx ry h hs
  obtain ⟨p, xs, i, z, rfl, rfl, hq, he, q⟩ := h
  cases rx
  obtain ⟨t, rfl⟩ := ry
  obtain ⟨its, r, pl, hz⟩ := I.list hq
  obtain ⟨j, h1, h2, h3, h4, h5⟩ := atI_get he
  obtain ⟨w, ew, rw'⟩ := r.get h2
  have hl := r.length
  have hn := line63
  have fin : EP X pins σ Q w s := ⟨z, H, I, rw', q⟩
  by_cases h0 : 0 ≤ i
  · have hj : i.toNat = j := by
      rw [seqIndex_of h0 h5] at h1
      exact Option.some.inj h1
    exact item_listR pl.isList h0 (by omega) (by rw [hj]; simpa using ew) fin hs
  · have hj : (i + (its.toArray.size : Int)).toNat = j := by
      rw [seqIndex_neg (by omega) h4] at h1
      rw [List.size_toArray, ← hl]
      exact Option.some.inj h1
    exact subscriptTail_builtinR (x := w) pl.isList.typeIs slot_list_getitem.lookup
      (wpAny_getItem_list_neg (Q := fun r s' => r = w ∧ EP X pins σ Q r s') pl.isList (by omega) (by rw [List.size_toArray] <;> omega) (by omega) (by rw [hj]; simpa using ew) ⟨rfl, fin⟩) hs
theorem ix_tup : IxR X (rIxT X.K) := by
  intro value slice pins s σ H x y v u Q I rx ry h hs
  obtain ⟨p, xs, i, z, rfl, rfl, hq, he, q⟩ := h
  cases rx
  obtain ⟨t, rfl⟩ := ry
  obtain ⟨its, r, pl, hz⟩ := I.tuple hq
  obtain ⟨j, h1, h2, h3, h4, h5⟩ := atI_get he
  obtain ⟨w, ew, rw'⟩ := r.get h2
  have hl := r.length
  have hn := line63
  have fin : EP X pins σ Q w s := ⟨z, H, I, rw', q⟩
  exact subscriptTail_builtinR (x := w) pl.typeIs slot_tuple_getitem.lookup
    (getItem_tuple (j := j) (Q := fun r s' => r = w ∧ EP X pins σ Q r s') pl (by omega) (by omega) (by rw [List.size_toArray, ← hl]; exact h1) (by simpa using ew) ⟨rfl, fin⟩) hs
theorem ix_str : IxR X rIxS := by
  intro value slice pins s σ H x y v u Q I rx ry h hs
  obtain ⟨z, i, c, rfl, rfl, hz, he, q⟩ := h
  obtain ⟨t, rfl⟩ := rx
  obtain ⟨t', rfl⟩ := ry
  obtain ⟨j, h1, h2, h3, h4, h5⟩ := atI_get he
  have hl : z.cps.toList.length = z.length := by simp [Str.length]
  rw [hl] at h1 h4 h5
  have hn := line63
  exact tail_any (typeIs_str s z t) slot_str_getitem.lookup (getItem_str (c := c) (by
    have e1 : decide (i < -(2 ^ 63 : Int)) = false := decide_eq_false (by omega)
    have e2 : decide (i ≥ 2 ^ 63) = false := decide_eq_false (by omega)
    rw [e1, e2, Bool.or_false]) (by rw [h1]; simpa using h2) ⟨.str ⟨#[c]⟩, H, I.tok _, ⟨_, rfl⟩, q⟩) hs
/-- list, tuple or str -/
def rIx (K : PySem.W.Frag) : R2 := fun x y H Q => rIxL K x y H Q ∨ rIxT K x y H Q ∨ rIxS x y H Q
theorem ix_seq : IxR X (rIx X.K) := ix_list.or (ix_tup.or ix_str)

/-! ### xs[i] = v, any sign -/
/-- the list's object behind a store -/
theorem mapSeq_set (its : List Value) (n j : Nat) (u : Value) : Obj.mapSeq (·.setIfInBounds j u) { cls := .type "list", data := .seq its.toArray n } = { cls := .type "list", data := .seq (its.set j u).toArray n } := by
  simp [Obj.mapSeq]
theorem Inv.lst {pins : List (Addr × Obj)} {σ : St} {H : Hp} {s : Shared} {p : Addr} {xs : List V} (I : Inv X pins σ H s) (h : H p = some (.lst xs)) :
    ∃ (its : List Value) (n : Nat), Vals xs its ∧ s.heap.get? p = some { cls := .type "list", data := .seq its.toArray n } ∧ xs.length ≤ sizeLine := by
  obtain ⟨z, its, n, r, e⟩ := I.hok p _ h
  exact ⟨its, n, r, e, z⟩
/-- the list at p is written by an update of its object -/
theorem Inv.lstUpd {pins : List (Addr × Obj)} {σ : St} {H : Hp} {s : Shared} {p : Addr} {xs ys : List V} {its its' : List Value} {n n' : Nat} {f : Obj → Obj} (I : Inv X pins σ H s) (h : H p = some (.lst xs))
    (ho : s.heap.get? p = some { cls := .type "list", data := .seq its.toArray n }) (hf : f { cls := .type "list", data := .seq its.toArray n } = { cls := .type "list", data := .seq its'.toArray n' }) (r : Vals ys its') (hz : ys.length ≤ sizeLine) (t : Nat) :
    Inv X pins σ (upd H p (.lst ys)) { s with heap := s.heap.update p f, toks := t } := by
  have e : (s.heap.update p f).get? p = some { cls := .type "list", data := .seq its'.toArray n' } := by
    rw [Heap.get?_update_self f ho (by rw [hf] <;> rfl), hf]
  refine I.write (x := p) (e := p) (by rw [h]; trivial) (.inl rfl) (fun b u hb q => (Heap.get?_update_other _ _ (Ne.symm hb)).trans q) ⟨_, e⟩ ?_
  exact ⟨hz, its', n', r, e⟩
def rSetL : V → V → V → Hp → (Hp → Prop) → Prop := fun o i v H Q => ∃ p xs k j, o = .ref p ∧ i = .int k ∧ H p = some (.lst xs) ∧ ixN xs.length k = some j ∧ Q (upd H p (.lst (xs.set j v)))
theorem set_list : PSet X rSetL := by
  intro pins s σ H o i v ov iv u Q I ro ri rv h
  obtain ⟨p, xs, k, j, rfl, rfl, hp, hj, q⟩ := h
  cases ro
  obtain ⟨t, rfl⟩ := ri
  obtain ⟨its, n, r, ho, hz⟩ := I.lst hp
  obtain ⟨h1, h2, h3, h4⟩ := ixN_seq hj
  have hl := r.length
  have hn := line63
  have I' : Inv X pins σ (upd H p (.lst (xs.set j v))) { s with heap := s.heap.update p (Obj.mapSeq (·.setIfInBounds j u)) } :=
    I.lstUpd hp ho (mapSeq_set its n j u) (r.set rv j) (by rw [List.length_set]; exact hz) s.toks
  by_cases h0 : 0 ≤ k
  · have hk : k.toNat = j := by
      rw [seqIndex_of h0 h4] at h1
      exact Option.some.inj h1
    exact PySem.W.ki_setAt ho h0 (by omega) (by rw [List.size_toArray, ← hl]; exact h4) (by rw [hk]; exact ⟨_, I', q⟩)
  · have hk : (k + (its.toArray.size : Int)).toNat = j := by
      rw [seqIndex_neg (by omega) h3] at h1
      rw [List.size_toArray, ← hl]
      exact Option.some.inj h1
    exact PySem.W.ki_setBack ho (by omega) (by rw [List.size_toArray, ← hl]; exact h3) (by omega) (by rw [hk]; exact ⟨_, I', q⟩)

/-! ### slices -/
theorem slice_bounds (lo hi : Option Int) (n : Nat) : (sliceBounds lo hi none n).1 = ((HT.sIx n 0 lo : Nat) : Int) ∧ (sliceBounds lo hi none n).2.1 = ((HT.sIx n n hi : Nat) : Int) ∧ (sliceBounds lo hi none n).2.2 = 1 := by
  refine ⟨?_, ?_, rfl⟩
  · cases lo with
    | none => simp [sliceBounds, HT.sIx]
    | some i =>
      simp only [sliceBounds, HT.sIx, Option.getD_none, show (1 : Int) > 0 by decide, if_true]
      by_cases h : i < 0
      · simp only [h, if_true] <;> omega
      · simp only [h, if_false] <;> omega
  · cases hi with
    | none => simp [sliceBounds, HT.sIx]
    | some i =>
      simp only [sliceBounds, HT.sIx, Option.getD_none, show (1 : Int) > 0 by decide, if_true]
      by_cases h : i < 0
      · simp only [h, if_true] <;> omega
      · simp only [h, if_false] <;> omega
theorem slicePick_cut (its : List Value) (lo hi : Option Int) : slicePick its.toArray lo hi none = ((its.drop (HT.sIx its.length 0 lo)).take (HT.sIx its.length its.length hi - HT.sIx its.length 0 lo)).toArray := by
  obtain ⟨h1, h2, h3⟩ := slice_bounds lo hi its.toArray.size
  unfold slicePick
  rw [h1, h2, h3]
  simp only [sliceRange_one, pick_run, List.size_toArray] <;> rfl
/-- xs[lo:hi] of a list: a new list -/
def rSlL (K : PySem.W.Frag) : V → Option Int → Option Int → Hp → VK → Prop := fun x lo hi H Q => ∃ a xs, x = .ref a ∧ SqL K H a xs ∧ ∀ p, H p = none → Q (.ref p) (upd H p (.lst (cutV xs lo hi)))
theorem sl_list : SlR X (rSlL X.K) := by
  intro pins s σ H x v vl vu lo hi sl Q I rx hs pl pu h
  obtain ⟨a, xs, rfl, hx, q⟩ := h
  cases rx
  obtain ⟨its, r, ht, hz⟩ := I.list hx
  have hlen := r.length
  refine ⟨"list", _, slot_list_getitem.lookup, ht.isList.typeIs, ?_⟩
  refine wpAny_getItem_list_slice ht.isList hs pl pu .none (by simp) ?_ (by rw [List.size_toArray] <;> omega)
  rw [slicePick_cut, ← hlen]
  refine ⟨.ref s.heap.objs.size, _, I.laid (t' := s.toks) (o := .lst (cutV xs lo hi)) (fun b ob q => Heap.get?_push_of_some _ q) (Nat.le_refl _) ?_, rfl, q _ (I.hok.fresh (Nat.le_refl _))⟩
  exact ⟨Nat.le_trans (cutV_length xs lo hi) hz, _, 0, (r.drop (HT.sIx xs.length 0 lo)).take (HT.sIx xs.length xs.length hi - HT.sIx xs.length 0 lo), Heap.get?_push_size _ rfl⟩

/-! ### in, not in: flat items -/
def flatV : V → Bool
  | .non => true
  | .bl _ => true
  | .int _ => true
  | .str _ => true
  | _ => false
/-- == of flat values -/
def eqV : V → V → Bool
  | .non, .non => true
  | .bl a, .bl b => a == b
  | .bl a, .int b => (if a then 1 else 0) == b
  | .int a, .bl b => a == (if b then 1 else 0)
  | .int a, .int b => a == b
  | .str a, .str b => a == b
  | _, _ => false
theorem eqAt_V {A : Around} {s : Shared} {y x : V} {u v : Value} (ry : RelV y u) (rx : RelV x v) (fy : flatV y = true) (fx : flatV x = true) : SeqAt.EqAt A s u v (eqV y x) := by
  cases y with
  | non =>
    cases ry
    cases x with
    | non => cases rx; exact SeqAt.EqAt.same _
    | bl b => cases rx; exact SeqAt.EqAt.none_bool b
    | int b => obtain ⟨t, rfl⟩ := rx; exact SeqAt.EqAt.none_int b t
    | str b => obtain ⟨t, rfl⟩ := rx; exact SeqAt.EqAt.none_str b t
    | _ => exact absurd (show false = true from fx) Bool.false_ne_true
  | bl a =>
    cases ry
    cases x with
    | non => cases rx; exact SeqAt.EqAt.bool_none a
    | bl b => cases rx; exact SeqAt.EqAt.bool_bool a b
    | int b => obtain ⟨t, rfl⟩ := rx; exact SeqAt.EqAt.bool_int a b t
    | str b => obtain ⟨t, rfl⟩ := rx; exact SeqAt.EqAt.bool_str a b t
    | _ => exact absurd (show false = true from fx) Bool.false_ne_true
  | int a =>
    obtain ⟨t', rfl⟩ := ry
    cases x with
    | non => cases rx; exact SeqAt.EqAt.int_none a t'
    | bl b => cases rx; exact SeqAt.EqAt.int_bool a t' b
    | int b => obtain ⟨t, rfl⟩ := rx; exact SeqAt.EqAt.int_int a t' b t
    | str b => obtain ⟨t, rfl⟩ := rx; exact SeqAt.EqAt.int_str a t' b t
    | _ => exact absurd (show false = true from fx) Bool.false_ne_true
  | str a =>
    obtain ⟨t', rfl⟩ := ry
    cases x with
    | non => cases rx; exact SeqAt.EqAt.str_none a t'
    | bl b => cases rx; exact SeqAt.EqAt.str_bool a t' b
    | int b => obtain ⟨t, rfl⟩ := rx; exact SeqAt.EqAt.str_int a t' b t
    | str b => obtain ⟨t, rfl⟩ := rx; exact SeqAt.EqAt.str_str a t' b t
    | _ => exact absurd (show false = true from fx) Bool.false_ne_true
  | _ => exact absurd (show false = true from fy) Bool.false_ne_true
/-- the items' answers, read off the values (a value's own answer does not lean on its token) -/
def eqU (x : V) (u : Value) : Bool := match u with
  | .none => eqV .non x
  | .bool b => eqV (.bl b) x
  | .int i _ => eqV (.int i) x
  | .str z _ => eqV (.str z) x
  | _ => false
theorem eqU_of {x y : V} {u : Value} (r : RelV y u) (f : flatV y = true) : eqU x u = eqV y x := by
  cases y with
  | non => cases r; rfl
  | bl b => cases r; rfl
  | int i => obtain ⟨t, rfl⟩ := r; rfl
  | str z => obtain ⟨t, rfl⟩ := r; rfl
  | _ => exact absurd (show false = true from f) Bool.false_ne_true
theorem any_eqU {x : V} : ∀ {xs : List V} {us : List Value}, Vals xs us → xs.all flatV = true → us.any (eqU x) = xs.any fun y => eqV y x
  | _, _, .nil, _ => rfl
  | y :: xs, u :: us, .cons r t, f => by
    rw [List.all_cons, Bool.and_eq_true] at f
    rw [List.any_cons, List.any_cons, eqU_of r f.1, any_eqU t f.2]
theorem mem_eqAt {A : Around} {s : Shared} {x : V} {v : Value} (rx : RelV x v) (fx : flatV x = true) : ∀ {xs : List V} {us : List Value}, Vals xs us → xs.all flatV = true → ∀ u ∈ us, SeqAt.EqAt A s u v (eqU x u)
  | _, _, .nil, _ => fun u hu => by cases hu
  | y :: xs, u :: us, .cons r t, f => fun u' hu => by
    rw [List.all_cons, Bool.and_eq_true] at f
    rcases List.mem_cons.mp hu with rfl | hu
    · rw [eqU_of r f.1]; exact eqAt_V r rx f.1 fx
    · exact mem_eqAt rx fx t f.2 u' hu
def inV (x : V) (xs : List V) : Bool := xs.any fun y => eqV y x
/-- x in a list or tuple of flat items -/
def rIn (K : PySem.W.Frag) (neg : Bool) : R2 := fun x y H Q => ∃ p xs, y = .ref p ∧ (SqL K H p xs ∨ SqT K H p xs) ∧ flatV x = true ∧ xs.all flatV = true ∧ Q (.bl (if neg then !inV x xs else inV x xs)) H
theorem op_in_seq : OpR X (compareOp .In) (rIn X.K false) := by
  intro pins s σ H x y v u Q I rx ry h
  obtain ⟨p, xs, rfl, hq, fx, fs, q⟩ := h
  cases ry
  rcases hq with hq | hq
  · obtain ⟨its, r, pl, hz⟩ := I.list hq
    refine SeqAt.in_listAt (eqU x) pl.isList (fun w hw => mem_eqAt rx fx r fs w (by simpa using hw)) ⟨.bl _, H, I, rfl, ?_⟩
    rw [show its.toArray.any (eqU x) = its.any (eqU x) by simp, any_eqU r fs]
    exact q
  · obtain ⟨its, r, pl, hz⟩ := I.tuple hq
    refine SeqAt.in_tupleAt (eqU x) pl (fun w hw => mem_eqAt rx fx r fs w (by simpa using hw)) ⟨.bl _, H, I, rfl, ?_⟩
    rw [show its.toArray.any (eqU x) = its.any (eqU x) by simp, any_eqU r fs]
    exact q
theorem op_notIn_seq : OpR X (compareOp .NotIn) (rIn X.K true) := by
  intro pins s σ H x y v u Q I rx ry h
  obtain ⟨p, xs, rfl, hq, fx, fs, q⟩ := h
  cases ry
  rcases hq with hq | hq
  · obtain ⟨its, r, pl, hz⟩ := I.list hq
    refine SeqAt.notIn_listAt (eqU x) pl.isList (fun w hw => mem_eqAt rx fx r fs w (by simpa using hw)) ⟨.bl _, H, I, rfl, ?_⟩
    rw [show its.toArray.any (eqU x) = its.any (eqU x) by simp, any_eqU r fs]
    exact q
  · obtain ⟨its, r, pl, hz⟩ := I.tuple hq
    refine SeqAt.notIn_tupleAt (eqU x) pl (fun w hw => mem_eqAt rx fx r fs w (by simpa using hw)) ⟨.bl _, H, I, rfl, ?_⟩
    rw [show its.toArray.any (eqU x) = its.any (eqU x) by simp, any_eqU r fs]
    exact q
theorem op_notIn_str : OpR X (compareOp .NotIn) (fun x y H Q => ∃ i j, x = .str i ∧ y = .str j ∧ Q (.bl (!(!(Builtin.Str.occurrences j i 0 j.length 1).isEmpty))) H) := by
  intro pins s σ H x y v u Q I rx ry h
  obtain ⟨i, j, rfl, rfl, q⟩ := h
  obtain ⟨t, rfl⟩ := rx
  obtain ⟨t', rfl⟩ := ry
  exact notIn_str ⟨.bl _, H, I, rfl, q⟩

/-! ### len, list(x), tuple(x) of any list or tuple that is read -/
theorem call_len_seq : CallR X (.builtin "len") (fun xs H Q => ∃ p ys, xs = [.ref p] ∧ (SqL X.K H p ys ∨ SqT X.K H p ys) ∧ Q (.int ys.length) H) := by
  intro pins s σ H xs us Q I r h
  obtain ⟨p, ys, rfl, hq, q⟩ := h
  obtain ⟨u, rfl, rx⟩ := vals1 r
  cases rx
  have hn := line63
  rcases hq with hq | hq
  · obtain ⟨its, r', pl, hz⟩ := I.list hq
    have hlen := r'.length
    exact Calls.call_len_list pl.isList (by simp only [List.size_toArray] <;> omega) ⟨.int ys.length, H, I.tok _, ⟨s.toks + 1, by rw [List.size_toArray, hlen]⟩, q⟩
  · obtain ⟨its, r', pl, hz⟩ := I.tuple hq
    have hlen := r'.length
    exact len_tuple pl (by simp only [List.size_toArray] <;> omega) ⟨.int ys.length, H, I.tok _, ⟨s.toks + 1, by rw [List.size_toArray, hlen]⟩, q⟩
theorem call_len_str : CallR X (.builtin "len") (fun xs H Q => ∃ z, xs = [.str z] ∧ z.length ≤ sizeLine ∧ Q (.int z.length) H) := by
  intro pins s σ H xs us Q I r h
  obtain ⟨z, rfl, hz, q⟩ := h
  obtain ⟨u, rfl, t, rfl⟩ := vals1 r
  have hn := line63
  exact len_str (by omega) ⟨.int z.length, H, I.tok _, ⟨_, rfl⟩, q⟩
theorem CallR.or {f : Value} {r r' : List V → Hp → VK → Prop} (h : CallR X f r) (h' : CallR X f r') : CallR X f (fun xs H Q => r xs H Q ∨ r' xs H Q) := by
  intro pins s σ H xs us Q I rs q
  rcases q with q | q
  · exact h pins s σ H xs us Q I rs q
  · exact h' pins s σ H xs us Q I rs q
theorem call_list_of : CallR X (.type "list") (fun xs H Q => ∃ p ys, xs = [.ref p] ∧ (SqL X.K H p ys ∨ SqT X.K H p ys) ∧ ∀ l, H l = none → Q (.ref l) (upd H l (.lst ys))) := by
  intro pins s σ H xs us Q I r h
  obtain ⟨p, ys, rfl, hq, q⟩ := h
  obtain ⟨u, rfl, rx⟩ := vals1 r
  cases rx
  have fin : ∀ (its : List Value), Vals ys its → ys.length ≤ sizeLine → ∀ (h' : Heap) (c' : Nat), (∀ b o', s.heap.get? b = some o' → h'.get? b = some o') →
      h'.get? s.heap.objs.size = some { cls := .type "list", dict := none, data := .seq its.toArray c', slots := #[] } → EP X pins σ Q (.ref s.heap.objs.size) { s with heap := h' } := fun its r' hz h' c' kp e =>
    ⟨.ref s.heap.objs.size, _, I.laid (t' := s.toks) kp (Nat.le_refl _) (show ObjOk X.prog X.w _ h' _ (.lst ys) from ⟨hz, its, c', r', e⟩), rfl, q _ (I.hok.fresh (Nat.le_refl _))⟩
  rcases hq with hq | hq
  · obtain ⟨its, r', pl, hz⟩ := I.list hq
    have hlen := r'.length
    obtain ⟨o, ho, hc, n, hd⟩ := pl.isList
    exact call_list_seq p (.inl rfl) ho hc hd (fun h' c' kp e => fin its r' hz h' c' kp e) (by simp only [List.size_toArray] <;> omega)
  · obtain ⟨its, r', pl, hz⟩ := I.tuple hq
    have hlen := r'.length
    obtain ⟨o, ho, hc, n, hd⟩ := pl
    exact call_list_seq p (.inr rfl) ho hc hd (fun h' c' kp e => fin its r' hz h' c' kp e) (by simp only [List.size_toArray] <;> omega)
theorem call_tuple_of : CallR X (.type "tuple") (fun xs H Q => ∃ p ys, xs = [.ref p] ∧ ((SqL X.K H p ys ∧ ∀ l, H l = none → Q (.ref l) (upd H l (.tup ys))) ∨ (SqT X.K H p ys ∧ Q (.ref p) H))) := by
  intro pins s σ H xs us Q I r h
  obtain ⟨p, ys, rfl, h⟩ := h
  obtain ⟨u, rfl, rx⟩ := vals1 r
  cases rx
  rcases h with ⟨hq, q⟩ | ⟨hq, q⟩
  · obtain ⟨its, r', pl, hz⟩ := I.list hq
    have hlen := r'.length
    refine call_tuple_list pl.isList (fun h' kp => ?_) (by simp only [List.size_toArray] <;> omega)
    have I1 : Inv X pins σ H { s with heap := h' } := I.kept (t' := s.toks) kp
    have I2 : Inv X pins σ (upd H h'.objs.size (.tup ys)) { s with heap := h'.push { cls := .type "tuple", data := .seq its.toArray } } :=
      I1.laid (t' := s.toks) (fun b o e => Heap.get?_push_of_some _ e) (Nat.le_refl _) (show ObjOk X.prog X.w _ _ _ (.tup ys) from ⟨hz, its, r', IsTup.new _ _⟩)
    exact ⟨.ref h'.objs.size, _, I2, rfl, q _ (I1.hok.fresh (Nat.le_refl _))⟩
  · obtain ⟨its, r', pl, hz⟩ := I.tuple hq
    exact call_tuple_same pl ⟨.ref p, H, I, rfl, q⟩

/-! ### the call of a builtin's method: o.m(..) -/
/-- the value is of that builtin type -/
def tyV (K : PySem.W.Frag) (T : String) (x : V) (H : Hp) : Prop := match x with
  | .str _ => T = "str"
  | .int _ => T = "int"
  | .ref p => (T = "list" ∧ ∃ xs, SqL K H p xs) ∨ (T = "tuple" ∧ ∃ o, K.lookup p = some o ∧ o.cls = .type "tuple" ∧ o.dict = none) ∨
      (T = "dict" ∧ ((∃ kvs, H p = some (.dK kvs)) ∨ ∃ kvs, H p = some (.dT kvs))) ∨ (T = "set" ∧ ∃ S n, H p = some (.set S n))
  | _ => False
theorem tyV_is {pins : List (Addr × Obj)} {σ : St} {H : Hp} {s : Shared} {T : String} {x : V} {v : Value} (I : Inv X pins σ H s) (r : RelV x v) (ty : tyV X.K T x H) :
    s.TypeIs v T ∧ ∀ a, v = .ref a → ∃ ob, s.heap.get? a = some ob ∧ ob.dict = none := by
  cases x with
  | str z =>
    obtain ⟨t, rfl⟩ := r
    cases (show T = "str" from ty)
    exact ⟨typeIs_str s z t, fun _ e => nomatch e⟩
  | int i =>
    obtain ⟨t, rfl⟩ := r
    cases (show T = "int" from ty)
    exact ⟨typeIs_int s i t, fun _ e => nomatch e⟩
  | ref p =>
    cases r
    rcases ty with ⟨rfl, xs, hq⟩ | ⟨rfl, o, hk, hc, hd⟩ | ⟨rfl, hk⟩ | ⟨rfl, S, n, hk⟩
    · obtain ⟨its, _, pl, _⟩ := I.list hq
      refine ⟨pl.isList.typeIs, fun a e => ?_⟩
      cases e
      obtain ⟨o, n, e, c, hd, _⟩ := pl
      exact ⟨o, e, hd⟩
    · refine ⟨⟨o, I.kIn p o hk, hc⟩, fun a e => ?_⟩
      cases e
      exact ⟨o, I.kIn _ o hk, hd⟩
    · have z : ∃ o, s.heap.get? p = some o ∧ o.ExactDict := by
        rcases hk with ⟨kvs, hk⟩ | ⟨kvs, hk⟩
        · obtain ⟨_, _, _, _, o, _, _, e, ex, _⟩ := I.hok p _ hk
          exact ⟨o, e, ex⟩
        · obtain ⟨_, _, _, _, o, _, _, e, ex, _⟩ := I.hok p _ hk
          exact ⟨o, e, ex⟩
      obtain ⟨o, e, ex⟩ := z
      refine ⟨⟨o, e, ex.1⟩, fun a e2 => ?_⟩
      cases e2
      exact ⟨o, e, ex.2.1⟩
    · obtain ⟨o, _, _, _, e, ex, _⟩ := I.hok p _ hk
      refine ⟨⟨o, e, ex.1⟩, fun a e2 => ?_⟩
      cases e2
      exact ⟨o, e, ex.2.1⟩
  | _ => exact False.elim ty
def tBM0 (K : PySem.W.Frag) (T : String) (r : V → List V → Hp → VK → Prop) (to : TE) : TE := fun σ H Q => to σ H fun x H1 => tyV K T x H1 ∧ r x [] H1 Q
def tBM (K : PySem.W.Frag) (T : String) (r : V → List V → Hp → VK → Prop) (to : TE) (t : TA) : TE := fun σ H Q => to σ H fun x H1 => tyV K T x H1 ∧ t σ H1 fun xs H2 => r x xs H2 Q
variable {o e : Expr} {es : List Expr} {to : TE} {t : TA} {name : Str} {apos cpos : Pos} {T id : String} {r : V → List V → Hp → VK → Prop}
theorem pe_bm0 (pa : PlainAttrs T) (slot : Slot T name id) (hty : typeOf (.builtin id) = pure (.type "method_descriptor")) (hm : MtR X id r) (ho : PE X o to)
    (hbase : attributeBase o name X.env (eval o X.env) = eval o X.env := by rfl) (hline : (apos.endLine == cpos.line) = true := by rfl) : PE X (.Call (.Attribute o name apos) [] [] cpos) (tBM0 X.K T r to) := by
  intro pins s σ H Q I h
  refine wpAny_Call_method0_late hbase hline (thn (ho pins s σ H _ I h) fun v s1 ⟨x, H1, I1, r1, ty, q1⟩ => ?_)
  obtain ⟨h1, h2⟩ := tyV_is I1 r1 ty
  exact ⟨T, id, pa, slot, hty, h1, h2, Calls.callWith_builtin rfl (PySem.evalArgs_none (hm pins s1 σ H1 x [] v [] Q I1 r1 .nil q1))⟩
theorem pe_bm (pa : PlainAttrs T) (slot : Slot T name id) (hty : typeOf (.builtin id) = pure (.type "method_descriptor")) (hm : MtR X id r) (ho : PE X o to) (ha : PA X (e :: es) t)
    (hbase : attributeBase o name X.env (eval o X.env) = eval o X.env := by rfl)
    (hfew : ((backTo cpos (starEach (e :: es) X.env)).all (fun x => !x.1) && (backToKw cpos (keywordEach [] X.env)).all (fun x => x.1.isSome)
      && decide ((e :: es).length + ([] : List Keyword).length + (if ([] : List Keyword).isEmpty then 0 else 1) < 30)) = true := by rfl)
    (hline : (apos.endLine == cpos.line) = true := by rfl) (hs : starEach (e :: es) X.env = (false, eval e X.env) :: starEach es X.env := by rfl) (hplain : (backTo cpos (starEach es X.env)).any (·.1) = false := by rfl) :
    PE X (.Call (.Attribute o name apos) (e :: es) [] cpos) (tBM X.K T r to t) := by
  intro pins s σ H Q I h
  refine wpAny_Call_method_late hbase hfew hline rfl (thn (ho pins s σ H _ I h) fun v s1 ⟨x, H1, I1, r1, ty, q1⟩ => ?_)
  obtain ⟨h1, h2⟩ := tyV_is I1 r1 ty
  refine ⟨T, id, pa, slot, hty, h1, h2, ?_⟩
  have hA := ha cpos pins s1 σ H1 _ I1 q1
  rw [hs] at hA ⊢
  refine Calls.callWith_builtin (by show (false || (backTo cpos (starEach es X.env)).any (·.1)) = false; rw [hplain] <;> rfl) (Calls.evalArgs_plain ?_)
  exact thn hA fun us s2 ⟨vs, H2, I2, r2, q2⟩ => hm pins s2 σ H2 x vs v us Q I2 r1 r2 q2
/- xs.append(e), list.index on a module's tuple .. are MtR facts of 06m -/
end
end L2

namespace L2
open PySem PySem.Spec PyProof.Rows

def MtM (X : Cx) (id : String) (r : V → List V → Hp → VK → Prop) : Prop :=
  ∀ (pins : List (Addr × Obj)) (s : Shared) (σ : St) (H : Hp) (x : V) (xs : List V) (v : Value) (us : List Value) (Q : VK), Inv X pins σ H s → RelV x v → Vals xs us → r x xs H Q →
    wpAny (model X.prog X.w) X.A (call (.builtin id) (v :: us)) (EP X pins σ Q) X.xe s

/-! ### lists of values -/
theorem Vals.one : ∀ {x : V} {us : List Value}, Vals [x] us → ∃ u, us = [u] ∧ RelV x u
  | _, _, .cons r .nil => ⟨_, rfl, r⟩
theorem Vals.two : ∀ {x y : V} {us : List Value}, Vals [x, y] us → ∃ u v, us = [u, v] ∧ RelV x u ∧ RelV y v
  | _, _, _, .cons r (.cons q .nil) => ⟨_, _, rfl, r, q⟩
theorem Vals.zero : ∀ {us : List Value}, Vals [] us → us = []
  | _, .nil => rfl
theorem Vals.dropLast {xs : List V} {us : List Value} (h : Vals xs us) : Vals xs.dropLast us.dropLast := by
  induction h with
  | nil => exact .nil
  | cons r t ih =>
    cases t with
    | nil => exact .nil
    | cons q t' => exact .cons r ih
theorem Vals.eraseIdx : ∀ {xs : List V} {us : List Value} (i : Nat), Vals xs us → Vals (xs.eraseIdx i) (us.eraseIdx i)
  | _, _, _, .nil => .nil
  | _, _, 0, .cons _ t => t
  | _, _, i + 1, .cons r t => .cons r (Vals.eraseIdx i t)
theorem Vals.reverse {xs : List V} {us : List Value} (h : Vals xs us) : Vals xs.reverse us.reverse := by
  induction h with
  | nil => exact .nil
  | cons r t ih => rw [List.reverse_cons, List.reverse_cons]; exact Vals.append ih (.cons r .nil)
theorem Vals.rep {xs : List V} {us : List Value} (h : Vals xs us) : ∀ k : Nat, Vals (List.replicate k xs).flatten (List.replicate k us).flatten
  | 0 => .nil
  | k + 1 => by
    rw [List.replicate_succ, List.replicate_succ, List.flatten_cons, List.flatten_cons]
    exact Vals.append h (Vals.rep h k)
theorem erase_last {α : Type} (l : List α) : l.eraseIdx (l.length - 1) = l.dropLast := by
  induction l with
  | nil => rfl
  | cons a r ih =>
    cases r with
    | nil => rfl
    | cons b r =>
      have e : (a :: b :: r).length - 1 = ((b :: r).length - 1) + 1 := by
        have h1 : (a :: b :: r).length = r.length + 2 := rfl
        have h2 : (b :: r).length = r.length + 1 := rfl
        omega
      rw [e, List.eraseIdx_cons_succ, ih]
      all_goals rfl
theorem len_erase {α : Type} : ∀ (l : List α) (i : Nat), (l.eraseIdx i).length ≤ l.length
  | [], _ => Nat.le_refl _
  | _ :: _, 0 => Nat.le_succ _
  | _ :: r, i + 1 => Nat.succ_le_succ (len_erase r i)
theorem foldl_rep (its : List Value) : ∀ (k : Nat) (acc : List Value),
    List.foldl (fun x1 x2 => x1 ++ x2) acc.toArray (List.replicate k its.toArray) = (acc ++ (List.replicate k its).flatten).toArray
  | 0, acc => by simp
  | k + 1, acc => by
    have e : acc.toArray ++ its.toArray = (acc ++ its).toArray := by simp
    have e2 : (acc ++ its) ++ (List.replicate k its).flatten = acc ++ (List.replicate (k + 1) its).flatten := by
      rw [List.replicate_succ, List.flatten_cons, List.append_assoc]
    rw [← e2, ← foldl_rep its k (acc ++ its), ← e, List.replicate_succ, List.foldl_cons]

section
variable {X : Cx} {pins : List (Addr × Obj)} {σ : St} {H : Hp} {s : Shared} {l b : Addr} {xs ys zs : List V}

/-! ### the two steps: a tracked list is rewritten, a new list is laid -/
theorem Inv.lset {its its' : List Value} {n : Nat} {f : Array Value → Array Value} {t' : Nat} (I : Inv X pins σ H s) (hH : H l = some (.lst xs))
    (e : s.heap.get? l = some { cls := .type "list", data := .seq its.toArray n }) (hf : f its.toArray = its'.toArray) (hv : Vals ys its') (hz : ys.length ≤ sizeLine) :
    Inv X pins σ (upd H l (.lst ys)) { s with heap := s.heap.update l (Obj.mapSeq f), toks := t' } := by
  have q := PySem.IsL.update e f
  rw [hf] at q
  refine I.write (x := l) (e := l) (by rw [hH]; exact trivial) (.inl rfl) (fun b' u hb hu => (Heap.get?_update_other s.heap (Obj.mapSeq f) (Ne.symm hb)).trans hu) ⟨_, q⟩ ?_
  exact ⟨hz, its', _, hv, q⟩
theorem Inv.lnew {its : List Value} {t' : Nat} (I : Inv X pins σ H s) (hv : Vals ys its) (hz : ys.length ≤ sizeLine) :
    Inv X pins σ (upd H s.heap.objs.size (.lst ys)) { s with heap := s.heap.push { cls := .type "list", data := .seq its.toArray }, toks := t' } :=
  I.laid (fun _ _ q => Heap.get?_push_of_some _ q) (Nat.le_refl _) ⟨hz, its, 0, hv, Heap.get?_push_size _ rfl⟩
theorem Inv.fresh (I : Inv X pins σ H s) : H s.heap.objs.size = none := I.hok.fresh (Nat.le_refl _)
theorem Inv.lstM (I : Inv X pins σ H s) (hH : H l = some (.lst xs)) : xs.length ≤ sizeLine ∧ ∃ (its : List Value) (n : Nat), Vals xs its ∧ xs.length = its.length ∧ s.heap.get? l = some { cls := .type "list", data := .seq its.toArray n } := by
  obtain ⟨z, its, n, r, e⟩ := I.hok l _ hH
  exact ⟨z, its, n, r, r.length, e⟩

theorem notLongL {n : Nat} (h : n ≤ sizeLine) : Builtin.List.listTooLong n = false := by
  unfold Builtin.List.listTooLong
  exact decide_eq_false (by omega)
end

section
variable {X : Cx}

/-! ### methods -/
def rAppend : V → List V → Hp → VK → Prop := fun x vs H Q => ∃ l xs y, x = .ref l ∧ vs = [y] ∧ H l = some (.lst xs) ∧ xs.length < sizeLine ∧ Q .non (upd H l (.lst (xs ++ [y])))
theorem mt_append : MtM X "list.append" rAppend := by
  intro pins s σ H x vs v us Q I rx rv h
  obtain ⟨l, xs, y, rfl, rfl, hH, hz, q⟩ := h
  cases rx
  obtain ⟨u, rfl, ru⟩ := rv.one
  obtain ⟨z, its, n, r, hl, e⟩ := I.lstM hH
  refine call_meets F.slot_list_append ⟨_, e, rfl⟩ F.entry_list_append (F.args_list_append_2 _ _) (PySem.list_append l its.toArray n u (by rw [List.size_toArray]; omega)) ⟨e, ?_⟩
  refine ⟨.non, _, I.lset (its' := its ++ [u]) hH e (by simp) (r.append (.cons ru .nil)) ?_, rfl, q⟩
  rw [List.length_append, List.length_singleton]
  omega

def rExtend : V → List V → Hp → VK → Prop := fun x vs H Q => ∃ l b xs zs, x = .ref l ∧ vs = [.ref b] ∧ H l = some (.lst xs) ∧ H b = some (.lst zs) ∧ xs.length + zs.length ≤ sizeLine ∧ Q .non (upd H l (.lst (xs ++ zs)))
theorem mt_extend : MtM X "list.extend" rExtend := by
  intro pins s σ H x vs v us Q I rx rv h
  obtain ⟨l, b, xs, zs, rfl, rfl, hH, hB, hz, q⟩ := h
  cases rx
  obtain ⟨u, rfl, ru⟩ := rv.one
  cases ru
  obtain ⟨z, its, n, r, hl, e⟩ := I.lstM hH
  obtain ⟨z2, its2, n2, r2, hl2, e2⟩ := I.lstM hB
  have hsz : its.toArray.size + its2.toArray.size ≤ sizeLine := by rw [List.size_toArray, List.size_toArray]; omega
  have hlong : ¬ (!its.toArray.isEmpty && Builtin.List.listTooLong (its.toArray.size + its2.toArray.size)) = true := by
    rw [notLongL hsz, Bool.and_false]
    exact Bool.false_ne_true
  refine call_meets F.slot_list_extend ⟨_, e, rfl⟩ F.entry_list_extend (F.args_list_extend_2 _ _)
    (AutoSeq1.list_extend_list_list_0 l its.toArray n b its2.toArray n2 hlong (by rw [List.size_toArray]; omega) (by omega)) ⟨e, e2, ?_⟩
  refine ⟨.non, _, I.lset (its' := its ++ its2) hH e (by simp) (r.append r2) ?_, rfl, q⟩
  rw [List.length_append]
  omega

def rPop : V → List V → Hp → VK → Prop := fun x vs H Q => ∃ l xs y, x = .ref l ∧ vs = [] ∧ H l = some (.lst xs) ∧ xs[xs.length - 1]? = some y ∧ Q y (upd H l (.lst xs.dropLast))
theorem mt_pop : MtM X "list.pop" rPop := by
  intro pins s σ H x vs v us Q I rx rv h
  obtain ⟨l, xs, y, rfl, rfl, hH, hy, q⟩ := h
  cases rx
  have hus := rv.zero
  subst hus
  obtain ⟨z, its, n, r, hl, e⟩ := I.lstM hH
  obtain ⟨u, hu, ru⟩ := r.get hy
  have hy' : its.toArray[its.toArray.size - 1]? = some u := by
    show its.toArray[its.length - 1]? = some u
    rw [← Array.getElem?_toList, ← hl]
    exact hu
  refine call_meets F.slot_list_pop ⟨_, e, rfl⟩ F.entry_list_pop (F.args_list_pop_1 _) (MeetsSeq.list_pop_last l its.toArray n u hy' (by rw [List.size_toArray]; omega)) ⟨e, ?_⟩
  refine ⟨y, _, I.lset (its' := its.dropLast) hH e ?_ r.dropLast ?_, ru, q⟩
  · show its.toArray.eraseIdxIfInBounds (its.toArray.size - 1) = its.dropLast.toArray
    rw [List.size_toArray, List.eraseIdxIfInBounds_toArray, erase_last]
  · rw [List.length_dropLast]
    omega

def rPopAt : V → List V → Hp → VK → Prop := fun x vs H Q => ∃ l xs i k y, x = .ref l ∧ vs = [.int i] ∧ H l = some (.lst xs) ∧ -(2 ^ 63) ≤ i ∧ i < 2 ^ 63 ∧ seqIndex? i xs.length = some k ∧ xs[k]? = some y ∧ Q y (upd H l (.lst (xs.eraseIdx k)))
theorem mt_popAt : MtM X "list.pop" rPopAt := by
  intro pins s σ H x vs v us Q I rx rv h
  obtain ⟨l, xs, i, k, y, rfl, rfl, hH, h1, h2, hk, hy, q⟩ := h
  cases rx
  obtain ⟨u, rfl, ru⟩ := rv.one
  obtain ⟨t, rfl⟩ := ru
  obtain ⟨z, its, n, r, hl, e⟩ := I.lstM hH
  obtain ⟨w, hw, rw'⟩ := r.get hy
  refine call_meets F.slot_list_pop ⟨_, e, rfl⟩ F.entry_list_pop (F.args_list_pop_2 _ _)
    (MeetsSeq.list_pop_at l its.toArray n i t k w (fitsIndex_both h1 h2) (by rw [List.size_toArray, ← hl]; exact hk) (by rw [← Array.getElem?_toList]; exact hw) (by rw [List.size_toArray]; omega)) ⟨e, ?_⟩
  refine ⟨y, _, I.lset (its' := its.eraseIdx k) hH e ?_ (r.eraseIdx k) ?_, rw', q⟩
  · show its.toArray.eraseIdxIfInBounds k = (its.eraseIdx k).toArray
    rw [List.eraseIdxIfInBounds_toArray]
  · have := len_erase xs k
    omega

def rReverse : V → List V → Hp → VK → Prop := fun x vs H Q => ∃ l xs, x = .ref l ∧ vs = [] ∧ H l = some (.lst xs) ∧ Q .non (upd H l (.lst xs.reverse))
theorem mt_reverse : MtM X "list.reverse" rReverse := by
  intro pins s σ H x vs v us Q I rx rv h
  obtain ⟨l, xs, rfl, rfl, hH, q⟩ := h
  cases rx
  have hus := rv.zero
  subst hus
  obtain ⟨z, its, n, r, hl, e⟩ := I.lstM hH
  refine call_meets F.slot_list_reverse ⟨_, e, rfl⟩ F.entry_list_reverse (F.args_list_reverse_1 _) (AutoSeq1.list_reverse_list_0 l its.toArray n (by rw [List.size_toArray]; omega)) ⟨e, ?_⟩
  refine ⟨.non, _, I.lset (its' := its.reverse) hH e (by simp) r.reverse ?_, rfl, q⟩
  rw [List.length_reverse]
  omega

def rClear : V → List V → Hp → VK → Prop := fun x vs H Q => ∃ l xs, x = .ref l ∧ vs = [] ∧ H l = some (.lst xs) ∧ Q .non (upd H l (.lst []))
theorem mt_clear : MtM X "list.clear" rClear := by
  intro pins s σ H x vs v us Q I rx rv h
  obtain ⟨l, xs, rfl, rfl, hH, q⟩ := h
  cases rx
  have hus := rv.zero
  subst hus
  obtain ⟨z, its, n, r, hl, e⟩ := I.lstM hH
  refine call_meets F.slot_list_clear ⟨_, e, rfl⟩ F.entry_list_clear (F.args_list_clear_1 _) (AutoSeq1.list_clear_list_0 l its.toArray n (by rw [List.size_toArray]; omega)) ⟨e, ?_⟩
  exact ⟨.non, _, I.lset (its' := []) (ys := []) hH e rfl .nil (Nat.zero_le _), rfl, q⟩

/-! ### list + list, list += list, list * int -/
def rCat : R2 := fun x y H Q => ∃ l b xs zs, x = .ref l ∧ y = .ref b ∧ H l = some (.lst xs) ∧ H b = some (.lst zs) ∧ xs.length + zs.length ≤ sizeLine ∧ ∀ p, H p = none → Q (.ref p) (upd H p (.lst (xs ++ zs)))
theorem op_cat : OpR X (binaryOp .Add) rCat := by
  intro pins s σ H x y v u Q I rx ry h
  obtain ⟨l, b, xs, zs, rfl, rfl, hH, hB, hz, q⟩ := h
  cases rx
  cases ry
  obtain ⟨z, its, n, r, hl, e⟩ := I.lstM hH
  obtain ⟨z2, its2, n2, r2, hl2, e2⟩ := I.lstM hB
  refine PySem.P.add_list e e2 ?_ (by rw [List.size_toArray, List.size_toArray]; omega)
  have ea : its.toArray ++ its2.toArray = (its ++ its2).toArray := by simp
  rw [ea]
  exact ⟨.ref _, _, I.lnew (t' := s.toks) (r.append r2) (by rw [List.length_append]; omega), rfl, q _ I.fresh⟩
/-- a list times an int (a negative one is nothing) -/
def rRep : R2 := fun x y H Q => ∃ l k xs, x = .ref l ∧ y = .int k ∧ H l = some (.lst xs) ∧ -(2 ^ 63) ≤ k ∧ k < 2 ^ 63 ∧ xs.length * k.toNat ≤ sizeLine ∧
  ∀ p, H p = none → Q (.ref p) (upd H p (.lst (List.replicate k.toNat xs).flatten))
theorem len_rep {α : Type} (xs : List α) (k : Nat) : (List.replicate k xs).flatten.length = k * xs.length := by
  induction k with
  | zero => simp
  | succ k ih => rw [List.replicate_succ, List.flatten_cons, List.length_append, ih, Nat.succ_mul, Nat.add_comm]
theorem op_rep : OpR X (binaryOp .Mult) rRep := by
  intro pins s σ H x y v u Q I rx ry h
  obtain ⟨l, k, xs, rfl, rfl, hH, h1, h2, hz, q⟩ := h
  cases rx
  obtain ⟨t, rfl⟩ := ry
  obtain ⟨z, its, n, r, hl, e⟩ := I.lstM hH
  have hlen : its.toArray.size * k.toNat ≤ sizeLine := by rw [List.size_toArray, ← hl]; exact hz
  have hcap : ¬ its.toArray.size * k.toNat > (2 ^ 63 - 1) / 8 := by
    have : (sizeLine : Nat) ≤ (2 ^ 63 - 1) / 8 := by decide
    omega
  have hfit : ¬ (!Builtin.List.listFitsIndex k) = true := by
    rw [fitsIndex_both h1 h2]
    exact Bool.false_ne_true
  have hlong : ¬ Builtin.List.listTooLong (its.toArray.size * k.toNat) = true := by
    rw [notLongL hlen]
    exact Bool.false_ne_true
  have hnew : List.foldl (fun x1 x2 => x1 ++ x2) #[] (List.replicate (if its.toArray.isEmpty = true then 0 else k.toNat) its.toArray) = (List.replicate k.toNat its).flatten.toArray := by
    have f0 : ∀ m : Nat, List.foldl (fun x1 x2 => x1 ++ x2) #[] (List.replicate m its.toArray) = (List.replicate m its).flatten.toArray := fun m => by
      have := foldl_rep its m []
      rw [List.nil_append] at this
      exact this
    rw [f0]
    cases its with
    | nil => simp
    | cons a r' => rw [if_neg (by simp)]
  refine wpAny_binaryOp_repeat_ref (T := "list") (U := "int") (by decide) ⟨_, e, rfl⟩ (fun s' => typeIs_int s' k t) noFill_list_mul F.fills_int_mul F.slot_int_rmul repeat_list F.slot_int_index.lookup
    (call_meets F.slot_int_rmul (typeIs_int s k t) F.entry_int_rmul (F.args_int_rmul_2 _ _) (int___rmul___int_list k t l its.toArray n)
      ⟨e, rfl, ⟨_, e, rfl⟩, call_meets F.slot_list_mul ⟨_, e, rfl⟩ F.entry_list_mul (F.args_list_mul_2 _ _) (AutoListH.list___mul___list_int_3 l its.toArray n k t hfit hcap hlong) ⟨e, ?_⟩⟩)
  rw [hnew]
  exact ⟨.ref _, _, I.lnew (t' := s.toks) (r.rep k.toNat) (by rw [len_rep, Nat.mul_comm]; exact hz), rfl, q _ I.fresh⟩

/-! ### del xs[i] -/
theorem del_list {pins : List (Addr × Obj)} {s : Shared} {σ : St} {H : Hp} {l : Addr} {xs : List V} {i : Int} {t : Tok} {k : Nat} {Q : Unit → Shared → Prop} (I : Inv X pins σ H s) (hH : H l = some (.lst xs))
    (h1 : -(2 ^ 63) ≤ i) (h2 : i < 2 ^ 63) (hk : seqIndex? i xs.length = some k) (h : ∀ s', Inv X pins σ (upd H l (.lst (xs.eraseIdx k))) s' → Q () s') :
    wpAny (model X.prog X.w) X.A (delItem (.ref l) (.int i t)) Q X.xe s := by
  obtain ⟨z, its, n, r, hl, e⟩ := I.lstM hH
  refine PySem.P.delItem_list (k := k) e (fitsIndex_both h1 h2) (by rw [List.size_toArray, ← hl]; exact hk) (h _ ?_) (by rw [List.size_toArray]; omega)
  refine I.lset (its' := its.eraseIdx k) (t' := s.toks) hH e ?_ (r.eraseIdx k) ?_
  · show its.toArray.eraseIdxIfInBounds k = (its.eraseIdx k).toArray
    rw [List.eraseIdxIfInBounds_toArray]
  · have := len_erase xs k
    omega
end

/-! ### xs[a:b] = ys -/
section
variable {prog : Program} {w : World} {A : Around} {E : Value → Shared → Prop} {s : Shared}
theorem splice_eq (its its2 : List Value) (a c : Nat) : its.toArray.extract 0 a ++ its2.toArray ++ its.toArray.extract c its.toArray.size = (its.take a ++ its2 ++ its.drop c).toArray := by
  apply Array.toList_inj.mp
  first
    | (simp
       exact List.take_of_length_le (by simp))
    | simp [List.take_of_length_le]
    | simp
theorem bounds_run {a c n : Nat} (hac : a ≤ c) (hc : c ≤ n) : sliceBounds (some (a : Int)) (some (c : Int)) none n = ((a : Int), (c : Int), 1) := by
  simp only [sliceBounds, Option.getD_none]
  have h1 : ¬ ((a : Int) < 0) := by omega
  have h2 : ¬ ((c : Int) < 0) := by omega
  simp only [h1, h2, if_false, show (1 : Int) > 0 by decide, if_true]
  congr 1
  · omega
  · congr 1; omega
set_option maxRecDepth 100000 in
/-- list.__setitem__ with a slice of step one and another list -/
theorem setItem_slice {l b sl : Addr} {items new : Array Value} {n n2 : Nat} {vl vu : Value} {a c : Nat} {Q : Unit → Shared → Prop}
    (e : s.heap.get? l = some { cls := .type "list", data := .seq items n }) (e2 : s.heap.get? b = some { cls := .type "list", data := .seq new n2 }) (hne : l ≠ b)
    (hs : s.heap.IsSliceOf sl vl vu .none) (pl : IsPart vl (some (a : Int))) (pu : IsPart vu (some (c : Int))) (hac : a ≤ c) (hc : c ≤ items.size)
    (hsz : items.size + new.size ≤ sizeLine) (h : Q () { s with heap := s.heap.update l (Obj.mapSeq fun xs => xs.extract 0 a ++ new ++ xs.extract c xs.size) }) :
    wpAny (model prog w) A (setItem (.ref l) (.ref sl) (.ref b)) Q E s := by
  have hl : s.heap.IsList l items := PySem.IsL.isList e
  have hb : s.heap.IsList b new := PySem.IsL.isList e2
  obtain ⟨os, hos, hcs, hds⟩ := id hs
  have hTs : s.TypeIs (.ref sl) "slice" := ⟨os, hos, hcs⟩
  have hstep : ¬ ((rawPart none == rawInt 0) = true) := Bool.false_ne_true
  have hsame : Builtin.List.listSameRef (.ref l) (.ref b) = false := by
    unfold Builtin.List.listSameRef
    exact beq_eq_false_iff_ne.mpr hne
  have hmax : (max (a : Int) (c : Int)).toNat = c := by omega
  have hz' : ((fun xs : Array Value => xs.extract 0 a ++ new ++ xs.extract c xs.size) items).size ≤ sizeLine + 1 := by
    simp only [Array.size_append, Array.size_extract]
    omega
  unfold setItem
  try with_reducible refine wpAny_holding ?_
  first | refine wpAny_bind (wpAny_pure ?_) | skip
  refine wpAny_bind (wpAny_sequenceKey hl.typeIs (by decide) ?_)
  refine wpAny_bind (wpAny_callSpecial?_slot (name := Str.ofString "__setitem__") hl.typeIs slot_list_setitem
    (wpAny_call_entry slot_list_setitem hl.typeIs entry_list_setitem ?_ (args_list_setitem _ _ _)))
  show wpAny _ _ (Builtin.List.listSubscript? (.ref sl) >>= _) _ _ s
  refine wpAny_bind ?_
  unfold Builtin.List.listSubscript?
  refine wpAny_bind (wpAny_specialOf hTs slice_no_index ?_)
  simp only [Option.isNone_none, if_true]
  refine wpAny_pure ?_
  show wpAny _ _ (typeOf (.ref sl) >>= _) _ _ s
  refine wpAny_bind (wpAny_typeOf hTs ?_)
  first
    | rw [if_neg (by decide)]
    | refine PySem.W.KFB.if_not (by decide) ?_
  rw [listSliceParts_eq]
  refine wpAny_bind (wpAny_bind (wpAny_field hos hds (x := .none) rfl (wpAny_bind (wpAny_listPart .none ?_))))
  rw [if_neg hstep]
  refine wpAny_bind (wpAny_field hos hds (x := vl) rfl (wpAny_bind (wpAny_listPart pl ?_)))
  refine wpAny_bind (wpAny_field hos hds (x := vu) rfl (wpAny_bind (wpAny_listPart pu (wpAny_pure ?_))))
  first
    | simp only [hsame, Bool.false_eq_true, if_false]
    | refine PySem.W.KFB.if_not hsame ?_
    | (dsimp only
       rw [if_neg (by rw [hsame]; exact Bool.false_ne_true)])
  refine wpAny_bind (m := Builtin.List.listAllItems (.ref b) "must assign iterable to extended slice") ?_
  unfold Builtin.List.listAllItems
  refine wpAny_bind (wpAny_typeOf hb.typeIs ?_)
  first
    | refine PySem.W.KFB.if_so (by decide) ?_
    | rw [if_pos (by decide)]
    | simp only [beq_self_eq_true, Bool.true_or, if_true]
  unfold Builtin.List.listItems
  refine wpAny_bind (wpAny_seqItems e2 rfl (wpAny_pure ?_))
  refine wpAny_bind (wpAny_bind (wpAny_seqItems e rfl (wpAny_pure ?_)))
  refine wpAny_bind (wpAny_of_eq ((sliceIndices_raw (some (a : Int)) (some (c : Int)) none items.size (by simp)).trans (congrArg (pure : Int × Int × Int → Sem (Int × Int × Int)) (bounds_run hac hc))) ?_)
  show wpAny _ _ (if ((1 : Int) == 1) = true then _ else _) _ _ s
  rw [if_pos (by decide)]
  refine wpAny_bind (wpAny_rule ?_)
  first
    | simp only [notLongL hsz, Bool.false_eq_true, if_false]
    | refine PySem.W.KFB.if_not (notLongL hsz) ?_
  first | refine wpAny_bind (wpAny_pure ?_) | skip
  show wpAny _ _ (updateSeq l (fun xs => xs.extract 0 ((a : Int)).toNat ++ new ++ xs.extract (max (a : Int) (c : Int)).toNat xs.size) >>= _) _ _ s
  rw [hmax, Int.toNat_natCast]
  refine wpAny_bind (wpAny_updateSeq (hz := Nat.le_trans (Nat.le_add_right _ _) hsz) (_hz' := hz') e rfl ?_)
  refine wpAny_bind (wpAny_letGo ?_)
  first
    | exact wpAny_bind (wpAny_pure (wpAny_pure ⟨.none, rfl, wpAny_pure h⟩))
    | exact wpAny_pure ⟨.none, rfl, wpAny_pure h⟩
end

section
variable {X : Cx}
/-- xs[a:c] = ys of another list, at the value level: sl is the slice object that was just made -/
theorem set_slice {pins : List (Addr × Obj)} {s : Shared} {σ : St} {H : Hp} {l b sl : Addr} {xs ys : List V} {a c : Int} {vl vu : Value} {Q : Unit → Shared → Prop} (I : Inv X pins σ H s)
    (hH : H l = some (.lst xs)) (hB : H b = some (.lst ys)) (hne : l ≠ b) (hs : s.heap.IsSliceOf sl vl vu .none) (ra : RelV (.int a) vl) (rc : RelV (.int c) vu) (h0 : 0 ≤ a) (hac : a ≤ c) (hc : c ≤ xs.length)
    (hz : xs.length + ys.length ≤ sizeLine) (h : ∀ s', Inv X pins σ (upd H l (.lst (xs.take a.toNat ++ ys ++ xs.drop c.toNat))) s' → Q () s') :
    wpAny (model X.prog X.w) X.A (setItem (.ref l) (.ref sl) (.ref b)) Q X.xe s := by
  obtain ⟨ta, rfl⟩ := ra
  obtain ⟨tc, rfl⟩ := rc
  obtain ⟨z, its, n, r, hl, e⟩ := I.lstM hH
  obtain ⟨z2, its2, n2, r2, hl2, e2⟩ := I.lstM hB
  obtain ⟨a', rfl⟩ := Int.eq_ofNat_of_zero_le h0
  obtain ⟨c', rfl⟩ := Int.eq_ofNat_of_zero_le (Int.le_trans h0 hac)
  simp only [Int.toNat_natCast] at h
  refine setItem_slice (a := a') (c := c') e e2 hne hs (.int _ _) (.int _ _) (by omega) (by rw [List.size_toArray]; omega) (by rw [List.size_toArray, List.size_toArray]; omega) (h _ ?_)
  refine I.lset (its' := its.take a' ++ its2 ++ its.drop c') (t' := s.toks) hH e ?_ (Vals.append (Vals.append (r.take _) r2) (r.drop _)) ?_
  · exact splice_eq its its2 a' c'
  · rw [List.length_append, List.length_append, List.length_take, List.length_drop]
    omega
end
end L2

namespace L2
open PySem PySem.Spec PyProof.Rows

theorem Vals.ints : ∀ {ns : List Int} {us : List Value}, Vals (ns.map V.int) us → IntsAre us ns
  | [], us, h => by
    rw [List.map_nil] at h
    cases h
    exact IntsAre.nil
  | n :: ns, us, h => by
    rw [List.map_cons] at h
    cases h with
    | cons r t =>
      obtain ⟨k, rfl⟩ := r
      exact IntsAre.cons n k (Vals.ints t)
theorem vals_of_ints : ∀ {us : List Value} {ns : List Int}, IntsAre us ns → Vals (ns.map V.int) us
  | _, _, .nil => by rw [List.map_nil]; exact Paired.nil
  | _, _, .cons n t h => by rw [List.map_cons]; exact Paired.cons (show RelV (V.int n) (Value.int n t) from ⟨t, rfl⟩) (vals_of_ints h)
theorem Vals.strs : ∀ {xs : List Str} {us : List Value}, Vals (xs.map V.str) us → StrsAre us xs
  | [], us, h => by
    rw [List.map_nil] at h
    cases h
    exact StrsAre.nil
  | x :: xs, us, h => by
    rw [List.map_cons] at h
    cases h with
    | cons r t =>
      obtain ⟨k, rfl⟩ := r
      exact StrsAre.cons x k (Vals.strs t)
theorem vals_of_strs : ∀ {us : List Value} {xs : List Str}, StrsAre us xs → Vals (xs.map V.str) us
  | _, _, .nil => by rw [List.map_nil]; exact Paired.nil
  | _, _, .cons x t h => by rw [List.map_cons]; exact Paired.cons (show RelV (V.str x) (Value.str x t) from ⟨t, rfl⟩) (vals_of_strs h)
theorem Vals.bls : ∀ {bs : List Bool} {us : List Value}, Vals (bs.map V.bl) us → us = bs.map Value.bool
  | [], us, h => by
    rw [List.map_nil] at h
    cases h
    rfl
  | b :: bs, us, h => by
    rw [List.map_cons] at h
    cases h with
    | cons r t =>
      cases r
      rw [Vals.bls t, List.map_cons]
theorem Vals.ref1 {a : Addr} {us : List Value} (r : Vals [V.ref a] us) : us = [Value.ref a] := by
  cases r with
  | cons r t =>
    cases t
    cases r
    rfl
theorem Vals.int2 {i j : Int} {us : List Value} (r : Vals [V.int i, V.int j] us) : ∃ t u, us = [Value.int i t, Value.int j u] := by
  cases r with
  | cons r t =>
    cases t with
    | cons r2 t2 =>
      cases t2
      obtain ⟨t, rfl⟩ := r
      obtain ⟨u, rfl⟩ := r2
      exact ⟨t, u, rfl⟩

/-! ### the library's walks over a list of ints, kept objects alone -/
section
variable {prog : Program} {w : World} {A : Around} {E : Value → Shared → Prop} {s : Shared} {l : Addr} {its : List Value} {ns : List Int} {Q : Value → Shared → Prop}
theorem sum_raw (hh : A.handled = none) (hl : s.heap.IsList l its.toArray) (hi : IntsAre its ns)
    (h : ∀ h' tk t', (∀ b o, s.heap.get? b = some o → h'.get? b = some o) → Q (.int ns.sum t') { s with heap := h', toks := tk }) : wpAny (model prog w) A (call (.builtin "sum") [.ref l]) Q E s := by
  obtain ⟨xs, e⟩ := hi.allInts.items
  have hn : numsOf (intItems xs).toList = ns := by rw [← e]; exact hi.numsOf
  rw [nums_intItems] at hn
  rw [e] at hl
  refine PySem.sum_intListG hh hl fun h' tk t' hk => ?_
  have := h h' tk t' hk
  rw [preSum_eq, List.take_of_length_le (by simp), hn]; exact this
theorem max_raw (hh : A.handled = none) (hl : s.heap.IsList l its.toArray) (hi : IntsAre its ns) (hne : 0 < ns.length)
    (h : ∀ h' tk M t', (∀ b o, s.heap.get? b = some o → h'.get? b = some o) → M ∈ ns → (∀ a, a ∈ ns → a ≤ M) → Q (.int M t') { s with heap := h', toks := tk }) : wpAny (model prog w) A (call (.builtin "max") [.ref l]) Q E s := by
  obtain ⟨xs, e⟩ := hi.allInts.items
  have hn : numsOf (intItems xs).toList = ns := by rw [← e]; exact hi.numsOf
  rw [nums_intItems] at hn
  subst hn
  rw [e] at hl
  have hsz : 0 < xs.size := by simpa using hne
  refine PySem.max_intList hh hl hsz fun v h' tk hv hk => ?_
  obtain ⟨t, rfl⟩ := intItems_at hv
  obtain ⟨h1, h2⟩ := argBest_gt (numAt xs) (xs.size - 1)
  refine h h' tk _ t hk ?_ fun a ha => ?_
  · rw [numAt_eq]; exact PySem.getD_mem (by rw [List.length_map, Array.length_toList]; omega)
  · obtain ⟨j, hj, rfl⟩ := mem_getD ha
    rw [List.length_map, Array.length_toList] at hj
    rw [← numAt_eq]; exact h2 j (by omega)
theorem min_raw (hh : A.handled = none) (hl : s.heap.IsList l its.toArray) (hi : IntsAre its ns) (hne : 0 < ns.length)
    (h : ∀ h' tk M t', (∀ b o, s.heap.get? b = some o → h'.get? b = some o) → M ∈ ns → (∀ a, a ∈ ns → M ≤ a) → Q (.int M t') { s with heap := h', toks := tk }) : wpAny (model prog w) A (call (.builtin "min") [.ref l]) Q E s := by
  obtain ⟨xs, e⟩ := hi.allInts.items
  have hn : numsOf (intItems xs).toList = ns := by rw [← e]; exact hi.numsOf
  rw [nums_intItems] at hn
  subst hn
  rw [e] at hl
  have hsz : 0 < xs.size := by simpa using hne
  refine PySem.min_intList hh hl hsz fun v h' tk hv hk => ?_
  obtain ⟨t, rfl⟩ := intItems_at hv
  obtain ⟨h1, h2⟩ := argBest_lt (numAt xs) (xs.size - 1)
  refine h h' tk _ t hk ?_ fun a ha => ?_
  · rw [numAt_eq]; exact PySem.getD_mem (by rw [List.length_map, Array.length_toList]; omega)
  · obtain ⟨j, hj, rfl⟩ := mem_getD ha
    rw [List.length_map, Array.length_toList] at hj
    rw [← numAt_eq]; exact h2 j (by omega)
end

/-! ### the calls, by values (CallR of 03t; MtR of 06l) -/
section
variable {X : Cx}
/-- sum(xs) of a list of ints -/
def rSum (K : PySem.W.Frag) : List V → Hp → VK → Prop := fun vs H Q => ∃ (a : Addr) (ns : List Int), vs = [V.ref a] ∧ SqL K H a (ns.map V.int) ∧ Q (.int ns.sum) H
/-- max(xs), min(xs) of a list of ints -/
def rMax (K : PySem.W.Frag) : List V → Hp → VK → Prop := fun vs H Q => ∃ (a : Addr) (ns : List Int), vs = [V.ref a] ∧ SqL K H a (ns.map V.int) ∧ 0 < ns.length ∧ ∀ m, m ∈ ns → (∀ y, y ∈ ns → y ≤ m) → Q (.int m) H
def rMin (K : PySem.W.Frag) : List V → Hp → VK → Prop := fun vs H Q => ∃ (a : Addr) (ns : List Int), vs = [V.ref a] ∧ SqL K H a (ns.map V.int) ∧ 0 < ns.length ∧ ∀ m, m ∈ ns → (∀ y, y ∈ ns → m ≤ y) → Q (.int m) H
theorem cr_sum (hc : X.calm = true) : CallR X (.builtin "sum") (rSum X.K) := by
  intro pins s σ H vs us Q I r h
  obtain ⟨a, ns, rfl, hs, q⟩ := h
  obtain ⟨its, rv, hl, _⟩ := I.list hs
  rw [Vals.ref1 r]
  exact sum_raw (I.ok.hd hc) hl.isList rv.ints fun h' tk t' hk => ⟨.int _, H, I.kept hk, ⟨_, rfl⟩, q⟩
theorem cr_max (hc : X.calm = true) : CallR X (.builtin "max") (rMax X.K) := by
  intro pins s σ H vs us Q I r h
  obtain ⟨a, ns, rfl, hs, hne, q⟩ := h
  obtain ⟨its, rv, hl, _⟩ := I.list hs
  rw [Vals.ref1 r]
  exact max_raw (I.ok.hd hc) hl.isList rv.ints hne fun h' tk m t' hk h1 h2 => ⟨.int _, H, I.kept hk, ⟨_, rfl⟩, q m h1 h2⟩
theorem cr_min (hc : X.calm = true) : CallR X (.builtin "min") (rMin X.K) := by
  intro pins s σ H vs us Q I r h
  obtain ⟨a, ns, rfl, hs, hne, q⟩ := h
  obtain ⟨its, rv, hl, _⟩ := I.list hs
  rw [Vals.ref1 r]
  exact min_raw (I.ok.hd hc) hl.isList rv.ints hne fun h' tk m t' hk h1 h2 => ⟨.int _, H, I.kept hk, ⟨_, rfl⟩, q m h1 h2⟩

/-! sorted, sort (fewer than 64 items: the library's own bound) -/
def rSorted (K : PySem.W.Frag) : List V → Hp → VK → Prop := fun vs H Q => ∃ (a : Addr) (ns : List Int), vs = [V.ref a] ∧ SqL K H a (ns.map V.int) ∧ ns.length < 64 ∧
  ∀ (ns' : List Int) (p : Addr), ns'.Perm ns → ns'.Pairwise (· ≤ ·) → H p = none → Q (.ref p) (upd H p (.lst (ns'.map V.int)))
def rSortedS (K : PySem.W.Frag) : List V → Hp → VK → Prop := fun vs H Q => ∃ (a : Addr) (xs : List Str), vs = [V.ref a] ∧ SqL K H a (xs.map V.str) ∧ xs.length < 64 ∧
  ∀ (ys : List Str) (p : Addr), ys.Perm xs → sortedS ys = true → H p = none → Q (.ref p) (upd H p (.lst (ys.map V.str)))
theorem small64 {n : Nat} (h : n < 64) : n ≤ sizeLine := by rw [sizeLine_eq]; omega
theorem cr_sorted : CallR X (.builtin "sorted") (rSorted X.K) := by
  intro pins s σ H vs us Q I r h
  obtain ⟨a, ns, rfl, hs, h64, q⟩ := h
  obtain ⟨its, rv, hl, _⟩ := I.list hs
  rw [Vals.ref1 r]
  have hi := rv.ints
  refine PyProof.Rows.sorted_ints hl.isList hi (by rw [hi.length]; exact h64) fun out ns' h1 h2 h3 => ?_
  obtain ⟨ep, he'⟩ := PyProof.Rows.sortedAll_at s.heap its out
  have hlen : (ns'.map V.int).length ≤ sizeLine := by rw [List.length_map, h2.length_eq]; exact small64 h64
  exact ⟨.ref _, upd H (s.heap.objs.size + 1) (.lst (ns'.map V.int)), I.laid (t' := s.toks) (fun _ _ => PyProof.Rows.sortedAll_old) (Nat.le_succ _) ⟨hlen, out.toList, ep, vals_of_ints h1, he'⟩, rfl, q ns' _ h2 h3 (I.hok.fresh (Nat.le_succ _))⟩
theorem cr_sortedS : CallR X (.builtin "sorted") (rSortedS X.K) := by
  intro pins s σ H vs us Q I r h
  obtain ⟨a, xs, rfl, hs, h64, q⟩ := h
  obtain ⟨its, rv, hl, _⟩ := I.list hs
  rw [Vals.ref1 r]
  have hlen0 := rv.length
  rw [List.length_map] at hlen0
  refine PyProof.Rows.sorted_strs hl.isList rv.strs (by rw [← hlen0]; exact h64) fun out ys h1 h2 h3 => ?_
  obtain ⟨ep, he'⟩ := PyProof.Rows.sortedAll_at s.heap its out
  have hlen : (ys.map V.str).length ≤ sizeLine := by rw [List.length_map, h2.length_eq]; exact small64 h64
  exact ⟨.ref _, upd H (s.heap.objs.size + 1) (.lst (ys.map V.str)), I.laid (t' := s.toks) (fun _ _ => PyProof.Rows.sortedAll_old) (Nat.le_succ _) ⟨hlen, out.toList, ep, vals_of_strs h1, he'⟩, rfl, q ys _ h2 h3 (I.hok.fresh (Nat.le_succ _))⟩
/-- xs.sort(), ints -/
def rSort : V → List V → Hp → VK → Prop := fun x xs H Q => ∃ (a : Addr) (ns : List Int), x = V.ref a ∧ xs = [] ∧ H a = some (.lst (ns.map V.int)) ∧ ns.length < 64 ∧
  ∀ ns' : List Int, ns'.Perm ns → ns'.Pairwise (· ≤ ·) → Q .non (upd H a (.lst (ns'.map V.int)))
theorem mt_sort : MtR X "list.sort" rSort := by
  intro pins s σ H x xs v us Q I rx rxs h
  obtain ⟨a, ns, rfl, rfl, ha, h64, q⟩ := h
  cases rx
  cases rxs
  obtain ⟨hz, its, n, rv, hob⟩ := I.hok a _ ha
  have hi := rv.ints
  refine wpAny_call_entry PyProof.Rows.slot_list_sort ⟨_, hob, rfl⟩ PyProof.Rows.entry_list_sort
    (PyProof.Rows.list_sort_tree hob hi (by rw [hi.length]; exact h64) fun out ns' h1 h2 h3 => ⟨.none, rfl, ?_⟩) (PyProof.Rows.args_list_sort _)
  obtain ⟨ep, he'⟩ := PyProof.Rows.sortedHeap_at (vs := its) (out := out) hob
  have hlen : (ns'.map V.int).length ≤ sizeLine := by rw [List.length_map, h2.length_eq]; exact small64 h64
  refine ⟨.non, upd H a (.lst (ns'.map V.int)), I.write (e := a) (t' := s.toks) (by rw [ha]; trivial) (.inl rfl) (fun b u hb hu => ?_) ⟨_, he'⟩ ⟨hlen, out.toList, ep, vals_of_ints h1, he'⟩, rfl, q ns' h2 h3⟩
  rw [PyProof.Rows.sortedHeap_old hb (Heap.lt_size hu)]; exact hu
end

/-! ### list.index, flat items -/
section
variable {X : Cx}
def rIndex (K : PySem.W.Frag) : V → List V → Hp → VK → Prop := fun x xs H Q => ∃ (a : Addr) (ys : List V) (y : V) (j : Nat) (z : V), x = V.ref a ∧ xs = [y] ∧ SqL K H a ys ∧ flatV y = true ∧ ys.all flatV = true ∧ ys[j]? = some z ∧ eqV z y = true ∧
  (∀ (m : Nat) (z' : V), m < j → ys[m]? = some z' → eqV z' y = false) ∧ Q (.int (j : Nat)) H
theorem flat_at {ys : List V} (f : ys.all flatV = true) {j : Nat} {z : V} (h : ys[j]? = some z) : flatV z = true := List.all_eq_true.mp f z (List.mem_of_getElem? h)
theorem mt_index : MtR X "list.index" (rIndex X.K) := by
  intro pins s σ H x xs v us Q I rx rxs h
  obtain ⟨a, ys, y, j, z, rfl, rfl, hs, fy, fys, hz, hzj, hno, q⟩ := h
  cases rx
  cases rxs with
  | cons ry rt =>
    rename_i uy ut
    cases rt
    obtain ⟨its, rv, ⟨⟨cls, dd, data, sl⟩, n, ho, hc, hdn, hd⟩, hlen⟩ := I.list hs
    simp only at hc hd
    subst hc hd
    obtain ⟨u, hu, ru⟩ := rv.get hz
    obtain ⟨hjl, hje⟩ := List.getElem?_eq_some_iff.mp hu
    have hvl := rv.length
    have hj : j < its.toArray.size := by simpa using hjl
    have hsl := sizeLine_eq
    refine call_meets PySem.F.slot_list_index ⟨_, ho, rfl⟩ PySem.F.entry_list_index (PySem.F.args_list_index_2 _ _)
      (SeqAt.list_indexAt a its.toArray n dd sl uy (eqU y) j hj (by omega) ?_ ?_) ⟨ho, fun u' hu' => mem_eqAt ry fy rv fys u' (by simpa using hu'), ?_⟩
    · have e1 : its.toArray[j] = u := by simpa using hje
      rw [e1, eqU_of ru (flat_at fys hz)]
      exact hzj
    · intro m hm hmj
      have hml : m < its.length := by simpa using hm
      have hmy : m < ys.length := by omega
      have hy' : ys[m]? = some ys[m] := List.getElem?_eq_getElem hmy
      obtain ⟨u2, hu2, ru2⟩ := rv.get hy'
      obtain ⟨_, hme⟩ := List.getElem?_eq_some_iff.mp hu2
      have e1 : its.toArray[m] = u2 := by simpa using hme
      rw [e1, eqU_of ru2 (flat_at fys hy')]
      exact hno m _ hmj hy'
    · exact ⟨.int (j : Nat), H, I.tok _, ⟨_, rfl⟩, q⟩
end

/-! ### type(x) of an own instance; is, is not of a module's class -/
section
variable {X : Cx}
theorem cr_type : CallR X (.type "type") (fun xs H Q => ∃ a C dx fs, xs = [V.ref a] ∧ H a = some (.ins C dx fs) ∧ Q (.ref C) H) := by
  intro pins s σ H xs us Q I r h
  obtain ⟨a, C, dx, fs, rfl, ha, q⟩ := h
  rw [Vals.ref1 r]
  obtain ⟨mA, O, _⟩ := ins_get I.hok ha
  obtain ⟨od, J, _⟩ := O.look
  exact PySem.W.kto_own J ⟨.ref C, H, I, rfl, q⟩
/-- an object of the module whose class is no tuple: a class of the text (makesIn says that its type is a type's heir) -/
theorem cls_there {K : PySem.W.Frag} {C : Addr} (h : PySem.W.makesIn K C = true) : ∃ o, K.lookup C = some o ∧ o.cls ≠ .type "tuple" := by
  unfold PySem.W.makesIn at h
  split at h
  · rename_i oc od cd sl ho
    refine ⟨_, ho, fun e => ?_⟩
    rw [Bool.and_eq_true] at h
    have h2 : PySem.W.instIn K (.ref C) (.type "type") = some true := beq_iff_eq.mp h.2
    have e2 : oc = .type "tuple" := e
    have h3 : PySem.W.instIn K (.ref C) (.type "type") = PySem.W.subIn K oc (.type "type") := by
      show ((K.lookup C).map (fun o => o.cls)).bind (fun t => PySem.W.subIn K t (.type "type")) = _
      rw [ho]
      all_goals rfl
    rw [h3, e2] at h2
    have h4 : PySem.W.subIn K (.type "tuple") (.type "type") = some false := by
      show (fastBuiltinMro "tuple").map (·.contains (.type "type")) = some false
      decide +kernel
    rw [h4] at h2
    cases h2
  · cases h
theorem op_is_cls : OpR X (compareOp .Is) (fun x y H Q => ∃ a b, x = V.ref a ∧ y = V.ref b ∧ (a = b ∨ (PySem.W.makesIn X.K a = true ∧ PySem.W.makesIn X.K b = true)) ∧ Q (.bl (decide (a = b))) H) := by
  intro pins s σ H x y v u Q I rx ry h
  obtain ⟨a, b, rfl, rfl, hab, q⟩ := h
  cases rx
  cases ry
  by_cases z : a = b
  · subst z
    exact wpAny_is_ref_self ⟨.bl _, H, I, by simp [RelV], q⟩
  · rcases hab with e | ⟨h1, h2⟩
    · exact absurd e z
    · obtain ⟨o1, e1, n1⟩ := cls_there h1
      obtain ⟨o2, e2, _⟩ := cls_there h2
      exact wpAny_is_ref_other z (I.kIn _ _ e1) (I.kIn _ _ e2) n1 ⟨.bl _, H, I, by simp [RelV, z], q⟩
theorem op_isnot_cls : OpR X (compareOp .IsNot) (fun x y H Q => ∃ a b, x = V.ref a ∧ y = V.ref b ∧ (a = b ∨ (PySem.W.makesIn X.K a = true ∧ PySem.W.makesIn X.K b = true)) ∧ Q (.bl (!decide (a = b))) H) := by
  intro pins s σ H x y v u Q I rx ry h
  obtain ⟨a, b, rfl, rfl, hab, q⟩ := h
  cases rx
  cases ry
  by_cases z : a = b
  · subst z
    exact wpAny_isNot_ref_self ⟨.bl _, H, I, by simp [RelV], q⟩
  · rcases hab with e | ⟨h1, h2⟩
    · exact absurd e z
    · obtain ⟨o1, e1, n1⟩ := cls_there h1
      obtain ⟨o2, e2, _⟩ := cls_there h2
      exact wpAny_isNot_ref_other z (I.kIn _ _ e1) (I.kIn _ _ e2) n1 ⟨.bl _, H, I, by simp [RelV, z], q⟩
end

/-! ### any(xs), all(xs) of a list of bools -/
theorem iter_any {prog : Program} {w : World} {A : Around} {E : Value → Shared → Prop} {s : Shared} {l : Addr} {items : Array Value} {Q : Value → Shared → Prop} (hl : s.heap.IsList l items)
    (h : ∀ s₂ : Shared, s₂ = { s with heap := s.heap.push { cls := .type "list_iterator", data := .fields #[.ref l, .int 0 0] } } →
      (s₂.heap.IsListIter s.heap.objs.size l 0 ∧ s₂.heap.IsList l items) → l ≠ s.heap.objs.size → Q (.ref s.heap.objs.size) s₂) : wpAny (model prog w) A (pyIter (.ref l)) Q E s := by
  have hlt : l < s.heap.objs.size := by obtain ⟨_, e, _⟩ := hl; exact Heap.lt_size e
  exact wpAny_pyIter_list hl (h _ rfl ⟨⟨_, Heap.get?_push_size _ rfl, rfl, rfl⟩, hl.push _⟩ (Nat.ne_of_lt hlt))
theorem truth_bools {prog : Program} {w : World} {A : Around} {bs : List Bool} {its : List Value} (e : its = bs.map Value.bool) :
    TruthOf prog w A (fun i v => its.toArray[i]? = some v) (fun i => bs.getD i false) := fun i v s Q E hv hq => by
  have hv' : its[i]? = some v := by simpa using hv
  rw [e, List.getElem?_map] at hv'
  obtain ⟨b, hb, rfl⟩ := Option.map_eq_some_iff.mp hv'
  have hg : bs.getD i false = b := by rw [List.getD_eq_getElem?_getD, hb] <;> rfl
  have hq' : Q (bs.getD i false) s := hq
  rw [hg] at hq'
  exact wpAny_truthy_bool hq'
theorem any_range : ∀ bs : List Bool, (List.range bs.length).any (fun i => bs.getD i false) = bs.any id
  | [] => rfl
  | b :: bs => by
    rw [List.length_cons, List.range_succ_eq_map, List.any_cons, List.any_map, List.any_cons, ← any_range bs]
    all_goals rfl
theorem all_range : ∀ bs : List Bool, (List.range bs.length).all (fun i => bs.getD i false) = bs.all id
  | [] => rfl
  | b :: bs => by
    rw [List.length_cons, List.range_succ_eq_map, List.all_cons, List.all_map, List.all_cons, ← all_range bs]
    all_goals rfl
section
variable {X : Cx}
def rAny (K : PySem.W.Frag) : List V → Hp → VK → Prop := fun vs H Q => ∃ (a : Addr) (bs : List Bool), vs = [V.ref a] ∧ SqL K H a (bs.map V.bl) ∧ Q (.bl (bs.any id)) H
def rAll (K : PySem.W.Frag) : List V → Hp → VK → Prop := fun vs H Q => ∃ (a : Addr) (bs : List Bool), vs = [V.ref a] ∧ SqL K H a (bs.map V.bl) ∧ Q (.bl (bs.all id)) H
theorem cr_any (hc : X.calm = true) : CallR X (.builtin "any") (rAny X.K) := by
  intro pins s σ H vs us Q I r h
  obtain ⟨a, bs, rfl, hs, q⟩ := h
  obtain ⟨its, rv, hl, _⟩ := I.list hs
  rw [Vals.ref1 r]
  have hb := rv.bls
  refine call_any_walk (iter_any hl.isList fun s₂ e2 st hne => ?_)
  subst e2
  refine ⟨_, _, _, _, _, _, _, rfl, Walks.list (A := X.A.in1) (I.ok.hd hc) _ a hne its.toArray, st, truth_bools hb, fun h' tk hk => ?_⟩
  refine ⟨.bl _, H, I.kept fun b o eo => hk b o (fun hmem => ?_) (Heap.get?_push_of_some _ eo), ?_, q⟩
  · rcases List.mem_cons.mp hmem with e1 | hmem
    · exact absurd (e1 ▸ Heap.lt_size eo) (Nat.lt_irrefl _)
    · cases hmem
  · show Value.bool _ = Value.bool _
    rw [← any_range, hb, List.size_toArray, List.length_map]
theorem cr_all (hc : X.calm = true) : CallR X (.builtin "all") (rAll X.K) := by
  intro pins s σ H vs us Q I r h
  obtain ⟨a, bs, rfl, hs, q⟩ := h
  obtain ⟨its, rv, hl, _⟩ := I.list hs
  rw [Vals.ref1 r]
  have hb := rv.bls
  refine call_all_walk (iter_any hl.isList fun s₂ e2 st hne => ?_)
  subst e2
  refine ⟨_, _, _, _, _, _, _, rfl, Walks.list (A := X.A.in1) (I.ok.hd hc) _ a hne its.toArray, st, truth_bools hb, fun h' tk hk => ?_⟩
  refine ⟨.bl _, H, I.kept fun b o eo => hk b o (fun hmem => ?_) (Heap.get?_push_of_some _ eo), ?_, q⟩
  · rcases List.mem_cons.mp hmem with e1 | hmem
    · exact absurd (e1 ▸ Heap.lt_size eo) (Nat.lt_irrefl _)
    · cases hmem
  · show Value.bool _ = Value.bool _
    rw [← all_range, hb, List.size_toArray, List.length_map]
end

/-! ### == and != of data at any depth: none, bools, ints, texts, lists, tuples -/
mutual
inductive Dp (K : PySem.W.Frag) (H : Hp) : V → PyData → Prop
  | non : Dp K H .non .none
  | bl (b : Bool) : Dp K H (.bl b) (.bool b)
  | int (i : Int) : Dp K H (.int i) (.int i)
  | str (x : Str) : Dp K H (.str x) (.str x)
  | lst {a : Addr} {xs : List V} {ds : List PyData} : SqL K H a xs → DpAll K H xs ds → Dp K H (.ref a) (.list ds)
  | tup {a : Addr} {xs : List V} {ds : List PyData} : SqT K H a xs → DpAll K H xs ds → Dp K H (.ref a) (.tuple ds)
inductive DpAll (K : PySem.W.Frag) (H : Hp) : List V → List PyData → Prop
  | nil : DpAll K H [] []
  | cons {v : V} {vs : List V} {d : PyData} {ds : List PyData} : Dp K H v d → DpAll K H vs ds → DpAll K H (v :: vs) (d :: ds)
end
section
variable {X : Cx} {pins : List (Addr × Obj)} {σ : St} {H : Hp} {s : Shared}
mutual
theorem Dp.reads (I : Inv X pins σ H s) : ∀ (d : PyData) (v : V) (u : Value), Dp X.K H v d → RelV v u → ∃ as, Reads s.heap u d as
  | .none, _, _, h, r => by
    cases h
    cases r
    exact ⟨_, Reads.none⟩
  | .bool b, _, _, h, r => by
    cases h
    cases r
    exact ⟨_, Reads.bool b⟩
  | .int i, _, _, h, r => by
    cases h
    obtain ⟨t, rfl⟩ := r
    exact ⟨_, Reads.int i t⟩
  | .str x, _, _, h, r => by
    cases h
    obtain ⟨t, rfl⟩ := r
    exact ⟨_, Reads.str x t⟩
  | .list ds, _, _, h, r => by
    cases h with
    | lst hs ha =>
      cases r
      obtain ⟨its, rv, ⟨o, n, ho, hc, _, hd⟩, _⟩ := I.list hs
      obtain ⟨as, hr⟩ := Dp.readsAll I ds _ its ha rv
      exact ⟨_, Reads.list ho hc hd hr⟩
  | .tuple ds, _, _, h, r => by
    cases h with
    | tup hs ha =>
      cases r
      obtain ⟨its, rv, ⟨o, ho, hc, n, hd⟩, _⟩ := I.tuple hs
      obtain ⟨as, hr⟩ := Dp.readsAll I ds _ its ha rv
      exact ⟨_, Reads.tuple ho hc hd hr⟩
  | .dict _, _, _, h, _ => by cases h
theorem Dp.readsAll (I : Inv X pins σ H s) : ∀ (ds : List PyData) (vs : List V) (us : List Value), DpAll X.K H vs ds → Vals vs us → ∃ as, ReadsAll s.heap us ds as
  | [], _, _, h, r => by
    cases h
    cases r
    exact ⟨_, ReadsAll.nil⟩
  | d :: ds, _, _, h, r => by
    cases h with
    | cons h1 h2 =>
      cases r with
      | cons r1 r2 =>
        obtain ⟨as, q1⟩ := Dp.reads I d _ _ h1 r1
        obtain ⟨bs, q2⟩ := Dp.readsAll I ds _ _ h2 r2
        exact ⟨_, ReadsAll.cons q1 q2⟩
end
end
section
variable {X : Cx}
def rEqD (K : PySem.W.Frag) : R2 := fun x y H Q => ∃ d e, Dp K H x d ∧ Dp K H y e ∧ SeqAt.shaped d = true ∧ SeqAt.shaped e = true ∧ Q (.bl (PyData.eqv d e)) H
def rNeD (K : PySem.W.Frag) : R2 := fun x y H Q => ∃ d e, Dp K H x d ∧ Dp K H y e ∧ SeqAt.shaped d = true ∧ SeqAt.shaped e = true ∧ Q (.bl (!PyData.eqv d e)) H
theorem op_eqD (hu : X.A.units + 64 < cLine) : OpR X (compareOp .Eq) (rEqD X.K) := by
  intro pins s σ H x y v u Q I rx ry h
  obtain ⟨d, e, hd, he, sd, se, q⟩ := h
  obtain ⟨as, r1⟩ := Dp.reads I d x v hd rx
  obtain ⟨bs, r2⟩ := Dp.reads I e y u he ry
  exact SeqAt.compareEq_shaped r1 r2 sd se hu ⟨.bl _, H, I, rfl, q⟩
theorem op_neD (hu : X.A.units + 64 < cLine) : OpR X (compareOp .NotEq) (rNeD X.K) := by
  intro pins s σ H x y v u Q I rx ry h
  obtain ⟨d, e, hd, he, sd, se, q⟩ := h
  obtain ⟨as, r1⟩ := Dp.reads I d x v hd rx
  obtain ⟨bs, r2⟩ := Dp.reads I e y u he ry
  exact SeqAt.compareNe_shaped r1 r2 sd se hu ⟨.bl _, H, I, rfl, q⟩
end
end L2

namespace L2
open PySem PySem.Spec PyProof.Rows
abbrev CellAt (h : Heap) (c : Addr) (v : Option Value) : Prop := h.IsCell c v
def relS (scope sc : Scope) : Scope :=
  { scope with names := scope.names.map fun (n, k) => if (k == .free && sc.kind == .function && sc.names.lookup n == some .cell) then (n, .cell) else (n, k) }

def cloFrom (cells : List (Str × Addr)) : List (Str × NameKind) → List (Str × Addr) → List (Str × Addr)
  | [], acc => acc
  | (n, k) :: r, acc => if k == .free then cloFrom cells r ((n, (cells.lookup n).getD 0) :: acc) else cloFrom cells r acc

theorem closure_loop (env : Env) (f : Str × NameKind → List (Str × Addr) → Sem (ForInStep (List (Str × Addr))))
    (hf : ∀ n k c, f (n, k) c = if k == .free then (do let a ← cellOf env n; pure (.yield ((n, a) :: c))) else pure (.yield c)) :
    ∀ (names : List (Str × NameKind)) (acc : List (Str × Addr)), (∀ y ∈ names, y.2 = .free → ∃ c, env.cells.lookup y.1 = some c) → forIn names acc f = pure (cloFrom env.cells names acc)
  | [], acc, _ => by rw [List.forIn_nil]; rfl
  | (n, k) :: r, acc, h => by
    rw [List.forIn_cons, hf]
    have ih := fun acc => closure_loop env f hf r acc fun y hy => h y (List.mem_cons_of_mem _ hy)
    unfold cloFrom
    by_cases hk : (k == NameKind.free) = true
    · rw [if_pos hk, if_pos hk]
      obtain ⟨c, hc⟩ := h (n, k) List.mem_cons_self (by simpa using hk)
      have e : cellOf env n = pure c := by unfold cellOf; rw [hc]
      rw [e]
      have e2 : (env.cells.lookup n).getD 0 = c := by rw [hc]; rfl
      rw [e2]
      exact ih _
    · rw [if_neg hk, if_neg hk]
      exact ih _
theorem closure_ok {scope : Scope} {env : Env} (h : ∀ y ∈ scope.names, y.2 = .free → ∃ c, env.cells.lookup y.1 = some c) : closureFor scope env = pure (cloFrom env.cells scope.names []) := by
  simp only [closureFor]
  rw [closure_loop env _ (fun n k c => rfl) scope.names [] h]
  rfl

theorem mem_lookup {α : Type} : ∀ {l : List (Str × α)} {n : Str} {c : α}, (n, c) ∈ l → ∃ c', l.lookup n = some c'
  | (k, v) :: r, n, c, h => by
    rw [List.lookup_cons]
    cases hb : n == k with
    | true => exact ⟨_, rfl⟩
    | false =>
      rcases List.mem_cons.mp h with e | h
      · cases e; simp at hb
      · exact mem_lookup h

theorem cloFrom_mem {cells : List (Str × Addr)} : ∀ {names : List (Str × NameKind)} {acc : List (Str × Addr)} {n : Str} {c : Addr}, (n, c) ∈ cloFrom cells names acc → (n, c) ∈ acc ∨ ((n, .free) ∈ names ∧ c = (cells.lookup n).getD 0)
  | [], _, _, _, h => .inl h
  | (m, k) :: r, acc, n, c, h => by
    unfold cloFrom at h
    split at h
    · rename_i hk
      have hk : k = .free := by simpa using hk
      rcases cloFrom_mem h with h | ⟨h1, h2⟩
      · rcases List.mem_cons.mp h with e | h
        · cases e; exact .inr ⟨hk ▸ List.mem_cons_self, rfl⟩
        · exact .inl h
      · exact .inr ⟨List.mem_cons_of_mem _ h1, h2⟩
    · rcases cloFrom_mem h with h | ⟨h1, h2⟩
      · exact .inl h
      · exact .inr ⟨List.mem_cons_of_mem _ h1, h2⟩
theorem cloFrom_acc {cells : List (Str × Addr)} : ∀ {names : List (Str × NameKind)} {acc : List (Str × Addr)} {p : Str × Addr}, p ∈ acc → p ∈ cloFrom cells names acc
  | [], _, _, h => h
  | (m, k) :: r, acc, p, h => by
    unfold cloFrom
    split
    · exact cloFrom_acc (List.mem_cons_of_mem _ h)
    · exact cloFrom_acc h
theorem cloFrom_has {cells : List (Str × Addr)} : ∀ {names : List (Str × NameKind)} {acc : List (Str × Addr)} {n : Str}, (n, .free) ∈ names → (n, (cells.lookup n).getD 0) ∈ cloFrom cells names acc
  | (m, k) :: r, acc, n, h => by
    unfold cloFrom
    rcases List.mem_cons.mp h with e | h
    · cases e
      exact cloFrom_acc List.mem_cons_self
    · split
      · exact cloFrom_has h
      · exact cloFrom_has h

theorem cells_mem : ∀ {names : List (Str × NameKind)} {h : Heap} {acc : List (Str × Addr)} {x : Str} {c : Addr}, (x, c) ∈ cellsFrom h.objs.size names acc →
    (x, c) ∈ acc ∨ ((x, .cell) ∈ names ∧ h.objs.size ≤ c ∧ CellAt (pushCells h names) c none)
  | [], _, _, _, _, h => .inl h
  | (n, k) :: r, h, acc, x, c, hm => by
    unfold cellsFrom at hm
    unfold pushCells
    split at hm
    · rename_i hk
      rw [if_pos hk]
      have hk : k = .cell := by simpa using hk
      rw [← Heap.size_push h { cls := .type "cell", data := .cell none }] at hm
      rcases cells_mem hm with hm | ⟨h1, h2, h3⟩
      · rcases List.mem_cons.mp hm with e | hm
        · cases e
          exact .inr ⟨hk ▸ List.mem_cons_self, Nat.le_refl _, _, pushCells_keeps r _ _ _ (Heap.get?_push_size _ rfl), rfl⟩
        · exact .inl hm
      · rw [Heap.size_push] at h2
        exact .inr ⟨List.mem_cons_of_mem _ h1, Nat.le_of_succ_le h2, h3⟩
    · rename_i hk
      rw [if_neg hk]
      rcases cells_mem hm with hm | ⟨h1, h2, h3⟩
      · exact .inl hm
      · exact .inr ⟨List.mem_cons_of_mem _ h1, h2, h3⟩
theorem cells_acc : ∀ {names : List (Str × NameKind)} {n : Nat} {acc : List (Str × Addr)} {p : Str × Addr}, p ∈ acc → p ∈ cellsFrom n names acc
  | [], _, _, _, h => h
  | (m, k) :: r, n, acc, p, h => by
    unfold cellsFrom
    split
    · exact cells_acc (List.mem_cons_of_mem _ h)
    · exact cells_acc h
theorem cells_has : ∀ {names : List (Str × NameKind)} {n : Nat} {acc : List (Str × Addr)} {x : Str}, (x, .cell) ∈ names → ∃ c, (x, c) ∈ cellsFrom n names acc
  | (m, k) :: r, n, acc, x, h => by
    unfold cellsFrom
    rcases List.mem_cons.mp h with e | h
    · cases e
      exact ⟨n, cells_acc List.mem_cons_self⟩
    · split
      · exact cells_has h
      · exact cells_has h
theorem cells_inj : ∀ {names : List (Str × NameKind)} {h : Heap} {acc : List (Str × Addr)} {x y : Str} {c : Addr}, (∀ p ∈ acc, p.2 < h.objs.size) → (∀ x y c, (x, c) ∈ acc → (y, c) ∈ acc → x = y) →
    (x, c) ∈ cellsFrom h.objs.size names acc → (y, c) ∈ cellsFrom h.objs.size names acc → x = y
  | [], _, _, _, _, _, _, hi, h1, h2 => hi _ _ _ h1 h2
  | (n, k) :: r, h, acc, x, y, c, hl, hi, h1, h2 => by
    unfold cellsFrom at h1 h2
    split at h1
    · rename_i hk
      rw [if_pos hk] at h2
      rw [← Heap.size_push h { cls := .type "cell", data := .cell none }] at h1 h2
      refine cells_inj (h := h.push _) (fun p hp => ?_) (fun x y c a b => ?_) h1 h2
      · rw [Heap.size_push]
        rcases List.mem_cons.mp hp with rfl | hp
        · exact Nat.lt_succ_self _
        · exact Nat.lt_succ_of_lt (hl p hp)
      · rcases List.mem_cons.mp a with e | a <;> rcases List.mem_cons.mp b with e' | b
        · cases e; cases e'; rfl
        · cases e; exact absurd (hl _ b) (Nat.lt_irrefl _)
        · cases e'; exact absurd (hl _ a) (Nat.lt_irrefl _)
        · exact hi _ _ _ a b
    · rename_i hk
      rw [if_neg hk] at h2
      exact cells_inj hl hi h1 h2

theorem newEnv_comp {M : Model} {A : Around} {E : Value → Shared → Prop} {s : Shared} {scope : Scope} {globals : Addr} {closure : List (Str × Addr)} {qual : Str} {func : Option Addr} {code : Value} {around : Env} {builtins : Addr} {Q : Env → Shared → Prop}
    (h : Q (newEnv scope s.heap.objs.size globals (cellsFrom (s.heap.objs.size + 1) scope.names closure) qual func code (some around) builtins)
      { s with heap := pushCells (s.heap.push { cls := .type "dict", data := .dict #[] }) scope.names }) :
    wpAny M A (newFunctionEnv scope globals closure [] qual func code (some around) builtins) Q E s := by
  simp only [newFunctionEnv, Option.isSome_some, if_true]
  refine wpAny_bind (wpAny_alloc ?_)
  refine wpAny_bind (wpAny_layCells _ (fun n k c => rfl) scope.names closure _ _ ?_)
  rw [show ({ s with heap := s.heap.push { cls := .type "dict", data := .dict #[] } } : Shared).heap.objs.size = s.heap.objs.size + 1 from Heap.size_push ..]
  rw [List.forIn_nil]
  exact wpAny_bind (wpAny_pure (wpAny_pure h))

/-- every name of the written scope, in the scope that runs -/
theorem lookup_relS {sc : Scope} : ∀ {names : List (Str × NameKind)} {x : Str} {k : NameKind},
    (names.map fun (n, k) => if (k == NameKind.free && sc.kind == .function && sc.names.lookup n == some .cell) then (n, NameKind.cell) else (n, k)).lookup x = some k →
    ∃ k', names.lookup x = some k' ∧ (k = k' ∨ (k' = .free ∧ k = .cell))
  | [], _, _, h => by simp at h
  | (n, k₀) :: r, x, k, h => by
    have ih := @lookup_relS sc r x k
    have h' : List.lookup x ((if (k₀ == NameKind.free && sc.kind == .function && sc.names.lookup n == some .cell) = true then (n, NameKind.cell) else (n, k₀)) :: (r.map _)) = some k := h
    cases hx : x == n with
    | true =>
      simp only [List.lookup_cons, hx]
      by_cases hc : (k₀ == NameKind.free && sc.kind == .function && sc.names.lookup n == some .cell) = true
      · rw [if_pos hc] at h'
        simp only [List.lookup_cons, hx] at h'
        cases h'
        simp only [Bool.and_eq_true, beq_iff_eq] at hc
        exact ⟨k₀, rfl, .inr ⟨hc.1.1, rfl⟩⟩
      · rw [if_neg hc] at h'
        simp only [List.lookup_cons, hx] at h'
        cases h'
        exact ⟨_, rfl, .inl rfl⟩
    | false =>
      simp only [List.lookup_cons, hx]
      by_cases hc : (k₀ == NameKind.free && sc.kind == .function && sc.names.lookup n == some .cell) = true
      · rw [if_pos hc] at h'
        simp only [List.lookup_cons, hx] at h'
        exact ih h'
      · rw [if_neg hc] at h'
        simp only [List.lookup_cons, hx] at h'
        exact ih h'
theorem lookup_relS_keep {sc : Scope} : ∀ {names : List (Str × NameKind)} {x : Str} {k : NameKind}, k ≠ .free → names.lookup x = some k →
    (names.map fun (n, k) => if (k == NameKind.free && sc.kind == .function && sc.names.lookup n == some .cell) then (n, NameKind.cell) else (n, k)).lookup x = some k
  | [], _, _, _, h => by simp at h
  | (n, k₀) :: r, x, k, hk, h => by
    have ih := @lookup_relS_keep sc r x k hk
    show List.lookup x ((if (k₀ == NameKind.free && sc.kind == .function && sc.names.lookup n == some .cell) = true then (n, NameKind.cell) else (n, k₀)) :: (r.map _)) = some k
    cases hx : x == n with
    | true =>
      simp only [List.lookup_cons, hx] at h
      cases h
      have : ¬ (k₀ == NameKind.free && sc.kind == .function && sc.names.lookup n == some .cell) = true := by simp [hk]
      rw [if_neg this]
      simp only [List.lookup_cons, hx]
    | false =>
      simp only [List.lookup_cons, hx] at h
      by_cases hc : (k₀ == NameKind.free && sc.kind == .function && sc.names.lookup n == some .cell) = true
      · rw [if_pos hc]; simp only [List.lookup_cons, hx]; exact ih h
      · rw [if_neg hc]; simp only [List.lookup_cons, hx]; exact ih h

theorem pushCells_size : ∀ (names : List (Str × NameKind)) (h : Heap), h.objs.size ≤ (pushCells h names).objs.size
  | [], _ => Nat.le_refl _
  | (_, k) :: r, h => by
    unfold pushCells
    split
    · refine Nat.le_trans ?_ (pushCells_size r _)
      rw [Heap.size_push]; exact Nat.le_succ _
    · exact pushCells_size r h


/-- the names of a comprehension's block: its own (with their places in N), or captured -/
structure BlkOk (N : List Str) (sc scope : Scope) (own : List (Str × Nat)) : Prop where
  kind : scope.kind = .function
  uniq : ∀ y ∈ scope.names, scope.names.lookup y.1 = some y.2
  ix : ∀ p ∈ own, N[p.2]? = some p.1
  free : ∀ y ∈ scope.names, y.2 = .free → sc.names.lookup y.1 = some .cell ∨ sc.names.lookup y.1 = some .free
  own : ∀ y ∈ scope.names, y.2 = .local ∨ y.2 = .cell → y.1 ∈ own.map (·.1) ∨ y.1 ∉ N
/-- the slots of the block's own names forgotten -/
def wipe (σ : St) : List Nat → St
  | [] => σ
  | v :: vs => (wipe σ vs).set v none
theorem wipe_length (σ : St) : ∀ vs : List Nat, (wipe σ vs).length = σ.length
  | [] => rfl
  | v :: vs => by unfold wipe; rw [List.length_set, wipe_length σ vs]
theorem wipe_some {σ : St} {i : Nat} {x : V} : ∀ {vs : List Nat}, (wipe σ vs)[i]? = some (some x) → σ[i]? = some (some x) ∧ i ∉ vs
  | [], h => ⟨h, by simp⟩
  | v :: vs, h => by
    unfold wipe at h
    by_cases hi : v = i
    · subst hi
      by_cases hv : v < (wipe σ vs).length
      · rw [List.getElem?_set_self hv] at h; cases h
      · rw [List.getElem?_eq_none (by simpa using hv)] at h; cases h
    · rw [List.getElem?_set_ne hi] at h
      obtain ⟨h1, h2⟩ := wipe_some h
      exact ⟨h1, by simp only [List.mem_cons, not_or]; exact ⟨fun e => hi e.symm, h2⟩⟩

/-- the context of a block that starts at s, its iterator's objects at fp -/
abbrev Cx.blk (X : Cx) (s : Shared) (H : Hp) (scope : Scope) (cenv : Env) (fp : List Addr) : Cx := { X with s_0 := s, H_0 := H, env := cenv, outer := X.stack, ex := fp, fn := fun x => scope.names.lookup x == some .cell, pn := [], xe := fun _ _ => False }
section
variable {X : Cx} {pins : List (Addr × Obj)} {σ : St} {H : Hp} {s : Shared}
theorem block_start {scope : Scope} {own : List (Str × Nat)} {fp : List Addr} (I : Inv X pins σ H s) (ok : BlkOk X.N X.env.scope scope own) (hN : X.N.Nodup) (hfp : ∀ b ∈ fp, FpOk X pins H b ∧ b < s.heap.objs.size) :
    Inv (X.blk s H scope (compEnvC scope (cellsFrom (s.heap.objs.size + 1) scope.names (cloFrom X.env.cells scope.names [])) s.heap.objs.size X.env) fp) [] (wipe σ (own.map (·.2))) H { s with heap := pushCells (s.heap.push { cls := .type "dict", data := .dict #[] }) scope.names } := by
  have hfree : ∀ y ∈ scope.names, y.2 = .free → ∃ c, X.env.cells.lookup y.1 = some c := fun y hy e => by
    rcases ok.free y hy e with k | k
    · exact I.ok.has _ (.inl k)
    · exact I.ok.has _ (.inr k)
  generalize hcenv : compEnvC scope (cellsFrom (s.heap.objs.size + 1) scope.names (cloFrom X.env.cells scope.names [])) s.heap.objs.size X.env = cenv
  have kp : ∀ b o, s.heap.get? b = some o → (pushCells (s.heap.push { cls := .type "dict", data := .dict #[] }) scope.names).get? b = some o := fun b o e => pushCells_keeps _ _ _ _ (Heap.get?_push_of_some _ e)
  have hL : cenv.locals = s.heap.objs.size := by rw [← hcenv]; rfl
  have hcl : cenv.cells = cellsFrom (s.heap.objs.size + 1) scope.names (cloFrom X.env.cells scope.names []) := by rw [← hcenv]; rfl
  have hsc : cenv.scope = relS scope X.env.scope := by rw [← hcenv]; rfl
  rw [← Heap.size_push s.heap { cls := .type "dict", data := .dict #[] }] at hcl
  have cm : ∀ {y c}, (y, c) ∈ cloFrom X.env.cells scope.names [] → X.env.cells.lookup y = some c ∧ c < s.heap.objs.size := fun {y c} hm => by
    rcases cloFrom_mem hm with hm | ⟨h1, rfl⟩
    · cases hm
    · obtain ⟨c, hc⟩ := hfree _ h1 rfl
      rw [hc]
      obtain ⟨w, z⟩ := I.cell _ _ hc
      exact ⟨rfl, z.lt⟩
  have mem : ∀ {y c}, cenv.cells.lookup y = some c → (X.env.cells.lookup y = some c ∧ c < s.heap.objs.size) ∨ (s.heap.objs.size + 1 ≤ c ∧ CellAt (pushCells (s.heap.push { cls := .type "dict", data := .dict #[] }) scope.names) c none) := fun {y c} e => by
    rw [hcl] at e
    rcases cells_mem (PySem.mem_of_lookup e) with hm | ⟨_, h2, h3⟩
    · exact .inl (cm hm)
    · rw [Heap.size_push] at h2; exact .inr ⟨h2, h3⟩
  have look : ∀ {y}, scope.names.lookup y = some .free → ∃ c, cenv.cells.lookup y = some c ∧ X.env.cells.lookup y = some c := fun {y} hl => by
    have hy : (y, NameKind.free) ∈ scope.names := PySem.mem_of_lookup hl
    obtain ⟨c', e'⟩ := mem_lookup (cells_acc (names := scope.names) (n := (s.heap.push { cls := .type "dict", data := .dict #[] }).objs.size) (cloFrom_has (cells := X.env.cells) (acc := []) hy))
    rw [← hcl] at e'
    refine ⟨c', e', ?_⟩
    rw [hcl] at e'
    rcases cells_mem (PySem.mem_of_lookup e') with hm | ⟨h1, _, _⟩
    · exact (cm hm).1
    · have := ok.uniq _ h1
      rw [hl] at this; cases this
  have okB : (X.blk s H scope cenv fp).Ok := by
    refine ⟨I.ok.mod, by show cenv.scope.kind = _; rw [hsc]; exact ok.kind, by show cenv.globals = _; rw [← hcenv]; exact I.ok.glob, by show cenv.builtins = _; rw [← hcenv]; exact I.ok.blt, by show s.heap.objs.size ≤ cenv.locals; rw [hL]; exact Nat.le_refl _,
      fun y z c e1 e2 => ?_, fun y hy => ?_, fun y c z e => ?_, I.ok.hd, I.ok.frames, .inl rfl, fun b hb => ⟨?_, fun y c e z => ?_⟩, I.bs, Nat.le_trans I.ok.bsz I.sz, fun b o e hb => ?_, fun b hb z => ?_, I.stack, I.stkFree⟩
    · have e1 : cenv.cells.lookup y = some c := e1
      have e2 : cenv.cells.lookup z = some c := e2
      rw [hcl] at e1 e2
      refine cells_inj (fun p hp => ?_) (fun y z c a b => I.ok.inj y z c (cm a).1 (cm b).1) (PySem.mem_of_lookup e1) (PySem.mem_of_lookup e2)
      rw [Heap.size_push]
      exact Nat.lt_succ_of_lt (cm (y := p.1) (c := p.2) hp).2
    · show ∃ c, cenv.cells.lookup y = some c
      have key : ∀ k, cenv.kindOf y = some k → (k = .cell ∨ k = .free) → ∃ c, cenv.cells.lookup y = some c := fun k hk hk' => by
        unfold Env.kindOf at hk
        rw [hsc] at hk
        obtain ⟨k', e, r⟩ := lookup_relS hk
        have : k' = .cell ∨ k' = .free := by
          rcases r with rfl | ⟨rfl, _⟩
          · exact hk'
          · exact .inr rfl
        rcases this with rfl | rfl
        · obtain ⟨c, hm⟩ := cells_has (n := (s.heap.push { cls := .type "dict", data := .dict #[] }).objs.size) (acc := cloFrom X.env.cells scope.names []) (PySem.mem_of_lookup e)
          obtain ⟨c', e'⟩ := mem_lookup hm
          exact ⟨c', by rw [hcl]; exact e'⟩
        · obtain ⟨c, h1, _⟩ := look e
          exact ⟨c, h1⟩
      rcases hy with hy | hy
      · exact key _ hy (.inl rfl)
      · exact key _ hy (.inr rfl)
    · have z : (scope.names.lookup y == some NameKind.cell) = true := z
      have z : scope.names.lookup y = some .cell := by simpa using z
      have e : cenv.cells.lookup y = some c := e
      rw [hcl] at e
      rcases cells_mem (PySem.mem_of_lookup e) with hm | ⟨_, h2, _⟩
      · rcases cloFrom_mem hm with hm | ⟨h1, _⟩
        · cases hm
        · have q := ok.uniq _ h1
          rw [z] at q; cases q
      · rw [Heap.size_push] at h2
        exact Nat.le_of_succ_le h2
    · show b ≠ cenv.locals
      rw [hL]; exact Nat.ne_of_lt (hfp b hb).2
    · have e : cenv.cells.lookup y = some c := e
      rcases mem e with ⟨h1, _⟩ | ⟨h1, _⟩
      · exact (hfp b hb).1.2.2.2.2.1 y c h1 z
      · have h2 : s.heap.objs.size + 1 ≤ b := by rw [← z]; exact h1
        exact absurd (Nat.lt_of_lt_of_le (hfp b hb).2 (Nat.le_of_succ_le h2)) (Nat.lt_irrefl _)
    · rcases (hfp b hb).1.2.2.2.1 with z | z
      · exact I.ok.noex b o e z
      · exact absurd (Nat.lt_of_lt_of_le (Heap.lt_size e) (Nat.le_trans I.ok.bsz z)) (Nat.lt_irrefl _)
    · rcases List.mem_cons.mp (I.stkSub b z) with z | z
      · exact (hfp b hb).1.2.1 z
      · exact (hfp b hb).1.2.2.1 z
  refine ⟨okB, rfl, I.bare, Un.kept kp, ⟨fun _ => none, ?_, fun i y av e1 e2 e3 => ?_⟩, fun y c e => ?_, ?_, fun y c e => ?_, fun p hp => ?_, I.hok.kept kp, by rw [wipe_length]; exact I.len⟩
  · show Heap.Ns _ cenv.locals _
    rw [hL]
    exact Heap.Ns.keeps (Heap.Ns.new ..) fun b o e => pushCells_keeps _ _ _ _ e
  · obtain ⟨e2, hne⟩ := wipe_some e2
    have hfr : scope.names.lookup y = some .free ∧ (cenv.kindOf y = some .cell ∨ cenv.kindOf y = some .free) := by
      have key : ∀ k, cenv.scope.names.lookup y = some k → k = .local ∨ k = .cell ∨ k = .free → scope.names.lookup y = some .free ∧ (cenv.kindOf y = some .cell ∨ cenv.kindOf y = some .free) := fun k hk hk' => by
        have hk0 := hk
        rw [hsc] at hk
        obtain ⟨k', e, r⟩ := lookup_relS hk
        have no : ¬ (k' = .local ∨ k' = .cell) := fun hh => by
          rcases ok.own _ (PySem.mem_of_lookup e) hh with e' | e'
          · obtain ⟨p, hp, hpy⟩ := List.mem_map.mp e'
            have e3 := ok.ix p hp
            have : p.1 = y := hpy
            rw [this] at e3
            exact hne (List.mem_map.mpr ⟨p, hp, nodup_ix hN e3 e1⟩)
          · exact e' (List.mem_of_getElem? e1)
        rcases r with rfl | ⟨rfl, rfl⟩
        · rcases hk' with rfl | rfl | rfl
          · exact absurd (.inl rfl) no
          · exact absurd (.inr rfl) no
          · exact ⟨e, .inr hk0⟩
        · exact ⟨e, .inl hk0⟩
      have e3 : Vis cenv.scope y := e3
      rcases e3 with e3 | e3 | e3
      · exact key _ e3 (.inl rfl)
      · exact key _ e3 (.inr (.inl rfl))
      · exact key _ e3 (.inr (.inr rfl))
    obtain ⟨m, hn, hl⟩ := I.loc
    have hvis : Vis X.env.scope y := (ok.free _ (PySem.mem_of_lookup hfr.1) rfl).elim (fun k => .inr (.inl k)) (fun k => .inr (.inr k))
    obtain ⟨w, r, q⟩ := hl i y av e1 e2 hvis
    refine ⟨w, r, .inr ⟨hfr.2, ?_⟩⟩
    obtain ⟨c, h1, h2⟩ := look hfr.1
    rcases q with ⟨k, _⟩ | ⟨_, c', e', z⟩
    · have k : X.env.scope.names.lookup y = some .local := k
      rcases ok.free _ (PySem.mem_of_lookup hfr.1) rfl with k' | k' <;> rw [show X.env.scope.names.lookup y = _ from k'] at k <;> cases k
    · rw [h2] at e'; cases e'
      exact ⟨c, h1, z.keeps kp⟩
  · have e : cenv.cells.lookup y = some c := e
    rcases mem e with ⟨h1, _⟩ | ⟨_, z⟩
    · obtain ⟨w, z⟩ := I.cell y c h1
      exact ⟨w, z.keeps kp⟩
    · exact ⟨_, z⟩
  · show H cenv.locals = none
    rw [hL]; exact I.hok.fresh (Nat.le_refl _)
  · have e : cenv.cells.lookup y = some c := e
    rcases mem e with ⟨h1, _⟩ | ⟨h1, _⟩
    · exact I.freeC y c h1
    · exact I.hok.fresh (Nat.le_of_succ_le h1)
  · exact absurd (show p ∈ ([] : List (Addr × Obj)) ++ [] from hp) (by simp)

/-- an item appended to a tracked list -/
theorem app_ok {E : Value → Shared → Prop} {D : Addr} {xs : List V} {y : V} {v : Value} {Q : Value → Shared → Prop} (I : Inv X pins σ H s) (hD : H D = some (.lst xs)) (hz : xs.length < sizeLine) (r : RelV y v)
    (h : ∀ s', Inv X pins σ (upd H D (.lst (xs ++ [y]))) s' → Q .none s') : wpAny (model X.prog X.w) X.A (call (.builtin "list.append") [.ref D, v]) Q E s := by
  obtain ⟨hz', its, n, ri, e⟩ := I.hok D _ hD
  have hl := ri.length
  refine append_at (hsz := by rw [List.size_toArray]; omega) e fun h' sb ho' => ?_
  refine h { s with heap := h' } (I.write (t' := s.toks) (by rw [hD]; trivial) (.inl rfl) (fun b u hb q => (sb.2 b hb).trans q) ⟨_, ho'⟩ ⟨by rw [List.length_append]; exact hz, its ++ [v], n + 1, ri.append (.cons r .nil), ?_⟩)
  rw [ho']
  simp

/-- a clause's tests -/
def PTs (X : Cx) (ifs : List Expr) (t : TT) : Prop :=
  ∀ (pins : List (Addr × Obj)) (s : Shared) (σ : St) (H : Hp) (Q : Bool → Hp → Prop), Inv X pins σ H s → t σ H Q →
    wpAny (model X.prog X.w) X.A (forIn ifs true fun c r => if r = true then do let ok ← isTrue c X.env (eval c X.env); pure (ForInStep.yield ok) else pure (ForInStep.yield r)) (TP X pins σ Q) X.xe s
def tYes : TT := fun _ H Q => Q true H
theorem pts_nil : PTs X [] tYes := fun _ _ _ H _ I h => wpAny_tests_nil ⟨H, I, h⟩
theorem pts_one {c : Expr} {t : TT} (h : PT X c t) : PTs X [c] t := fun pins s σ H Q I hw => wpAny_tests_one (h pins s σ H Q I hw)
end

theorem thnF {α : Type} {t : Sem α} {Q Q' : α → Shared → Prop} {M : Model} {A : Around} {E : Value → Shared → Prop} {s : Shared} (h : wpAny M A t Q (fun _ _ => False) s) (hQ : ∀ a s, Q a s → Q' a s) : wpAny M A t Q' E s := wpAny_mono h hQ fun _ _ z => False.elim z

/-- the loop of a list comprehension's block, the target of any form (codeAny_compLoop_tests asks a target that no tuple goes to; statement and proof follow it, PyProof/CompMap.lean:41-61, with the step letOwnedTupleGo kept) -/
theorem compLoop_any {prog : Program} {w : World} {A : Around} {R : Result → Shared → Prop} {s : Shared} {elt target iter : Expr} {ifs : List Expr} {scope : Scope} {pos : Pos} {it acc : Value} {env : Env} (I : Nat → Shared → Prop)
    (turn : ∀ n s, I n s → wpAny (model prog w) A (pyNext it) (fun r s₁ => match r with
      | none => R (.ok .next) s₁
      | some v => wpAny (model prog w) A (letOwnedTupleGo target it v) (fun _ s₁' => wpAny (model prog w) A (assign target env v) (fun _ s₂ =>
          wpAny (model prog w) A (forIn ifs true fun c r => if r = true then do let ok ← isTrue c env (eval c env); pure (ForInStep.yield ok) else pure (ForInStep.yield r)) (fun ok s₃ =>
            if ok = true then wpAny (model prog w) A (eval elt env) (fun x s₄ =>
              wpAny (model prog w) A (call (.builtin "list.append") [acc, x]) (fun _ s₅ => ∃ m, m < n ∧ I m s₅) (notedBy (model prog w) A env fun e s' => R (.error e) s') s₄) (notedBy (model prog w) A env fun e s' => R (.error e) s') s₃
            else ∃ m, m < n ∧ I m s₃) (notedBy (model prog w) A env fun e s' => R (.error e) s') s₂) (notedBy (model prog w) A env fun e s' => R (.error e) s') s₁') (notedBy (model prog w) A env fun e s' => R (.error e) s') s₁) (notedBy (model prog w) A env fun e s' => R (.error e) s') s)
    (n : Nat) (h : I n s) :
    codeAny (model prog w) A (.compLoop (.ListComp elt [⟨target, iter, ifs, 0⟩] scope pos) 0 it acc env) R s := by
  refine codeAny_loop rfl I (fun n s hI => ?_) n h
  show wpAny _ A ((compTurn (.ListComp elt [⟨target, iter, ifs, 0⟩] scope pos) 0 it acc env).onRaise (fun x => do noteFrame x env; theTreesLotGoes x)) _ _ s
  refine wpAny_noted ?_
  rw [compTurn_list]
  refine wpAny_bind (wpAny_standAt (wpAny_bind (wpAny_mono (turn n s hI) (fun r s₁ h₁ => ?_) fun _ _ h' => h')))
  cases r with
  | none => exact wpAny_pure h₁
  | some v =>
    refine wpAny_bind (wpAny_mono h₁ (fun _ s₁' h₁' => ?_) fun _ _ h' => h')
    refine wpAny_bind (wpAny_mono h₁' (fun _ s₂ h₂ => wpAny_bind (wpAny_mono h₂ (fun ok s₃ h₃ => ?_) fun _ _ h' => h')) fun _ _ h' => h')
    cases ok with
    | false => exact wpAny_pure ⟨rfl, h₃⟩
    | true =>
      exact wpAny_bind (wpAny_bind (wpAny_mono h₃ (fun x s₄ h₄ => wpAny_bind (wpAny_mono h₄ (fun _ s₅ h₅ => wpAny_pure (wpAny_pure ⟨rfl, h₅⟩)) fun _ _ h' => h')) fun _ _ h' => h'))

section
variable {X : Cx}
/-- [elt for target in iter if ..]: D the new list; W by the turn and a measure, Nx what a turn is to reach -/
def tLc (wi : TI) (g : TG) (tt : TT) (te : TE) (vs : List Nat) : TE := fun σ H Q => wi σ H fun J H1 => ∀ D, H1 D = none → ∃ W : Nat → Nat → Hp → Prop, (∃ m, W 0 m (upd H1 D (.lst []))) ∧ ∀ i m H, W i m H →
  (J.stop i H ∧ Q (.ref D) H) ∨ (J.go i H ∧ ∃ Nx : Hp → Prop, (∀ H', Nx H' → ∃ m', m' < m ∧ W (i + 1) m' H') ∧ ∀ x H', J.yld i H x H' → g x (wipe σ vs) H' fun σ2 H2 => wipe σ2 vs = wipe σ vs ∧ tt σ2 H2 fun b H3 =>
    if b = true then te σ2 H3 fun y H4 => ∃ acc, H4 D = some (.lst acc) ∧ acc.length < sizeLine ∧ Nx (upd H4 D (.lst (acc ++ [y]))) else Nx H3)
theorem lc_core {pins : List (Addr × Obj)} {s : Shared} {σ : St} {H : Hp} {Q : VK} {elt tg iter : Expr} {ifs : List Expr} {scope : Scope} {own : List (Str × Nat)} {pos pos' : Pos} {wi : TI} {g : TG} {tt : TT} {te : TE} {use : Option (Value → Sem Unit)} {Qf : Value → Shared → Prop}
    (hc : X.calm = true) (hN : X.N.Nodup) (I : Inv X pins σ H s) (hi : PI X tg iter wi) (ok : BlkOk X.N X.env.scope scope own)
    (hg : ∀ (s : Shared) (H : Hp) (C : Addr) (cl : List (Str × Addr)) (fp : List Addr), PG (X.blk s H scope (compEnvC scope cl C X.env) fp) tg g) (ht : ∀ (s : Shared) (H : Hp) (C : Addr) (cl : List (Str × Addr)) (fp : List Addr), PTs (X.blk s H scope (compEnvC scope cl C X.env) fp) ifs tt)
    (he : ∀ (s : Shared) (H : Hp) (C : Addr) (cl : List (Str × Addr)) (fp : List Addr), PE (X.blk s H scope (compEnvC scope cl C X.env) fp) elt te) (hs : ∀ x, foldedSetIterable iter X.env x = pure x)
    (h : tLc wi g tt te (own.map (·.2)) σ H Q)
    (hRR : ∀ D C s' m H', Inv X pins σ H' s' → Q (.ref D) H' → s'.heap.Ns C m → FpOk X pins H' C → compPost (model X.prog X.w) X.A X.xe use Qf (.ref D) C (.ok .next) s') :
    wpAny (model X.prog X.w) X.A (comprehension (.ListComp elt [⟨tg, iter, ifs, 0⟩] scope pos) scope X.env pos' (newList []) false (eval iter X.env) use) Qf X.xe s := by
  have hfree : ∀ y ∈ scope.names, y.2 = .free → ∃ c, X.env.cells.lookup y.1 = some c := fun y hy e => by
    rcases ok.free y hy e with k | k
    · exact I.ok.has _ (.inl k)
    · exact I.ok.has _ (.inr k)
  refine wpAny_comprehension_free (use := use) rfl hs (closure_ok hfree) ok.kind (fun y hy e => by rw [ok.uniq y hy, e])
    (thn (hi pins s σ H _ I h) fun xv s1 hx => thn hx fun itv s2 h2 => ?_)
  obtain ⟨it, fp, tn, J, H2, e, I2, T, st2, f2, q⟩ := h2
  subst e
  refine wpAny_newObj_type (newEnv_comp ?_) (by show 0 ≤ sizeLine; decide)
  generalize hD : s2.heap.objs.size = D
  have hDn : H2 D = none := I2.hok.fresh (Nat.le_of_eq hD)
  obtain ⟨W, ⟨m0, w0⟩, turn⟩ := q D hDn
  -- the new list
  generalize hs3 : ({ s2 with heap := s2.heap.push { cls := .type "list", data := .seq ([] : List Value).toArray } } : Shared) = s3
  have I3 : Inv X pins σ (upd H2 D (.lst [])) s3 := by
    rw [← hs3]
    refine I2.laid (t' := s2.toks) (fun b o e => Heap.get?_push_of_some _ e) (Nat.le_of_eq hD) ⟨Nat.zero_le _, [], 0, .nil, ?_⟩
    rw [← hD]
    exact Heap.get?_push_size _ rfl
  have h3 : s3.heap = s2.heap.push { cls := .type "list", data := .seq ([] : List Value).toArray } := by rw [← hs3]
  have sz : ∀ b ∈ fp, b < s2.heap.objs.size := fun b hb => by
    obtain ⟨o, e, _⟩ := T.obj _ _ st2 b hb
    exact Heap.lt_size e
  have f3 : ∀ b ∈ fp, FpOk X pins (upd H2 D (.lst [])) b ∧ b < s3.heap.objs.size := fun b hb => by
    have hlt := sz b hb
    refine ⟨⟨?_, (f2 b hb).2⟩, by rw [h3, Heap.size_push]; exact Nat.lt_succ_of_lt hlt⟩
    rw [upd_ne (by rw [← hD]; exact Nat.ne_of_lt hlt)]
    exact (f2 b hb).1
  have st3 : tn 0 s3.heap := T.keep _ _ _ st2 fun b _ o e => by rw [h3]; exact Heap.get?_push_of_some _ e
  have I4 := block_start I3 ok hN f3
  have pg := hg s3 (upd H2 D (.lst [])) s3.heap.objs.size (cellsFrom (s3.heap.objs.size + 1) scope.names (cloFrom X.env.cells scope.names [])) fp
  have pt := ht s3 (upd H2 D (.lst [])) s3.heap.objs.size (cellsFrom (s3.heap.objs.size + 1) scope.names (cloFrom X.env.cells scope.names [])) fp
  have pe := he s3 (upd H2 D (.lst [])) s3.heap.objs.size (cellsFrom (s3.heap.objs.size + 1) scope.names (cloFrom X.env.cells scope.names [])) fp
  show codeAny _ _ (.compStart (.ListComp elt [⟨tg, iter, ifs, 0⟩] scope pos) 0 (.ref it) (.ref D) (compEnvC scope (cellsFrom (s3.heap.objs.size + 1) scope.names (cloFrom X.env.cells scope.names [])) s3.heap.objs.size X.env)) (compPost (model X.prog X.w) X.A X.xe use Qf (.ref D) s3.heap.objs.size) { s3 with heap := pushCells (s3.heap.push { cls := .type "dict", data := .dict #[] }) scope.names }
  have nfp : ∀ b ∈ fp, (upd H2 D (.lst [])) b = none := fun b hb => (f3 b hb).1.1
  generalize hce : compEnvC scope (cellsFrom (s3.heap.objs.size + 1) scope.names (cloFrom X.env.cells scope.names [])) s3.heap.objs.size X.env = ce at I4 pg pt pe ⊢
  have cL : ce.locals = s3.heap.objs.size := by subst hce; rfl
  generalize hH3 : upd H2 D (.lst []) = H3 at I3 I4 pg pt pe w0 nfp f3
  generalize hs4 : ({ s3 with heap := pushCells (s3.heap.push { cls := .type "dict", data := .dict #[] }) scope.names } : Shared) = s4 at I4 ⊢
  have st4 : tn 0 s4.heap := T.keep _ _ _ st3 fun b _ o e => by rw [← hs4]; exact pushCells_keeps _ _ _ _ (Heap.get?_push_of_some _ e)
  have stat : ∀ {σ' : St} {H' : Hp} {s' : Shared}, Inv (X.blk s3 H3 scope ce fp) [] σ' H' s' → (∀ b ∈ fp, H' b = none) → ∀ b ∈ fp, FpOk (X.blk s3 H3 scope ce fp) [] H' b := fun {σ' H' s'} I' hn b hb =>
    ⟨hn b hb, (I'.ok.exf b hb).1, I'.ok.exfs b hb, .inl hb, fun x c e => (I'.ok.exf b hb).2 x c e, fun p hp => absurd (show p ∈ ([] : List (Addr × Obj)) ++ [] from hp) (by simp)⟩
  have loop : codeAny (model X.prog X.w) X.A (.compLoop (.ListComp elt [⟨tg, iter, ifs, 0⟩] scope pos) 0 (.ref it) (.ref D) ce) (compPost (model X.prog X.w) X.A X.xe use Qf (.ref D) s3.heap.objs.size) s4 := by
    refine compLoop_any (fun n s' => ∃ i H', Inv (X.blk s3 H3 scope ce fp) [] (wipe σ (own.map (·.2))) H' s' ∧ tn i s'.heap ∧ (∀ b ∈ fp, H' b = none) ∧ W i n H') ?_ m0 ⟨0, H3, I4, st4, nfp, w0⟩
    rintro n s5 ⟨i, H5, I5, st5, n5, w5⟩
    rcases turn i n H5 w5 with ⟨stop, qq⟩ | ⟨go, Nx, hNx, step⟩
    · have td := T.done (X.blk s3 H3 scope ce fp) rfl rfl rfl hc i [] s5 _ H5 (fun _ _ => False) I5 (stat I5 n5) st5 stop
      refine thnF td fun r s6 ⟨hr, I6⟩ => ?_
      subst hr
      -- back in the def's context
      have I7 : Inv X pins σ H5 s6 := I3.call' (ch := fp) I6.os I6.base I6.hok I6.bare fun b hb => ⟨(f3 b hb).1.2.2.2.1, (f3 b hb).1.2.1, (f3 b hb).1.2.2.2.2.1, (f3 b hb).1.2.2.2.2.2⟩
      have nC : H5 s3.heap.objs.size = none := by
        have z : H5 ce.locals = none := I6.free
        rw [cL] at z
        exact z
      obtain ⟨m, hn, _⟩ := I6.loc
      have hn : s6.heap.Ns ce.locals m := hn
      rw [cL] at hn
      exact hRR D s3.heap.objs.size s6 m H5 I7 qq hn (I3.fpOk (Nat.le_refl _) nC)
    · have ti := T.item (X.blk s3 H3 scope ce fp) rfl rfl rfl hc i [] s5 _ H5 (fun _ _ => False) I5 (stat I5 n5) st5 go
      refine thnF ti fun r s6 ⟨u, hr, h6⟩ => ?_
      subst hr
      refine thnF h6 fun _ s7 ⟨x, H7, I7, r7, y7, st7, n7⟩ => ?_
      have I7' := I7.pinned (stat I7 n7) (T.obj _ _ st7)
      refine thnF (pg _ s7 _ H7 x u _ I7' r7 (step x H7 y7)) fun _ s8 ⟨σ8, H8, I8, hw8, q8⟩ => ?_
      refine thnF (pt _ s8 σ8 H8 _ I8 q8) fun b s9 ⟨H9, I9, q9⟩ => ?_
      -- the turn's end
      have fin : ∀ {s' : Shared} {H' : Hp}, Inv (X.blk s3 H3 scope ce fp) ([] ++ pinsAt fp s7.heap) σ8 H' s' → Nx H' → ∃ m, m < n ∧ ∃ i H', Inv (X.blk s3 H3 scope ce fp) [] (wipe σ (own.map (·.2))) H' s' ∧ tn i s'.heap ∧ (∀ b ∈ fp, H' b = none) ∧ W i m H' := fun {s' H'} I' nx => by
        obtain ⟨m', hm, w'⟩ := hNx H' nx
        have pin' : ∀ b ∈ fp, ∀ o, s7.heap.get? b = some o → s'.heap.get? b = some o ∧ H' b = none := fun b hb o e =>
          let z := I'.pin (b, o) (List.mem_append_right _ (List.mem_append_right _ (mem_pinsAt hb e)))
          ⟨z.1, z.2.1⟩
        have hl : (wipe σ (own.map (·.2))).length = σ8.length := by rw [← hw8, wipe_length]
        refine ⟨m', hm, i + 1, H', (I'.unpinned (pins := [])).weak hl (fun j v e => ?_), T.keep _ _ _ st7 fun b hb o e => (pin' b hb o e).1, fun b hb => ?_, w'⟩
        · rw [← hw8] at e
          exact (wipe_some e).1
        · obtain ⟨o, e, _⟩ := T.obj _ _ st7 b hb
          exact (pin' b hb o e).2
      cases b with
      | false =>
        simp only [Bool.false_eq_true, if_false] at q9 ⊢
        exact fin I9 q9
      | true =>
        simp only [if_true] at q9 ⊢
        refine thnF (pe _ s9 σ8 H9 _ I9 q9) fun z s10 ⟨yv, H10, I10, r10, acc, hD10, hz10, nx⟩ => ?_
        exact app_ok (X := X.blk s3 H3 scope ce fp) I10 hD10 hz10 r10 fun s11 I11 => fin I11 nx
  exact codeAny_compStart_list loop (T.self X.A 0 _ _ _ st4 loop)
/-- as a value -/
theorem pe_lc {elt tg iter : Expr} {ifs : List Expr} {scope : Scope} {own : List (Str × Nat)} {pos : Pos} {wi : TI} {g : TG} {tt : TT} {te : TE} (hc : X.calm = true) (hN : X.N.Nodup) (hi : PI X tg iter wi) (ok : BlkOk X.N X.env.scope scope own)
    (hg : ∀ (s : Shared) (H : Hp) (C : Addr) (cl : List (Str × Addr)) (fp : List Addr), PG (X.blk s H scope (compEnvC scope cl C X.env) fp) tg g) (ht : ∀ (s : Shared) (H : Hp) (C : Addr) (cl : List (Str × Addr)) (fp : List Addr), PTs (X.blk s H scope (compEnvC scope cl C X.env) fp) ifs tt)
    (he : ∀ (s : Shared) (H : Hp) (C : Addr) (cl : List (Str × Addr)) (fp : List Addr), PE (X.blk s H scope (compEnvC scope cl C X.env) fp) elt te) (hs : ∀ x, foldedSetIterable iter X.env x = pure x := by intro _; rfl) :
    PE X (.ListComp elt [⟨tg, iter, ifs, 0⟩] scope pos) (tLc wi g tt te (own.map (·.2))) := by
  intro pins s σ H Q I h
  rw [eval_ListComp]
  refine lc_core hc hN I hi ok hg ht he hs h fun D C s' m H' I' q hn f => ⟨m, hn, fun h'' sb => ?_⟩
  obtain ⟨f0, f1, f2, f3, f4, f5⟩ := f
  exact ⟨.ref D, H', I'.turned (t' := s'.toks) (fun b o hb e => (sb.2 b hb).trans e) f0 f1 f3 f4 f5, rfl, q⟩
/-- name = [..] on one line, the name a local -/
theorem ps_setLc {i : Nat} {y : Str} {py : Pos} {elt tg iter : Expr} {ifs : List Expr} {scope : Scope} {own : List (Str × Nat)} {pos spos : Pos} {wi : TI} {g : TG} {tt : TT} {te : TE} (hc : X.calm = true) (hN : X.N.Nodup) (hy : X.N[i]? = some y) (hyl : X.env.scope.names.lookup y = some .local)
    (hsw : swapsWith (.ListComp elt [⟨tg, iter, ifs, 0⟩] scope pos) (some (.Name y py)) spos.line X.env = pure true) (hi : PI X tg iter wi) (ok : BlkOk X.N X.env.scope scope own)
    (hg : ∀ (s : Shared) (H : Hp) (C : Addr) (cl : List (Str × Addr)) (fp : List Addr), PG (X.blk s H scope (compEnvC scope cl C X.env) fp) tg g) (ht : ∀ (s : Shared) (H : Hp) (C : Addr) (cl : List (Str × Addr)) (fp : List Addr), PTs (X.blk s H scope (compEnvC scope cl C X.env) fp) ifs tt)
    (he : ∀ (s : Shared) (H : Hp) (C : Addr) (cl : List (Str × Addr)) (fp : List Addr), PE (X.blk s H scope (compEnvC scope cl C X.env) fp) elt te) (hs : ∀ x, foldedSetIterable iter X.env x = pure x := by intro _; rfl) :
    PS X (.Assign [.Name y py] (.ListComp elt [⟨tg, iter, ifs, 0⟩] scope pos) spos) (tAsg (tLc wi g tt te (own.map (·.2))) (gName i)) := by
  intro pins s σ H D I h
  rw [exec_Assign_Name_used _ _ _ _ hsw]
  refine wpAny_bind (wpAny_standAt (wpAny_bind ?_))
  show wpAny _ X.A (do let _ ← comprehension (.ListComp elt [⟨tg, iter, ifs, 0⟩] scope pos) scope X.env (firstIterPos [⟨tg, iter, ifs, 0⟩] pos) (newList []) false (eval iter X.env) (some (assign (.Name y py) X.env))) _ _ s
  have h : tLc wi g tt te (own.map (·.2)) σ H (fun x H1 => gName i x σ H1 D.nx) := h
  refine wpAny_bind (thn (lc_core (Qf := fun _ s' => SP X pins D .next s') hc hN I hi ok hg ht he hs h fun L C s' m H' I' q hn f => ?_) fun _ s' hq => wpAny_pure (wpAny_pure hq))
  show wpAny _ _ (assign (.Name y py) X.env (.ref L)) _ _ _
  refine wpAny_assign_Name (store_ok2 (v := V.ref L) I' hN hy (.inl hyl) rfl (fun s2 I2 ⟨a, sb, ha⟩ => ?_) (.inr hyl))
  obtain ⟨f0, f1, f2, f3, f4, f5⟩ := f
  have haC : C ≠ a := by
    rcases ha with z | z
    · rw [z]; exact f1
    · exact fun e => f4 y a z e.symm
  refine ⟨m, hn.sameBut sb haC, fun h3 sb3 => ?_⟩
  exact ⟨_, H', I2.turned (t' := s2.toks) (fun b o hb e => (sb3.2 b hb).trans e) f0 f1 f3 f4 f5, q⟩
theorem sw_true {elt : Expr} {gs : List Comprehension} {scope : Scope} {pos py : Pos} {y : Str} {l : Nat} {env : Env} (hk : env.scope.kind = .function) (hy : env.scope.names.lookup y = some .local) (hl : (py.line == pos.line) = true)
    (ha : (scope.names.any fun (n, k) => n == y && (k == .local || k == .cell)) = false) : swapsWith (.ListComp elt gs scope pos) (some (.Name y py)) l env = pure true := by
  have ky : env.kindOf y = some .local := hy
  have hb : env.blockKind = .function := by unfold Env.blockKind; rw [hk]; rfl
  unfold swapsWith
  simp only [hb, ky, ha, Expr.pos, hl]
  rfl
end

/-! ### the forms one uses -/
/-- over a range: Pv by the turn and the heap (the new list at D within) -/
theorem lc_range {lo : Int} {n : Nat} {g : TG} {tt : TT} {te : TE} {vs : List Nat} {σ : St} {H1 : Hp} {D : Addr} {Qd : Hp → Prop} (Pv : Nat → Hp → Prop) (h0 : Pv 0 (upd H1 D (.lst [])))
    (hs : ∀ i H, i < n → Pv i H → g (.int (lo + i)) (wipe σ vs) H fun σ2 H2 => wipe σ2 vs = wipe σ vs ∧ tt σ2 H2 fun b H3 =>
      if b = true then te σ2 H3 fun y H4 => ∃ acc, H4 D = some (.lst acc) ∧ acc.length < sizeLine ∧ Pv (i + 1) (upd H4 D (.lst (acc ++ [y]))) else Pv (i + 1) H3) (hd : ∀ H, Pv n H → Qd H) :
    ∃ W : Nat → Nat → Hp → Prop, (∃ m, W 0 m (upd H1 D (.lst []))) ∧ ∀ i m H, W i m H →
      ((Itr lo n).stop i H ∧ Qd H) ∨ ((Itr lo n).go i H ∧ ∃ Nx : Hp → Prop, (∀ H', Nx H' → ∃ m', m' < m ∧ W (i + 1) m' H') ∧ ∀ x H', (Itr lo n).yld i H x H' → g x (wipe σ vs) H' fun σ2 H2 => wipe σ2 vs = wipe σ vs ∧ tt σ2 H2 fun b H3 =>
        if b = true then te σ2 H3 fun y H4 => ∃ acc, H4 D = some (.lst acc) ∧ acc.length < sizeLine ∧ Nx (upd H4 D (.lst (acc ++ [y]))) else Nx H3) := by
  refine ⟨fun i m H => m = n - i ∧ i ≤ n ∧ Pv i H, ⟨n, by simp, Nat.zero_le _, h0⟩, ?_⟩
  rintro i m H ⟨rfl, hi, p⟩
  by_cases hlt : i < n
  · refine .inr ⟨hlt, Pv (i + 1), fun H' p' => ⟨n - (i + 1), by omega, rfl, hlt, p'⟩, fun x H' y => ?_⟩
    obtain ⟨e, y⟩ := y
    subst e y
    exact hs i _ hlt p
  · have e : i = n := by omega
    subst e
    exact .inl ⟨Nat.le_refl _, hd H p⟩
/-- over a list that the block leaves as it is -/
theorem lc_list {K : PySem.W.Frag} {a : Addr} {xs : List V} {g : TG} {tt : TT} {te : TE} {vs : List Nat} {σ : St} {H1 : Hp} {D : Addr} {Qd : Hp → Prop} (Pv : Nat → Hp → Prop) (h0 : Pv 0 (upd H1 D (.lst []))) (hl : ∀ i H, i ≤ xs.length → Pv i H → SqL K H a xs)
    (hs : ∀ i x H, xs[i]? = some x → Pv i H → g x (wipe σ vs) H fun σ2 H2 => wipe σ2 vs = wipe σ vs ∧ tt σ2 H2 fun b H3 =>
      if b = true then te σ2 H3 fun y H4 => ∃ acc, H4 D = some (.lst acc) ∧ acc.length < sizeLine ∧ Pv (i + 1) (upd H4 D (.lst (acc ++ [y]))) else Pv (i + 1) H3) (hd : ∀ H, Pv xs.length H → Qd H) :
    ∃ W : Nat → Nat → Hp → Prop, (∃ m, W 0 m (upd H1 D (.lst []))) ∧ ∀ i m H, W i m H →
      ((Itl K a).stop i H ∧ Qd H) ∨ ((Itl K a).go i H ∧ ∃ Nx : Hp → Prop, (∀ H', Nx H' → ∃ m', m' < m ∧ W (i + 1) m' H') ∧ ∀ x H', (Itl K a).yld i H x H' → g x (wipe σ vs) H' fun σ2 H2 => wipe σ2 vs = wipe σ vs ∧ tt σ2 H2 fun b H3 =>
        if b = true then te σ2 H3 fun y H4 => ∃ acc, H4 D = some (.lst acc) ∧ acc.length < sizeLine ∧ Nx (upd H4 D (.lst (acc ++ [y]))) else Nx H3) := by
  refine ⟨fun i m H => m = xs.length - i ∧ i ≤ xs.length ∧ Pv i H, ⟨xs.length, by simp, Nat.zero_le _, h0⟩, ?_⟩
  rintro i m H ⟨rfl, hi, p⟩
  have q := hl i H hi p
  by_cases hlt : i < xs.length
  · refine .inr ⟨⟨xs, xs[i], q, by simp [hlt]⟩, Pv (i + 1), fun H' p' => ⟨xs.length - (i + 1), by omega, rfl, hlt, p'⟩, fun x H' y => ?_⟩
    obtain ⟨e, y⟩ := y
    subst e
    exact hs i x _ (y xs q) p
  · have e : i = xs.length := by omega
    subst e
    exact .inl ⟨⟨xs, q, Nat.le_refl _⟩, hd H p⟩
/-- over a tuple -/
theorem lc_tup {K : PySem.W.Frag} {a : Addr} {xs : List V} {g : TG} {tt : TT} {te : TE} {vs : List Nat} {σ : St} {H1 : Hp} {D : Addr} {Qd : Hp → Prop} (Pv : Nat → Hp → Prop) (h0 : Pv 0 (upd H1 D (.lst []))) (hl : ∀ i H, i ≤ xs.length → Pv i H → SqT K H a xs)
    (hs : ∀ i x H, xs[i]? = some x → Pv i H → g x (wipe σ vs) H fun σ2 H2 => wipe σ2 vs = wipe σ vs ∧ tt σ2 H2 fun b H3 =>
      if b = true then te σ2 H3 fun y H4 => ∃ acc, H4 D = some (.lst acc) ∧ acc.length < sizeLine ∧ Pv (i + 1) (upd H4 D (.lst (acc ++ [y]))) else Pv (i + 1) H3) (hd : ∀ H, Pv xs.length H → Qd H) :
    ∃ W : Nat → Nat → Hp → Prop, (∃ m, W 0 m (upd H1 D (.lst []))) ∧ ∀ i m H, W i m H →
      ((Itt K a).stop i H ∧ Qd H) ∨ ((Itt K a).go i H ∧ ∃ Nx : Hp → Prop, (∀ H', Nx H' → ∃ m', m' < m ∧ W (i + 1) m' H') ∧ ∀ x H', (Itt K a).yld i H x H' → g x (wipe σ vs) H' fun σ2 H2 => wipe σ2 vs = wipe σ vs ∧ tt σ2 H2 fun b H3 =>
        if b = true then te σ2 H3 fun y H4 => ∃ acc, H4 D = some (.lst acc) ∧ acc.length < sizeLine ∧ Nx (upd H4 D (.lst (acc ++ [y]))) else Nx H3) := by
  refine ⟨fun i m H => m = xs.length - i ∧ i ≤ xs.length ∧ Pv i H, ⟨xs.length, by simp, Nat.zero_le _, h0⟩, ?_⟩
  rintro i m H ⟨rfl, hi, p⟩
  have q := hl i H hi p
  by_cases hlt : i < xs.length
  · refine .inr ⟨⟨xs, xs[i], q, by simp [hlt]⟩, Pv (i + 1), fun H' p' => ⟨xs.length - (i + 1), by omega, rfl, hlt, p'⟩, fun x H' y => ?_⟩
    obtain ⟨e, y⟩ := y
    subst e
    exact hs i x _ (y xs q) p
  · have e : i = xs.length := by omega
    subst e
    exact .inl ⟨⟨xs, q, Nat.le_refl _⟩, hd H p⟩
def blkC (N : List Str) (sc scope : Scope) (own : List (Str × Nat)) : Bool :=
  (match scope.kind with | .function => true | _ => false) && (scope.names.all fun y => decide (scope.names.lookup y.1 = some y.2)) && (own.all fun p => decide (N[p.2]? = some p.1)) &&
    (scope.names.all fun y => match y.2 with
      | .free => (match sc.names.lookup y.1 with | some .cell => true | some .free => true | _ => false)
      | .local => decide (y.1 ∈ own.map (·.1)) || decide (y.1 ∉ N)
      | .cell => decide (y.1 ∈ own.map (·.1)) || decide (y.1 ∉ N)
      | _ => true)
theorem blkOk_by {N : List Str} {sc scope : Scope} {own : List (Str × Nat)} (h : blkC N sc scope own = true) : BlkOk N sc scope own := by
  unfold blkC at h
  simp only [Bool.and_eq_true, List.all_eq_true, decide_eq_true_eq] at h
  obtain ⟨⟨⟨h1, h2⟩, h3⟩, h4⟩ := h
  refine ⟨?_, h2, h3, fun y hy e => ?_, fun y hy e => ?_⟩
  · split at h1
    · assumption
    · cases h1
  · have q := h4 y hy
    simp only [e] at q
    split at q <;> first | exact .inl (by assumption) | exact .inr (by assumption) | cases q
  · have q := h4 y hy
    rcases e with e | e <;> (simp only [e, Bool.or_eq_true, decide_eq_true_eq] at q; exact q)
end L2

namespace Att
open PySem PySem.W PySem.Calls PyProof.Rows

/-! ### the script -/
theorem ints_of_wellAll {P : Params} {h : Heap} : ∀ (ns : List Int) (vs : List Value), WellAll P h vs (ns.map WData.int) → IntsAre vs ns := by
  intro ns
  induction ns with
  | nil =>
    intro vs w
    rw [List.map_nil] at w
    cases w
    exact .nil
  | cons n ns ih =>
    intro vs w
    rw [List.map_cons] at w
    cases w with
    | cons a b =>
      cases a
      exact .cons _ _ (ih _ b)

theorem script_of {l : OpenLaw} {n : Nat} (hn : l.most = some n) {P : Params} {h : Heap} {args : List WData} {vals : List Value}
    (hpre : l.row.toRowW.claim.pre args = true) (hwl : WellAll P h vals args) :
    ∃ a vs ns, vals = [Value.ref a] ∧ args = [WData.list (ns.map WData.int)] ∧ h.get? a = some { cls := .type "list", data := .seq vs.toArray } ∧ IntsAre vs ns ∧ ns.length ≤ n := by
  have hsh : WShape.hasAll [] args [.list .int] = true := (pre_splitW hpre).1
  have hc : l.pre.holds [] { args := args } = true := (pre_splitW hpre).2
  obtain ⟨d, r, rfl, h1, h2⟩ := hasAllW_cons hsh
  obtain rfl := hasAllW_nil h2
  obtain ⟨xs, rfl, h3⟩ := hasW_list h1
  obtain ⟨ns, rfl⟩ := items_int h3
  have hlen : ns.length ≤ n := by
    unfold OpenLaw.pre at hc
    have h4 : (WTm.not (.lt (.lit (.int (n : Int))) (.len (.arg 0)))).holds [] { args := [.list (ns.map .int)] } = true := by
      have h4 := (holds_andW hc).1
      rw [hn] at h4
      exact h4
    have h5 := condW_of h4 (w_not (w_lt w_lit (w_len_list (w_arg rfl))))
    rw [List.length_map] at h5
    refine Nat.le_of_not_lt fun q => ?_
    have q' : (n : Int) < ((ns.length : Nat) : Int) := by omega
    first
      | (rw [decide_eq_true q'] at h5; exact absurd h5 (by decide))
      | (simp at h5; omega)
  cases hwl with
  | cons w1 w2 =>
    cases w2
    cases w1 with
    | list ho hall => exact ⟨_, _, ns, rfl, rfl, ho, ints_of_wellAll ns _ hall, hlen⟩

theorem post_true (l : OpenLaw) (args : List WData) : l.row.toRowW.claim.post args (.bool true) args = true :=
  postW_of (r := l.row.toRowW) (X := (true == true))
    (show WShape.has [] (.bool true) .bool = true by first | rfl | decide | simp [WShape.has, WShape.arms, WShape.armsAll])
    (show (WTm.eq .res (.lit (.bool true))).value [] { args := args, res := some (.bool true), after := args } = some (.bool (true == true)) from w_eq_bool (w_res rfl) w_lit) rfl

/-! ### the attachment: holds_open's last premise (the goal 'hc' behind k_head) from a wpAny of the law's body -/
theorem attach {l : OpenLaw} {n : Nat} {q : Program} {loose : List Str} {XP : (Str → Option Value) → Heap → Prop} {YP : World → Heap → Prop} {d : DefRec} {x : Str}
    (hn : l.most = some n) (hdf : d.params.defaults = [])
    (hbind : ∀ pm cd doc v : Value, bindArgs (docDef d.name d.params d.body d.scope pm cd doc) ⟨[v], []⟩ = pure [(x, v)])
    (hx : d.scope.names.lookup x = some .local ∨ d.scope.names.lookup x = some .cell)
    (hk : d.scope.kind = .function) (hco : d.scope.isCoroutine = false) (hgen : d.scope.isGenerator = false)
    (body : ∀ (w : World) (s₀ s₁ s : Shared) (mg mb : Str → Option Value) (fa : Addr) (o : Obj) (pm cd doc : Value) (a : Addr) (vs : List Value) (ns : List Int),
      Ground q loose [] XP w s₀ mg mb s₁.heap → YP w s₁.heap →
      s₁.heap.get? fa = some o → o.data = .func (docDef d.name d.params d.body d.scope pm cd doc) → s₁.heap.CodeRec cd d.name → mg d.name = some (.ref fa) →
      s₁.heap.get? a = some { cls := .type "list", data := .seq vs.toArray } → IntsAre vs ns → ns.length ≤ n →
      s.gens = #[] → s.os = s₁.os →
      Fr s₁.heap s₁.heap.objs.size s.heap (bindL (envOfC d.name d.scope s₁.heap.objs.size fa cd).kindOf [(x, .ref a)] fun _ => none) →
      Cl s₁.heap.objs.size (cellsFrom (s₁.heap.objs.size + 1) d.scope.names []) s.heap (bindC (envOfC d.name d.scope s₁.heap.objs.size fa cd).kindOf [(x, .ref a)] fun _ => none) →
      wpAny (model l.prog w) (callerA.deeper (envOfC d.name d.scope s₁.heap.objs.size fa cd)) (execs d.body (envOfC d.name d.scope s₁.heap.objs.size fa cd))
        (fun f s' => f = .ret (.bool true) ∧ OldK s₁.heap s'.heap ∧ s'.os = s₁.os ∧ AllBare s'.gens) (fun _ _ => False) s) :
    WalkO q loose XP YP l.row.toRowW d [] (fun f vs => PySem.call f vs) := by
  intro w s₀ s₁ mg mb G Y fa o pm cd doc dV kV ho hd hcd hD hmg hg args vals as hpre hlay hrd hwl hlo
  obtain rfl : dV = .none := Dflts.none hD hdf
  obtain rfl : kV = .none := Dflts.noKw hD
  obtain ⟨a, vs, ns, rfl, rfl, hobj, hints, hlen⟩ := script_of hn hpre hwl
  refine enter_call ?_
  refine call_cells_ret (o := o) (by rw [depth_caller]; decide) ho (fd_plain hd) G.T.nolimit hcd (hbind pm cd doc (.ref a)) (fun y hy => ?_) (fun h₁ tk F X => ?_) hco hgen hk
  · obtain rfl : y = (x, Value.ref a) := List.mem_singleton.mp hy
    rcases hx with e | e
    · exact .inl e
    · exact .inr ⟨e, cellsFrom_some _ _ _ (.inl e)⟩
  · refine wpAny_mono (body w s₀ s₁ { s₁ with heap := h₁, toks := tk } mg mb fa o pm cd doc a vs ns G Y ho (fd_plain hd) hcd hmg hobj hints hlen hg rfl F X) (fun f s' hq => ?_) (fun _ _ hq => hq)
    obtain ⟨rfl, h2, h3, h4⟩ := hq
    exact ⟨.inl ⟨.bool true, .bool true, [], rfl, fun _ => rfl, .bool true, post_true l _, fun _ => ⟨List.Pairwise.nil, fun _ hm => (nomatch hm)⟩⟩, h2, h3, h4⟩

/-- the same from a codeAny of the CALL (for a layer whose function contracts speak of calls) -/
theorem attach_call {l : OpenLaw} {n : Nat} {q : Program} {loose : List Str} {XP : (Str → Option Value) → Heap → Prop} {YP : World → Heap → Prop} {d : DefRec}
    (hn : l.most = some n) (hdf : d.params.defaults = [])
    (call : ∀ (w : World) (s₀ s₁ : Shared) (mg mb : Str → Option Value) (fa : Addr) (o : Obj) (pm cd doc : Value) (a : Addr) (vs : List Value) (ns : List Int),
      Ground q loose [] XP w s₀ mg mb s₁.heap → YP w s₁.heap →
      s₁.heap.get? fa = some o → o.data = .func (docDef d.name d.params d.body d.scope pm cd doc) → s₁.heap.CodeRec cd d.name → mg d.name = some (.ref fa) →
      s₁.heap.get? a = some { cls := .type "list", data := .seq vs.toArray } → IntsAre vs ns → ns.length ≤ n → s₁.gens = #[] →
      codeAny (model l.prog w) callerA (.call (.ref fa) ⟨[.ref a], []⟩) (fun r s' => r = .ok (.ret (.bool true)) ∧ OldK s₁.heap s'.heap ∧ s'.os = s₁.os ∧ AllBare s'.gens) s₁) :
    WalkO q loose XP YP l.row.toRowW d [] (fun f vs => PySem.call f vs) := by
  intro w s₀ s₁ mg mb G Y fa o pm cd doc dV kV ho hd hcd hD hmg hg args vals as hpre hlay hrd hwl hlo
  obtain rfl : dV = .none := Dflts.none hD hdf
  obtain rfl : kV = .none := Dflts.noKw hD
  obtain ⟨a, vs, ns, rfl, rfl, hobj, hints, hlen⟩ := script_of hn hpre hwl
  refine enter_call (codeAny_mono (call w s₀ s₁ mg mb fa o pm cd doc a vs ns G Y ho (fd_plain hd) hcd hmg hobj hints hlen hg) fun r s' hq => ?_)
  obtain ⟨rfl, h2, h3, h4⟩ := hq
  exact ⟨.inl ⟨.bool true, .bool true, [], rfl, fun _ => rfl, .bool true, post_true l _, fun _ => ⟨List.Pairwise.nil, fun _ hm => (nomatch hm)⟩⟩, h2, h3, h4⟩

/-- the same where the top left finished generators (o_head chose holds_openN): nothing may have changed at all and no generator may be left -/
theorem attachN {l : OpenLaw} {n : Nat} {q : Program} {loose : List Str} {XP : (Str → Option Value) → Heap → Prop} {YP : World → Heap → Prop} {d : DefRec} {x : Str}
    (hn : l.most = some n) (hdf : d.params.defaults = [])
    (hbind : ∀ pm cd doc v : Value, bindArgs (docDef d.name d.params d.body d.scope pm cd doc) ⟨[v], []⟩ = pure [(x, v)])
    (hx : d.scope.names.lookup x = some .local ∨ d.scope.names.lookup x = some .cell)
    (hk : d.scope.kind = .function) (hco : d.scope.isCoroutine = false) (hgen : d.scope.isGenerator = false)
    (body : ∀ (w : World) (s₀ s₁ s : Shared) (mg mb : Str → Option Value) (fa : Addr) (o : Obj) (pm cd doc : Value) (a : Addr) (vs : List Value) (ns : List Int),
      Ground q loose [] XP w s₀ mg mb s₁.heap → YP w s₁.heap →
      s₁.heap.get? fa = some o → o.data = .func (docDef d.name d.params d.body d.scope pm cd doc) → s₁.heap.CodeRec cd d.name → mg d.name = some (.ref fa) →
      s₁.heap.get? a = some { cls := .type "list", data := .seq vs.toArray } → IntsAre vs ns → ns.length ≤ n →
      s.gens = #[] → s.os = s₁.os →
      Fr s₁.heap s₁.heap.objs.size s.heap (bindL (envOfC d.name d.scope s₁.heap.objs.size fa cd).kindOf [(x, .ref a)] fun _ => none) →
      Cl s₁.heap.objs.size (cellsFrom (s₁.heap.objs.size + 1) d.scope.names []) s.heap (bindC (envOfC d.name d.scope s₁.heap.objs.size fa cd).kindOf [(x, .ref a)] fun _ => none) →
      wpAny (model l.prog w) (callerA.deeper (envOfC d.name d.scope s₁.heap.objs.size fa cd)) (execs d.body (envOfC d.name d.scope s₁.heap.objs.size fa cd))
        (fun f s' => f = .ret (.bool true) ∧ (∀ b o, s₁.heap.get? b = some o → s'.heap.get? b = some o) ∧ s'.os = s₁.os ∧ s'.gens = #[]) (fun _ _ => False) s) :
    WalkN q loose XP YP l.row.toRowW d [] (fun f vs => PySem.call f vs) := by
  intro w s₀ s₁ mg mb G Y fa o pm cd doc dV kV ho hd hcd hD hmg hg args vals as hpre hlay hrd hwl hlo
  obtain rfl : dV = .none := Dflts.none hD hdf
  obtain rfl : kV = .none := Dflts.noKw hD
  obtain ⟨a, vs, ns, rfl, rfl, hobj, hints, hlen⟩ := script_of hn hpre hwl
  refine enter_callW ?_
  refine call_cells_ret (o := o) (by rw [depth_caller]; decide) ho (fd_plain hd) G.T.nolimit hcd (hbind pm cd doc (.ref a)) (fun y hy => ?_) (fun h₁ tk F X => ?_) hco hgen hk
  · obtain rfl : y = (x, Value.ref a) := List.mem_singleton.mp hy
    rcases hx with e | e
    · exact .inl e
    · exact .inr ⟨e, cellsFrom_some _ _ _ (.inl e)⟩
  · refine wpAny_mono (body w s₀ s₁ { s₁ with heap := h₁, toks := tk } mg mb fa o pm cd doc a vs ns G Y ho (fd_plain hd) hcd hmg hobj hints hlen hg rfl F X) (fun f s' hq => ?_) (fun _ _ hq => hq)
    obtain ⟨rfl, h2, h3, h4⟩ := hq
    exact ⟨.inl ⟨.bool true, .bool true, [], rfl, fun _ => rfl, .bool true, post_true l _, fun _ => ⟨List.Pairwise.nil, fun _ hm => (nomatch hm)⟩⟩, h2, h3, h4⟩

/-! ### rules over ANY heap (no ledger) from facts about the written part K: the library's own take a ledger (News) for what they write -/
section
variable {prog : Program} {w : World} {A : Around} {E : Value → Shared → Prop} {s : Shared} {K : Frag}

/-- a def of the module, or a method (qual 'C.m'), entered: the frame is the next address; cells behind it -/
theorem call_fn {R : Result → Shared → Prop} {name qual : Str} {params : Arguments} {body : List Stmt} {scope : Scope} {dV kV doc pm cdv ct oc : Value} {an od : Option Addr} {osl : Array (Option Value)} {f : Addr} {args : Args} {binds : List (Str × Value)}
    (X : K.In s.heap) (hlim : s.heap.NoLimit) (ho : K.lookup f = some ⟨oc, od, .func (fnOf name qual params body scope dV kV doc pm an cdv ct), osl⟩) (hcd : codeIn K cdv qual = true) (hroom : A.depth < recursionLimit)
    (hbind : BindsTo s (fnOf name qual params body scope dV kV doc pm an cdv ct) args binds)
    (hkind : (binds.all fun y => scope.names.lookup y.1 == some .local || scope.names.lookup y.1 == some .cell) = true)
    (h : ∀ s₁, InCallC s s.heap.objs.size (bindL (envOfC qual scope s.heap.objs.size f cdv).kindOf binds fun _ => none) (cellsFrom (s.heap.objs.size + 1) scope.names [])
        (bindC (envOfC qual scope s.heap.objs.size f cdv).kindOf binds fun _ => none) s₁ →
      wpAny (model prog w) (A.deeper (envOfC qual scope s.heap.objs.size f cdv)) (execs body (envOfC qual scope s.heap.objs.size f cdv))
        (fun fl s' => R (.ok (.ret (match fl with | .ret v => v | _ => .none))) s')
        (fun e s' => wpAny (model prog w) (A.deeper (envOfC qual scope s.heap.objs.size f cdv)) (leaving (envOfC qual scope s.heap.objs.size f cdv) e) (fun _ s'' => R (.error e) s'') (fun e' s'' => R (.error e') s'') s') s₁)
    (hco : scope.isCoroutine = false) (hgen : scope.isGenerator = false) (hk : scope.kind = .function) : codeAny (model prog w) A (.call (.ref f) args) R s := by
  refine codeAny_call_function hroom (X _ _ ho) rfl hco hgen rfl (codeRec_of X hcd) (hbind _ _ _ _ ?_)
  refine wpAny_newFunctionEnv_cells hk (kindsX hkind _) fun env he s₁ x => ?_
  subst he
  exact ⟨hlim.keeps x.toInCall.keep, codeAny_func (h s₁ x)⟩

/-- C(..): dict at size, instance at size + 1, then __init__ -/
theorem make_obj {R : Result → Shared → Prop} {C fI : Addr} {rest : List Value} {kw : List (Str × Value)}
    (X : K.In s.heap) (hm : makesIn K C = true) (hi : findIn K (.ref C) "__init__" = some (some (.ref fI))) (hf : isFn K (.ref fI) = true)
    (h : codeAny (model prog w) (A.under (.builtin "type.__call__" ⟨.ref C :: rest, kw⟩)) (.call (.ref fI) ⟨.ref (s.heap.objs.size + 1) :: rest, kw⟩) (InitBack (s.heap.objs.size + 1) R)
      { s with heap := (s.heap.push emptyDict).push (instObj C s.heap.objs.size) }) : codeAny (model prog w) A (.call (.ref C) ⟨rest, kw⟩) R s := by
  obtain ⟨hh, g, d, t, os⟩ := s
  exact make_core (makes_of X hm) (looks_findIn X hi) (fun self => bind_fn X self (beq_iff_eq.mp hf)) (.inl rfl) h

/-- x.name where the instance's dict holds the name and the class does not -/
theorem get_field {x C : Addr} {ox : Obj} {es : List DictEntry} {n : Nat} {name : Str} {expr : Bool} {v : Value} {Q : Value → Shared → Prop}
    (X : K.In s.heap) (I : PySem.W.InstAt s.heap x ox C (some (dictOf es n))) (hg : plainGet K C name = true) (hh : hasDictIn K C = true) (ha : findIn K (.ref C) name = some none)
    (hl : getL name es = some (some v)) (hv : handedIn v = true) (h : Q v { s with toks := s.toks + 1 }) : wpAny (model prog w) A (getAttr (.ref x) name expr) Q E s :=
  get_value X I (plainGet_of hg).1 (findObj_own hh ha rfl hl) hv h

/-- x.m(..): the method found in the class -/
theorem get_method {x C f : Addr} {ox : Obj} {es : List DictEntry} {n : Nat} {name : Str} {pl : Sem Bool} {Q : Value × List Value → Shared → Prop}
    (X : K.In s.heap) (I : PySem.W.InstAt s.heap x ox C (some (dictOf es n))) (hg : plainGet K C name = true) (hf : findIn K (.ref C) name = some (some (.ref f))) (ht : isFn K (.ref f) = true)
    (hl : getL name es = some none) (h : Q (.ref f, [.ref x]) s) : wpAny (model prog w) A (getMethod (.ref x) name pl) Q E s :=
  method_fn X I (plainGet_of hg).1 (plainGet_of hg).2 hf (beq_iff_eq.mp ht) (by show (lookIn name (dictOf es n)).map _ = _; rw [lookIn_dict, hl]; rfl) h

/-! the whole heap as the ledger: makes every rule that writes through a ledger a rule over any heap -/
def noObjs (h : Heap) : Heap := { h with objs := #[] }
theorem noObjs_get (h : Heap) (b : Addr) : (noObjs h).get? b = none := by
  cases e : (noObjs h).get? b with
  | none => rfl
  | some o => exact absurd (Heap.lt_size e) (Nat.not_lt_zero _)
def ledger (h : Heap) (L d : Addr) : List (Addr × Obj) := (List.range h.objs.size).filterMap fun a => if a = L ∨ a = d then none else (h.get? a).map fun o => (a, o)
theorem mem_ledger {h : Heap} {L d a : Addr} {o : Obj} : (a, o) ∈ ledger h L d ↔ a ≠ L ∧ a ≠ d ∧ h.get? a = some o := by
  unfold ledger
  rw [List.mem_filterMap]
  constructor
  · rintro ⟨b, _, e⟩
    split at e
    · cases e
    · rename_i hb
      obtain ⟨o', ho, e'⟩ := Option.map_eq_some_iff.mp e
      cases e'
      exact ⟨fun q => hb (.inl q), fun q => hb (.inr q), ho⟩
  · rintro ⟨n1, n2, ho⟩
    refine ⟨a, List.mem_range.mpr (Heap.lt_size ho), ?_⟩
    rw [if_neg (show ¬ (a = L ∨ a = d) from fun q => q.elim n1 n2), ho] <;> rfl
theorem news_ledger {h : Heap} {L d : Addr} {od : Obj} (hne : d ≠ L) (ho : h.get? d = some od) : News (noObjs h) L h ([] ++ (d, od) :: ledger h L d) := by
  rintro ⟨a, o⟩ hp
  rcases List.mem_cons.mp hp with e | hp
  · cases e
    exact ⟨ho, hne, noObjs_get _ _⟩
  · obtain ⟨n1, n2, e⟩ := mem_ledger.mp hp
    exact ⟨e, n1, noObjs_get _ _⟩
theorem fr_all {h : Heap} {L : Addr} {m : Str → Option Value} (n : h.Ns L m) : Fr (noObjs h) L h m :=
  ⟨n, fun b o e => (by rw [noObjs_get] at e; cases e), Nat.zero_le _⟩
/-- Upd of the head entry (for append_K, setItem_K ..) -/
theorem upd_ledger {h : Heap} {L d : Addr} {o o' : Obj} : Upd d o o' ((d, o) :: ledger h L d) ((d, o') :: ledger h L d) :=
  .head fun ⟨_, _⟩ hp => (mem_ledger.mp hp).2.1

/-- x.name = v over any heap: L is any namespace of the heap (the frame's, say): its map stays, its object is not told; all else but the dict stays -/
theorem set_field {x C dx L : Addr} {ox : Obj} {m : Str → Option Value} {es es' : List DictEntry} {n n' : Nat} {name : Str} {v : Value} {Q : Unit → Shared → Prop}
    (X : K.In s.heap) (I : PySem.W.InstAt s.heap x ox C (some (dictOf es n))) (hd : ox.dict = some dx) (hL : s.heap.Ns L m) (hne : dx ≠ L)
    (hs : findIn K (.ref C) "__setattr__" = some (some (.builtin "object.__setattr__"))) (hp : plainOver K C = true) (ht : takerIn K C name = some none) (hh : hasDictIn K C = true) (hl : (getL name es).isSome = true)
    (e : (putL name (PyData.keyHash w.params name) (.str name (s.toks + 1)) v es, putN name es n) = (es', n')) (hz : es'.length ≤ 1000)
    (h : ∀ h' : Heap, h'.Ns L m → h'.get? dx = some (dictOf es' n') → (∀ b o, b ≠ dx → b ≠ L → s.heap.get? b = some o → h'.get? b = some o) → Q () { s with heap := h', toks := s.toks + 2 }) :
    wpAny (model prog w) A (setAttr (.ref x) name v) Q E s := by
  obtain ⟨e1, e2⟩ := Prod.mk.inj e
  have hdx : s.heap.get? dx = some (dictOf es n) := by
    have := I.dict
    rw [hd] at this
    exact this
  refine set_plain X I hs (osa_dict (s := { s with toks := s.toks + 1 }) (h₀ := noObjs s.heap) (L := L) (m := m) (od := dictOf es n) (od' := dictOf es' n') (es := es') (n := n') (pre := []) (post := ledger s.heap L dx)
    (fr_all hL) (news_ledger hne hdx) X I hd hp ht hh hl (fun _ q => nomatch q) (fun ⟨_, _⟩ q => (mem_ledger.mp q).2.1) (by rw [putName_dict, e1, e2]) rfl hz fun h' F' N' => ?_)
  exact h h' F'.ns (N'.get (List.Mem.head _)) fun b o n1 n2 ho => N'.get (List.Mem.tail _ (mem_ledger.mpr ⟨n2, n1, ho⟩))
end
end Att

namespace L2
open PySem PySem.Spec PyProof.Rows

theorem vals_ints : ∀ {vs : List Value} {ns : List Int}, IntsAre vs ns → Vals (ns.map V.int) vs
  | _, _, .nil => .nil
  | _, _, .cons n t h => .cons ⟨t, rfl⟩ (vals_ints h)

/-- nothing is tracked but the script, known to the object (or it is an object of the module) -/
def Only (H : Hp) : Prop := ∀ b, H b = none ∨ ∃ o xs, H b = some (.frz o (.lst xs))

/-- THE HEAD: the law's promise, at the heap behind the top. F, the promise of the law's def, may use that base is part of the heap (so K.In base, base.Ns mainGlobals mg stand in Mod) -/
theorem law_call {P : Program} {w : World} {K : PySem.W.Frag} {mg mb : Str → Option Value} {CX : CXT} {k : Nat} {fa a : Addr} {fd : FuncData} {x : Str} {sp : Sp} {s₁ : Shared} {vs : List Value} {ns : List Int}
    (KX : K.In s₁.heap) (hns : s₁.heap.Ns mainGlobals mg) (hb : s₁.heap.Ns builtinsNs mb) (hbb : ∀ x : Str, x ≠ "__name__" → mb x = bootBuiltins x) (hlim : s₁.heap.NoLimit) (hg : s₁.gens = #[])
    (ha : s₁.heap.get? a = some { cls := .type "list", data := .seq vs.toArray }) (hi : IntsAre vs ns) (hl : ns.length ≤ sizeLine) (hr : Room k callerA)
    (F : ∀ base : Heap, K.In base → base.Ns mainGlobals mg → FnOk P w K mg base CX k fa fd [x] sp) (hbind : ∀ (s : Shared) (u : Value), BindsTo s fd ⟨[u], []⟩ [(x, u)])
    (hsp : ∀ H : Hp, Only H → SqL K H a (ns.map V.int) → sp [.ref a] H (fun v _ => v = .bl true) fun _ _ _ => False)
    (hCX : ∀ H e s', CX [] H s₁ (fun _ _ _ => False) e s' → False) :
    codeAny (model P w) callerA (.call (.ref fa) ⟨[.ref a], []⟩) (fun r s' => r = .ok (.ret (.bool true)) ∧ OldK s₁.heap s'.heap ∧ s'.os = s₁.os ∧ AllBare s'.gens) s₁ := by
  have rv := vals_ints hi
  have lenV := hi.length
  -- from an abstract heap in which nothing but the script may be tracked
  have core : ∀ H : Hp, Only H → SqL K H a (ns.map V.int) → HOk P w H s₁.heap → (∀ b, H b ≠ none → b = a) → (H a ≠ none → K.lookup a = none) →
      codeAny (model P w) callerA (.call (.ref fa) ⟨[.ref a], []⟩) (fun r s' => r = .ok (.ret (.bool true)) ∧ OldK s₁.heap s'.heap ∧ s'.os = s₁.os ∧ AllBare s'.gens) s₁ := by
    intro H hO hS hok hA hK
    have base_of : ∀ {b : Addr} {o : Obj}, s₁.heap.get? b = some o → H b = none → (hidT s₁.heap H).get? b = some o := fun e n => hidT_get e n
    have noA : ∀ {b : Addr} {o : Obj} {es : Array DictEntry} {ep : Nat}, s₁.heap.get? b = some o → o.data = .dict es ep → H b = none := fun {b o es ep} e d => by
      cases q : H b with
      | none => rfl
      | some u =>
        have e' : b = a := hA b (by rw [q]; simp)
        subst e'
        rw [ha] at e; cases e
        have d' : Data.seq vs.toArray _ = Data.dict es ep := d
        cases d'
    have nsK : ∀ {b : Addr} {m : Str → Option Value}, s₁.heap.Ns b m → (hidT s₁.heap H).Ns b m := fun {b m} ⟨o, es, ep, e, d, r⟩ => ⟨o, es, ep, base_of e (noA e d), d, r⟩
    have hKb : K.In (hidT s₁.heap H) := fun b o e => base_of (KX b o e) (by
      cases q : H b with
      | none => rfl
      | some u =>
        have e' : b = a := hA b (by rw [q]; simp)
        subst e'
        rw [hK (by rw [q]; simp)] at e; cases e)
    have hM : Mod K mg (hidT s₁.heap H) := ⟨hKb, nsK hns, ⟨mb, nsK hb, hbb⟩, let ⟨mc, h1, h2⟩ := hlim; ⟨mc, nsK h1, h2⟩⟩
    have e0 : Env0 P w K mg (hidT s₁.heap H) callerA [] s₁ H := ⟨rfl, hM, fun b o e => of_hidT e, Nat.le_of_eq (hidT_size _ _), trivial, fun b hb => absurd (show b ∈ ([] : List Addr) from hb) (by simp), hok, .of_eq hg⟩
    refine codeAny_mono ((F _ hKb (nsK hns)).run callerA [] s₁ H ⟨[.ref a], []⟩ [.ref a] [.ref a] _ _ hr e0 (hbind s₁ (.ref a)) (.cons rfl .nil) (hsp H hO hS)) fun r s' h => ?_
    cases r with
    | error e => exact (hCX H e s' h).elim
    | ok fl =>
      cases fl with
      | next => exact False.elim h
      | brk => exact False.elim h
      | cont => exact False.elim h
      | ret u =>
        obtain ⟨v, H', os, bare, un, hok', r', q⟩ := h
        have q' : v = .bl true := q
        subst q'
        obtain rfl : u = Value.bool true := r'
        refine ⟨rfl, OldK.of_keep fun b o e => ?_, os, bare⟩
        cases q : H b with
        | none => exact un.keep b o e q (by intro z; exact absurd (show b ∈ ([] : List Addr) from z) (by simp)) (by simp)
        | some u =>
          rcases hO b with z | ⟨ob, xs, z⟩
          · rw [q] at z; cases z
          · have z2 := un.frzs b ob _ z
            obtain ⟨e1, _⟩ := hok b _ z
            obtain ⟨e2, _⟩ := hok' b _ z2
            rw [e] at e1; cases e1
            exact e2
  cases hk : K.lookup a with
  | some o =>
    -- the script is one of the module's own objects
    have e := KX a o hk
    rw [ha] at e
    cases e
    refine core (fun _ => none) (fun _ => .inl rfl) (.inr ⟨_, vs.toArray, _, hk, rfl, rfl, rfl, by rw [List.size_toArray, lenV]; exact hl, by simpa using rv⟩) (fun b u z => by have z' : (none : Option HO) = some u := z; cases z') (fun b z => absurd rfl z) fun z => absurd rfl z
  | none =>
    refine core (fun b => if b = a then some (.frz { cls := .type "list", data := .seq vs.toArray } (.lst (ns.map V.int))) else none) (fun b => ?_) (.inl (.inr ⟨{ cls := .type "list", data := .seq vs.toArray }, if_pos rfl⟩)) (fun b u z => ?_) (fun b z => ?_) fun _ => hk
    · by_cases hb : b = a
      · exact .inr ⟨_, _, if_pos hb⟩
      · exact .inl (if_neg hb)
    · by_cases hb : b = a
      · have z' := (if_pos hb).symm.trans z
        cases z'
        subst hb
        exact ⟨ha, by rw [List.length_map]; exact hl, vs, _, rv, ha⟩
      · have z' := (if_neg hb).symm.trans z
        cases z'
    · by_cases hb : b = a
      · exact hb
      · exact absurd (if_neg hb) z
end L2

namespace L2
open PySem PySem.Spec PyProof.Rows

abbrev KOf {K : PySem.W.Frag} {h : Heap} (_ : K.In h) : PySem.W.Frag := K

/-- the goal that k_head leaves (case hc), from the law's promise. F gives the function object fd (K's own) once, then the promise over every base -/
theorem walk_of {l : PySem.W.OpenLaw} {n k : Nat} {q : Program} {loose : List Str} {XP : (Str → Option Value) → Heap → Prop} {YP : World → Heap → Prop} {d : DefRec} {K : Params → PySem.W.Frag} {CX : World → CXT} {sp : World → Sp} {x : Str}
    (hn : l.most = some n) (hn2 : n ≤ sizeLine) (hdf : d.params.defaults = []) (hr : Room k callerA)
    (hY : ∀ (w : World) (h : Heap), YP w h → (K w.params).In h)
    (F : ∀ (w : World) (mg : Str → Option Value) (fa : Addr) (h : Heap), (K w.params).In h → h.Ns mainGlobals mg → mg d.name = some (.ref fa) →
      ∃ fd : FuncData, (∀ (s : Shared) (u : Value), BindsTo s fd ⟨[u], []⟩ [(x, u)]) ∧
        ∀ base : Heap, (K w.params).In base → base.Ns mainGlobals mg → FnOk l.prog w (K w.params) mg base (CX w) k fa fd [x] (sp w))
    (hsp : ∀ (w : World) (H : Hp) (a : Addr) (ns : List Int), ns.length ≤ n → Only H → SqL (K w.params) H a (ns.map V.int) → sp w [.ref a] H (fun v _ => v = .bl true) fun _ _ _ => False)
    (hCX : ∀ (w : World) (H : Hp) (s : Shared) (e : Value) (s' : Shared), CX w [] H s (fun _ _ _ => False) e s' → False) :
    PySem.W.WalkO q loose XP YP l.row.toRowW d [] (fun f vs => PySem.call f vs) := by
  refine Att.attach_call hn hdf fun w s₀ s₁ mg mb fa o pm cd doc a vs ns G Y ho hd hcd hmg hobj hints hlen hg => ?_
  have KX := hY w _ Y
  obtain ⟨fd, hb, hF⟩ := F w mg fa _ KX G.T.g hmg
  exact law_call KX G.T.g G.T.b G.T.builtins G.T.nolimit hg hobj hints (Nat.le_trans hlen hn2) hr hF hb (fun H hO hS => hsp w H a ns hlen hO hS) fun H e s' => hCX w H s₁ e s'
/-- the same where the promise hangs on the written part alone: (sp := My.sp_law), no hole under a binder -/
theorem walk_ofK {l : PySem.W.OpenLaw} {n k : Nat} {q : Program} {loose : List Str} {XP : (Str → Option Value) → Heap → Prop} {YP : World → Heap → Prop} {d : DefRec} {K : Params → PySem.W.Frag} {CX : CXT} {sp : PySem.W.Frag → Sp} {x : Str}
    (hn : l.most = some n) (hn2 : n ≤ sizeLine) (hdf : d.params.defaults = []) (hr : Room k callerA)
    (hY : ∀ (w : World) (h : Heap), YP w h → (K w.params).In h)
    (F : ∀ (w : World) (mg : Str → Option Value) (fa : Addr) (h : Heap), (K w.params).In h → h.Ns mainGlobals mg → mg d.name = some (.ref fa) →
      ∃ fd : FuncData, (∀ (s : Shared) (u : Value), BindsTo s fd ⟨[u], []⟩ [(x, u)]) ∧
        ∀ base : Heap, (K w.params).In base → base.Ns mainGlobals mg → FnOk l.prog w (K w.params) mg base CX k fa fd [x] (sp (K w.params)))
    (hsp : ∀ (K : PySem.W.Frag) (H : Hp) (a : Addr) (ns : List Int), ns.length ≤ n → Only H → SqL K H a (ns.map V.int) → sp K [.ref a] H (fun v _ => v = .bl true) fun _ _ _ => False)
    (hCX : ∀ (H : Hp) (s : Shared) (e : Value) (s' : Shared), CX [] H s (fun _ _ _ => False) e s' → False) :
    PySem.W.WalkO q loose XP YP l.row.toRowW d [] (fun f vs => PySem.call f vs) :=
  walk_of (K := K) (CX := fun _ => CX) (sp := fun w => sp (K w.params)) hn hn2 hdf hr hY F (fun w H a ns h1 h2 h3 => hsp (K w.params) H a ns h1 h2 h3) fun _ H s e s' => hCX H s e s'
end L2

/-! SHORT WORDS over the layer: a def of the text, its body, what a loop and a test want. -/
namespace L2
open PySem PySem.Spec PyProof.Rows

/-! ### the text by places -/
/-- the j-th statement of a class's body -/
def inClass (s : Stmt) (j : Nat) : Stmt := match s with
  | .ClassDef _ _ _ body _ _ _ _ _ _ _ => body.getD j (.Pass ⟨0, 0, 0, 0⟩)
  | _ => .Pass ⟨0, 0, 0, 0⟩
def defArgs (s : Stmt) : Arguments := match s with
  | .FunctionDef _ a _ _ _ _ _ _ _ _ => a
  | _ => { posonlyargs := [], args := [], vararg := none, kwonlyargs := [], kw_defaults := [], kwarg := none, defaults := [] }
def defBody (s : Stmt) : List Stmt := match s with
  | .FunctionDef _ _ b _ _ _ _ _ _ _ => b
  | _ => []
def defScope (s : Stmt) : Scope := match s with
  | .FunctionDef _ _ _ _ _ _ sc _ _ _ => sc
  | _ => { kind := .function, names := [], isGenerator := false, isCoroutine := false }

/-! ### no exception leaves a def -/
abbrev CX0 : CXT := fun _ _ _ _ _ _ => False
abbrev E0 : XK := fun _ _ _ => False
theorem pass0 {X : Cx} : Passes CX0 X E0 := fun _ _ _ _ _ _ _ h => h.elim

/-! ### a def (or method) of the text as it stands behind the top -/
structure Fun (K : PySem.W.Frag) (x qual : Str) (st : Stmt) (f : Addr) (fd : FuncData) : Prop where
  ex : ∃ (oc : Value) (od : Option Addr) (kV doc pm : Value) (an : Option Addr) (cdv ct : Value) (osl : Array (Option Value)),
    fd = PySem.W.fnOf x qual (defArgs st) (defBody st) (defScope st) .none kV doc pm an cdv ct ∧ K.lookup f = some ⟨oc, od, .func fd, osl⟩ ∧ PySem.W.codeIn K cdv qual = true
  kp : PySem.W.keepIn K (.ref f) = true
section
variable {P : Program} {w : World} {K : PySem.W.Frag} {mg : Str → Option Value} {base : Heap}
/-- THE RULE for a def: its body as a term of rules, and the reading of that term -/
theorem Fun.ok {x qual : Str} {st : Stmt} {f : Addr} {fd : FuncData} {N ps : List Str} {k : Nat} {sp : Sp} (F : Fun K x qual st f fd) (S : FnScope N ps (defScope st)) (len : ∀ vs H Q E, sp vs H Q E → vs.length = ps.length)
    (hbody : ∀ (cdv : Value) (A : Around) (outer : List Env) (s : Shared) (H : Hp) (vs : List V) (Q : VK) (E : XK), Room k (A.deeper (envOfC qual (defScope st) s.heap.objs.size f cdv)) → sp vs H Q E →
      ∃ t, PSs (cxOf CX0 P w K mg base N qual (defScope st) f cdv A outer s H E).nox (defBody st) t ∧ t { nx := fun _ H' => Q .non H', rt := Q } (start N vs) H) : FnOk P w K mg base CX0 (k + 1) f fd ps sp := by
  obtain ⟨oc, od, kV, doc, pm, an, cdv, ct, osl, rfl, lk, hcd⟩ := F.ex
  refine fn_of lk hcd S len fun A outer s H vs Q E hr hsp => ?_
  obtain ⟨t, h, q⟩ := hbody cdv A outer s H vs Q E hr hsp
  exact ⟨t, h.nox, q⟩
/-- how its arguments bind (no defaults): h is «fun _ _ _ _ _ _ us hl => match us, hl with | [_, _], _ => rfl», one _ a parameter -/
theorem Fun.binds {x qual : Str} {st : Stmt} {f : Addr} {fd : FuncData} {ps : List Str} (F : Fun K x qual st f fd)
    (h : ∀ (kV doc pm : Value) (an : Option Addr) (cdv ct : Value) (us : List Value), us.length = ps.length → bindArgs (PySem.W.fnOf x qual (defArgs st) (defBody st) (defScope st) .none kV doc pm an cdv ct) ⟨us, []⟩ = pure (ps.zip us)) : Binds K fd ps [] := by
  obtain ⟨oc, od, kV, doc, pm, an, cdv, ct, osl, rfl, lk, hcd⟩ := F.ex
  exact .all (h kV doc pm an cdv ct)
theorem fun_mk {x qual : Str} {st : Stmt} {f : Addr} {oc : Value} {od an : Option Addr} {osl : Array (Option Value)} {kV doc pm cdv ct : Value} (l : K.lookup f = some ⟨oc, od, .func (PySem.W.fnOf x qual (defArgs st) (defBody st) (defScope st) .none kV doc pm an cdv ct), osl⟩)
    (c : PySem.W.codeIn K cdv qual = true) (k : PySem.W.keepIn K (.ref f) = true) : Fun K x qual st f (PySem.W.fnOf x qual (defArgs st) (defBody st) (defScope st) .none kV doc pm an cdv ct) := ⟨⟨oc, od, kV, doc, pm, an, cdv, ct, osl, rfl, l, c⟩, k⟩
end
theorem hu_of {A : Around} {k : Nat} (hr : Room k A) : A.units + 1 < cLine := Nat.lt_of_le_of_lt (Nat.add_le_add_left (by decide : 1 ≤ 64) _) hr.units
theorem small1000 {n : Nat} (h : n ≤ 1000) : n < sizeLine := Nat.lt_of_le_of_lt h (by decide)

/-! ### expressions in short: the name that stands in the i-th slot -/
section
variable {X : Cx}
theorem pv (i : Nat) {x : Str} {pos : Pos} (hN : X.N[i]? = some x := by rfl) (hv : Vis X.env.scope x := by first | exact Or.inl rfl | exact Or.inr (Or.inl rfl) | exact Or.inr (Or.inr rfl)) (hd : (x == ("__debug__" : Str)) = false := by decide)
    (hcd : (x == ("__classdict__" : Str)) = false := by decide) : PE X (.Name x pos) (tVar i) := pe_var hN hv hd hcd
end

/-! ### tests -/
theorem iteF {A B : Prop} (h : B) : if false = true then A else B := by
  rw [if_neg Bool.false_ne_true]
  exact h
theorem iteT {A B : Prop} (h : A) : if true = true then A else B := by
  rw [if_pos rfl]
  exact h
theorem ite2 {c A B : Prop} [Decidable c] (h1 : c → A) (h2 : ¬ c → B) : if c then A else B := by
  by_cases h : c
  · rw [if_pos h]
    exact h1 h
  · rw [if_neg h]
    exact h2 h
theorem iteNS {c A B : Prop} [Decidable c] (hc : c) (h : B) : if (!decide c) = true then A else B := by
  rw [decide_eq_true hc]
  exact iteF h

/-! ### heaps -/
/-- all that was tracked is as it was -/
def Same (H H' : Hp) : Prop := ∀ b o, H b = some o → H' b = some o
theorem Same.refl (H : Hp) : Same H H := fun _ _ h => h
theorem Same.trans {H H1 H2 : Hp} (a : Same H H1) (b : Same H1 H2) : Same H H2 := fun c o h => b c o (a c o h)
theorem Same.free {H H' : Hp} (e : Same H H') {l : Addr} (h : H' l = Option.none) : H l = Option.none := by
  cases q : H l with
  | none => rfl
  | some o =>
    rw [e l o q] at h
    cases h
theorem Same.seq {K : PySem.W.Frag} {H H' : Hp} {a : Addr} {xs : List V} (e : Same H H') (h : SqL K H a xs) : SqL K H' a xs := by
  rcases h with (h | ⟨o, h⟩) | h
  · exact .inl (.inl (e _ _ h))
  · exact .inl (.inr ⟨o, e _ _ h⟩)
  · exact .inr h

/-! ### lists -/
theorem at_of {xs : List V} {z : Int} {j : Nat} {v : V} (e : z = (j : Int)) (h : xs[j]? = some v) : atI xs z = some v := by
  rw [e]
  exact atI_nat h
theorem nd_ix {α : Type} {l : List α} (hN : l.Nodup) {i j : Nat} {x : α} (a : l[i]? = some x) (b : l[j]? = some x) : i = j := by
  obtain ⟨h1, e1⟩ := List.getElem?_eq_some_iff.mp a
  obtain ⟨h2, e2⟩ := List.getElem?_eq_some_iff.mp b
  exact (List.getElem_inj hN).mp (e1.trans e2.symm)
theorem sum_set : ∀ {l : List Int} {j : Nat} {z y : Int}, l[j]? = some z → (l.set j y).sum = l.sum - z + y
  | [], j, z, y, h => by simp at h
  | a :: r, 0, z, y, h => by
    have e : a = z := Option.some.inj h
    subst e
    show (y :: r).sum = (a :: r).sum - a + y
    rw [List.sum_cons, List.sum_cons]
    omega
  | a :: r, j + 1, z, y, h => by
    have ih := sum_set (l := r) (j := j) (z := z) (y := y) h
    show (a :: r.set j y).sum = (a :: r).sum - z + y
    rw [List.sum_cons, List.sum_cons, ih]
    omega
theorem sum_take : ∀ {l : List Int} {i : Nat} {z : Int}, l[i]? = some z → (l.take (i + 1)).sum = (l.take i).sum + z
  | [], i, z, h => by simp at h
  | a :: r, 0, z, h => by
    have e : a = z := Option.some.inj h
    subst e
    show ([a] : List Int).sum = ([] : List Int).sum + a
    rw [List.sum_cons]
    exact Int.add_comm _ _
  | a :: r, i + 1, z, h => by
    have ih := sum_take (l := r) (i := i) (z := z) h
    show (a :: r.take (i + 1)).sum = (a :: r.take i).sum + z
    rw [List.sum_cons, List.sum_cons, ih]
    omega
/-- a new instance and its __init__ leave all that was tracked as it was -/
theorem Same.made {H H1 : Hp} {x dx C : Addr} (nx : H x = Option.none) (nd : H dx = Option.none) (k : ∀ b o, (upd (upd H dx (.own x)) x (.ins C dx [])) b = some o → b ≠ x → H1 b = some o) : Same H H1 := fun b o e =>
  k b o (by rw [upd_ne (ne_of_none e nx), upd_ne (ne_of_none e nd)]; exact e) (ne_of_none e nx)
end L2
namespace L2
open PySem PySem.Spec PyProof.Rows
/-- the element of a subscription, not a slice -/
def NoSl (i : Expr) : Prop := ∀ ov iv, subscripted i false ov iv = operate [ov, iv] (getItem ov iv)
theorem subD_of {prog : Program} {w : World} {A : Around} {E : Value → Shared → Prop} {s : Shared} {env : Env} {value slice : Expr} {pos : Pos} {T id : String} {Q : Value → Shared → Prop}
    (hl : typeLookup (.type T) "__getitem__" = pure (some (.builtin id))) (hs : NoSl slice)
    (h : wpAny (model prog w) A (eval value env) (fun o s₁ => wpAny (model prog w) A (eval slice env) (fun i s₂ => s₂.TypeIs o T ∧ wpAny (model prog w) A (getItem o i) Q E s₂) E s₁) E s) :
    wpAny (model prog w) A (eval (.Subscript value slice pos) env) Q E s := by
  refine Subscript_ (wpAny_mono h (fun o s₁ h₁ => wpAny_mono h₁ (fun i s₂ h₂ => ?_) fun _ _ x => x) fun _ _ x => x)
  obtain ⟨hT, h₂⟩ := h₂
  unfold subscriptTail
  refine wpAny_bind ?_
  rw [getitemInPython_of_ne hT.not_modules]
  refine wpAny_bind (wpAny_specialOf hT hl ?_)
  have fin : wpAny (model prog w) A (subscripted slice false o i) (fun r s₃ => wpAny (model prog w) A (letTemporaryGo value o r >>= fun _ => pure r) Q E s₃) E s₂ := by
    rw [hs o i]
    exact wpAny_operating (wpAny_mono h₂ (fun r s₃ h₃ => wpAny_bind (wpAny_letTemporaryGo (wpAny_pure h₃))) fun _ _ x => x)
  first
    | exact wpAny_pure (wpAny_bind fin)
    | exact wpAny_bind (wpAny_pure (wpAny_bind fin))
    | exact wpAny_bind fin
end L2
section
set_option Elab.async false
set_option linter.all false
set_option maxRecDepth 100000
set_option maxHeartbeats 2000000
namespace L2
open PySem PySem.Spec PyProof.Rows
open PySem.W (WData Codec OpenSpec Well WellAll ReadsW ReadsAllW)
/-! ### an answer as data -/
mutual
/-- x stands for the datum d, lists and tuples all the way -/
inductive Dw (K : PySem.W.Frag) (H : Hp) : V → WData → Prop
  | non : Dw K H .non .none
  | bl (b : Bool) : Dw K H (.bl b) (.bool b)
  | int (i : Int) : Dw K H (.int i) (.int i)
  | str (x : Str) : Dw K H (.str x) (.str x)
  | byt (b : Array UInt8) : Dw K H (.byt b) (.bytes b.toList)
  | lst {a : Addr} {xs : List V} {ds : List WData} : SqL K H a xs → DwAll K H xs ds → Dw K H (.ref a) (.list ds)
  | tup {a : Addr} {xs : List V} {ds : List WData} : SqT K H a xs → DwAll K H xs ds → Dw K H (.ref a) (.tuple ds)
inductive DwAll (K : PySem.W.Frag) (H : Hp) : List V → List WData → Prop
  | nil : DwAll K H [] []
  | cons {v : V} {vs : List V} {d : WData} {ds : List WData} : Dw K H v d → DwAll K H vs ds → DwAll K H (v :: vs) (d :: ds)
end
theorem dw_ints {K : PySem.W.Frag} {H : Hp} : ∀ ns : List Int, DwAll K H (ns.map V.int) (ns.map WData.int)
  | [] => .nil
  | n :: r => .cons (.int n) (dw_ints r)
theorem ints_dw {K : PySem.W.Frag} {H : Hp} : ∀ (ns : List Int) (xs : List V), DwAll K H xs (ns.map WData.int) → xs = ns.map V.int
  | [], xs, h => by
    cases h
    rfl
  | n :: r, xs, h => by
    cases h with
    | cons h1 h2 =>
      cases h1
      rw [ints_dw r _ h2] <;> rfl
section
variable {P : Program} {w : World} {K : PySem.W.Frag} {H : Hp} {h : Heap} {R : PySem.W.WRecords} {cl : Str → Option Addr}
theorem sqL_at {a : Addr} {xs : List V} (hok : HOk P w H h) (KX : K.In h) (q : SqL K H a xs) : ∃ (its : List Value) (o : Obj) (n : Nat), Vals xs its ∧ h.get? a = some o ∧ o.cls = .type "list" ∧ o.data = .seq its.toArray n := by
  rcases q with q | ⟨o, its, n, e, hc, _, hd, _, hv⟩
  · obtain ⟨_, its, n, hv, e⟩ := (show ObjOk P w H h a (.lst xs) from q.ok hok)
    exact ⟨its, _, n, hv, e, rfl, rfl⟩
  · exact ⟨its.toList, o, n, hv, KX _ _ e, hc, by simp [hd]⟩
theorem sqT_at {a : Addr} {xs : List V} (hok : HOk P w H h) (KX : K.In h) (q : SqT K H a xs) : ∃ (its : List Value) (o : Obj) (n : Nat), Vals xs its ∧ h.get? a = some o ∧ o.cls = .type "tuple" ∧ o.data = .seq its.toArray n := by
  rcases q with q | ⟨o, its, n, e, hc, hd, _, hv⟩
  · obtain ⟨_, its, hv, o, e, hc, n, hd⟩ := (show ObjOk P w H h a (.tup xs) from q.ok hok)
    exact ⟨its, o, n, hv, e, hc, hd⟩
  · exact ⟨its.toList, o, n, hv, KX _ _ e, hc, by simp [hd]⟩
mutual
theorem Dw.reads (hok : HOk P w H h) (KX : K.In h) : ∀ (d : WData) (v : V) (u : Value), Dw K H v d → RelV v u → ∃ as, ReadsW R cl h u d as
  | .none, _, _, x, r => by
    cases x
    cases r
    exact ⟨_, ReadsW.none⟩
  | .bool b, _, _, x, r => by
    cases x
    cases r
    exact ⟨_, ReadsW.bool b⟩
  | .int i, _, _, x, r => by
    cases x
    obtain ⟨t, rfl⟩ := r
    exact ⟨_, ReadsW.int i t⟩
  | .str s, _, _, x, r => by
    cases x
    obtain ⟨t, rfl⟩ := r
    exact ⟨_, ReadsW.str s t⟩
  | .bytes b, _, _, x, r => by
    cases x
    obtain ⟨t, rfl⟩ := r
    exact ⟨_, ReadsW.bytes _ t⟩
  | .list ds, _, _, x, r => by
    cases x with
    | lst hs ha =>
      cases r
      obtain ⟨its, o, n, rv, ho, hc, hd⟩ := sqL_at hok KX hs
      obtain ⟨as, hr⟩ := Dw.readsAll hok KX ds _ its ha rv
      exact ⟨_, ReadsW.list ho hc hd hr⟩
  | .tuple ds, _, _, x, r => by
    cases x with
    | tup hs ha =>
      cases r
      obtain ⟨its, o, n, rv, ho, hc, hd⟩ := sqT_at hok KX hs
      obtain ⟨as, hr⟩ := Dw.readsAll hok KX ds _ its ha rv
      exact ⟨_, ReadsW.tuple ho hc hd hr⟩
  | .float _, _, _, x, _ => by cases x
  | .dict _, _, _, x, _ => by cases x
  | .bytearray _, _, _, x, _ => by cases x
  | .set _, _, _, x, _ => by cases x
  | .frozenset _, _, _, x, _ => by cases x
  | .obj _ _, _, _, x, _ => by cases x
theorem Dw.readsAll (hok : HOk P w H h) (KX : K.In h) : ∀ (ds : List WData) (vs : List V) (us : List Value), DwAll K H vs ds → Vals vs us → ∃ as, ReadsAllW R cl h us ds as
  | [], _, _, x, r => by
    cases x
    cases r
    exact ⟨_, ReadsAllW.nil⟩
  | d :: ds, _, _, x, r => by
    cases x with
    | cons h1 h2 =>
      cases r with
      | cons r1 r2 =>
        obtain ⟨as, q1⟩ := Dw.reads hok KX d _ _ h1 r1
        obtain ⟨bs, q2⟩ := Dw.readsAll hok KX ds _ _ h2 r2
        exact ⟨_, ReadsAllW.cons q1 q2⟩
end
end
/-! ### the arguments -/
mutual
/-- data that a codec tells -/
def plW : WData → Bool
  | .none => true
  | .bool _ => true
  | .int _ => true
  | .str _ => true
  | .bytes _ => true
  | .list xs => plWs xs
  | .tuple xs => plWs xs
  | _ => false
def plWs : List WData → Bool
  | [] => true
  | x :: r => plW x && plWs r
end
theorem plWs_map {α : Type} {f : α → WData} (h : ∀ a, plW (f a) = true) : ∀ l : List α, plWs (l.map f) = true
  | [] => rfl
  | x :: r => by
    show (plW (f x) && plWs (r.map f)) = true
    rw [h x, plWs_map h r] <;> rfl
theorem pl_enc : ∀ (c : Codec) (a : c.denote), plW (c.enc a) = true
  | .unit, _ => rfl
  | .bool, _ => rfl
  | .int _ _, _ => rfl
  | .nat _ _, _ => rfl
  | .u8, _ => rfl
  | .bytes _ _, _ => rfl
  | .text _ _ _ _, _ => rfl
  | .list _ _ c, a => plWs_map (fun x => pl_enc c x) a
  | .pair c d, a => by
    show (plW (c.enc a.1) && (plW (d.enc a.2) && true)) = true
    rw [pl_enc c a.1, pl_enc d a.2] <;> rfl
  | .triple c d e, a => by
    show (plW (c.enc a.1) && (plW (d.enc a.2.1) && (plW (e.enc a.2.2) && true))) = true
    rw [pl_enc c a.1, pl_enc d a.2.1, pl_enc e a.2.2] <;> rfl
  | .option c, none => rfl
  | .option c, some x => pl_enc c x
theorem pl_encAll : ∀ (cs : List Codec) (a : Codec.denoteAll cs), plWs (Codec.encAll cs a) = true
  | [], _ => rfl
  | c :: cs, a => by
    show (plW (c.enc a.1) && plWs (Codec.encAll cs a.2)) = true
    rw [pl_enc c a.1, pl_encAll cs a.2] <;> rfl
theorem weight_mem : ∀ {xs : List WData} {d : WData}, d ∈ xs → d.weight ≤ WData.weightAll xs
  | [], d, h => absurd h (by simp)
  | x :: r, d, h => by
    show d.weight ≤ x.weight + 1 + WData.weightAll r
    rcases List.mem_cons.mp h with e | m
    · rw [e]
      omega
    · have z := weight_mem m
      omega
def toV : Value → V
  | .none => .non
  | .bool b => .bl b
  | .int i _ => .int i
  | .str x _ => .str x
  | .bytes b _ => .byt b
  | .ref a => .ref a
  | _ => .non
/-- a value of the arguments, its objects among A -/
def OkU (A : List Addr) : Value → Prop
  | .none => True
  | .bool _ => True
  | .int _ _ => True
  | .str _ _ => True
  | .bytes _ _ => True
  | .ref a => a ∈ A
  | _ => False
theorem OkU.mono {A B : List Addr} (h : ∀ a ∈ A, a ∈ B) : ∀ {u : Value}, OkU A u → OkU B u := fun {u} x => by
  cases u with
  | ref a => exact h a x
  | none => trivial
  | bool b => trivial
  | int i t => trivial
  | str s t => trivial
  | bytes b t => trivial
  | _ => exact False.elim x
theorem relV_toV {A : List Addr} {u : Value} (x : OkU A u) : RelV (toV u) u := by
  cases u with
  | ref a => rfl
  | none => rfl
  | bool b => rfl
  | int i t => exact ⟨t, rfl⟩
  | str s t => exact ⟨t, rfl⟩
  | bytes b t => exact ⟨t, rfl⟩
  | _ => exact False.elim x
theorem vals_toV {A : List Addr} : ∀ {vs : List Value}, (∀ u ∈ vs, OkU A u) → Vals (vs.map toV) vs
  | [], _ => .nil
  | u :: r, h => .cons (relV_toV (h u (List.mem_cons_self ..))) (vals_toV fun x hx => h x (List.mem_cons_of_mem _ hx))
/-- an object of the arguments -/
def ArgOb (h : Heap) (A : List Addr) (a : Addr) : Prop := ∃ vs : List Value, vs.length ≤ sizeLine ∧ (∀ u ∈ vs, OkU A u) ∧
  (h.get? a = some { cls := .type "list", data := .seq vs.toArray } ∨ h.get? a = some { cls := .type "tuple", data := .seq vs.toArray })
theorem ArgOb.mono {h : Heap} {A B : List Addr} {a : Addr} (k : ∀ a ∈ A, a ∈ B) (x : ArgOb h A a) : ArgOb h B a := by
  obtain ⟨vs, h1, h2, h3⟩ := x
  exact ⟨vs, h1, fun u hu => (h2 u hu).mono k, h3⟩
theorem wellAll_len {P : Params} {h : Heap} : ∀ {vs : List Value} {ds : List WData}, WellAll P h vs ds → vs.length = ds.length
  | _, _, .nil => rfl
  | _, _, .cons _ b => by
    show _ + 1 = _ + 1
    rw [wellAll_len b]
theorem well_list {P : Params} {h : Heap} {v : Value} {ds : List WData} (x : Well P h v (.list ds)) : ∃ (a : Addr) (vs : List Value), v = .ref a ∧ h.get? a = some { cls := .type "list", data := .seq vs.toArray } ∧ WellAll P h vs ds := by
  cases x with
  | list ho hall => exact ⟨_, _, rfl, ho, hall⟩
theorem well_tuple {P : Params} {h : Heap} {v : Value} {ds : List WData} (x : Well P h v (.tuple ds)) : ∃ (a : Addr) (vs : List Value), v = .ref a ∧ h.get? a = some { cls := .type "tuple", data := .seq vs.toArray } ∧ WellAll P h vs ds := by
  cases x with
  | tuple ho hall => exact ⟨_, _, rfl, ho, hall⟩
theorem well_cons {P : Params} {h : Heap} {us : List Value} {d : WData} {ds : List WData} (x : WellAll P h us (d :: ds)) : ∃ (v : Value) (vs : List Value), us = v :: vs ∧ Well P h v d ∧ WellAll P h vs ds := by
  cases x with
  | cons a b => exact ⟨_, _, rfl, a, b⟩
theorem line_of {n : Nat} (h : n ≤ 1048576) : n ≤ sizeLine := Nat.le_trans h (by decide)
section
variable {P : Params} {h : Heap}
mutual
theorem area_one : ∀ (d : WData) (v : Value), Well P h v d → plW d = true → d.weight ≤ 1048576 → ∃ A : List Addr, OkU A v ∧ ∀ a ∈ A, ArgOb h A a
  | .none, _, x, _, _ => by
    cases x
    exact ⟨[], trivial, fun a m => absurd m (by simp)⟩
  | .bool b, _, x, _, _ => by
    cases x
    exact ⟨[], trivial, fun a m => absurd m (by simp)⟩
  | .int i, _, x, _, _ => by
    cases x
    exact ⟨[], trivial, fun a m => absurd m (by simp)⟩
  | .str s, _, x, _, _ => by
    cases x
    exact ⟨[], trivial, fun a m => absurd m (by simp)⟩
  | .bytes b, _, x, _, _ => by
    cases x
    exact ⟨[], trivial, fun a m => absurd m (by simp)⟩
  | .list ds, _, x, p, z => by
    obtain ⟨a, vs, rfl, ho, hall⟩ := well_list x
    have z2 : WData.weightAll ds ≤ 1048576 := z
    obtain ⟨A, h1, h2⟩ := area_all ds _ hall p fun d hd => Nat.le_trans (weight_mem hd) z2
    have k : ∀ b ∈ A, b ∈ a :: A := fun b hb => List.mem_cons_of_mem _ hb
    refine ⟨a :: A, List.mem_cons_self .., fun b hb => ?_⟩
    rcases List.mem_cons.mp hb with e | m
    · rw [e]
      exact ⟨vs, line_of (by rw [wellAll_len hall]; exact Nat.le_trans (PySem.W.length_le_weightAllW ds) z2), fun u hu => (h1 u hu).mono k, .inl ho⟩
    · exact (h2 b m).mono k
  | .tuple ds, _, x, p, z => by
    obtain ⟨a, vs, rfl, ho, hall⟩ := well_tuple x
    have z2 : WData.weightAll ds ≤ 1048576 := z
    obtain ⟨A, h1, h2⟩ := area_all ds _ hall p fun d hd => Nat.le_trans (weight_mem hd) z2
    have k : ∀ b ∈ A, b ∈ a :: A := fun b hb => List.mem_cons_of_mem _ hb
    refine ⟨a :: A, List.mem_cons_self .., fun b hb => ?_⟩
    rcases List.mem_cons.mp hb with e | m
    · rw [e]
      exact ⟨vs, line_of (by rw [wellAll_len hall]; exact Nat.le_trans (PySem.W.length_le_weightAllW ds) z2), fun u hu => (h1 u hu).mono k, .inr ho⟩
    · exact (h2 b m).mono k
  | .float _, _, _, p, _ => Bool.noConfusion (show false = true from p)
  | .dict _, _, _, p, _ => Bool.noConfusion (show false = true from p)
  | .bytearray _, _, _, p, _ => Bool.noConfusion (show false = true from p)
  | .set _, _, _, p, _ => Bool.noConfusion (show false = true from p)
  | .frozenset _, _, _, p, _ => Bool.noConfusion (show false = true from p)
  | .obj _ _, _, _, p, _ => Bool.noConfusion (show false = true from p)
theorem area_all : ∀ (ds : List WData) (vs : List Value), WellAll P h vs ds → plWs ds = true → (∀ d ∈ ds, d.weight ≤ 1048576) → ∃ A : List Addr, (∀ u ∈ vs, OkU A u) ∧ ∀ a ∈ A, ArgOb h A a
  | [], _, x, _, _ => by
    cases x
    exact ⟨[], fun u m => absurd m (by simp), fun a m => absurd m (by simp)⟩
  | d :: ds, _, x, p, z => by
    obtain ⟨v, vs, rfl, x1, x2⟩ := well_cons x
    have q : plW d = true ∧ plWs ds = true := Bool.and_eq_true_iff.mp p
    obtain ⟨A, a1, a2⟩ := area_one d v x1 q.1 (z d (List.mem_cons_self ..))
    obtain ⟨B, b1, b2⟩ := area_all ds vs x2 q.2 fun e he => z e (List.mem_cons_of_mem _ he)
    have kA : ∀ b ∈ A, b ∈ A ++ B := fun b hb => List.mem_append.mpr (.inl hb)
    have kB : ∀ b ∈ B, b ∈ A ++ B := fun b hb => List.mem_append.mpr (.inr hb)
    refine ⟨A ++ B, fun u hu => ?_, fun b hb => ?_⟩
    · rcases List.mem_cons.mp hu with e | m
      · rw [e]
        exact a1.mono kA
      · exact (b1 u m).mono kB
    · rcases List.mem_append.mp hb with m | m
      · exact (a2 b m).mono kA
      · exact (b2 b m).mono kB
end
end
/-- what is tracked of an argument's object -/
def hoOf (o : Obj) : Option HO := match o.data with
  | .seq vs _ => if (o.cls == Value.type "list") = true then some (.frz o (.lst (vs.toList.map toV))) else some (.frz o (.tup (vs.toList.map toV)))
  | _ => none
def argH (K : PySem.W.Frag) (h : Heap) (A : List Addr) : Hp := fun b => if b ∈ A then (if (K.lookup b).isNone = true then (h.get? b).bind hoOf else none) else none
/-- nothing is tracked but what is known to the object -/
def OnlyF (H : Hp) : Prop := ∀ b, H b = none ∨ ∃ o u, H b = some (.frz o u)
theorem hoOf_lst (vs : List Value) : hoOf { cls := .type "list", data := .seq vs.toArray } = some (.frz { cls := .type "list", data := .seq vs.toArray } (.lst (vs.map toV))) := by
  show (if (Value.type "list" == Value.type "list") = true then some (HO.frz { cls := .type "list", data := .seq vs.toArray } (.lst (vs.toArray.toList.map toV))) else some (HO.frz { cls := .type "list", data := .seq vs.toArray } (.tup (vs.toArray.toList.map toV)))) = _
  rw [if_pos (beq_self_eq_true _)]
theorem hoOf_tup (vs : List Value) : hoOf { cls := .type "tuple", data := .seq vs.toArray } = some (.frz { cls := .type "tuple", data := .seq vs.toArray } (.tup (vs.map toV))) := by
  show (if (Value.type "tuple" == Value.type "list") = true then some (HO.frz { cls := .type "tuple", data := .seq vs.toArray } (.lst (vs.toArray.toList.map toV))) else some (HO.frz { cls := .type "tuple", data := .seq vs.toArray } (.tup (vs.toArray.toList.map toV)))) = _
  rw [if_neg (by decide)]
section
variable {P : Program} {w : World} {K : PySem.W.Frag} {h : Heap} {A : List Addr}
theorem argH_at {b : Addr} {o : Obj} (hb : b ∈ A) (hk : K.lookup b = none) (e : h.get? b = some o) : argH K h A b = hoOf o := by
  unfold argH
  rw [if_pos hb, hk, if_pos (show (none : Option Obj).isNone = true from rfl), e] <;> rfl
theorem of_argH {b : Addr} {u : HO} (q : argH K h A b = some u) : b ∈ A ∧ K.lookup b = none := by
  unfold argH at q
  by_cases hb : b ∈ A
  · rw [if_pos hb] at q
    cases hk : K.lookup b with
    | none => exact ⟨hb, rfl⟩
    | some o =>
      rw [hk, if_neg (by simp)] at q
      cases q
  · rw [if_neg hb] at q
    cases q
/-- what stands tracked -/
theorem argH_is (ar : ∀ a ∈ A, ArgOb h A a) {b : Addr} {u : HO} (q : argH K h A b = some u) : K.lookup b = none ∧ ∃ vs : List Value, vs.length ≤ sizeLine ∧ (∀ u ∈ vs, OkU A u) ∧
    ((h.get? b = some { cls := .type "list", data := .seq vs.toArray } ∧ u = .frz { cls := .type "list", data := .seq vs.toArray } (.lst (vs.map toV))) ∨
     (h.get? b = some { cls := .type "tuple", data := .seq vs.toArray } ∧ u = .frz { cls := .type "tuple", data := .seq vs.toArray } (.tup (vs.map toV)))) := by
  obtain ⟨hb, hk⟩ := of_argH q
  obtain ⟨vs, h1, h2, h3⟩ := ar b hb
  refine ⟨hk, vs, h1, h2, ?_⟩
  rcases h3 with e | e
  · rw [argH_at hb hk e, hoOf_lst] at q
    exact .inl ⟨e, (Option.some.inj q).symm⟩
  · rw [argH_at hb hk e, hoOf_tup] at q
    exact .inr ⟨e, (Option.some.inj q).symm⟩
theorem argH_only (ar : ∀ a ∈ A, ArgOb h A a) : OnlyF (argH K h A) := fun b => by
  cases q : argH K h A b with
  | none => exact .inl rfl
  | some u =>
    obtain ⟨_, vs, _, _, ⟨_, e⟩ | ⟨_, e⟩⟩ := argH_is ar q
    · exact .inr ⟨_, _, by rw [e]⟩
    · exact .inr ⟨_, _, by rw [e]⟩
theorem argH_ok (ar : ∀ a ∈ A, ArgOb h A a) : HOk P w (argH K h A) h := fun b u q => by
  obtain ⟨_, vs, h1, h2, ⟨e, rfl⟩ | ⟨e, rfl⟩⟩ := argH_is ar q
  · exact ⟨e, by rw [List.length_map]; exact h1, vs, _, vals_toV h2, e⟩
  · exact ⟨e, by rw [List.length_map]; exact h1, vs, vals_toV h2, _, e, rfl, _, rfl⟩
theorem seq_inj {c c' : Value} {vs us : List Value} (e : (some { cls := c, data := .seq vs.toArray } : Option Obj) = some { cls := c', data := .seq us.toArray }) : c = c' ∧ vs = us := by
  have e1 := Option.some.inj e
  have e2 : c = c' := congrArg Obj.cls e1
  have e3 : Data.seq vs.toArray = Data.seq us.toArray := congrArg Obj.data e1
  injection e3 with e4
  refine ⟨e2, ?_⟩
  have e5 := congrArg Array.toList e4
  simpa using e5
/-- a list argument -/
theorem argL (KX : K.In h) (ar : ∀ a ∈ A, ArgOb h A a) {a : Addr} {vs : List Value} (ha : a ∈ A) (e : h.get? a = some { cls := .type "list", data := .seq vs.toArray }) : (∀ u ∈ vs, OkU A u) ∧ SqL K (argH K h A) a (vs.map toV) := by
  obtain ⟨us, h1, h2, h3⟩ := ar a ha
  have hu : us = vs := by
    rcases h3 with q | q
    · rw [e] at q
      exact (seq_inj q).2.symm
    · rw [e] at q
      exact absurd (Value.type.inj (seq_inj q).1) (by decide)
  subst hu
  refine ⟨h2, ?_⟩
  cases hk : K.lookup a with
  | none => exact .inl (.inr ⟨_, by rw [argH_at ha hk e, hoOf_lst]⟩)
  | some o =>
    have e2 := KX a o hk
    rw [e] at e2
    obtain rfl := Option.some.inj e2
    exact .inr ⟨_, us.toArray, _, hk, rfl, rfl, rfl, by rw [List.size_toArray]; exact h1, by simpa using vals_toV h2⟩
theorem argT (KX : K.In h) (ar : ∀ a ∈ A, ArgOb h A a) {a : Addr} {vs : List Value} (ha : a ∈ A) (e : h.get? a = some { cls := .type "tuple", data := .seq vs.toArray }) : (∀ u ∈ vs, OkU A u) ∧ SqT K (argH K h A) a (vs.map toV) := by
  obtain ⟨us, h1, h2, h3⟩ := ar a ha
  have hu : us = vs := by
    rcases h3 with q | q
    · rw [e] at q
      exact absurd (Value.type.inj (seq_inj q).1) (by decide)
    · rw [e] at q
      exact (seq_inj q).2.symm
  subst hu
  refine ⟨h2, ?_⟩
  cases hk : K.lookup a with
  | none => exact .inl (.inr ⟨_, by rw [argH_at ha hk e, hoOf_tup]⟩)
  | some o =>
    have e2 := KX a o hk
    rw [e] at e2
    obtain rfl := Option.some.inj e2
    exact .inr ⟨_, us.toArray, _, hk, rfl, rfl, by rw [List.size_toArray]; exact h1, by simpa using vals_toV h2⟩
mutual
theorem dw_one {Pm : Params} (KX : K.In h) (ar : ∀ a ∈ A, ArgOb h A a) : ∀ (d : WData) (v : Value), Well Pm h v d → plW d = true → OkU A v → Dw K (argH K h A) (toV v) d
  | .none, _, x, _, _ => by
    cases x
    exact .non
  | .bool b, _, x, _, _ => by
    cases x
    exact .bl b
  | .int i, _, x, _, _ => by
    cases x
    exact .int i
  | .str s, _, x, _, _ => by
    cases x
    exact .str s
  | .bytes b, _, x, _, _ => by
    cases x
    have z := Dw.byt (K := K) (H := argH K h A) b.toArray
    exact z
  | .list ds, _, x, p, hu => by
    obtain ⟨a, vs, rfl, ho, hall⟩ := well_list x
    obtain ⟨h2, hs⟩ := argL KX ar hu ho
    exact .lst hs (dw_all KX ar ds _ hall p h2)
  | .tuple ds, _, x, p, hu => by
    obtain ⟨a, vs, rfl, ho, hall⟩ := well_tuple x
    obtain ⟨h2, hs⟩ := argT KX ar hu ho
    exact .tup hs (dw_all KX ar ds _ hall p h2)
  | .float _, _, _, p, _ => Bool.noConfusion (show false = true from p)
  | .dict _, _, _, p, _ => Bool.noConfusion (show false = true from p)
  | .bytearray _, _, _, p, _ => Bool.noConfusion (show false = true from p)
  | .set _, _, _, p, _ => Bool.noConfusion (show false = true from p)
  | .frozenset _, _, _, p, _ => Bool.noConfusion (show false = true from p)
  | .obj _ _, _, _, p, _ => Bool.noConfusion (show false = true from p)
theorem dw_all {Pm : Params} (KX : K.In h) (ar : ∀ a ∈ A, ArgOb h A a) : ∀ (ds : List WData) (vs : List Value), WellAll Pm h vs ds → plWs ds = true → (∀ u ∈ vs, OkU A u) → DwAll K (argH K h A) (vs.map toV) ds
  | [], _, x, _, _ => by
    cases x
    exact .nil
  | d :: ds, _, x, p, hu => by
    obtain ⟨v, vs, rfl, x1, x2⟩ := well_cons x
    have q : plW d = true ∧ plWs ds = true := Bool.and_eq_true_iff.mp p
    exact .cons (dw_one KX ar d v x1 q.1 (hu _ (List.mem_cons_self ..))) (dw_all KX ar ds vs x2 q.2 fun u m => hu u (List.mem_cons_of_mem _ m))
end
end
/-! ### the call -/
theorem spec_call {P : Program} {w : World} {K : PySem.W.Frag} {mg mb : Str → Option Value} {CX : CXT} {k : Nat} {fa : Addr} {fd : FuncData} {ps : List Str} {sp : Sp} {s₁ : Shared} {vals : List Value} {ds : List WData} {R : PySem.W.WRecords} {cl : Str → Option Addr} {d0 : WData}
    (KX : K.In s₁.heap) (hns : s₁.heap.Ns mainGlobals mg) (hb : s₁.heap.Ns builtinsNs mb) (hbb : ∀ x : Str, x ≠ "__name__" → mb x = bootBuiltins x) (hlim : s₁.heap.NoLimit) (hg : s₁.gens = #[])
    (hwl : WellAll w.params s₁.heap vals ds) (hpl : plWs ds = true) (hwt : ∀ d ∈ ds, d.weight ≤ 1048576) (hr : Room k callerA)
    (F : ∀ base : Heap, K.In base → base.Ns mainGlobals mg → FnOk P w K mg base CX k fa fd ps sp) (hbind : ∀ (s : Shared) (us : List Value), us.length = ps.length → BindsTo s fd ⟨us, []⟩ (ps.zip us)) (hlen : ds.length = ps.length)
    (hsp : ∀ (H : Hp) (xs : List V), OnlyF H → DwAll K H xs ds → sp xs H (fun v H' => Dw K H' v d0) fun _ _ _ => False)
    (hCX : ∀ H e s', CX [] H s₁ (fun _ _ _ => False) e s' → False) :
    codeAny (model P w) callerA (.call (.ref fa) ⟨vals, []⟩) (fun r s' => ∃ u as, r = .ok (.ret u) ∧ ReadsW R cl s'.heap u d0 as ∧ OldK s₁.heap s'.heap ∧ s'.os = s₁.os ∧ AllBare s'.gens) s₁ := by
  obtain ⟨A, ho, ar⟩ := area_all ds vals hwl hpl hwt
  have hO : OnlyF (argH K s₁.heap A) := argH_only ar
  have hok : HOk P w (argH K s₁.heap A) s₁.heap := argH_ok ar
  have hS := dw_all KX ar ds vals hwl hpl ho
  have hV := vals_toV ho
  have hK : ∀ b u, argH K s₁.heap A b = some u → K.lookup b = none := fun b u q => (argH_is ar q).1
  have noA : ∀ {b : Addr} {o : Obj} {es : Array DictEntry} {ep : Nat}, s₁.heap.get? b = some o → o.data = .dict es ep → argH K s₁.heap A b = none := fun {b o es ep} e d => by
    cases q : argH K s₁.heap A b with
    | none => rfl
    | some u =>
      obtain ⟨_, vs, _, _, ⟨e2, _⟩ | ⟨e2, _⟩⟩ := argH_is ar q
      · rw [e2] at e
        cases e
        have d' : Data.seq vs.toArray _ = Data.dict es ep := d
        cases d'
      · rw [e2] at e
        cases e
        have d' : Data.seq vs.toArray _ = Data.dict es ep := d
        cases d'
  generalize argH K s₁.heap A = H at hO hok hS hK noA
  have base_of : ∀ {b : Addr} {o : Obj}, s₁.heap.get? b = some o → H b = none → (hidT s₁.heap H).get? b = some o := fun e n => hidT_get e n
  have nsK : ∀ {b : Addr} {m : Str → Option Value}, s₁.heap.Ns b m → (hidT s₁.heap H).Ns b m := fun {b m} ⟨o, es, ep, e, d, r⟩ => ⟨o, es, ep, base_of e (noA e d), d, r⟩
  have nK : ∀ b o, K.lookup b = some o → H b = none := fun b o e => by
    cases q : H b with
    | none => rfl
    | some u =>
      rw [hK b u q] at e
      cases e
  have hKb : K.In (hidT s₁.heap H) := fun b o e => base_of (KX b o e) (nK b o e)
  have hM : Mod K mg (hidT s₁.heap H) := ⟨hKb, nsK hns, ⟨mb, nsK hb, hbb⟩, let ⟨mc, h1, h2⟩ := hlim; ⟨mc, nsK h1, h2⟩⟩
  have e0 : Env0 P w K mg (hidT s₁.heap H) callerA [] s₁ H := ⟨rfl, hM, fun b o e => of_hidT e, Nat.le_of_eq (hidT_size _ _), trivial, fun b hb => absurd (show b ∈ ([] : List Addr) from hb) (by simp), hok, .of_eq hg⟩
  have hl : vals.length = ps.length := by rw [wellAll_len hwl]; exact hlen
  refine codeAny_mono ((F _ hKb (nsK hns)).run callerA [] s₁ H ⟨vals, []⟩ vals (vals.map toV) _ _ hr e0 (hbind s₁ vals hl) hV (hsp H _ hO hS)) fun r s' x => ?_
  cases r with
  | error e => exact (hCX H e s' x).elim
  | ok fl =>
    cases fl with
    | next => exact False.elim x
    | brk => exact False.elim x
    | cont => exact False.elim x
    | ret u =>
      obtain ⟨v, H', os, bare, un, hok', r', q⟩ := x
      have kept : ∀ b o, s₁.heap.get? b = some o → s'.heap.get? b = some o := fun b o e => by
        cases q2 : H b with
        | none => exact un.keep b o e q2 (by intro z; exact absurd (show b ∈ ([] : List Addr) from z) (by simp)) (by simp)
        | some u2 =>
          rcases hO b with z | ⟨ob, u3, z⟩
          · rw [q2] at z
            cases z
          · have z2 := un.frzs b ob _ z
            obtain ⟨e1, _⟩ := hok b _ z
            obtain ⟨e2, _⟩ := hok' b _ z2
            rw [e] at e1
            cases e1
            exact e2
      have KX' : K.In s'.heap := fun b o e => kept b o (KX b o e)
      obtain ⟨as, hrd⟩ := Dw.reads (R := R) (cl := cl) hok' KX' d0 v u q r'
      exact ⟨u, as, rfl, hrd, OldK.of_keep kept, os, bare⟩
/-! ### the row -/
theorem layable_weight {ds : List WData} (h : WData.layableAll ds = true) : ∀ d ∈ ds, d.weight ≤ 1048576 := fun d hd =>
  (PySem.W.layableW_iff.mp (List.all_eq_true.mp h d hd)).2.2
theorem encAll_len : ∀ (cs : List Codec) (a : Codec.denoteAll cs), (Codec.encAll cs a).length = cs.length
  | [], _ => rfl
  | c :: cs, a => by
    show (Codec.encAll cs a.2).length + 1 = cs.length + 1
    rw [encAll_len cs a.2]
/-- the goal that k_headS leaves (case hc), from the promise of the row's def: whatever the arguments that the codecs let and the row asks for, the def gives what stands for enc (f ..) -/
theorem walk_spec {r : OpenSpec} {k : Nat} {q : Program} {loose : List Str} {XP : (Str → Option Value) → Heap → Prop} {YP : World → Heap → Prop} {d : DefRec} {K : Params → PySem.W.Frag} {CX : World → CXT} {ps : List Str} {sp : World → Sp}
    (hwell : r.wellSaid = true) (hdf : d.params.defaults = []) (hlen : r.args.length = ps.length) (hr : Room k callerA)
    (hY : ∀ (w : World) (h : Heap), YP w h → (K w.params).In h)
    (F : ∀ (w : World) (mg : Str → Option Value) (fa : Addr) (h : Heap), YP w h → (K w.params).In h → h.Ns mainGlobals mg → mg d.name = some (.ref fa) →
      ∃ fd : FuncData, (∀ (s : Shared) (us : List Value), us.length = ps.length → BindsTo s fd ⟨us, []⟩ (ps.zip us)) ∧
        ∀ base : Heap, (K w.params).In base → base.Ns mainGlobals mg → FnOk r.prog w (K w.params) mg base (CX w) k fa fd ps (sp w))
    (hsp : ∀ (w : World) (H : Hp) (xs : List V) (a : Codec.denoteAll r.args), OnlyF H → Codec.withinAll r.args a = true → Codec.app r.args r.asked a = true → DwAll (K w.params) H xs (Codec.encAll r.args a) →
      sp w xs H (fun v H' => Dw (K w.params) H' v (r.ret.enc (Codec.app r.args r.f a))) fun _ _ _ => False)
    (hCX : ∀ (w : World) (H : Hp) (s : Shared) (e : Value) (s' : Shared), CX w [] H s (fun _ _ _ => False) e s' → False) :
    PySem.W.WalkOS q loose XP YP r d [] (fun f vs => PySem.call f vs) := by
  intro w s_0 s₁ mg mb G Y fa o pm cd doc dV kV ho hd hcd hD hmg hg args vals as hpre hlay hrd hwl hlo
  obtain ⟨a, e1, e2⟩ := PySem.W.os_pre_some hpre
  obtain ⟨e3, hwi⟩ := Codec.encAll_of_decAll r.args args a e1
  subst e3
  have KX := hY w _ Y
  obtain ⟨fd, hb, hF⟩ := F w mg fa _ Y KX G.T.g hmg
  refine PySem.W.enter_call (codeAny_mono (spec_call (R := []) (cl := classAt s_0.heap) (d0 := r.ret.enc (Codec.app r.args r.f a)) KX G.T.g G.T.b G.T.builtins G.T.nolimit hg hwl (pl_encAll _ _) (layable_weight hlay) hr hF hb (by rw [encAll_len]; exact hlen)
    (fun H xs hO hS => hsp w H xs a hO hwi e2 hS) fun H e s' => hCX w H s₁ e s') fun r' s' hq => ?_)
  obtain ⟨u, as', rfl, h1, h2, h3, h4⟩ := hq
  exact ⟨.inl ⟨u, _, as', rfl, fun _ => rfl, h1, (OpenSpec.post_iff hwell hwi _ _).mpr rfl, fun z => Bool.noConfusion (show false = true from z)⟩, h2, h3, h4⟩
/-- the same where the promise hangs on the written part alone -/
theorem walk_specK {r : OpenSpec} {k : Nat} {q : Program} {loose : List Str} {XP : (Str → Option Value) → Heap → Prop} {YP : World → Heap → Prop} {d : DefRec} {K : Params → PySem.W.Frag} {CX : CXT} {ps : List Str} {sp : PySem.W.Frag → Sp}
    (hwell : r.wellSaid = true) (hdf : d.params.defaults = []) (hlen : r.args.length = ps.length) (hr : Room k callerA)
    (hY : ∀ (w : World) (h : Heap), YP w h → (K w.params).In h)
    (F : ∀ (w : World) (mg : Str → Option Value) (fa : Addr) (h : Heap), YP w h → (K w.params).In h → h.Ns mainGlobals mg → mg d.name = some (.ref fa) →
      ∃ fd : FuncData, (∀ (s : Shared) (us : List Value), us.length = ps.length → BindsTo s fd ⟨us, []⟩ (ps.zip us)) ∧
        ∀ base : Heap, (K w.params).In base → base.Ns mainGlobals mg → FnOk r.prog w (K w.params) mg base CX k fa fd ps (sp (K w.params)))
    (hsp : ∀ (K : PySem.W.Frag) (H : Hp) (xs : List V) (a : Codec.denoteAll r.args), OnlyF H → Codec.withinAll r.args a = true → Codec.app r.args r.asked a = true → DwAll K H xs (Codec.encAll r.args a) →
      sp K xs H (fun v H' => Dw K H' v (r.ret.enc (Codec.app r.args r.f a))) fun _ _ _ => False)
    (hCX : ∀ (H : Hp) (s : Shared) (e : Value) (s' : Shared), CX [] H s (fun _ _ _ => False) e s' → False) :
    PySem.W.WalkOS q loose XP YP r d [] (fun f vs => PySem.call f vs) :=
  walk_spec (K := K) (CX := fun _ => CX) (sp := fun w => sp (K w.params)) hwell hdf hlen hr hY F (fun w H xs a h1 h2 h3 h4 => hsp (K w.params) H xs a h1 h2 h3 h4) fun _ H s e s' => hCX H s e s'
end L2
end
set_option Elab.async false
set_option linter.all false
set_option maxRecDepth 100000
set_option maxHeartbeats 2000000
namespace L2
open PySem PySem.Spec PyProof.Rows
theorem isInt_int (i : Int) (tk : Tok) : Value.isInt i (.int i tk) = true := by simp [Value.isInt]
section
variable {X : Cx} {pos p : Pos} {x : Str} {e : Expr} {es : List Expr} {ta ty : TE} {t : TA}
/-- a number that the module's top names -/
theorem pe_gint {i : Int} (hm : ∃ tk, X.mg x = some (.int i tk)) (hg : Gl X x) (hd : (x == ("__debug__" : Str)) = false := by decide) : PE X (.Name x pos) (tC (.int i)) := by
  obtain ⟨tk, h⟩ := hm
  exact pe_glob hg h ⟨tk, rfl⟩ hd
/-- f(..), f a value at hand that is a def of the module -/
def tCallV (X : Cx) (k : Nat) (ta : TE) (t : TA) : TE := fun σ H Q => ta σ H fun x H1 => ∃ f fd ps sp, x = .ref f ∧ FnOk X.prog X.w X.K X.mg X.base CX0 k f fd ps sp ∧ PySem.W.keepIn X.K (.ref f) = true ∧ Binds X.K fd ps [] ∧ t σ H1 fun vs H2 => sp vs H2 Q E0
theorem pe_callv {k : Nat} (hf : PE X (.Name x p) ta) (hr : Room k X.A) (ha : PA X (e :: es) t)
    (he : starEach (e :: es) X.env = (false, eval e X.env) :: starEach es X.env := by rfl) (hpl : (backTo pos (starEach es X.env)).any (·.1) = false := by rfl) :
    PE X (.Call (.Name x p) (e :: es) [] pos) (tCallV X k ta t) := by
  intro pins s σ H Q I h
  refine wpAny_Call_Name_kw (thn (hf pins s σ H _ I h) fun u s1 ⟨v, H1, I1, rv, f, fd, ps, sp, ev, F, hk, hb, q⟩ => ?_)
  subst ev
  obtain rfl : u = Value.ref f := rv
  refine PySem.W.callWith_K (h₀ := X.base) I.ok.mod.kin hk (thn (ha pos pins s1 σ H1 _ I1 q) fun us s2 ⟨vs, H2, I2, r, q2⟩ => ⟨I2.kIn, ?_⟩) he hpl
  exact run_fn (dvs := []) F hr hb .nil pass0 I2 r (by rw [List.append_nil]; exact q2)
theorem eval_callSub (f i : Expr) (p : Pos) (args : List Expr) (keywords : List Keyword) (pos : Pos) (env : Env) : eval (.Call (.Subscript f i p) args keywords pos) env = (do
    callWith pos (← eval (.Subscript f i p) env) [] (backTo pos (starEach args env)) (backToKw pos (keywordEach keywords env))) := rfl
theorem pe_callx {k : Nat} {o i : Expr} (hf : PE X (.Subscript o i p) ta) (hr : Room k X.A) (ha : PA X (e :: es) t)
    (he : starEach (e :: es) X.env = (false, eval e X.env) :: starEach es X.env := by rfl) (hpl : (backTo pos (starEach es X.env)).any (·.1) = false := by rfl) :
    PE X (.Call (.Subscript o i p) (e :: es) [] pos) (tCallV X k ta t) := by
  intro pins s σ H Q I h
  rw [eval_callSub]
  refine wpAny_bind (thn (hf pins s σ H _ I h) fun u s1 ⟨v, H1, I1, rv, f, fd, ps, sp, ev, F, hk, hb, q⟩ => ?_)
  subst ev
  obtain rfl : u = Value.ref f := rv
  refine PySem.W.callWith_K (h₀ := X.base) I.ok.mod.kin hk (thn (ha pos pins s1 σ H1 _ I1 q) fun us s2 ⟨vs, H2, I2, r, q2⟩ => ⟨I2.kIn, ?_⟩) he hpl
  exact run_fn (dvs := []) F hr hb .nil pass0 I2 r (by rw [List.append_nil]; exact q2)
/-- a dict of the module's top: numbers to defs -/
def KDict (K : PySem.W.Frag) (a : Addr) (kvs : List (Int × Addr)) : Prop :=
  (a == sysModules) = false ∧ (kvs.map (·.1)).Nodup ∧ ∃ o es ep, K.lookup a = some o ∧ o.ExactDict ∧ o.data = .dict es ep ∧
    Paired (fun (kv : Int × Addr) (e : DictEntry) => (∃ tk, e.key = .int kv.1 tk) ∧ e.hash = hashInt kv.1 ∧ e.val = .ref kv.2) kvs es.toList
theorem kdict_pairs {P : Program} {w : World} : ∀ {kvs : List (Int × Addr)} {es : List DictEntry}, Paired (fun (kv : Int × Addr) (e : DictEntry) => (∃ tk, e.key = .int kv.1 tk) ∧ e.hash = hashInt kv.1 ∧ e.val = .ref kv.2) kvs es →
    Pairs (intKind P w) es (kvs.map fun kv => (kv.1, Value.ref kv.2))
  | _, _, .nil => .nil
  | _, _, .cons r t => by
    obtain ⟨⟨tk, e1⟩, _, e3⟩ := r
    exact .cons (by rw [e1]; exact isInt_int _ tk) e3 (kdict_pairs t)
theorem kdict_keys {P : Program} {w : World} : ∀ {kvs : List (Int × Addr)} {es : List DictEntry}, Paired (fun (kv : Int × Addr) (e : DictEntry) => (∃ tk, e.key = .int kv.1 tk) ∧ e.hash = hashInt kv.1 ∧ e.val = .ref kv.2) kvs es →
    ∀ e ∈ es, ∃ k, (intKind P w).is k e.key = true ∧ e.hash = (intKind P w).hash k
  | _, _, .nil => fun e he => nomatch he
  | _, _, .cons r t => fun e he => by
    rcases List.mem_cons.mp he with q | q
    · subst q
      obtain ⟨⟨tk, e1⟩, e2, _⟩ := r
      exact ⟨_, by rw [e1]; exact isInt_int _ tk, e2⟩
    · exact kdict_keys t e q
theorem kdict_of {P : Program} {w : World} {K : PySem.W.Frag} {h : Heap} {a : Addr} {kvs : List (Int × Addr)} (k : KDict K a kvs) (KX : K.In h) : h.DictOf (intKind P w) a (kvs.map fun kv => (kv.1, Value.ref kv.2)) := by
  obtain ⟨_, nd, o, es, ep, hk, he, hd, r⟩ := k
  refine ⟨o, es, ep, KX a o hk, he, hd, fun e m => kdict_keys r e (Array.mem_toList_iff.mpr m), kdict_pairs r, ?_⟩
  rw [List.map_map]
  exact nd
def atK (kvs : List (Int × Addr)) (i : Int) : Option Addr := (kvs.find? fun kv => kv.1 = i).map (·.2)
theorem atK_val (kvs : List (Int × Addr)) (i : Int) : valueAt (kvs.map fun kv => (kv.1, Value.ref kv.2)) i = (atK kvs i).map Value.ref := by
  unfold valueAt atK
  rw [List.find?_map, Option.map_map, Option.map_map]
  rfl
def tKGet (kvs : List (Int × Addr)) (ty : TE) : TE := fun σ H Q => ty σ H fun y H1 => ∃ i f, y = .int i ∧ atK kvs i = some f ∧ Q (.ref f) H1
theorem pe_kdget {a : Addr} {kvs : List (Int × Addr)} {i : Expr} (k : KDict X.K a kvs) (hg : Gl X x) (hm : X.mg x = some (.ref a)) (hi : PE X i ty) (hs : NoSl i) (hd : (x == ("__debug__" : Str)) = false := by decide) : PE X (.Subscript (.Name x p) i pos) (tKGet kvs ty) := by
  intro pins s σ H Q I h
  refine subD_of (T := "dict") PySem.F.slot_dict_getitem.lookup hs (ld_glob I hg hm ?_ hd)
  refine thn (hi pins s σ H _ I h) fun u s1 ⟨y, H1, I1, ry, j, f, ey, hj, q⟩ => ?_
  subst ey
  obtain ⟨tk, rfl⟩ := ry
  have dd := kdict_of (P := X.prog) (w := X.w) k I1.kIn
  refine ⟨dd.typeIs, wpAny_getItem_of (knd := intKind X.prog X.w) (k := j) (isInt_int j tk) dd.mapOf (v := Value.ref f) (by rw [atK_val, hj]; rfl) ?_⟩
  exact ⟨.ref f, H1, I1.tok _, rfl, q⟩
theorem op_kdin {a : Addr} {kvs : List (Int × Addr)} (k : KDict X.K a kvs) : OpR X (compareOp .In) (fun x y H Q => ∃ i, x = .int i ∧ y = .ref a ∧ Q (.bl (atK kvs i).isSome) H) := by
  intro pins s σ H x y v u Q I rx ry h
  obtain ⟨i, rfl, rfl, q⟩ := h
  obtain ⟨tk, rfl⟩ := rx
  obtain rfl : u = Value.ref a := ry
  have dd := kdict_of (P := X.prog) (w := X.w) k I.kIn
  refine wpAny_in_of (knd := intKind X.prog X.w) (k := i) (isInt_int i tk) k.1 dd.mapOf ?_
  have e : (valueAt (kvs.map fun kv => (kv.1, Value.ref kv.2)) i).isSome = (atK kvs i).isSome := by rw [atK_val, Option.isSome_map]
  rw [e]
  exact ⟨.bl _, H, I.tok _, rfl, q⟩
theorem call_max3 (hc : X.calm = true) : CallR X (.builtin "max") (fun xs H Q => ∃ i j k, xs = [.int i, .int j, .int k] ∧ Q (.int (max (max i j) k)) H) := by
  intro pins s σ H xs us Q I r h
  obtain ⟨i, j, k, rfl, q⟩ := h
  cases r with
  | cons r1 r2 => cases r2 with
    | cons r3 r4 => cases r4 with
      | cons r5 r6 =>
        cases r6
        obtain ⟨t1, rfl⟩ := r1
        obtain ⟨t2, rfl⟩ := r3
        obtain ⟨t3, rfl⟩ := r5
        refine max_three_ints (I.ok.hd hc) fun h' tk k' => ⟨_, H, I.kept k', ?_, q⟩
        by_cases h1 : j > i
        · by_cases h2 : k > j
          · rw [if_pos h1, if_pos h2]; exact ⟨_, by congr 1; omega⟩
          · rw [if_pos h1, if_neg h2]; exact ⟨_, by congr 1; omega⟩
        · by_cases h2 : k > i
          · rw [if_neg h1, if_pos h2]; exact ⟨_, by congr 1; omega⟩
          · rw [if_neg h1, if_neg h2]; exact ⟨_, by congr 1; omega⟩
end
end L2
namespace Gw
open PySem PySem.Spec PyProof.Rows L2
def top (i : Nat) : Stmt := PySem.Challenge.pw_gangwaycards_s01_answers.main.body.getD i (.Pass ⟨0, 0, 0, 0⟩)
abbrev s_Gate_init : Stmt := inClass (top 20) 0
abbrev s_Person_init : Stmt := inClass (top 21) 0
abbrev s_Ship_init : Stmt := inClass (top 22) 0
abbrev s_copied_gate : Stmt := top 23
abbrev s_copied_person : Stmt := top 24
abbrev s_copied_ship : Stmt := top 25
abbrev s_find_gate : Stmt := top 26
abbrev s_find_person : Stmt := top 27
abbrev s_find_holder : Stmt := top 28
abbrev s_count_open_gates : Stmt := top 29
abbrev s_persons_in : Stmt := top 30
abbrev s_persons_aboard : Stmt := top 31
abbrev s_visitors_aboard : Stmt := top 32
abbrev s_missing_persons : Stmt := top 33
abbrev s_is_full : Stmt := top 34
abbrev s_has_passed : Stmt := top 35
abbrev s_is_guardian_ashore : Stmt := top 36
abbrev s_may_go_ashore : Stmt := top 37
abbrev s_children_of : Stmt := top 38
abbrev s_overdue_visitors : Stmt := top 39
abbrev s_as_bits : Stmt := top 40
abbrev s_give_card : Stmt := top 45
abbrev s_is_no_coming_minute : Stmt := top 46
abbrev s_add_gate : Stmt := top 47
abbrev s_take_aboard : Stmt := top 48
abbrev s_add_person : Stmt := top 49
abbrev s_add_child : Stmt := top 50
abbrev s_add_visitor : Stmt := top 51
abbrev s_change_card : Stmt := top 52
abbrev s_turn_gate : Stmt := top 53
abbrev s_move : Stmt := top 54
abbrev s_come_aboard : Stmt := top 55
abbrev s_go_ashore : Stmt := top 56
abbrev s_has_counted_enough : Stmt := top 57
abbrev s_scan_card : Stmt := top 58
abbrev s_leave_for_good : Stmt := top 59
abbrev s_let_minutes_pass : Stmt := top 60
abbrev s_set_sail : Stmt := top 61
abbrev s_give_more_time : Stmt := top 62
abbrev s_one_more_or_zero : Stmt := top 65
abbrev s_one_if : Stmt := top 66
abbrev s_told_as_bits : Stmt := top 67
abbrev s_who_has : Stmt := top 68
abbrev s_where_is : Stmt := top 69
abbrev s_count_aboard : Stmt := top 70
abbrev s_who_is_missing : Stmt := top 71
abbrev s_which_visitors : Stmt := top 72
abbrev s_which_children : Stmt := top 73
abbrev s_which_group : Stmt := top 74
abbrev s_children_in : Stmt := top 75
abbrev s_who_is_alone : Stmt := top 76
abbrev s_who_is_lost : Stmt := top 77
abbrev s_may_they_go : Stmt := top 78
abbrev s_is_ready : Stmt := top 79
abbrev s_missing_for_longest : Stmt := top 80
abbrev s_look_at_gate : Stmt := top 81
abbrev s_sum_up : Stmt := top 82
abbrev s_Voyage_init : Stmt := inClass (top 85) 0
abbrev s_keep_change : Stmt := top 86
abbrev s_take_back : Stmt := top 87
abbrev s_do_again : Stmt := top 88
abbrev s_tell_state : Stmt := top 89
abbrev s_can_start : Stmt := top 94
abbrev s_call_with : Stmt := top 95
abbrev s_change : Stmt := top 96
abbrev s_answer_one : Stmt := top 97
abbrev s_answers : Stmt := top 98
theorem sc_Gate_init : FnScope ["self"] ["self"] (defScope s_Gate_init) := ⟨rfl, rfl, rfl, by decide +kernel, rfl, by decide +kernel, by decide +kernel⟩
theorem sc_Person_init : FnScope ["self", "number", "card", "since", "guardian", "off_by"] ["self", "number", "card", "since", "guardian", "off_by"] (defScope s_Person_init) := ⟨rfl, rfl, rfl, by decide +kernel, rfl, by decide +kernel, by decide +kernel⟩
theorem sc_Ship_init : FnScope ["self", "most", "sail"] ["self", "most", "sail"] (defScope s_Ship_init) := ⟨rfl, rfl, rfl, by decide +kernel, rfl, by decide +kernel, by decide +kernel⟩
theorem sc_copied_gate : FnScope ["gate", "copied"] ["gate"] (defScope s_copied_gate) := ⟨rfl, rfl, rfl, by decide +kernel, rfl, by decide +kernel, by decide +kernel⟩
theorem sc_copied_person : FnScope ["person", "copied"] ["person"] (defScope s_copied_person) := ⟨rfl, rfl, rfl, by decide +kernel, rfl, by decide +kernel, by decide +kernel⟩
theorem sc_copied_ship : FnScope ["ship", "copied", "gate", "person"] ["ship"] (defScope s_copied_ship) := ⟨rfl, rfl, rfl, by decide +kernel, rfl, by decide +kernel, by decide +kernel⟩
theorem sc_find_gate : FnScope ["ship", "g"] ["ship", "g"] (defScope s_find_gate) := ⟨rfl, rfl, rfl, by decide +kernel, rfl, by decide +kernel, by decide +kernel⟩
theorem sc_find_person : FnScope ["ship", "p", "person"] ["ship", "p"] (defScope s_find_person) := ⟨rfl, rfl, rfl, by decide +kernel, rfl, by decide +kernel, by decide +kernel⟩
theorem sc_find_holder : FnScope ["ship", "card", "person"] ["ship", "card"] (defScope s_find_holder) := ⟨rfl, rfl, rfl, by decide +kernel, rfl, by decide +kernel, by decide +kernel⟩
theorem sc_count_open_gates : FnScope ["ship", "gate"] ["ship"] (defScope s_count_open_gates) := ⟨rfl, rfl, rfl, by decide +kernel, rfl, by decide +kernel, by decide +kernel⟩
theorem sc_persons_in : FnScope ["ship", "place", "person"] ["ship", "place"] (defScope s_persons_in) := ⟨rfl, rfl, rfl, by decide +kernel, rfl, by decide +kernel, by decide +kernel⟩
theorem sc_persons_aboard : FnScope ["ship"] ["ship"] (defScope s_persons_aboard) := ⟨rfl, rfl, rfl, by decide +kernel, rfl, by decide +kernel, by decide +kernel⟩
theorem sc_visitors_aboard : FnScope ["ship", "person"] ["ship"] (defScope s_visitors_aboard) := ⟨rfl, rfl, rfl, by decide +kernel, rfl, by decide +kernel, by decide +kernel⟩
theorem sc_missing_persons : FnScope ["ship", "person"] ["ship"] (defScope s_missing_persons) := ⟨rfl, rfl, rfl, by decide +kernel, rfl, by decide +kernel, by decide +kernel⟩
theorem sc_is_full : FnScope ["ship"] ["ship"] (defScope s_is_full) := ⟨rfl, rfl, rfl, by decide +kernel, rfl, by decide +kernel, by decide +kernel⟩
theorem sc_has_passed : FnScope ["ship", "t"] ["ship", "t"] (defScope s_has_passed) := ⟨rfl, rfl, rfl, by decide +kernel, rfl, by decide +kernel, by decide +kernel⟩
theorem sc_is_guardian_ashore : FnScope ["ship", "child"] ["ship", "child"] (defScope s_is_guardian_ashore) := ⟨rfl, rfl, rfl, by decide +kernel, rfl, by decide +kernel, by decide +kernel⟩
theorem sc_may_go_ashore : FnScope ["ship", "person"] ["ship", "person"] (defScope s_may_go_ashore) := ⟨rfl, rfl, rfl, by decide +kernel, rfl, by decide +kernel, by decide +kernel⟩
theorem sc_children_of : FnScope ["ship", "person", "children", "other", "child"] ["ship", "person"] (defScope s_children_of) := ⟨rfl, rfl, rfl, by decide +kernel, rfl, by decide +kernel, by decide +kernel⟩
theorem sc_overdue_visitors : FnScope ["ship", "visitor"] ["ship"] (defScope s_overdue_visitors) := ⟨rfl, rfl, rfl, by decide +kernel, rfl, by decide +kernel, by decide +kernel⟩
theorem sc_as_bits : FnScope ["persons", "bits", "person"] ["persons"] (defScope s_as_bits) := ⟨rfl, rfl, rfl, by decide +kernel, rfl, by decide +kernel, by decide +kernel⟩
theorem sc_give_card : FnScope ["ship", "card"] ["ship"] (defScope s_give_card) := ⟨rfl, rfl, rfl, by decide +kernel, rfl, by decide +kernel, by decide +kernel⟩
theorem sc_is_no_coming_minute : FnScope ["ship", "t"] ["ship", "t"] (defScope s_is_no_coming_minute) := ⟨rfl, rfl, rfl, by decide +kernel, rfl, by decide +kernel, by decide +kernel⟩
theorem sc_add_gate : FnScope ["ship"] ["ship"] (defScope s_add_gate) := ⟨rfl, rfl, rfl, by decide +kernel, rfl, by decide +kernel, by decide +kernel⟩
theorem sc_take_aboard : FnScope ["ship", "guardian", "off_by", "person"] ["ship", "guardian", "off_by"] (defScope s_take_aboard) := ⟨rfl, rfl, rfl, by decide +kernel, rfl, by decide +kernel, by decide +kernel⟩
theorem sc_add_person : FnScope ["ship"] ["ship"] (defScope s_add_person) := ⟨rfl, rfl, rfl, by decide +kernel, rfl, by decide +kernel, by decide +kernel⟩
theorem sc_add_child : FnScope ["ship", "p", "guardian"] ["ship", "p"] (defScope s_add_child) := ⟨rfl, rfl, rfl, by decide +kernel, rfl, by decide +kernel, by decide +kernel⟩
theorem sc_add_visitor : FnScope ["ship", "t"] ["ship", "t"] (defScope s_add_visitor) := ⟨rfl, rfl, rfl, by decide +kernel, rfl, by decide +kernel, by decide +kernel⟩
theorem sc_change_card : FnScope ["ship", "p", "person"] ["ship", "p"] (defScope s_change_card) := ⟨rfl, rfl, rfl, by decide +kernel, rfl, by decide +kernel, by decide +kernel⟩
theorem sc_turn_gate : FnScope ["ship", "g", "opened", "gate", "wanted", "before"] ["ship", "g", "opened"] (defScope s_turn_gate) := ⟨rfl, rfl, rfl, by decide +kernel, rfl, by decide +kernel, by decide +kernel⟩
theorem sc_move : FnScope ["ship", "person", "place"] ["ship", "person", "place"] (defScope s_move) := ⟨rfl, rfl, rfl, by decide +kernel, rfl, by decide +kernel, by decide +kernel⟩
theorem sc_come_aboard : FnScope ["ship", "gate", "person"] ["ship", "gate", "person"] (defScope s_come_aboard) := ⟨rfl, rfl, rfl, by decide +kernel, rfl, by decide +kernel, by decide +kernel⟩
theorem sc_go_ashore : FnScope ["ship", "gate", "person"] ["ship", "gate", "person"] (defScope s_go_ashore) := ⟨rfl, rfl, rfl, by decide +kernel, rfl, by decide +kernel, by decide +kernel⟩
theorem sc_has_counted_enough : FnScope ["ship", "gate"] ["ship", "gate"] (defScope s_has_counted_enough) := ⟨rfl, rfl, rfl, by decide +kernel, rfl, by decide +kernel, by decide +kernel⟩
theorem sc_scan_card : FnScope ["ship", "g", "card", "gate", "person"] ["ship", "g", "card"] (defScope s_scan_card) := ⟨rfl, rfl, rfl, by decide +kernel, rfl, by decide +kernel, by decide +kernel⟩
theorem sc_leave_for_good : FnScope ["ship", "p", "person"] ["ship", "p"] (defScope s_leave_for_good) := ⟨rfl, rfl, rfl, by decide +kernel, rfl, by decide +kernel, by decide +kernel⟩
theorem sc_let_minutes_pass : FnScope ["ship", "n"] ["ship", "n"] (defScope s_let_minutes_pass) := ⟨rfl, rfl, rfl, by decide +kernel, rfl, by decide +kernel, by decide +kernel⟩
theorem sc_set_sail : FnScope ["ship", "t", "before"] ["ship", "t"] (defScope s_set_sail) := ⟨rfl, rfl, rfl, by decide +kernel, rfl, by decide +kernel, by decide +kernel⟩
theorem sc_give_more_time : FnScope ["ship", "p", "t", "person", "before"] ["ship", "p", "t"] (defScope s_give_more_time) := ⟨rfl, rfl, rfl, by decide +kernel, rfl, by decide +kernel, by decide +kernel⟩
theorem sc_one_more_or_zero : FnScope ["number"] ["number"] (defScope s_one_more_or_zero) := ⟨rfl, rfl, rfl, by decide +kernel, rfl, by decide +kernel, by decide +kernel⟩
theorem sc_one_if : FnScope ["truth"] ["truth"] (defScope s_one_if) := ⟨rfl, rfl, rfl, by decide +kernel, rfl, by decide +kernel, by decide +kernel⟩
theorem sc_told_as_bits : FnScope ["persons"] ["persons"] (defScope s_told_as_bits) := ⟨rfl, rfl, rfl, by decide +kernel, rfl, by decide +kernel, by decide +kernel⟩
theorem sc_who_has : FnScope ["ship", "card", "person"] ["ship", "card"] (defScope s_who_has) := ⟨rfl, rfl, rfl, by decide +kernel, rfl, by decide +kernel, by decide +kernel⟩
theorem sc_where_is : FnScope ["ship", "p", "person", "stay"] ["ship", "p"] (defScope s_where_is) := ⟨rfl, rfl, rfl, by decide +kernel, rfl, by decide +kernel, by decide +kernel⟩
theorem sc_count_aboard : FnScope ["ship", "aboard"] ["ship"] (defScope s_count_aboard) := ⟨rfl, rfl, rfl, by decide +kernel, rfl, by decide +kernel, by decide +kernel⟩
theorem sc_who_is_missing : FnScope ["ship"] ["ship"] (defScope s_who_is_missing) := ⟨rfl, rfl, rfl, by decide +kernel, rfl, by decide +kernel, by decide +kernel⟩
theorem sc_which_visitors : FnScope ["ship", "visitors"] ["ship"] (defScope s_which_visitors) := ⟨rfl, rfl, rfl, by decide +kernel, rfl, by decide +kernel, by decide +kernel⟩
theorem sc_which_children : FnScope ["ship", "p", "person"] ["ship", "p"] (defScope s_which_children) := ⟨rfl, rfl, rfl, by decide +kernel, rfl, by decide +kernel, by decide +kernel⟩
theorem sc_which_group : FnScope ["ship", "p", "person", "children", "child"] ["ship", "p"] (defScope s_which_group) := ⟨rfl, rfl, rfl, by decide +kernel, rfl, by decide +kernel, by decide +kernel⟩
theorem sc_children_in : FnScope ["ship", "place", "person"] ["ship", "place"] (defScope s_children_in) := ⟨rfl, rfl, rfl, by decide +kernel, rfl, by decide +kernel, by decide +kernel⟩
theorem sc_who_is_alone : FnScope ["ship", "child"] ["ship"] (defScope s_who_is_alone) := ⟨rfl, rfl, rfl, by decide +kernel, rfl, by decide +kernel, by decide +kernel⟩
theorem sc_who_is_lost : FnScope ["ship", "child"] ["ship"] (defScope s_who_is_lost) := ⟨rfl, rfl, rfl, by decide +kernel, rfl, by decide +kernel, by decide +kernel⟩
theorem sc_may_they_go : FnScope ["ship", "p", "person"] ["ship", "p"] (defScope s_may_they_go) := ⟨rfl, rfl, rfl, by decide +kernel, rfl, by decide +kernel, by decide +kernel⟩
theorem sc_is_ready : FnScope ["ship", "missing", "visitors", "gates", "may_sail"] ["ship"] (defScope s_is_ready) := ⟨rfl, rfl, rfl, by decide +kernel, rfl, by decide +kernel, by decide +kernel⟩
theorem sc_missing_for_longest : FnScope ["ship", "missing", "longest", "person"] ["ship"] (defScope s_missing_for_longest) := ⟨rfl, rfl, rfl, by decide +kernel, rfl, by decide +kernel, by decide +kernel⟩
theorem sc_look_at_gate : FnScope ["ship", "g", "gate"] ["ship", "g"] (defScope s_look_at_gate) := ⟨rfl, rfl, rfl, by decide +kernel, rfl, by decide +kernel, by decide +kernel⟩
theorem sc_sum_up : FnScope ["ship", "aboard", "ashore", "gone"] ["ship"] (defScope s_sum_up) := ⟨rfl, rfl, rfl, by decide +kernel, rfl, by decide +kernel, by decide +kernel⟩
theorem sc_Voyage_init : FnScope ["self", "ship"] ["self", "ship"] (defScope s_Voyage_init) := ⟨rfl, rfl, rfl, by decide +kernel, rfl, by decide +kernel, by decide +kernel⟩
theorem sc_keep_change : FnScope ["voyage", "changed"] ["voyage", "changed"] (defScope s_keep_change) := ⟨rfl, rfl, rfl, by decide +kernel, rfl, by decide +kernel, by decide +kernel⟩
theorem sc_take_back : FnScope ["voyage"] ["voyage"] (defScope s_take_back) := ⟨rfl, rfl, rfl, by decide +kernel, rfl, by decide +kernel, by decide +kernel⟩
theorem sc_do_again : FnScope ["voyage"] ["voyage"] (defScope s_do_again) := ⟨rfl, rfl, rfl, by decide +kernel, rfl, by decide +kernel, by decide +kernel⟩
theorem sc_tell_state : FnScope ["voyage", "ship"] ["voyage"] (defScope s_tell_state) := ⟨rfl, rfl, rfl, by decide +kernel, rfl, by decide +kernel, by decide +kernel⟩
theorem sc_can_start : FnScope ["most", "sail"] ["most", "sail"] (defScope s_can_start) := ⟨rfl, rfl, rfl, by decide +kernel, rfl, by decide +kernel, by decide +kernel⟩
theorem sc_call_with : FnScope ["handler", "ship", "given"] ["handler", "ship", "given"] (defScope s_call_with) := ⟨rfl, rfl, rfl, by decide +kernel, rfl, by decide +kernel, by decide +kernel⟩
theorem sc_change : FnScope ["voyage", "number", "given", "changed", "answer"] ["voyage", "number", "given"] (defScope s_change) := ⟨rfl, rfl, rfl, by decide +kernel, rfl, by decide +kernel, by decide +kernel⟩
theorem sc_answer_one : FnScope ["voyage", "number", "given"] ["voyage", "number", "given"] (defScope s_answer_one) := ⟨rfl, rfl, rfl, by decide +kernel, rfl, by decide +kernel, by decide +kernel⟩
theorem sc_answers : FnScope ["calls", "told", "voyage", "place", "number", "end", "given", "answer"] ["calls"] (defScope s_answers) := ⟨rfl, rfl, rfl, by decide +kernel, rfl, by decide +kernel, by decide +kernel⟩
/-- a def of the text: its name, its object, how it binds -/
structure Df (K : PySem.W.Frag) (mg : Str → Option Value) (x : Str) (st : Stmt) (ps : List Str) (f : Addr) (fd : FuncData) : Prop where
  m : mg x = some (.ref f)
  F : Fun K x x st f fd
  B : Binds K fd ps []
/-- a method of the text -/
structure Dm (K : PySem.W.Frag) (x y : Str) (st : Stmt) (ps : List Str) (f : Addr) (fd : FuncData) : Prop where
  F : Fun K x y st f fd
  B : Binds K fd ps []
/-- a class of the text -/
structure Cf (K : PySem.W.Frag) (mg : Str → Option Value) (x : Str) (C f : Addr) : Prop where
  m : mg x = some (.ref C)
  cl : Cls K C
  mkr : Mk K C f
structure Adr where
  f_Gate_init : Addr
  d_Gate_init : FuncData
  f_Person_init : Addr
  d_Person_init : FuncData
  f_Ship_init : Addr
  d_Ship_init : FuncData
  f_copied_gate : Addr
  d_copied_gate : FuncData
  f_copied_person : Addr
  d_copied_person : FuncData
  f_copied_ship : Addr
  d_copied_ship : FuncData
  f_find_gate : Addr
  d_find_gate : FuncData
  f_find_person : Addr
  d_find_person : FuncData
  f_find_holder : Addr
  d_find_holder : FuncData
  f_count_open_gates : Addr
  d_count_open_gates : FuncData
  f_persons_in : Addr
  d_persons_in : FuncData
  f_persons_aboard : Addr
  d_persons_aboard : FuncData
  f_visitors_aboard : Addr
  d_visitors_aboard : FuncData
  f_missing_persons : Addr
  d_missing_persons : FuncData
  f_is_full : Addr
  d_is_full : FuncData
  f_has_passed : Addr
  d_has_passed : FuncData
  f_is_guardian_ashore : Addr
  d_is_guardian_ashore : FuncData
  f_may_go_ashore : Addr
  d_may_go_ashore : FuncData
  f_children_of : Addr
  d_children_of : FuncData
  f_overdue_visitors : Addr
  d_overdue_visitors : FuncData
  f_as_bits : Addr
  d_as_bits : FuncData
  f_give_card : Addr
  d_give_card : FuncData
  f_is_no_coming_minute : Addr
  d_is_no_coming_minute : FuncData
  f_add_gate : Addr
  d_add_gate : FuncData
  f_take_aboard : Addr
  d_take_aboard : FuncData
  f_add_person : Addr
  d_add_person : FuncData
  f_add_child : Addr
  d_add_child : FuncData
  f_add_visitor : Addr
  d_add_visitor : FuncData
  f_change_card : Addr
  d_change_card : FuncData
  f_turn_gate : Addr
  d_turn_gate : FuncData
  f_move : Addr
  d_move : FuncData
  f_come_aboard : Addr
  d_come_aboard : FuncData
  f_go_ashore : Addr
  d_go_ashore : FuncData
  f_has_counted_enough : Addr
  d_has_counted_enough : FuncData
  f_scan_card : Addr
  d_scan_card : FuncData
  f_leave_for_good : Addr
  d_leave_for_good : FuncData
  f_let_minutes_pass : Addr
  d_let_minutes_pass : FuncData
  f_set_sail : Addr
  d_set_sail : FuncData
  f_give_more_time : Addr
  d_give_more_time : FuncData
  f_one_more_or_zero : Addr
  d_one_more_or_zero : FuncData
  f_one_if : Addr
  d_one_if : FuncData
  f_told_as_bits : Addr
  d_told_as_bits : FuncData
  f_who_has : Addr
  d_who_has : FuncData
  f_where_is : Addr
  d_where_is : FuncData
  f_count_aboard : Addr
  d_count_aboard : FuncData
  f_who_is_missing : Addr
  d_who_is_missing : FuncData
  f_which_visitors : Addr
  d_which_visitors : FuncData
  f_which_children : Addr
  d_which_children : FuncData
  f_which_group : Addr
  d_which_group : FuncData
  f_children_in : Addr
  d_children_in : FuncData
  f_who_is_alone : Addr
  d_who_is_alone : FuncData
  f_who_is_lost : Addr
  d_who_is_lost : FuncData
  f_may_they_go : Addr
  d_may_they_go : FuncData
  f_is_ready : Addr
  d_is_ready : FuncData
  f_missing_for_longest : Addr
  d_missing_for_longest : FuncData
  f_look_at_gate : Addr
  d_look_at_gate : FuncData
  f_sum_up : Addr
  d_sum_up : FuncData
  f_Voyage_init : Addr
  d_Voyage_init : FuncData
  f_keep_change : Addr
  d_keep_change : FuncData
  f_take_back : Addr
  d_take_back : FuncData
  f_do_again : Addr
  d_do_again : FuncData
  f_tell_state : Addr
  d_tell_state : FuncData
  f_can_start : Addr
  d_can_start : FuncData
  f_call_with : Addr
  d_call_with : FuncData
  f_change : Addr
  d_change : FuncData
  f_answer_one : Addr
  d_answer_one : FuncData
  f_answers : Addr
  d_answers : FuncData
  C_Gate : Addr
  C_Person : Addr
  C_Ship : Addr
  C_Voyage : Addr
  a_CHANGES : Addr
  a_QUESTIONS : Addr
  a_VOYAGE_CALLS : Addr
  a_HOW_MANY_GIVEN : Addr
structure Txt (K : PySem.W.Frag) (mg : Str → Option Value) (a : Adr) : Prop where
  x_len : mg "len" = none
  x_max : mg "max" = none
  c_MOST_PERSONS : ∃ tk, mg "MOST_PERSONS" = some (.int (24) tk)
  c_MOST_GATES : ∃ tk, mg "MOST_GATES" = some (.int (3) tk)
  c_MOST_CARDS : ∃ tk, mg "MOST_CARDS" = some (.int (100000) tk)
  c_MOST_PASSAGES : ∃ tk, mg "MOST_PASSAGES" = some (.int (100000) tk)
  c_LAST_MINUTE : ∃ tk, mg "LAST_MINUTE" = some (.int (100000) tk)
  c_LONGEST_STEP : ∃ tk, mg "LONGEST_STEP" = some (.int (1440) tk)
  c_MOST_TAKEN_BACK : ∃ tk, mg "MOST_TAKEN_BACK" = some (.int (30) tk)
  c_NONE_THERE : ∃ tk, mg "NONE_THERE" = some (.int (-2) tk)
  c_NOBODY_MISSING : ∃ tk, mg "NOBODY_MISSING" = some (.int (-6) tk)
  c_NOT_AS_THINGS_ARE : ∃ tk, mg "NOT_AS_THINGS_ARE" = some (.int (-16) tk)
  c_SO_ALREADY : ∃ tk, mg "SO_ALREADY" = some (.int (-17) tk)
  c_WRONG_NUMBER : ∃ tk, mg "WRONG_NUMBER" = some (.int (-22) tk)
  c_NO_MORE_OF_THEM : ∃ tk, mg "NO_MORE_OF_THEM" = some (.int (-28) tk)
  c_MAY_NOT : ∃ tk, mg "MAY_NOT" = some (.int (-33) tk)
  c_NO_ROOM_ABOARD : ∃ tk, mg "NO_ROOM_ABOARD" = some (.int (-62) tk)
  c_TOO_LATE : ∃ tk, mg "TOO_LATE" = some (.int (-75) tk)
  c_ABOARD : ∃ tk, mg "ABOARD" = some (.int (0) tk)
  c_ASHORE : ∃ tk, mg "ASHORE" = some (.int (1) tk)
  c_GONE : ∃ tk, mg "GONE" = some (.int (2) tk)
  c_WENT_OUT : ∃ tk, mg "WENT_OUT" = some (.int (0) tk)
  c_CAME_IN : ∃ tk, mg "CAME_IN" = some (.int (1) tk)
  c_SHOWN_IN_VAIN : ∃ tk, mg "SHOWN_IN_VAIN" = some (.int (2) tk)
  c_START : ∃ tk, mg "START" = some (.int (0) tk)
  m_CHANGES : mg "CHANGES" = some (.ref a.a_CHANGES)
  k_CHANGES : KDict K a.a_CHANGES [(1, a.f_add_gate), (2, a.f_add_person), (3, a.f_add_child), (4, a.f_add_visitor), (5, a.f_change_card), (6, a.f_turn_gate), (7, a.f_scan_card), (8, a.f_leave_for_good), (9, a.f_let_minutes_pass), (10, a.f_set_sail), (11, a.f_give_more_time)]
  m_QUESTIONS : mg "QUESTIONS" = some (.ref a.a_QUESTIONS)
  k_QUESTIONS : KDict K a.a_QUESTIONS [(12, a.f_who_has), (13, a.f_where_is), (14, a.f_count_aboard), (15, a.f_who_is_missing), (16, a.f_which_visitors), (17, a.f_which_children), (18, a.f_which_group), (19, a.f_who_is_alone), (20, a.f_who_is_lost), (21, a.f_may_they_go), (22, a.f_is_ready), (23, a.f_missing_for_longest), (24, a.f_look_at_gate), (25, a.f_sum_up)]
  m_VOYAGE_CALLS : mg "VOYAGE_CALLS" = some (.ref a.a_VOYAGE_CALLS)
  k_VOYAGE_CALLS : KDict K a.a_VOYAGE_CALLS [(26, a.f_take_back), (27, a.f_do_again), (28, a.f_tell_state)]
  m_HOW_MANY_GIVEN : mg "HOW_MANY_GIVEN" = some (.ref a.a_HOW_MANY_GIVEN)
  k_HOW_MANY_GIVEN : ∀ H, SqT K H a.a_HOW_MANY_GIVEN [.int 2, .int 0, .int 0, .int 1, .int 1, .int 1, .int 2, .int 2, .int 1, .int 1, .int 1, .int 2, .int 1, .int 1, .int 0, .int 0, .int 0, .int 1, .int 1, .int 0, .int 0, .int 1, .int 0, .int 0, .int 1, .int 0, .int 0, .int 0, .int 0]
  C_Gate : Cf K mg "Gate" a.C_Gate a.f_Gate_init
  n_Gate_opened : NoAttr K a.C_Gate "opened"
  n_Gate_went_out : NoAttr K a.C_Gate "went_out"
  n_Gate_came_in : NoAttr K a.C_Gate "came_in"
  C_Person : Cf K mg "Person" a.C_Person a.f_Person_init
  n_Person_number : NoAttr K a.C_Person "number"
  n_Person_card : NoAttr K a.C_Person "card"
  n_Person_place : NoAttr K a.C_Person "place"
  n_Person_since : NoAttr K a.C_Person "since"
  n_Person_guardian : NoAttr K a.C_Person "guardian"
  n_Person_off_by : NoAttr K a.C_Person "off_by"
  C_Ship : Cf K mg "Ship" a.C_Ship a.f_Ship_init
  n_Ship_most : NoAttr K a.C_Ship "most"
  n_Ship_sail : NoAttr K a.C_Ship "sail"
  n_Ship_minute : NoAttr K a.C_Ship "minute"
  n_Ship_gates : NoAttr K a.C_Ship "gates"
  n_Ship_persons : NoAttr K a.C_Ship "persons"
  n_Ship_cards_given : NoAttr K a.C_Ship "cards_given"
  n_Ship_cards_shown_in_vain : NoAttr K a.C_Ship "cards_shown_in_vain"
  C_Voyage : Cf K mg "Voyage" a.C_Voyage a.f_Voyage_init
  n_Voyage_ship : NoAttr K a.C_Voyage "ship"
  n_Voyage_earlier : NoAttr K a.C_Voyage "earlier"
  n_Voyage_later : NoAttr K a.C_Voyage "later"
  D_Gate_init : Dm K "__init__" "Gate.__init__" s_Gate_init ["self"] a.f_Gate_init a.d_Gate_init
  D_Person_init : Dm K "__init__" "Person.__init__" s_Person_init ["self", "number", "card", "since", "guardian", "off_by"] a.f_Person_init a.d_Person_init
  D_Ship_init : Dm K "__init__" "Ship.__init__" s_Ship_init ["self", "most", "sail"] a.f_Ship_init a.d_Ship_init
  D_copied_gate : Df K mg "copied_gate" s_copied_gate ["gate"] a.f_copied_gate a.d_copied_gate
  D_copied_person : Df K mg "copied_person" s_copied_person ["person"] a.f_copied_person a.d_copied_person
  D_copied_ship : Df K mg "copied_ship" s_copied_ship ["ship"] a.f_copied_ship a.d_copied_ship
  D_find_gate : Df K mg "find_gate" s_find_gate ["ship", "g"] a.f_find_gate a.d_find_gate
  D_find_person : Df K mg "find_person" s_find_person ["ship", "p"] a.f_find_person a.d_find_person
  D_find_holder : Df K mg "find_holder" s_find_holder ["ship", "card"] a.f_find_holder a.d_find_holder
  D_count_open_gates : Df K mg "count_open_gates" s_count_open_gates ["ship"] a.f_count_open_gates a.d_count_open_gates
  D_persons_in : Df K mg "persons_in" s_persons_in ["ship", "place"] a.f_persons_in a.d_persons_in
  D_persons_aboard : Df K mg "persons_aboard" s_persons_aboard ["ship"] a.f_persons_aboard a.d_persons_aboard
  D_visitors_aboard : Df K mg "visitors_aboard" s_visitors_aboard ["ship"] a.f_visitors_aboard a.d_visitors_aboard
  D_missing_persons : Df K mg "missing_persons" s_missing_persons ["ship"] a.f_missing_persons a.d_missing_persons
  D_is_full : Df K mg "is_full" s_is_full ["ship"] a.f_is_full a.d_is_full
  D_has_passed : Df K mg "has_passed" s_has_passed ["ship", "t"] a.f_has_passed a.d_has_passed
  D_is_guardian_ashore : Df K mg "is_guardian_ashore" s_is_guardian_ashore ["ship", "child"] a.f_is_guardian_ashore a.d_is_guardian_ashore
  D_may_go_ashore : Df K mg "may_go_ashore" s_may_go_ashore ["ship", "person"] a.f_may_go_ashore a.d_may_go_ashore
  D_children_of : Df K mg "children_of" s_children_of ["ship", "person"] a.f_children_of a.d_children_of
  D_overdue_visitors : Df K mg "overdue_visitors" s_overdue_visitors ["ship"] a.f_overdue_visitors a.d_overdue_visitors
  D_as_bits : Df K mg "as_bits" s_as_bits ["persons"] a.f_as_bits a.d_as_bits
  D_give_card : Df K mg "give_card" s_give_card ["ship"] a.f_give_card a.d_give_card
  D_is_no_coming_minute : Df K mg "is_no_coming_minute" s_is_no_coming_minute ["ship", "t"] a.f_is_no_coming_minute a.d_is_no_coming_minute
  D_add_gate : Df K mg "add_gate" s_add_gate ["ship"] a.f_add_gate a.d_add_gate
  D_take_aboard : Df K mg "take_aboard" s_take_aboard ["ship", "guardian", "off_by"] a.f_take_aboard a.d_take_aboard
  D_add_person : Df K mg "add_person" s_add_person ["ship"] a.f_add_person a.d_add_person
  D_add_child : Df K mg "add_child" s_add_child ["ship", "p"] a.f_add_child a.d_add_child
  D_add_visitor : Df K mg "add_visitor" s_add_visitor ["ship", "t"] a.f_add_visitor a.d_add_visitor
  D_change_card : Df K mg "change_card" s_change_card ["ship", "p"] a.f_change_card a.d_change_card
  D_turn_gate : Df K mg "turn_gate" s_turn_gate ["ship", "g", "opened"] a.f_turn_gate a.d_turn_gate
  D_move : Df K mg "move" s_move ["ship", "person", "place"] a.f_move a.d_move
  D_come_aboard : Df K mg "come_aboard" s_come_aboard ["ship", "gate", "person"] a.f_come_aboard a.d_come_aboard
  D_go_ashore : Df K mg "go_ashore" s_go_ashore ["ship", "gate", "person"] a.f_go_ashore a.d_go_ashore
  D_has_counted_enough : Df K mg "has_counted_enough" s_has_counted_enough ["ship", "gate"] a.f_has_counted_enough a.d_has_counted_enough
  D_scan_card : Df K mg "scan_card" s_scan_card ["ship", "g", "card"] a.f_scan_card a.d_scan_card
  D_leave_for_good : Df K mg "leave_for_good" s_leave_for_good ["ship", "p"] a.f_leave_for_good a.d_leave_for_good
  D_let_minutes_pass : Df K mg "let_minutes_pass" s_let_minutes_pass ["ship", "n"] a.f_let_minutes_pass a.d_let_minutes_pass
  D_set_sail : Df K mg "set_sail" s_set_sail ["ship", "t"] a.f_set_sail a.d_set_sail
  D_give_more_time : Df K mg "give_more_time" s_give_more_time ["ship", "p", "t"] a.f_give_more_time a.d_give_more_time
  D_one_more_or_zero : Df K mg "one_more_or_zero" s_one_more_or_zero ["number"] a.f_one_more_or_zero a.d_one_more_or_zero
  D_one_if : Df K mg "one_if" s_one_if ["truth"] a.f_one_if a.d_one_if
  D_told_as_bits : Df K mg "told_as_bits" s_told_as_bits ["persons"] a.f_told_as_bits a.d_told_as_bits
  D_who_has : Df K mg "who_has" s_who_has ["ship", "card"] a.f_who_has a.d_who_has
  D_where_is : Df K mg "where_is" s_where_is ["ship", "p"] a.f_where_is a.d_where_is
  D_count_aboard : Df K mg "count_aboard" s_count_aboard ["ship"] a.f_count_aboard a.d_count_aboard
  D_who_is_missing : Df K mg "who_is_missing" s_who_is_missing ["ship"] a.f_who_is_missing a.d_who_is_missing
  D_which_visitors : Df K mg "which_visitors" s_which_visitors ["ship"] a.f_which_visitors a.d_which_visitors
  D_which_children : Df K mg "which_children" s_which_children ["ship", "p"] a.f_which_children a.d_which_children
  D_which_group : Df K mg "which_group" s_which_group ["ship", "p"] a.f_which_group a.d_which_group
  D_children_in : Df K mg "children_in" s_children_in ["ship", "place"] a.f_children_in a.d_children_in
  D_who_is_alone : Df K mg "who_is_alone" s_who_is_alone ["ship"] a.f_who_is_alone a.d_who_is_alone
  D_who_is_lost : Df K mg "who_is_lost" s_who_is_lost ["ship"] a.f_who_is_lost a.d_who_is_lost
  D_may_they_go : Df K mg "may_they_go" s_may_they_go ["ship", "p"] a.f_may_they_go a.d_may_they_go
  D_is_ready : Df K mg "is_ready" s_is_ready ["ship"] a.f_is_ready a.d_is_ready
  D_missing_for_longest : Df K mg "missing_for_longest" s_missing_for_longest ["ship"] a.f_missing_for_longest a.d_missing_for_longest
  D_look_at_gate : Df K mg "look_at_gate" s_look_at_gate ["ship", "g"] a.f_look_at_gate a.d_look_at_gate
  D_sum_up : Df K mg "sum_up" s_sum_up ["ship"] a.f_sum_up a.d_sum_up
  D_Voyage_init : Dm K "__init__" "Voyage.__init__" s_Voyage_init ["self", "ship"] a.f_Voyage_init a.d_Voyage_init
  D_keep_change : Df K mg "keep_change" s_keep_change ["voyage", "changed"] a.f_keep_change a.d_keep_change
  D_take_back : Df K mg "take_back" s_take_back ["voyage"] a.f_take_back a.d_take_back
  D_do_again : Df K mg "do_again" s_do_again ["voyage"] a.f_do_again a.d_do_again
  D_tell_state : Df K mg "tell_state" s_tell_state ["voyage"] a.f_tell_state a.d_tell_state
  D_can_start : Df K mg "can_start" s_can_start ["most", "sail"] a.f_can_start a.d_can_start
  D_call_with : Df K mg "call_with" s_call_with ["handler", "ship", "given"] a.f_call_with a.d_call_with
  D_change : Df K mg "change" s_change ["voyage", "number", "given"] a.f_change a.d_change
  D_answer_one : Df K mg "answer_one" s_answer_one ["voyage", "number", "given"] a.f_answer_one a.d_answer_one
  D_answers : Df K mg "answers" s_answers ["calls"] a.f_answers a.d_answers
section
variable {K : PySem.W.Frag} {mg : Str → Option Value} {h : Heap} {x : Str} {st : Stmt} {ps : List Str} {f C : Addr} {od an : Option Addr} {osl : Array (Option Value)} {oc kV doc pm cdv ct : Value}
theorem no_mk (X : K.In h) (G : h.Ns mainGlobals mg) (a : PySem.W.nsIn K mainGlobals x = some none) : mg x = none := PySem.W.mg_none_of X G a
theorem gi_mk {i : Int} {tk : Tok} (X : K.In h) (G : h.Ns mainGlobals mg) (a : PySem.W.nsIn K mainGlobals x = some (some (.int i tk))) : ∃ tk, mg x = some (.int i tk) := ⟨tk, PySem.W.mg_of X G a⟩
theorem df_mk (X : K.In h) (G : h.Ns mainGlobals mg) (a : PySem.W.nsIn K mainGlobals x = some (some (.ref f)))
    (l : K.lookup f = some ⟨oc, od, .func (PySem.W.fnOf x x (defArgs st) (defBody st) (defScope st) .none kV doc pm an cdv ct), osl⟩) (c : PySem.W.codeIn K cdv x = true) (k : PySem.W.keepIn K (.ref f) = true)
    (b : ∀ (kV doc pm : Value) (an : Option Addr) (cdv ct : Value) (us : List Value), us.length = ps.length → bindArgs (PySem.W.fnOf x x (defArgs st) (defBody st) (defScope st) .none kV doc pm an cdv ct) ⟨us, []⟩ = pure (ps.zip us)) : ∃ f fd, Df K mg x st ps f fd := by
  have F := fun_mk (st := st) l c k
  exact ⟨f, _, PySem.W.mg_of X G a, F, F.binds b⟩
theorem mk_Gate (X : K.In h) (G : h.Ns mainGlobals mg) (a : PySem.W.nsIn K mainGlobals "Gate" = some (some (.ref C))) (pg : PySem.W.plainGet K C Str.empty = true) (hd : PySem.W.hasDictIn K C = true) (po : PySem.W.plainOver K C = true)
    (sa : PySem.W.findIn K (.ref C) "__setattr__" = some (some (.builtin "object.__setattr__"))) (mk : PySem.W.makesIn K C = true) (kc : PySem.W.keepIn K (.ref C) = true)
    (ai : PySem.W.findIn K (.ref C) "__init__" = some (some (.ref f))) (ii : PySem.W.isFn K (.ref f) = true) (l : K.lookup f = some ⟨oc, od, .func (PySem.W.fnOf "__init__" "Gate.__init__" (defArgs s_Gate_init) (defBody s_Gate_init) (defScope s_Gate_init) .none kV doc pm an cdv ct), osl⟩) (cc : PySem.W.codeIn K cdv "Gate.__init__" = true) (k : PySem.W.keepIn K (.ref f) = true)
    (n0 : PySem.W.findIn K (.ref C) "opened" = some none)
    (n1 : PySem.W.findIn K (.ref C) "went_out" = some none)
    (n2 : PySem.W.findIn K (.ref C) "came_in" = some none)
    : ∃ C f fd, Cf K mg "Gate" C f ∧ Dm K "__init__" "Gate.__init__" s_Gate_init ["self"] f fd ∧ NoAttr K C "opened" ∧ NoAttr K C "went_out" ∧ NoAttr K C "came_in" := by
  have F := fun_mk (st := s_Gate_init) l cc k
  exact ⟨C, f, _, ⟨PySem.W.mg_of X G a, ⟨pg, hd, po, sa⟩, ⟨mk, ai, ii, kc⟩⟩, ⟨F, F.binds (ps := ["self"]) fun _ _ _ _ _ _ us hl => match us, hl with | [_], _ => rfl⟩, n0, n1, n2⟩
theorem mk_Person (X : K.In h) (G : h.Ns mainGlobals mg) (a : PySem.W.nsIn K mainGlobals "Person" = some (some (.ref C))) (pg : PySem.W.plainGet K C Str.empty = true) (hd : PySem.W.hasDictIn K C = true) (po : PySem.W.plainOver K C = true)
    (sa : PySem.W.findIn K (.ref C) "__setattr__" = some (some (.builtin "object.__setattr__"))) (mk : PySem.W.makesIn K C = true) (kc : PySem.W.keepIn K (.ref C) = true)
    (ai : PySem.W.findIn K (.ref C) "__init__" = some (some (.ref f))) (ii : PySem.W.isFn K (.ref f) = true) (l : K.lookup f = some ⟨oc, od, .func (PySem.W.fnOf "__init__" "Person.__init__" (defArgs s_Person_init) (defBody s_Person_init) (defScope s_Person_init) .none kV doc pm an cdv ct), osl⟩) (cc : PySem.W.codeIn K cdv "Person.__init__" = true) (k : PySem.W.keepIn K (.ref f) = true)
    (n0 : PySem.W.findIn K (.ref C) "number" = some none)
    (n1 : PySem.W.findIn K (.ref C) "card" = some none)
    (n2 : PySem.W.findIn K (.ref C) "place" = some none)
    (n3 : PySem.W.findIn K (.ref C) "since" = some none)
    (n4 : PySem.W.findIn K (.ref C) "guardian" = some none)
    (n5 : PySem.W.findIn K (.ref C) "off_by" = some none)
    : ∃ C f fd, Cf K mg "Person" C f ∧ Dm K "__init__" "Person.__init__" s_Person_init ["self", "number", "card", "since", "guardian", "off_by"] f fd ∧ NoAttr K C "number" ∧ NoAttr K C "card" ∧ NoAttr K C "place" ∧ NoAttr K C "since" ∧ NoAttr K C "guardian" ∧ NoAttr K C "off_by" := by
  have F := fun_mk (st := s_Person_init) l cc k
  exact ⟨C, f, _, ⟨PySem.W.mg_of X G a, ⟨pg, hd, po, sa⟩, ⟨mk, ai, ii, kc⟩⟩, ⟨F, F.binds (ps := ["self", "number", "card", "since", "guardian", "off_by"]) fun _ _ _ _ _ _ us hl => match us, hl with | [_, _, _, _, _, _], _ => rfl⟩, n0, n1, n2, n3, n4, n5⟩
theorem mk_Ship (X : K.In h) (G : h.Ns mainGlobals mg) (a : PySem.W.nsIn K mainGlobals "Ship" = some (some (.ref C))) (pg : PySem.W.plainGet K C Str.empty = true) (hd : PySem.W.hasDictIn K C = true) (po : PySem.W.plainOver K C = true)
    (sa : PySem.W.findIn K (.ref C) "__setattr__" = some (some (.builtin "object.__setattr__"))) (mk : PySem.W.makesIn K C = true) (kc : PySem.W.keepIn K (.ref C) = true)
    (ai : PySem.W.findIn K (.ref C) "__init__" = some (some (.ref f))) (ii : PySem.W.isFn K (.ref f) = true) (l : K.lookup f = some ⟨oc, od, .func (PySem.W.fnOf "__init__" "Ship.__init__" (defArgs s_Ship_init) (defBody s_Ship_init) (defScope s_Ship_init) .none kV doc pm an cdv ct), osl⟩) (cc : PySem.W.codeIn K cdv "Ship.__init__" = true) (k : PySem.W.keepIn K (.ref f) = true)
    (n0 : PySem.W.findIn K (.ref C) "most" = some none)
    (n1 : PySem.W.findIn K (.ref C) "sail" = some none)
    (n2 : PySem.W.findIn K (.ref C) "minute" = some none)
    (n3 : PySem.W.findIn K (.ref C) "gates" = some none)
    (n4 : PySem.W.findIn K (.ref C) "persons" = some none)
    (n5 : PySem.W.findIn K (.ref C) "cards_given" = some none)
    (n6 : PySem.W.findIn K (.ref C) "cards_shown_in_vain" = some none)
    : ∃ C f fd, Cf K mg "Ship" C f ∧ Dm K "__init__" "Ship.__init__" s_Ship_init ["self", "most", "sail"] f fd ∧ NoAttr K C "most" ∧ NoAttr K C "sail" ∧ NoAttr K C "minute" ∧ NoAttr K C "gates" ∧ NoAttr K C "persons" ∧ NoAttr K C "cards_given" ∧ NoAttr K C "cards_shown_in_vain" := by
  have F := fun_mk (st := s_Ship_init) l cc k
  exact ⟨C, f, _, ⟨PySem.W.mg_of X G a, ⟨pg, hd, po, sa⟩, ⟨mk, ai, ii, kc⟩⟩, ⟨F, F.binds (ps := ["self", "most", "sail"]) fun _ _ _ _ _ _ us hl => match us, hl with | [_, _, _], _ => rfl⟩, n0, n1, n2, n3, n4, n5, n6⟩
theorem mk_Voyage (X : K.In h) (G : h.Ns mainGlobals mg) (a : PySem.W.nsIn K mainGlobals "Voyage" = some (some (.ref C))) (pg : PySem.W.plainGet K C Str.empty = true) (hd : PySem.W.hasDictIn K C = true) (po : PySem.W.plainOver K C = true)
    (sa : PySem.W.findIn K (.ref C) "__setattr__" = some (some (.builtin "object.__setattr__"))) (mk : PySem.W.makesIn K C = true) (kc : PySem.W.keepIn K (.ref C) = true)
    (ai : PySem.W.findIn K (.ref C) "__init__" = some (some (.ref f))) (ii : PySem.W.isFn K (.ref f) = true) (l : K.lookup f = some ⟨oc, od, .func (PySem.W.fnOf "__init__" "Voyage.__init__" (defArgs s_Voyage_init) (defBody s_Voyage_init) (defScope s_Voyage_init) .none kV doc pm an cdv ct), osl⟩) (cc : PySem.W.codeIn K cdv "Voyage.__init__" = true) (k : PySem.W.keepIn K (.ref f) = true)
    (n0 : PySem.W.findIn K (.ref C) "ship" = some none)
    (n1 : PySem.W.findIn K (.ref C) "earlier" = some none)
    (n2 : PySem.W.findIn K (.ref C) "later" = some none)
    : ∃ C f fd, Cf K mg "Voyage" C f ∧ Dm K "__init__" "Voyage.__init__" s_Voyage_init ["self", "ship"] f fd ∧ NoAttr K C "ship" ∧ NoAttr K C "earlier" ∧ NoAttr K C "later" := by
  have F := fun_mk (st := s_Voyage_init) l cc k
  exact ⟨C, f, _, ⟨PySem.W.mg_of X G a, ⟨pg, hd, po, sa⟩, ⟨mk, ai, ii, kc⟩⟩, ⟨F, F.binds (ps := ["self", "ship"]) fun _ _ _ _ _ _ us hl => match us, hl with | [_, _], _ => rfl⟩, n0, n1, n2⟩
theorem mk_CHANGES {t0 t1 t2 t3 t4 t5 t6 t7 t8 t9 t10 : Tok} {g0 g1 g2 g3 g4 g5 g6 g7 g8 g9 g10 : Addr} {h0 h1 h2 h3 h4 h5 h6 h7 h8 h9 h10 : Int} {nn : Nat} (X : K.In h) (G : h.Ns mainGlobals mg) (a : PySem.W.nsIn K mainGlobals "CHANGES" = some (some (.ref f)))
    (l : K.lookup f = some ⟨.type "dict", none, .dict #[⟨h0, .int 1 t0, .ref g0⟩, ⟨h1, .int 2 t1, .ref g1⟩, ⟨h2, .int 3 t2, .ref g2⟩, ⟨h3, .int 4 t3, .ref g3⟩, ⟨h4, .int 5 t4, .ref g4⟩, ⟨h5, .int 6 t5, .ref g5⟩, ⟨h6, .int 7 t6, .ref g6⟩, ⟨h7, .int 8 t7, .ref g7⟩, ⟨h8, .int 9 t8, .ref g8⟩, ⟨h9, .int 10 t9, .ref g9⟩, ⟨h10, .int 11 t10, .ref g10⟩] nn, #[]⟩) (e : (f == sysModules) = false)
    (q0 : h0 = hashInt 1) (m0 : PySem.W.nsIn K mainGlobals "add_gate" = some (some (.ref g0)))
    (q1 : h1 = hashInt 2) (m1 : PySem.W.nsIn K mainGlobals "add_person" = some (some (.ref g1)))
    (q2 : h2 = hashInt 3) (m2 : PySem.W.nsIn K mainGlobals "add_child" = some (some (.ref g2)))
    (q3 : h3 = hashInt 4) (m3 : PySem.W.nsIn K mainGlobals "add_visitor" = some (some (.ref g3)))
    (q4 : h4 = hashInt 5) (m4 : PySem.W.nsIn K mainGlobals "change_card" = some (some (.ref g4)))
    (q5 : h5 = hashInt 6) (m5 : PySem.W.nsIn K mainGlobals "turn_gate" = some (some (.ref g5)))
    (q6 : h6 = hashInt 7) (m6 : PySem.W.nsIn K mainGlobals "scan_card" = some (some (.ref g6)))
    (q7 : h7 = hashInt 8) (m7 : PySem.W.nsIn K mainGlobals "leave_for_good" = some (some (.ref g7)))
    (q8 : h8 = hashInt 9) (m8 : PySem.W.nsIn K mainGlobals "let_minutes_pass" = some (some (.ref g8)))
    (q9 : h9 = hashInt 10) (m9 : PySem.W.nsIn K mainGlobals "set_sail" = some (some (.ref g9)))
    (q10 : h10 = hashInt 11) (m10 : PySem.W.nsIn K mainGlobals "give_more_time" = some (some (.ref g10)))
    : ∃ f, mg "CHANGES" = some (.ref f) ∧ ∀ f0 f1 f2 f3 f4 f5 f6 f7 f8 f9 f10, mg "add_gate" = some (.ref f0) → mg "add_person" = some (.ref f1) → mg "add_child" = some (.ref f2) → mg "add_visitor" = some (.ref f3) → mg "change_card" = some (.ref f4) → mg "turn_gate" = some (.ref f5) → mg "scan_card" = some (.ref f6) → mg "leave_for_good" = some (.ref f7) → mg "let_minutes_pass" = some (.ref f8) → mg "set_sail" = some (.ref f9) → mg "give_more_time" = some (.ref f10) → KDict K f [(1, f0), (2, f1), (3, f2), (4, f3), (5, f4), (6, f5), (7, f6), (8, f7), (9, f8), (10, f9), (11, f10)] := by
  refine ⟨f, PySem.W.mg_of X G a, fun f0 f1 f2 f3 f4 f5 f6 f7 f8 f9 f10 z0 z1 z2 z3 z4 z5 z6 z7 z8 z9 z10 => ?_⟩
  have z0 := z0.symm.trans (PySem.W.mg_of X G m0)
  have z1 := z1.symm.trans (PySem.W.mg_of X G m1)
  have z2 := z2.symm.trans (PySem.W.mg_of X G m2)
  have z3 := z3.symm.trans (PySem.W.mg_of X G m3)
  have z4 := z4.symm.trans (PySem.W.mg_of X G m4)
  have z5 := z5.symm.trans (PySem.W.mg_of X G m5)
  have z6 := z6.symm.trans (PySem.W.mg_of X G m6)
  have z7 := z7.symm.trans (PySem.W.mg_of X G m7)
  have z8 := z8.symm.trans (PySem.W.mg_of X G m8)
  have z9 := z9.symm.trans (PySem.W.mg_of X G m9)
  have z10 := z10.symm.trans (PySem.W.mg_of X G m10)
  cases z0; cases z1; cases z2; cases z3; cases z4; cases z5; cases z6; cases z7; cases z8; cases z9; cases z10
  exact ⟨e, (by show ([1, 2, 3, 4, 5, 6, 7, 8, 9, 10, 11] : List Int).Nodup; decide), _, _, _, l, ⟨rfl, rfl, rfl⟩, rfl, (.cons ⟨⟨_, rfl⟩, q0, rfl⟩ (.cons ⟨⟨_, rfl⟩, q1, rfl⟩ (.cons ⟨⟨_, rfl⟩, q2, rfl⟩ (.cons ⟨⟨_, rfl⟩, q3, rfl⟩ (.cons ⟨⟨_, rfl⟩, q4, rfl⟩ (.cons ⟨⟨_, rfl⟩, q5, rfl⟩ (.cons ⟨⟨_, rfl⟩, q6, rfl⟩ (.cons ⟨⟨_, rfl⟩, q7, rfl⟩ (.cons ⟨⟨_, rfl⟩, q8, rfl⟩ (.cons ⟨⟨_, rfl⟩, q9, rfl⟩ (.cons ⟨⟨_, rfl⟩, q10, rfl⟩ .nil)))))))))))⟩
theorem mk_QUESTIONS {t0 t1 t2 t3 t4 t5 t6 t7 t8 t9 t10 t11 t12 t13 : Tok} {g0 g1 g2 g3 g4 g5 g6 g7 g8 g9 g10 g11 g12 g13 : Addr} {h0 h1 h2 h3 h4 h5 h6 h7 h8 h9 h10 h11 h12 h13 : Int} {nn : Nat} (X : K.In h) (G : h.Ns mainGlobals mg) (a : PySem.W.nsIn K mainGlobals "QUESTIONS" = some (some (.ref f)))
    (l : K.lookup f = some ⟨.type "dict", none, .dict #[⟨h0, .int 12 t0, .ref g0⟩, ⟨h1, .int 13 t1, .ref g1⟩, ⟨h2, .int 14 t2, .ref g2⟩, ⟨h3, .int 15 t3, .ref g3⟩, ⟨h4, .int 16 t4, .ref g4⟩, ⟨h5, .int 17 t5, .ref g5⟩, ⟨h6, .int 18 t6, .ref g6⟩, ⟨h7, .int 19 t7, .ref g7⟩, ⟨h8, .int 20 t8, .ref g8⟩, ⟨h9, .int 21 t9, .ref g9⟩, ⟨h10, .int 22 t10, .ref g10⟩, ⟨h11, .int 23 t11, .ref g11⟩, ⟨h12, .int 24 t12, .ref g12⟩, ⟨h13, .int 25 t13, .ref g13⟩] nn, #[]⟩) (e : (f == sysModules) = false)
    (q0 : h0 = hashInt 12) (m0 : PySem.W.nsIn K mainGlobals "who_has" = some (some (.ref g0)))
    (q1 : h1 = hashInt 13) (m1 : PySem.W.nsIn K mainGlobals "where_is" = some (some (.ref g1)))
    (q2 : h2 = hashInt 14) (m2 : PySem.W.nsIn K mainGlobals "count_aboard" = some (some (.ref g2)))
    (q3 : h3 = hashInt 15) (m3 : PySem.W.nsIn K mainGlobals "who_is_missing" = some (some (.ref g3)))
    (q4 : h4 = hashInt 16) (m4 : PySem.W.nsIn K mainGlobals "which_visitors" = some (some (.ref g4)))
    (q5 : h5 = hashInt 17) (m5 : PySem.W.nsIn K mainGlobals "which_children" = some (some (.ref g5)))
    (q6 : h6 = hashInt 18) (m6 : PySem.W.nsIn K mainGlobals "which_group" = some (some (.ref g6)))
    (q7 : h7 = hashInt 19) (m7 : PySem.W.nsIn K mainGlobals "who_is_alone" = some (some (.ref g7)))
    (q8 : h8 = hashInt 20) (m8 : PySem.W.nsIn K mainGlobals "who_is_lost" = some (some (.ref g8)))
    (q9 : h9 = hashInt 21) (m9 : PySem.W.nsIn K mainGlobals "may_they_go" = some (some (.ref g9)))
    (q10 : h10 = hashInt 22) (m10 : PySem.W.nsIn K mainGlobals "is_ready" = some (some (.ref g10)))
    (q11 : h11 = hashInt 23) (m11 : PySem.W.nsIn K mainGlobals "missing_for_longest" = some (some (.ref g11)))
    (q12 : h12 = hashInt 24) (m12 : PySem.W.nsIn K mainGlobals "look_at_gate" = some (some (.ref g12)))
    (q13 : h13 = hashInt 25) (m13 : PySem.W.nsIn K mainGlobals "sum_up" = some (some (.ref g13)))
    : ∃ f, mg "QUESTIONS" = some (.ref f) ∧ ∀ f0 f1 f2 f3 f4 f5 f6 f7 f8 f9 f10 f11 f12 f13, mg "who_has" = some (.ref f0) → mg "where_is" = some (.ref f1) → mg "count_aboard" = some (.ref f2) → mg "who_is_missing" = some (.ref f3) → mg "which_visitors" = some (.ref f4) → mg "which_children" = some (.ref f5) → mg "which_group" = some (.ref f6) → mg "who_is_alone" = some (.ref f7) → mg "who_is_lost" = some (.ref f8) → mg "may_they_go" = some (.ref f9) → mg "is_ready" = some (.ref f10) → mg "missing_for_longest" = some (.ref f11) → mg "look_at_gate" = some (.ref f12) → mg "sum_up" = some (.ref f13) → KDict K f [(12, f0), (13, f1), (14, f2), (15, f3), (16, f4), (17, f5), (18, f6), (19, f7), (20, f8), (21, f9), (22, f10), (23, f11), (24, f12), (25, f13)] := by
  refine ⟨f, PySem.W.mg_of X G a, fun f0 f1 f2 f3 f4 f5 f6 f7 f8 f9 f10 f11 f12 f13 z0 z1 z2 z3 z4 z5 z6 z7 z8 z9 z10 z11 z12 z13 => ?_⟩
  have z0 := z0.symm.trans (PySem.W.mg_of X G m0)
  have z1 := z1.symm.trans (PySem.W.mg_of X G m1)
  have z2 := z2.symm.trans (PySem.W.mg_of X G m2)
  have z3 := z3.symm.trans (PySem.W.mg_of X G m3)
  have z4 := z4.symm.trans (PySem.W.mg_of X G m4)
  have z5 := z5.symm.trans (PySem.W.mg_of X G m5)
  have z6 := z6.symm.trans (PySem.W.mg_of X G m6)
  have z7 := z7.symm.trans (PySem.W.mg_of X G m7)
  have z8 := z8.symm.trans (PySem.W.mg_of X G m8)
  have z9 := z9.symm.trans (PySem.W.mg_of X G m9)
  have z10 := z10.symm.trans (PySem.W.mg_of X G m10)
  have z11 := z11.symm.trans (PySem.W.mg_of X G m11)
  have z12 := z12.symm.trans (PySem.W.mg_of X G m12)
  have z13 := z13.symm.trans (PySem.W.mg_of X G m13)
  cases z0; cases z1; cases z2; cases z3; cases z4; cases z5; cases z6; cases z7; cases z8; cases z9; cases z10; cases z11; cases z12; cases z13
  exact ⟨e, (by show ([12, 13, 14, 15, 16, 17, 18, 19, 20, 21, 22, 23, 24, 25] : List Int).Nodup; decide), _, _, _, l, ⟨rfl, rfl, rfl⟩, rfl, (.cons ⟨⟨_, rfl⟩, q0, rfl⟩ (.cons ⟨⟨_, rfl⟩, q1, rfl⟩ (.cons ⟨⟨_, rfl⟩, q2, rfl⟩ (.cons ⟨⟨_, rfl⟩, q3, rfl⟩ (.cons ⟨⟨_, rfl⟩, q4, rfl⟩ (.cons ⟨⟨_, rfl⟩, q5, rfl⟩ (.cons ⟨⟨_, rfl⟩, q6, rfl⟩ (.cons ⟨⟨_, rfl⟩, q7, rfl⟩ (.cons ⟨⟨_, rfl⟩, q8, rfl⟩ (.cons ⟨⟨_, rfl⟩, q9, rfl⟩ (.cons ⟨⟨_, rfl⟩, q10, rfl⟩ (.cons ⟨⟨_, rfl⟩, q11, rfl⟩ (.cons ⟨⟨_, rfl⟩, q12, rfl⟩ (.cons ⟨⟨_, rfl⟩, q13, rfl⟩ .nil))))))))))))))⟩
theorem mk_VOYAGE_CALLS {t0 t1 t2 : Tok} {g0 g1 g2 : Addr} {h0 h1 h2 : Int} {nn : Nat} (X : K.In h) (G : h.Ns mainGlobals mg) (a : PySem.W.nsIn K mainGlobals "VOYAGE_CALLS" = some (some (.ref f)))
    (l : K.lookup f = some ⟨.type "dict", none, .dict #[⟨h0, .int 26 t0, .ref g0⟩, ⟨h1, .int 27 t1, .ref g1⟩, ⟨h2, .int 28 t2, .ref g2⟩] nn, #[]⟩) (e : (f == sysModules) = false)
    (q0 : h0 = hashInt 26) (m0 : PySem.W.nsIn K mainGlobals "take_back" = some (some (.ref g0)))
    (q1 : h1 = hashInt 27) (m1 : PySem.W.nsIn K mainGlobals "do_again" = some (some (.ref g1)))
    (q2 : h2 = hashInt 28) (m2 : PySem.W.nsIn K mainGlobals "tell_state" = some (some (.ref g2)))
    : ∃ f, mg "VOYAGE_CALLS" = some (.ref f) ∧ ∀ f0 f1 f2, mg "take_back" = some (.ref f0) → mg "do_again" = some (.ref f1) → mg "tell_state" = some (.ref f2) → KDict K f [(26, f0), (27, f1), (28, f2)] := by
  refine ⟨f, PySem.W.mg_of X G a, fun f0 f1 f2 z0 z1 z2 => ?_⟩
  have z0 := z0.symm.trans (PySem.W.mg_of X G m0)
  have z1 := z1.symm.trans (PySem.W.mg_of X G m1)
  have z2 := z2.symm.trans (PySem.W.mg_of X G m2)
  cases z0; cases z1; cases z2
  exact ⟨e, (by show ([26, 27, 28] : List Int).Nodup; decide), _, _, _, l, ⟨rfl, rfl, rfl⟩, rfl, (.cons ⟨⟨_, rfl⟩, q0, rfl⟩ (.cons ⟨⟨_, rfl⟩, q1, rfl⟩ (.cons ⟨⟨_, rfl⟩, q2, rfl⟩ .nil)))⟩
theorem mk_HOW_MANY_GIVEN {t0 t1 t2 t3 t4 t5 t6 t7 t8 t9 t10 t11 t12 t13 t14 t15 t16 t17 t18 t19 t20 t21 t22 t23 t24 t25 t26 t27 t28 : Tok} {dd : Option Addr} {nn : Nat} (X : K.In h) (G : h.Ns mainGlobals mg) (a : PySem.W.nsIn K mainGlobals "HOW_MANY_GIVEN" = some (some (.ref f)))
    (l : K.lookup f = some ⟨.type "tuple", dd, .seq #[.int 2 t0, .int 0 t1, .int 0 t2, .int 1 t3, .int 1 t4, .int 1 t5, .int 2 t6, .int 2 t7, .int 1 t8, .int 1 t9, .int 1 t10, .int 2 t11, .int 1 t12, .int 1 t13, .int 0 t14, .int 0 t15, .int 0 t16, .int 1 t17, .int 1 t18, .int 0 t19, .int 0 t20, .int 1 t21, .int 0 t22, .int 0 t23, .int 1 t24, .int 0 t25, .int 0 t26, .int 0 t27, .int 0 t28] nn, osl⟩) : ∃ f, mg "HOW_MANY_GIVEN" = some (.ref f) ∧ ∀ H, SqT K H f [.int 2, .int 0, .int 0, .int 1, .int 1, .int 1, .int 2, .int 2, .int 1, .int 1, .int 1, .int 2, .int 1, .int 1, .int 0, .int 0, .int 0, .int 1, .int 1, .int 0, .int 0, .int 1, .int 0, .int 0, .int 1, .int 0, .int 0, .int 0, .int 0] :=
  ⟨f, PySem.W.mg_of X G a, fun H => .inr ⟨_, _, _, l, rfl, rfl, (by show 29 ≤ sizeLine; decide), (.cons ⟨_, rfl⟩ (.cons ⟨_, rfl⟩ (.cons ⟨_, rfl⟩ (.cons ⟨_, rfl⟩ (.cons ⟨_, rfl⟩ (.cons ⟨_, rfl⟩ (.cons ⟨_, rfl⟩ (.cons ⟨_, rfl⟩ (.cons ⟨_, rfl⟩ (.cons ⟨_, rfl⟩ (.cons ⟨_, rfl⟩ (.cons ⟨_, rfl⟩ (.cons ⟨_, rfl⟩ (.cons ⟨_, rfl⟩ (.cons ⟨_, rfl⟩ (.cons ⟨_, rfl⟩ (.cons ⟨_, rfl⟩ (.cons ⟨_, rfl⟩ (.cons ⟨_, rfl⟩ (.cons ⟨_, rfl⟩ (.cons ⟨_, rfl⟩ (.cons ⟨_, rfl⟩ (.cons ⟨_, rfl⟩ (.cons ⟨_, rfl⟩ (.cons ⟨_, rfl⟩ (.cons ⟨_, rfl⟩ (.cons ⟨_, rfl⟩ (.cons ⟨_, rfl⟩ (.cons ⟨_, rfl⟩ .nil)))))))))))))))))))))))))))))⟩⟩
end
end Gw
namespace Gw
open Km440
/-! ## Places of a list that a test picks -/
def noOne : Person := ⟨0, none, false, 0, none, true⟩
def sel (f : Person → Bool) (l : List Person) : List Nat := (List.range l.length).filter fun i => f (l.getD i noOne)
theorem sel_nil (f : Person → Bool) : sel f [] = [] := rfl
theorem sel_cons (f : Person → Bool) (x : Person) (r : List Person) : sel f (x :: r) = (if f x = true then [0] else []) ++ (sel f r).map (· + 1) := by
  unfold sel
  rw [List.length_cons, List.range_succ_eq_map, List.filter_cons, List.filter_map]
  have e : (List.filter ((fun i => f ((x :: r).getD i noOne)) ∘ Nat.succ) (List.range r.length)) = List.filter (fun i => f (r.getD i noOne)) (List.range r.length) := by
    apply List.filter_congr
    intro i _
    simp
  rw [e]
  by_cases h : f x = true
  · rw [if_pos h, if_pos (by simpa using h)]
    rfl
  · rw [if_neg h, if_neg (by simpa using h)]
    rfl
theorem sel_length (f : Person → Bool) : ∀ l : List Person, (sel f l).length = l.countP f
  | [] => rfl
  | x :: r => by
    rw [sel_cons, List.length_append, List.length_map, sel_length f r, List.countP_cons]
    by_cases h : f x = true
    · rw [if_pos h, if_pos h]; simp; omega
    · rw [if_neg h, if_neg h]; simp
theorem sel_congr {f g : Person → Bool} {l : List Person} (h : ∀ x ∈ l, f x = g x) : sel f l = sel g l := by
  unfold sel
  apply List.filter_congr
  intro i hi
  have hl : i < l.length := List.mem_range.mp hi
  have e : l.getD i noOne = l[i] := by simp [List.getD, hl]
  rw [e]
  exact h _ (List.getElem_mem hl)
theorem sel_sorted (f : Person → Bool) (l : List Person) : (sel f l).Pairwise (· < ·) := by
  unfold sel
  exact List.Pairwise.filter _ List.pairwise_lt_range
theorem sel_lt {f : Person → Bool} {l : List Person} {i : Nat} (h : i ∈ sel f l) : i < l.length := List.mem_range.mp (List.mem_filter.mp h).1
theorem sel_filter (f g : Person → Bool) (l : List Person) : (sel f l).filter (fun i => g (l.getD i noOne)) = sel (fun x => f x && g x) l := by
  unfold sel
  rw [List.filter_filter]
  apply List.filter_congr
  intro i _
  exact Bool.and_comm _ _
theorem countP_set_le (f : Person → Bool) : ∀ (l : List Person) (i : Nat) (x : Person), (l.set i x).countP f ≤ l.countP f + (if f x = true then 1 else 0)
  | [], i, x => by simp
  | a :: r, 0, x => by
    rw [List.set_cons_zero, List.countP_cons, List.countP_cons]
    omega
  | a :: r, i + 1, x => by
    rw [List.set_cons_succ, List.countP_cons, List.countP_cons]
    have := countP_set_le f r i x
    omega
theorem countP_set_same (f : Person → Bool) : ∀ (l : List Person) (i : Nat) (x y : Person), l[i]? = some y → f x = f y → (l.set i x).countP f = l.countP f
  | [], i, x, y, h, _ => by simp at h
  | a :: r, 0, x, y, h, e => by
    have h : a = y := by simpa using h
    subst h
    rw [List.set_cons_zero, List.countP_cons, List.countP_cons, e]
  | a :: r, i + 1, x, y, h, e => by
    rw [List.set_cons_succ, List.countP_cons, List.countP_cons, countP_set_same f r i x y (by simpa using h) e]
/-! ## The specification's lists as picks -/
def fHere (x : Person) : Bool := !x.gone && !x.ashore
def fAway (x : Person) : Bool := !x.gone && x.ashore
theorem person_eq (s : Ship) (p : Nat) : s.person p = s.persons.getD p noOne := rfl
theorem is_in {s : Ship} {p : Nat} (h : p < s.persons.length) : s.is p = !(s.person p).gone := by
  unfold Ship.is
  rw [decide_eq_true h]
  rfl
theorem here_eq (s : Ship) : s.here = sel fHere s.persons := by
  unfold Ship.here sel
  apply List.filter_congr
  intro i hi
  rw [is_in (List.mem_range.mp hi)]
  rfl
theorem away_eq (s : Ship) : s.away = sel fAway s.persons := by
  unfold Ship.away sel
  apply List.filter_congr
  intro i hi
  rw [is_in (List.mem_range.mp hi)]
  rfl
theorem children_eq (s : Ship) (p : Nat) : s.children p = sel (fun x => !x.gone && x.with_ == some p) s.persons := by
  unfold Ship.children sel
  apply List.filter_congr
  intro i hi
  rw [is_in (List.mem_range.mp hi)]
  rfl
theorem visitors_eq (s : Ship) : s.visitors = sel (fun x => fHere x && x.visitor.isSome) s.persons := by
  unfold Ship.visitors
  rw [here_eq]
  exact sel_filter fHere (fun x => x.visitor.isSome) s.persons
theorem missing_eq (s : Ship) : s.missing = sel (fun x => fAway x && x.visitor.isNone) s.persons := by
  unfold Ship.missing
  rw [away_eq]
  exact sel_filter fAway (fun x => x.visitor.isNone) s.persons
def fOver (t : Nat) (x : Person) : Bool := match x.visitor with
  | some u => decide (u < t)
  | none => false
theorem stay_eq (s : Ship) : s.stay = sel (fun x => fHere x && fOver s.time x) s.persons := by
  unfold Ship.stay
  rw [here_eq]
  exact sel_filter fHere (fOver s.time) s.persons
def fWithAshore (s : Ship) (x : Person) : Bool := match x.with_ with
  | some p => s.is p && (s.person p).ashore
  | none => false
theorem alone_eq (s : Ship) : s.alone = sel (fun x => fHere x && fWithAshore s x) s.persons := by
  unfold Ship.alone
  rw [here_eq]
  exact sel_filter fHere (fWithAshore s) s.persons
def fLost (s : Ship) (x : Person) : Bool := match x.with_ with
  | some p => !(s.is p) || !((s.person p).ashore)
  | none => false
theorem lost_eq (s : Ship) : s.lost = sel (fun x => fAway x && fLost s x) s.persons := by
  unfold Ship.lost
  rw [away_eq]
  exact sel_filter fAway (fLost s) s.persons
/-! ## Ships that can be -/
structure Good (s : Ship) : Prop where
  np : s.persons.length ≤ 24
  ng : s.gates.length ≤ 3
  wi : ∀ (i : Nat) (x : Person) (q : Nat), s.persons[i]? = some x → x.with_ = some q → ∃ y, s.persons[q]? = some y ∧ y.with_ = none ∧ y.visitor = none
  si : ∀ x ∈ s.persons, x.since ≤ s.time
  hm : s.persons.countP fHere ≤ s.most
theorem here_len (s : Ship) : s.here.length = s.persons.countP fHere := by rw [here_eq, sel_length]
theorem Good.here {s : Ship} (g : Good s) : s.here.length ≤ s.most := by rw [here_len]; exact g.hm
theorem person_at {s : Ship} {p : Nat} {x : Person} (h : s.persons[p]? = some x) : s.person p = x := by
  rw [person_eq]
  simp [List.getD, h]
theorem is_at {s : Ship} {p : Nat} (h : s.is p = true) : s.persons[p]? = some (s.person p) ∧ (s.person p).gone = false := by
  unfold Ship.is at h
  rw [Bool.and_eq_true] at h
  have hl : p < s.persons.length := of_decide_eq_true h.1
  refine ⟨?_, by simpa using h.2⟩
  rw [person_eq, List.getElem?_eq_getElem hl]
  simp [List.getD, hl]
theorem is_not {s : Ship} {p : Nat} (h : s.is p = false) : s.persons[p]? = none ∨ ∃ x, s.persons[p]? = some x ∧ x.gone = true := by
  cases e : s.persons[p]? with
  | none => exact .inl rfl
  | some x =>
    refine .inr ⟨x, rfl, ?_⟩
    have hl : p < s.persons.length := (List.getElem?_eq_some_iff.mp e).1
    rw [is_in hl, person_at e] at h
    simpa using h
theorem opened_good {n t : Nat} : Good (opened n t) := ⟨Nat.zero_le _, Nat.zero_le _, fun i x q h => by simp [opened] at h, fun x h => by simp [opened] at h, Nat.zero_le _⟩
theorem getElem?_snoc {α : Type} {l : List α} {x y : α} {i : Nat} (h : (l ++ [x])[i]? = some y) : l[i]? = some y ∨ (i = l.length ∧ y = x) := by
  by_cases hi : i < l.length
  · rw [List.getElem?_append_left hi] at h
    exact .inl h
  · rw [List.getElem?_append_right (Nat.le_of_not_lt hi)] at h
    have e : i - l.length = 0 := by
      cases q : i - l.length with
      | zero => rfl
      | succ k => rw [q] at h; simp at h
    rw [e] at h
    refine .inr ⟨by omega, ?_⟩
    simpa using h.symm
/-- one more comes aboard -/
theorem Good.add {s : Ship} (g : Good s) {w v : Option Nat} (h1 : s.persons.length < 24) (h2 : s.here.length < s.most)
    (hw : ∀ q, w = some q → ∃ y, s.persons[q]? = some y ∧ y.with_ = none ∧ y.visitor = none) : Good (s.add w v) := by
  refine ⟨?_, g.ng, ?_, ?_, ?_⟩
  · show (s.persons ++ [_]).length ≤ 24
    rw [List.length_append]
    simp
    omega
  · intro i x q hi hx
    have hi : (s.persons ++ [⟨s.cards, w, false, s.time, v, false⟩])[i]? = some x := hi
    have up : ∀ y, s.persons[q]? = some y → (s.persons ++ [⟨s.cards, w, false, s.time, v, false⟩])[q]? = some y := fun y hy => by
      rw [List.getElem?_append_left (List.getElem?_eq_some_iff.mp hy).1]
      exact hy
    rcases getElem?_snoc hi with h | ⟨_, h⟩
    · obtain ⟨y, a, b⟩ := g.wi i x q h hx
      exact ⟨y, up y a, b⟩
    · subst h
      obtain ⟨y, a, b⟩ := hw q hx
      exact ⟨y, up y a, b⟩
  · intro x hx
    have hx : x ∈ s.persons ++ [⟨s.cards, w, false, s.time, v, false⟩] := hx
    rcases List.mem_append.mp hx with h | h
    · exact g.si x h
    · have := List.mem_singleton.mp h
      subst this
      exact Nat.le_refl _
  · show (s.persons ++ [_]).countP fHere ≤ s.most
    rw [List.countP_append]
    have h3 : s.persons.countP fHere < s.most := by rw [← here_len]; exact h2
    have h4 : List.countP fHere [(⟨s.cards, w, false, s.time, v, false⟩ : Person)] ≤ 1 := List.countP_le_length
    omega
/-- a person is changed: whom they must be with stays, a visitor stays one -/
theorem Good.set {s : Ship} (g : Good s) {p : Nat} {x y : Person} (hx : s.persons[p]? = some x) (hw : y.with_ = x.with_) (hv : x.visitor = none → y.visitor = none) (hs : y.since ≤ s.time)
    (hm : (s.persons.set p y).countP fHere ≤ s.most) : Good (s.set p y) := by
  have hl : p < s.persons.length := (List.getElem?_eq_some_iff.mp hx).1
  refine ⟨by show (s.persons.set p y).length ≤ 24; rw [List.length_set]; exact g.np, g.ng, ?_, ?_, hm⟩
  · intro i z q hi hz
    have hi : (s.persons.set p y)[i]? = some z := hi
    show ∃ y', (s.persons.set p y)[q]? = some y' ∧ _
    have old : ∃ y', s.persons[q]? = some y' ∧ y'.with_ = none ∧ y'.visitor = none := by
      by_cases e : i = p
      · subst e
        rw [List.getElem?_set_self hl] at hi
        have hi := Option.some.inj hi
        subst hi
        exact g.wi i x q hx (hw ▸ hz)
      · rw [List.getElem?_set_ne (fun h => e h.symm)] at hi
        exact g.wi i z q hi hz
    obtain ⟨y', a, b, c⟩ := old
    by_cases e : q = p
    · subst e
      rw [hx] at a
      have a := Option.some.inj a
      subst a
      exact ⟨y, List.getElem?_set_self hl, hw ▸ b, hv c⟩
    · exact ⟨y', by rw [List.getElem?_set_ne (fun h => e h.symm)]; exact a, b, c⟩
  · intro z hz
    have hz : z ∈ s.persons.set p y := hz
    rcases List.mem_or_eq_of_mem_set hz with h | h
    · exact g.si z h
    · subst h
      exact hs
theorem Good.gates {s s' : Ship} (g : Good s) (hp : s'.persons = s.persons) (hg : s'.gates.length ≤ 3) (ht : s.time ≤ s'.time) (hm : s'.most = s.most) : Good s' :=
  ⟨hp ▸ g.np, hg, hp ▸ g.wi, fun x hx => Nat.le_trans (g.si x (hp ▸ hx)) ht, by rw [hp, hm]; exact g.hm⟩
/-! ## Bits -/
theorem bits_acc : ∀ (l : List Nat) (w : Nat), l.foldl (fun w k => w + 2 ^ k) w = w + bits l
  | [], w => by simp [bits]
  | k :: l, w => by
    unfold bits
    rw [List.foldl_cons, List.foldl_cons, bits_acc l, bits_acc l]
    omega
theorem bits_cons (k : Nat) (l : List Nat) : bits (k :: l) = 2 ^ k + bits l := by
  show List.foldl _ _ _ = _
  rw [List.foldl_cons, bits_acc]
  omega
theorem bits_snoc (l : List Nat) (k : Nat) : bits (l ++ [k]) = bits l + 2 ^ k := by
  unfold bits
  rw [List.foldl_append]
  rfl
theorem bits_le : ∀ (l : List Nat) (lo m : Nat), l.Pairwise (· < ·) → (∀ j ∈ l, lo ≤ j ∧ j < m) → lo ≤ m → bits l + 2 ^ lo ≤ 2 ^ m
  | [], lo, m, _, _, h => by
    show 0 + 2 ^ lo ≤ 2 ^ m
    rw [Nat.zero_add]
    exact Nat.pow_le_pow_right (by decide) h
  | j :: l, lo, m, hp, ha, h => by
    obtain ⟨h1, h2⟩ := List.pairwise_cons.mp hp
    obtain ⟨a1, a2⟩ := ha j (List.mem_cons_self ..)
    have ih := bits_le l (j + 1) m h2 (fun i hi => ⟨h1 i hi, (ha i (List.mem_cons_of_mem _ hi)).2⟩) a2
    rw [bits_cons]
    have e : 2 ^ (j + 1) = 2 ^ j + 2 ^ j := by rw [Nat.pow_succ]; omega
    have e2 : 2 ^ lo ≤ 2 ^ j := Nat.pow_le_pow_right (by decide) a1
    omega
theorem bits_lt {l : List Nat} {m : Nat} (hp : l.Pairwise (· < ·)) (ha : ∀ j ∈ l, j < m) : bits l < 2 ^ m := by
  have := bits_le l 0 m hp (fun j hj => ⟨Nat.zero_le _, ha j hj⟩) (Nat.zero_le _)
  omega
/-- what a call makes of a ship alone -/
def eff (s : Ship) (c : Call) : Ship := (act ⟨s, [], []⟩ c).1.now
def ans (s : Ship) (c : Call) : Ans := (act ⟨s, [], []⟩ c).2
def res (s : Ship) (c : Call) : Ship × List Int := (eff s c, Km440Neutral.told (ans s c))
def added (s : Ship) (w v : Option Nat) : Ship × List Int :=
  if 24 ≤ s.persons.length then (s, [-28]) else if s.most ≤ s.here.length then (s, [-62]) else (s.add w v, [(s.persons.length : Int), (s.cards : Int)])
theorem res_adds (s : Ship) (w v : Option Nat) : ((Desk.adds ⟨s, [], []⟩ w v).1.now, Km440Neutral.told (Desk.adds ⟨s, [], []⟩ w v).2) = added s w v := by
  unfold Desk.adds added
  by_cases h : PERSONS ≤ s.persons.length
  · have h' : 24 ≤ s.persons.length := h
    simp only [if_pos h, if_pos h']
    rfl
  · have h' : ¬ 24 ≤ s.persons.length := h
    simp only [if_neg h, if_neg h']
    by_cases h2 : s.most ≤ s.here.length
    · simp only [if_pos h2]
      rfl
    · simp only [if_neg h2]
      rfl
theorem res_gate (s : Ship) : res s .gate = if 3 ≤ s.gates.length then (s, [-28]) else ({ s with gates := s.gates ++ [⟨false, 0, 0⟩] }, [(s.gates.length : Int)]) := by
  unfold res eff ans act
  by_cases h : GATES ≤ s.gates.length
  · have h' : 3 ≤ s.gates.length := h
    simp only [if_pos h, if_pos h']
    rfl
  · have h' : ¬ 3 ≤ s.gates.length := h
    simp only [if_neg h, if_neg h']
    rfl
theorem res_person (s : Ship) : res s .person = added s none none := res_adds s none none
theorem res_child (s : Ship) (p : Nat) : res s (.child p) = if s.is p = false then (s, [-2]) else if (s.person p).with_.isSome = true ∨ (s.person p).visitor.isSome = true then (s, [-22]) else if (s.person p).ashore = true then (s, [-16]) else added s (some p) none := by
  rw [← res_adds]
  unfold res eff ans act
  by_cases h : s.is p = false
  · simp only [if_pos h]
    rfl
  simp only [if_neg h]
  by_cases h2 : (s.person p).with_.isSome = true ∨ (s.person p).visitor.isSome = true
  · simp only [if_pos h2]
    rfl
  simp only [if_neg h2]
  by_cases h3 : (s.person p).ashore = true
  · simp only [if_pos h3]
    rfl
  · simp only [if_neg h3]
theorem res_visitor (s : Ship) (t : Nat) : res s (.visitor t) = if t < s.time ∨ 100000 < t then (s, [-22]) else if (s.gates.any fun g => g.open_) = false then (s, [-16]) else added s none (some t) := by
  rw [← res_adds]
  unfold res eff ans act
  by_cases h : t < s.time ∨ LATEST < t
  · have h' : t < s.time ∨ 100000 < t := h
    simp only [if_pos h, if_pos h']
    rfl
  have h' : ¬ (t < s.time ∨ 100000 < t) := h
  simp only [if_neg h, if_neg h']
  by_cases h2 : (s.gates.any fun g => g.open_) = false
  · simp only [if_pos h2]
    rfl
  · simp only [if_neg h2]
theorem res_card (s : Ship) (p : Nat) : res s (.card p) = if s.is p = false then (s, [-2]) else if 100000 ≤ s.cards then (s, [-28]) else ({ s.set p { s.person p with card := s.cards } with cards := s.cards + 1 }, [(s.cards : Int)]) := by
  unfold res eff ans act
  by_cases h : s.is p = false
  · simp only [if_pos h]
    rfl
  simp only [if_neg h]
  by_cases h2 : LATEST ≤ s.cards
  · have h2' : 100000 ≤ s.cards := h2
    simp only [if_pos h2, if_pos h2']
    rfl
  · have h2' : ¬ 100000 ≤ s.cards := h2
    simp only [if_neg h2, if_neg h2']
    rfl
theorem res_open (s : Ship) (g o : Nat) : res s (.open_ g o) = if s.gates.length ≤ g then (s, [-2]) else if 1 < o then (s, [-22]) else if (s.gate g).open_ = (o == 1) then (s, [-17]) else
    (s.setGate g { s.gate g with open_ := o == 1 }, [(((s.gates.filter fun x => x.open_).length : Nat) : Int)]) := by
  unfold res eff ans act
  by_cases h : s.gates.length ≤ g
  · simp only [if_pos h]
    rfl
  simp only [if_neg h]
  by_cases h2 : 1 < o
  · simp only [if_pos h2]
    rfl
  simp only [if_neg h2]
  by_cases h3 : (s.gate g).open_ = (o == 1)
  · simp only [if_pos h3]
    rfl
  · simp only [if_neg h3]
    rfl
/-- a scan of a card of p, at an open gate -/
def passes (s : Ship) (g p : Nat) : Ship × List Int :=
  if (s.person p).ashore = true then
    (if s.most ≤ s.here.length then (s, [-62]) else ((s.set p { s.person p with ashore := false, since := s.time }).setGate g { s.gate g with in_ := (s.gate g).in_ + 1 }, [1, (p : Int)]))
  else if s.mayGo p = false then (s, [-33]) else ((s.set p { s.person p with ashore := true, since := s.time }).setGate g { s.gate g with out_ := (s.gate g).out_ + 1 }, [0, (p : Int)])
theorem res_scan (s : Ship) (g c : Nat) : res s (.scan g c) = if s.gates.length ≤ g then (s, [-2]) else if (s.gate g).open_ = false then (s, [-16]) else if 100000 ≤ s.rung ∨ 100000 ≤ (s.gate g).out_ ∨ 100000 ≤ (s.gate g).in_ then (s, [-28]) else
    match s.holder c with
    | none => ({ s with rung := s.rung + 1 }, [2, 0])
    | some p => passes s g p := by
  unfold res eff ans act passes
  by_cases h : s.gates.length ≤ g
  · simp only [if_pos h]
    rfl
  simp only [if_neg h]
  by_cases h2 : (s.gate g).open_ = false
  · simp only [if_pos h2]
    rfl
  simp only [if_neg h2]
  by_cases h3 : LATEST ≤ s.rung ∨ LATEST ≤ (s.gate g).out_ ∨ LATEST ≤ (s.gate g).in_
  · have h3' : 100000 ≤ s.rung ∨ 100000 ≤ (s.gate g).out_ ∨ 100000 ≤ (s.gate g).in_ := h3
    simp only [if_pos h3, if_pos h3']
    rfl
  have h3' : ¬ (100000 ≤ s.rung ∨ 100000 ≤ (s.gate g).out_ ∨ 100000 ≤ (s.gate g).in_) := h3
  simp only [if_neg h3, if_neg h3']
  cases s.holder c with
  | none => rfl
  | some p =>
    dsimp only
    by_cases h4 : (s.person p).ashore = true
    · simp only [if_pos h4]
      by_cases h5 : s.most ≤ s.here.length
      · simp only [if_pos h5]
        rfl
      · simp only [if_neg h5]
        rfl
    · simp only [if_neg h4]
      by_cases h5 : s.mayGo p = false
      · simp only [if_pos h5]
        rfl
      · simp only [if_neg h5]
        rfl
theorem res_leave (s : Ship) (p : Nat) : res s (.leave p) = if s.is p = false then (s, [-2]) else if (s.person p).ashore = false then (s, [-16]) else if s.children p ≠ [] then (s, [-33]) else (s.set p { s.person p with gone := true }, [((s.time - (s.person p).since : Nat) : Int)]) := by
  unfold res eff ans act
  by_cases h : s.is p = false
  · simp only [if_pos h]
    rfl
  simp only [if_neg h]
  by_cases h2 : (s.person p).ashore = false
  · simp only [if_pos h2]
    rfl
  simp only [if_neg h2]
  by_cases h3 : s.children p ≠ []
  · simp only [if_pos h3]
    rfl
  · simp only [if_neg h3]
    rfl
theorem res_minutes (s : Ship) (n : Nat) : res s (.minutes n) = if n = 0 ∨ 1440 < n then (s, [-22]) else if 100000 < s.time + n then (s, [-75]) else ({ s with time := s.time + n }, [((s.time + n : Nat) : Int), ((bits (Ship.stay { s with time := s.time + n }) : Nat) : Int)]) := by
  unfold res eff ans act
  by_cases h : n = 0 ∨ 1440 < n
  · simp only [if_pos h]
    rfl
  simp only [if_neg h]
  by_cases h2 : LATEST < s.time + n
  · have h2' : 100000 < s.time + n := h2
    simp only [if_pos h2, if_pos h2']
    rfl
  · have h2' : ¬ 100000 < s.time + n := h2
    simp only [if_neg h2, if_neg h2']
    rfl
theorem res_sail (s : Ship) (t : Nat) : res s (.sail t) = if t < s.time ∨ 100000 < t then (s, [-22]) else ({ s with sail := t }, [(s.sail : Int)]) := by
  unfold res eff ans act
  by_cases h : t < s.time ∨ LATEST < t
  · have h' : t < s.time ∨ 100000 < t := h
    simp only [if_pos h, if_pos h']
    rfl
  · have h' : ¬ (t < s.time ∨ 100000 < t) := h
    simp only [if_neg h, if_neg h']
    rfl
theorem res_more (s : Ship) (p t : Nat) : res s (.more p t) = if s.is p = false then (s, [-2]) else match (s.person p).visitor with
    | none => (s, [-16])
    | some u => if t < u ∨ 100000 < t then (s, [-22]) else (s.set p { s.person p with visitor := some t }, [(u : Int)]) := by
  unfold res eff ans act
  by_cases h : s.is p = false
  · simp only [if_pos h]
    rfl
  simp only [if_neg h]
  cases (s.person p).visitor with
  | none => rfl
  | some u =>
    dsimp only
    by_cases h2 : t < u ∨ LATEST < t
    · have h2' : t < u ∨ 100000 < t := h2
      simp only [if_pos h2, if_pos h2']
      rfl
    · have h2' : ¬ (t < u ∨ 100000 < t) := h2
      simp only [if_neg h2, if_neg h2']
      rfl
/-! ## What the questions tell -/
def one0 : Option Nat → Int
  | none => 0
  | some k => (k : Int) + 1
theorem ans_who (s : Ship) (c : Nat) : (res s (.who c)).2 = (match s.holder c with
    | none => [-2]
    | some p => [(p : Int), ((bit (s.person p).ashore : Nat) : Int)]) := by
  show Km440Neutral.told (match s.holder c with
    | none => only (-2)
    | some p => ⟨((p : Nat) : Int), [bit (s.person p).ashore]⟩) = _
  cases s.holder c <;> rfl
theorem ans_where (s : Ship) (p : Nat) : (res s (.where_ p)).2 = if s.is p = false then [-2] else [((bit (s.person p).ashore : Nat) : Int), ((s.time - (s.person p).since : Nat) : Int), ((s.person p).card : Int), one0 (s.person p).with_, one0 (s.person p).visitor] := by
  unfold res ans act
  dsimp only
  by_cases h : s.is p = false
  · rw [if_pos h, if_pos h]
    rfl
  · rw [if_neg h, if_neg h]
    cases (s.person p).with_ <;> cases (s.person p).visitor <;> rfl
theorem ans_count (s : Ship) : (res s .count).2 = [((s.here.length : Nat) : Int), ((bits s.here : Nat) : Int), ((s.most - s.here.length : Nat) : Int)] := rfl
theorem ans_missing (s : Ship) : (res s .missing).2 = [((s.missing.length : Nat) : Int), ((bits s.missing : Nat) : Int)] := rfl
theorem ans_visitors (s : Ship) : (res s .visitors).2 = [((s.visitors.length : Nat) : Int), ((bits s.visitors : Nat) : Int), ((bits s.stay : Nat) : Int)] := rfl
theorem ans_children (s : Ship) (p : Nat) : (res s (.children p)).2 = if s.is p = false then [-2] else [(((s.children p).length : Nat) : Int), ((bits (s.children p) : Nat) : Int)] := by
  unfold res ans act
  dsimp only
  by_cases h : s.is p = false
  · rw [if_pos h, if_pos h]
    rfl
  · rw [if_neg h, if_neg h]
    rfl
theorem ans_group (s : Ship) (p : Nat) : (res s (.group p)).2 = if s.is p = false then [-2] else [(((s.grow 24 [p]).length : Nat) : Int), ((bits (s.grow 24 [p]) : Nat) : Int)] := by
  unfold res ans act
  dsimp only
  by_cases h : s.is p = false
  · rw [if_pos h, if_pos h]
    rfl
  · rw [if_neg h, if_neg h]
    rfl
theorem ans_alone (s : Ship) : (res s .alone).2 = [((s.alone.length : Nat) : Int), ((bits s.alone : Nat) : Int)] := rfl
theorem ans_lost (s : Ship) : (res s .lost).2 = [((s.lost.length : Nat) : Int), ((bits s.lost : Nat) : Int)] := rfl
theorem ans_may (s : Ship) (p : Nat) : (res s (.may p)).2 = if s.is p = false then [-2] else [((bit (s.mayGo p) : Nat) : Int)] := by
  unfold res ans act
  dsimp only
  by_cases h : s.is p = false
  · rw [if_pos h, if_pos h]
    rfl
  · rw [if_neg h, if_neg h]
    rfl
theorem ans_maySail (s : Ship) : (res s .maySail).2 = [((bit s.maySail : Nat) : Int), ((s.missing.length : Nat) : Int), ((s.visitors.length : Nat) : Int), (((s.gates.filter fun g => g.open_).length : Nat) : Int), ((s.sail - s.time : Nat) : Int)] := rfl
theorem ans_long (s : Ship) : (res s .long_).2 = (match s.longest with
    | none => [-6]
    | some p => [(p : Int), ((s.time - (s.person p).since : Nat) : Int)]) := by
  show Km440Neutral.told (match s.longest with
    | none => only (-6)
    | some p => ⟨((p : Nat) : Int), [s.time - (s.person p).since]⟩) = _
  cases s.longest <;> rfl
theorem ans_gateOf (s : Ship) (g : Nat) : (res s (.gateOf g)).2 = if s.gates.length ≤ g then [-2] else [((bit (s.gate g).open_ : Nat) : Int), ((s.gate g).out_ : Int), ((s.gate g).in_ : Int)] := by
  unfold res ans act
  dsimp only
  by_cases h : s.gates.length ≤ g
  · rw [if_pos h, if_pos h]
    rfl
  · rw [if_neg h, if_neg h]
    rfl
theorem ans_sums (s : Ship) : (res s .sums).2 = [((s.persons.length : Nat) : Int), ((s.here.length : Nat) : Int), ((s.away.length : Nat) : Int), (((s.persons.filter fun x => x.gone).length : Nat) : Int), (s.cards : Int), (s.rung : Int)] := rfl
/-- a group: they, and the children aboard that must be with them -/
theorem grow_eq {s : Ship} (g : Good s) (p : Nat) : s.grow 24 [p] = p :: s.here.filter (fun c => (s.person c).with_ == some p) := by
  have at_ : ∀ {c q : Nat}, c ∈ s.here → (s.person c).with_ = some q → ∃ y, s.persons[q]? = some y ∧ y.with_ = none := fun {c q} hc hw => by
    rw [here_eq] at hc
    have hl := sel_lt hc
    have e : s.persons[c]? = some (s.person c) := by
      rw [person_eq, List.getElem?_eq_getElem hl]
      simp [List.getD, hl]
    obtain ⟨y, a, b, _⟩ := g.wi c _ q e hw
    exact ⟨y, a, b⟩
  have one : s.grow 1 [p] = p :: s.here.filter (fun c => (s.person c).with_ == some p) := by
    show [p] ++ (s.here.filter fun c => _) = [p] ++ _
    congr 1
    apply List.filter_congr
    intro c hc
    cases hw : (s.person c).with_ with
    | none => simp
    | some q =>
      simp only [List.contains_cons, List.contains_nil, Bool.or_false]
      by_cases e : q = p
      · subst e
        obtain ⟨y, a, b⟩ := at_ hc hw
        have hcq : c ≠ q := fun z => by
          subst z
          rw [person_at a, b] at hw
          cases hw
        simp [hcq]
      · simp [e]
  have stop : ∀ f, s.grow f (p :: s.here.filter (fun c => (s.person c).with_ == some p)) = p :: s.here.filter (fun c => (s.person c).with_ == some p) := fun f => by
    induction f with
    | zero => rfl
    | succ f ih =>
      show s.grow f (_ ++ (s.here.filter fun c => _)) = _
      have e : (s.here.filter fun c => !((p :: s.here.filter (fun c => (s.person c).with_ == some p)).contains c) && (match (s.person c).with_ with
          | some q => (p :: s.here.filter (fun c => (s.person c).with_ == some p)).contains q
          | none => false)) = [] := by
        refine List.filter_eq_nil_iff.mpr fun c hc => ?_
        cases hw : (s.person c).with_ with
        | none => simp
        | some q =>
          obtain ⟨y, a, b⟩ := at_ hc hw
          simp only [Bool.and_eq_true, not_and, Bool.not_eq_true']
          intro h1
          rw [List.contains_eq_mem, decide_eq_false_iff_not] at h1
          rw [List.contains_eq_mem, decide_eq_true_iff]
          intro h2
          rcases List.mem_cons.mp h2 with e | h2
          · subst e
            exact h1 (List.mem_cons_of_mem _ (List.mem_filter.mpr ⟨hc, by rw [hw]; simp⟩))
          · have := (List.mem_filter.mp h2).2
            rw [person_at a, b] at this
            simp at this
      exact (congrArg (fun z => s.grow f ((p :: s.here.filter (fun c => (s.person c).with_ == some p)) ++ z)) e).trans ((congrArg (s.grow f) (List.append_nil _)).trans ih)
  show s.grow 23 (s.grow 1 [p]) = _
  rw [one]
  exact stop 23
def isChange : Call → Bool
  | .gate | .person | .child _ | .visitor _ | .card _ | .open_ _ _ | .scan _ _ | .leave _ | .minutes _ | .sail _ | .more _ _ => true
  | _ => false
theorem Good.added {s : Ship} (g : Good s) {w v : Option Nat} (hw : ∀ q, w = some q → ∃ y, s.persons[q]? = some y ∧ y.with_ = none ∧ y.visitor = none) : Good (added s w v).1 := by
  unfold Gw.added
  split
  · exact g
  split
  · exact g
  · exact g.add (by omega) (by omega) hw
theorem is_yes {s : Ship} {p : Nat} (h : ¬ s.is p = false) : s.is p = true := by cases e : s.is p <;> simp_all
theorem set_here_same {s : Ship} (g : Good s) {p : Nat} {x y : Person} (hx : s.persons[p]? = some x) (e : fHere y = fHere x) : (s.persons.set p y).countP fHere ≤ s.most := by
  rw [countP_set_same fHere s.persons p y x hx e]
  exact g.hm
theorem find_range_lt {n k : Nat} {f : Nat → Bool} (h : (List.range n).find? f = some k) : k < n ∧ f k = true := by
  have h1 := List.find?_some h
  have h2 := List.mem_of_find?_eq_some h
  exact ⟨List.mem_range.mp h2, h1⟩
theorem holder_at {s : Ship} {c p : Nat} (h : s.holder c = some p) : s.is p = true ∧ s.persons[p]? = some (s.person p) ∧ (s.person p).gone = false := by
  unfold Ship.holder at h
  obtain ⟨h1, h2⟩ := find_range_lt h
  rw [Bool.and_eq_true] at h2
  exact ⟨h2.1, is_at h2.1⟩
theorem Good.passes {s : Ship} (g : Good s) {k p : Nat} (hx : s.persons[p]? = some (s.person p)) (hg : (s.person p).gone = false) : Good (passes s k p).1 := by
  unfold Gw.passes
  have setG : ∀ {s' : Ship} {x : Gate}, Good s' → s'.gates.length ≤ 3 → Good (s'.setGate k x) := fun {s' x} g' hl => g'.gates rfl (by show (s'.gates.set k x).length ≤ 3; rw [List.length_set]; exact hl) (Nat.le_refl _) rfl
  split
  · split
    · exact g
    · rename_i h1 h2
      refine setG (g.set hx rfl (fun e => e) (Nat.le_refl _) ?_) g.ng
      have h3 := countP_set_le fHere s.persons p { s.person p with ashore := false, since := s.time }
      have h4 : s.persons.countP fHere < s.most := by rw [← here_len]; omega
      have h5 : (if fHere { s.person p with ashore := false, since := s.time } = true then 1 else 0) ≤ 1 := by split <;> omega
      omega
  · split
    · exact g
    · refine setG (g.set hx rfl (fun e => e) (Nat.le_refl _) ?_) g.ng
      have h3 := countP_set_le fHere s.persons p { s.person p with ashore := true, since := s.time }
      have h5 : fHere { s.person p with ashore := true, since := s.time } = false := by simp [fHere]
      rw [h5, if_neg Bool.false_ne_true] at h3
      exact Nat.le_trans h3 g.hm
theorem Good.res {s : Ship} (g : Good s) {c : Call} (h : isChange c = true) : Good (res s c).1 := by
  cases c with
  | gate =>
    rw [res_gate]
    split
    · exact g
    · refine g.gates rfl ?_ (Nat.le_refl _) rfl
      show (s.gates ++ [_]).length ≤ 3
      rw [List.length_append]
      simp
      omega
  | person =>
    rw [res_person]
    exact g.added fun q e => nomatch e
  | child p =>
    rw [res_child]
    split
    · exact g
    rename_i h1
    split
    · exact g
    rename_i h2
    split
    · exact g
    refine g.added fun q e => ?_
    have e := Option.some.inj e
    subst e
    obtain ⟨a, b⟩ := is_at (is_yes h1)
    refine ⟨_, a, ?_, ?_⟩
    · cases q : (s.person p).with_ with
      | none => rfl
      | some z => exact absurd (.inl (by rw [q]; rfl)) h2
    · cases q : (s.person p).visitor with
      | none => rfl
      | some z => exact absurd (.inr (by rw [q]; rfl)) h2
  | visitor t =>
    rw [res_visitor]
    split
    · exact g
    split
    · exact g
    · exact g.added fun q e => nomatch e
  | card p =>
    rw [res_card]
    split
    · exact g
    rename_i h1
    split
    · exact g
    obtain ⟨a, b⟩ := is_at (is_yes h1)
    have g' : Good (s.set p { s.person p with card := s.cards }) := g.set a rfl (fun e => e) (g.si (s.person p) (List.mem_of_getElem? a)) (set_here_same g a rfl)
    exact g'.gates rfl g.ng (Nat.le_refl _) rfl
  | open_ k o =>
    rw [res_open]
    split
    · exact g
    split
    · exact g
    split
    · exact g
    · exact g.gates rfl (by show (s.gates.set k _).length ≤ 3; rw [List.length_set]; exact g.ng) (Nat.le_refl _) rfl
  | scan k c =>
    rw [res_scan]
    split
    · exact g
    split
    · exact g
    split
    · exact g
    cases e : s.holder c with
    | none => exact g.gates rfl g.ng (Nat.le_refl _) rfl
    | some p =>
      obtain ⟨_, a, b⟩ := holder_at e
      exact g.passes a b
  | leave p =>
    rw [res_leave]
    split
    · exact g
    rename_i h1
    split
    · exact g
    rename_i h2
    split
    · exact g
    obtain ⟨a, b⟩ := is_at (is_yes h1)
    refine g.set a rfl (fun e => e) (g.si (s.person p) (List.mem_of_getElem? a)) (set_here_same g a ?_)
    have h2 : (s.person p).ashore = true := by cases e : (s.person p).ashore <;> simp_all
    simp [fHere, h2]
  | minutes n =>
    rw [res_minutes]
    split
    · exact g
    split
    · exact g
    · exact g.gates rfl g.ng (Nat.le_add_right _ _) rfl
  | sail t =>
    rw [res_sail]
    split
    · exact g
    · exact g.gates rfl g.ng (Nat.le_refl _) rfl
  | more p t =>
    rw [res_more]
    split
    · exact g
    rename_i h1
    obtain ⟨a, b⟩ := is_at (is_yes h1)
    cases e : (s.person p).visitor with
    | none => exact g
    | some u =>
      dsimp only
      split
      · exact g
      · exact g.set a rfl (fun z => by rw [e] at z; cases z) (g.si (s.person p) (List.mem_of_getElem? a)) (set_here_same g a rfl)
  | _ => cases h
/-- a change of a desk: by the ship alone -/
theorem act_change (d : Desk) {c : Call} (h : isChange c = true) : act d c = (if (ans d.now c).value < 0 then d else d.become (eff d.now c), ans d.now c) := by
  have adds : ∀ w v, d.adds w v = (if (Desk.adds ⟨d.now, [], []⟩ w v).2.value < 0 then d else d.become (Desk.adds ⟨d.now, [], []⟩ w v).1.now, (Desk.adds ⟨d.now, [], []⟩ w v).2) := fun w v => by
    unfold Desk.adds
    by_cases h1 : PERSONS ≤ d.now.persons.length
    · simp only [if_pos h1]
      rfl
    simp only [if_neg h1]
    by_cases h2 : d.now.most ≤ d.now.here.length
    · simp only [if_pos h2]
      rfl
    simp only [if_neg h2]
    rw [if_neg (by show ¬ ((d.now.persons.length : Nat) : Int) < 0; omega)]
    rfl
  unfold eff ans
  cases c with
  | gate =>
    unfold act
    by_cases h1 : GATES ≤ d.now.gates.length
    · simp only [if_pos h1]
      rfl
    simp only [if_neg h1]
    rw [if_neg (by show ¬ ((d.now.gates.length : Nat) : Int) < 0; omega)]
    rfl
  | person => exact adds none none
  | child p =>
    unfold act
    by_cases h1 : d.now.is p = false
    · simp only [if_pos h1]
      rfl
    simp only [if_neg h1]
    by_cases h2 : (d.now.person p).with_.isSome = true ∨ (d.now.person p).visitor.isSome = true
    · simp only [if_pos h2]
      rfl
    simp only [if_neg h2]
    by_cases h3 : (d.now.person p).ashore = true
    · simp only [if_pos h3]
      rfl
    simp only [if_neg h3]
    exact adds (some p) none
  | visitor t =>
    unfold act
    by_cases h1 : t < d.now.time ∨ LATEST < t
    · simp only [if_pos h1]
      rfl
    simp only [if_neg h1]
    by_cases h2 : (d.now.gates.any fun g => g.open_) = false
    · simp only [if_pos h2]
      rfl
    simp only [if_neg h2]
    exact adds none (some t)
  | card p =>
    unfold act
    by_cases h1 : d.now.is p = false
    · simp only [if_pos h1]
      rfl
    simp only [if_neg h1]
    by_cases h2 : LATEST ≤ d.now.cards
    · simp only [if_pos h2]
      rfl
    simp only [if_neg h2]
    rw [if_neg (by show ¬ ((d.now.cards : Nat) : Int) < 0; omega)]
    rfl
  | open_ k o =>
    unfold act
    by_cases h1 : d.now.gates.length ≤ k
    · simp only [if_pos h1]
      rfl
    simp only [if_neg h1]
    by_cases h2 : 1 < o
    · simp only [if_pos h2]
      rfl
    simp only [if_neg h2]
    by_cases h3 : (d.now.gate k).open_ = (o == 1)
    · simp only [if_pos h3]
      rfl
    simp only [if_neg h3]
    rw [if_neg (by show ¬ (((d.now.gates.filter fun x => x.open_).length : Nat) : Int) < 0; omega)]
    rfl
  | scan k c =>
    unfold act
    by_cases h1 : d.now.gates.length ≤ k
    · simp only [if_pos h1]
      rfl
    simp only [if_neg h1]
    by_cases h2 : (d.now.gate k).open_ = false
    · simp only [if_pos h2]
      rfl
    simp only [if_neg h2]
    by_cases h3 : LATEST ≤ d.now.rung ∨ LATEST ≤ (d.now.gate k).out_ ∨ LATEST ≤ (d.now.gate k).in_
    · simp only [if_pos h3]
      rfl
    simp only [if_neg h3]
    cases d.now.holder c with
    | none => rfl
    | some p =>
      dsimp only
      by_cases h4 : (d.now.person p).ashore = true
      · simp only [if_pos h4]
        by_cases h5 : d.now.most ≤ d.now.here.length
        · simp only [if_pos h5]
          rfl
        · simp only [if_neg h5]
          rfl
      · simp only [if_neg h4]
        by_cases h5 : d.now.mayGo p = false
        · simp only [if_pos h5]
          rfl
        · simp only [if_neg h5]
          rfl
  | leave p =>
    unfold act
    by_cases h1 : d.now.is p = false
    · simp only [if_pos h1]
      rfl
    simp only [if_neg h1]
    by_cases h2 : (d.now.person p).ashore = false
    · simp only [if_pos h2]
      rfl
    simp only [if_neg h2]
    by_cases h3 : d.now.children p ≠ []
    · simp only [if_pos h3]
      rfl
    simp only [if_neg h3]
    rw [if_neg (by show ¬ ((d.now.time - (d.now.person p).since : Nat) : Int) < 0; omega)]
    rfl
  | minutes n =>
    unfold act
    by_cases h1 : n = 0 ∨ 1440 < n
    · simp only [if_pos h1]
      rfl
    simp only [if_neg h1]
    by_cases h2 : LATEST < d.now.time + n
    · simp only [if_pos h2]
      rfl
    simp only [if_neg h2]
    rw [if_neg (by show ¬ ((d.now.time + n : Nat) : Int) < 0; omega)]
    rfl
  | sail t =>
    unfold act
    by_cases h1 : t < d.now.time ∨ LATEST < t
    · simp only [if_pos h1]
      rfl
    simp only [if_neg h1]
    rw [if_neg (by show ¬ ((d.now.sail : Nat) : Int) < 0; omega)]
    rfl
  | more p t =>
    unfold act
    by_cases h1 : d.now.is p = false
    · simp only [if_pos h1]
      rfl
    simp only [if_neg h1]
    cases (d.now.person p).visitor with
    | none => rfl
    | some u =>
      dsimp only
      by_cases h2 : t < u ∨ LATEST < t
      · simp only [if_pos h2]
        rfl
      simp only [if_neg h2]
      rw [if_neg (by show ¬ ((u : Nat) : Int) < 0; omega)]
      rfl
  | _ => cases h
end Gw
namespace Gw
open Km440
/-! ## A list of calls as it is handed in -/
def enc : Call → List Int
  | .start n t => [0, (n : Int), (t : Int)]
  | .gate => [1]
  | .person => [2]
  | .child p => [3, (p : Int)]
  | .visitor t => [4, (t : Int)]
  | .card p => [5, (p : Int)]
  | .open_ g o => [6, (g : Int), (o : Int)]
  | .scan g c => [7, (g : Int), (c : Int)]
  | .leave p => [8, (p : Int)]
  | .minutes n => [9, (n : Int)]
  | .sail t => [10, (t : Int)]
  | .more p t => [11, (p : Int), (t : Int)]
  | .who c => [12, (c : Int)]
  | .where_ p => [13, (p : Int)]
  | .count => [14]
  | .missing => [15]
  | .visitors => [16]
  | .children p => [17, (p : Int)]
  | .group p => [18, (p : Int)]
  | .alone => [19]
  | .lost => [20]
  | .may p => [21, (p : Int)]
  | .maySail => [22]
  | .long_ => [23]
  | .gateOf g => [24, (g : Int)]
  | .sums => [25]
  | .back => [26]
  | .again => [27]
  | .state => [28]
theorem callOf_enc (x : Call) : Km440Neutral.callOf [enc x] = some x := by
  cases x <;> first | rfl
theorem nat_of {z : Int} (h : Km440Neutral.natural z 32 = true) : ∃ n : Nat, z = (n : Int) := by
  unfold Km440Neutral.natural at h
  rw [Bool.and_eq_true] at h
  have := of_decide_eq_true h.1
  exact ⟨z.toNat, by omega⟩
theorem nat2_of {a b : Int} (h : (Km440Neutral.natural a 32 && Km440Neutral.natural b 32) = true) : (∃ n : Nat, a = (n : Int)) ∧ ∃ m : Nat, b = (m : Int) := by
  rw [Bool.and_eq_true] at h
  exact ⟨nat_of h.1, nat_of h.2⟩
theorem ask1 : ∀ z : Int, Km440Neutral.asked1 [[z]] = true → ∃ x, [[z]] = [enc x]
  | .negSucc _ => fun h => Bool.noConfusion (show false = true from h)
  | .ofNat 0 => fun h => Bool.noConfusion (show false = true from h)
  | .ofNat 1 => fun _ => ⟨.gate, rfl⟩
  | .ofNat 2 => fun _ => ⟨.person, rfl⟩
  | .ofNat 3 => fun h => Bool.noConfusion (show false = true from h)
  | .ofNat 4 => fun h => Bool.noConfusion (show false = true from h)
  | .ofNat 5 => fun h => Bool.noConfusion (show false = true from h)
  | .ofNat 6 => fun h => Bool.noConfusion (show false = true from h)
  | .ofNat 7 => fun h => Bool.noConfusion (show false = true from h)
  | .ofNat 8 => fun h => Bool.noConfusion (show false = true from h)
  | .ofNat 9 => fun h => Bool.noConfusion (show false = true from h)
  | .ofNat 10 => fun h => Bool.noConfusion (show false = true from h)
  | .ofNat 11 => fun h => Bool.noConfusion (show false = true from h)
  | .ofNat 12 => fun h => Bool.noConfusion (show false = true from h)
  | .ofNat 13 => fun h => Bool.noConfusion (show false = true from h)
  | .ofNat 14 => fun _ => ⟨.count, rfl⟩
  | .ofNat 15 => fun _ => ⟨.missing, rfl⟩
  | .ofNat 16 => fun _ => ⟨.visitors, rfl⟩
  | .ofNat 17 => fun h => Bool.noConfusion (show false = true from h)
  | .ofNat 18 => fun h => Bool.noConfusion (show false = true from h)
  | .ofNat 19 => fun _ => ⟨.alone, rfl⟩
  | .ofNat 20 => fun _ => ⟨.lost, rfl⟩
  | .ofNat 21 => fun h => Bool.noConfusion (show false = true from h)
  | .ofNat 22 => fun _ => ⟨.maySail, rfl⟩
  | .ofNat 23 => fun _ => ⟨.long_, rfl⟩
  | .ofNat 24 => fun h => Bool.noConfusion (show false = true from h)
  | .ofNat 25 => fun _ => ⟨.sums, rfl⟩
  | .ofNat 26 => fun _ => ⟨.back, rfl⟩
  | .ofNat 27 => fun _ => ⟨.again, rfl⟩
  | .ofNat 28 => fun _ => ⟨.state, rfl⟩
  | .ofNat (_ + 29) => fun h => Bool.noConfusion (show false = true from h)
theorem ask2 (b : Int) : ∀ z : Int, Km440Neutral.asked1 [[z, b]] = true → ∃ x, [[z, b]] = [enc x]
  | .negSucc _ => fun h => Bool.noConfusion (show false = true from h)
  | .ofNat 0 => fun h => Bool.noConfusion (show false = true from h)
  | .ofNat 1 => fun h => Bool.noConfusion (show false = true from h)
  | .ofNat 2 => fun h => Bool.noConfusion (show false = true from h)
  | .ofNat 3 => fun h => (nat_of h).elim fun n e => ⟨.child n, by rw [e]; rfl⟩
  | .ofNat 4 => fun h => (nat_of h).elim fun n e => ⟨.visitor n, by rw [e]; rfl⟩
  | .ofNat 5 => fun h => (nat_of h).elim fun n e => ⟨.card n, by rw [e]; rfl⟩
  | .ofNat 6 => fun h => Bool.noConfusion (show false = true from h)
  | .ofNat 7 => fun h => Bool.noConfusion (show false = true from h)
  | .ofNat 8 => fun h => (nat_of h).elim fun n e => ⟨.leave n, by rw [e]; rfl⟩
  | .ofNat 9 => fun h => (nat_of h).elim fun n e => ⟨.minutes n, by rw [e]; rfl⟩
  | .ofNat 10 => fun h => (nat_of h).elim fun n e => ⟨.sail n, by rw [e]; rfl⟩
  | .ofNat 11 => fun h => Bool.noConfusion (show false = true from h)
  | .ofNat 12 => fun h => (nat_of h).elim fun n e => ⟨.who n, by rw [e]; rfl⟩
  | .ofNat 13 => fun h => (nat_of h).elim fun n e => ⟨.where_ n, by rw [e]; rfl⟩
  | .ofNat 14 => fun h => Bool.noConfusion (show false = true from h)
  | .ofNat 15 => fun h => Bool.noConfusion (show false = true from h)
  | .ofNat 16 => fun h => Bool.noConfusion (show false = true from h)
  | .ofNat 17 => fun h => (nat_of h).elim fun n e => ⟨.children n, by rw [e]; rfl⟩
  | .ofNat 18 => fun h => (nat_of h).elim fun n e => ⟨.group n, by rw [e]; rfl⟩
  | .ofNat 19 => fun h => Bool.noConfusion (show false = true from h)
  | .ofNat 20 => fun h => Bool.noConfusion (show false = true from h)
  | .ofNat 21 => fun h => (nat_of h).elim fun n e => ⟨.may n, by rw [e]; rfl⟩
  | .ofNat 22 => fun h => Bool.noConfusion (show false = true from h)
  | .ofNat 23 => fun h => Bool.noConfusion (show false = true from h)
  | .ofNat 24 => fun h => (nat_of h).elim fun n e => ⟨.gateOf n, by rw [e]; rfl⟩
  | .ofNat 25 => fun h => Bool.noConfusion (show false = true from h)
  | .ofNat 26 => fun h => Bool.noConfusion (show false = true from h)
  | .ofNat 27 => fun h => Bool.noConfusion (show false = true from h)
  | .ofNat 28 => fun h => Bool.noConfusion (show false = true from h)
  | .ofNat (_ + 29) => fun h => Bool.noConfusion (show false = true from h)
theorem ask3 (b c : Int) : ∀ z : Int, Km440Neutral.asked1 [[z, b, c]] = true → ∃ x, [[z, b, c]] = [enc x]
  | .negSucc _ => fun h => Bool.noConfusion (show false = true from h)
  | .ofNat 0 => fun h => (nat2_of h).1.elim fun n e => (nat2_of h).2.elim fun m e2 => ⟨.start n m, by rw [e, e2]; rfl⟩
  | .ofNat 1 => fun h => Bool.noConfusion (show false = true from h)
  | .ofNat 2 => fun h => Bool.noConfusion (show false = true from h)
  | .ofNat 3 => fun h => Bool.noConfusion (show false = true from h)
  | .ofNat 4 => fun h => Bool.noConfusion (show false = true from h)
  | .ofNat 5 => fun h => Bool.noConfusion (show false = true from h)
  | .ofNat 6 => fun h => (nat2_of h).1.elim fun n e => (nat2_of h).2.elim fun m e2 => ⟨.open_ n m, by rw [e, e2]; rfl⟩
  | .ofNat 7 => fun h => (nat2_of h).1.elim fun n e => (nat2_of h).2.elim fun m e2 => ⟨.scan n m, by rw [e, e2]; rfl⟩
  | .ofNat 8 => fun h => Bool.noConfusion (show false = true from h)
  | .ofNat 9 => fun h => Bool.noConfusion (show false = true from h)
  | .ofNat 10 => fun h => Bool.noConfusion (show false = true from h)
  | .ofNat 11 => fun h => (nat2_of h).1.elim fun n e => (nat2_of h).2.elim fun m e2 => ⟨.more n m, by rw [e, e2]; rfl⟩
  | .ofNat 12 => fun h => Bool.noConfusion (show false = true from h)
  | .ofNat 13 => fun h => Bool.noConfusion (show false = true from h)
  | .ofNat 14 => fun h => Bool.noConfusion (show false = true from h)
  | .ofNat 15 => fun h => Bool.noConfusion (show false = true from h)
  | .ofNat 16 => fun h => Bool.noConfusion (show false = true from h)
  | .ofNat 17 => fun h => Bool.noConfusion (show false = true from h)
  | .ofNat 18 => fun h => Bool.noConfusion (show false = true from h)
  | .ofNat 19 => fun h => Bool.noConfusion (show false = true from h)
  | .ofNat 20 => fun h => Bool.noConfusion (show false = true from h)
  | .ofNat 21 => fun h => Bool.noConfusion (show false = true from h)
  | .ofNat 22 => fun h => Bool.noConfusion (show false = true from h)
  | .ofNat 23 => fun h => Bool.noConfusion (show false = true from h)
  | .ofNat 24 => fun h => Bool.noConfusion (show false = true from h)
  | .ofNat 25 => fun h => Bool.noConfusion (show false = true from h)
  | .ofNat 26 => fun h => Bool.noConfusion (show false = true from h)
  | .ofNat 27 => fun h => Bool.noConfusion (show false = true from h)
  | .ofNat 28 => fun h => Bool.noConfusion (show false = true from h)
  | .ofNat (_ + 29) => fun h => Bool.noConfusion (show false = true from h)
theorem ask4 (b c d : Int) (t : List Int) : ∀ z : Int, Km440Neutral.asked1 [z :: b :: c :: d :: t] = true → ∃ x, [z :: b :: c :: d :: t] = [enc x]
  | .negSucc _ => fun h => Bool.noConfusion (show false = true from h)
  | .ofNat 0 => fun h => Bool.noConfusion (show false = true from h)
  | .ofNat 1 => fun h => Bool.noConfusion (show false = true from h)
  | .ofNat 2 => fun h => Bool.noConfusion (show false = true from h)
  | .ofNat 3 => fun h => Bool.noConfusion (show false = true from h)
  | .ofNat 4 => fun h => Bool.noConfusion (show false = true from h)
  | .ofNat 5 => fun h => Bool.noConfusion (show false = true from h)
  | .ofNat 6 => fun h => Bool.noConfusion (show false = true from h)
  | .ofNat 7 => fun h => Bool.noConfusion (show false = true from h)
  | .ofNat 8 => fun h => Bool.noConfusion (show false = true from h)
  | .ofNat 9 => fun h => Bool.noConfusion (show false = true from h)
  | .ofNat 10 => fun h => Bool.noConfusion (show false = true from h)
  | .ofNat 11 => fun h => Bool.noConfusion (show false = true from h)
  | .ofNat 12 => fun h => Bool.noConfusion (show false = true from h)
  | .ofNat 13 => fun h => Bool.noConfusion (show false = true from h)
  | .ofNat 14 => fun h => Bool.noConfusion (show false = true from h)
  | .ofNat 15 => fun h => Bool.noConfusion (show false = true from h)
  | .ofNat 16 => fun h => Bool.noConfusion (show false = true from h)
  | .ofNat 17 => fun h => Bool.noConfusion (show false = true from h)
  | .ofNat 18 => fun h => Bool.noConfusion (show false = true from h)
  | .ofNat 19 => fun h => Bool.noConfusion (show false = true from h)
  | .ofNat 20 => fun h => Bool.noConfusion (show false = true from h)
  | .ofNat 21 => fun h => Bool.noConfusion (show false = true from h)
  | .ofNat 22 => fun h => Bool.noConfusion (show false = true from h)
  | .ofNat 23 => fun h => Bool.noConfusion (show false = true from h)
  | .ofNat 24 => fun h => Bool.noConfusion (show false = true from h)
  | .ofNat 25 => fun h => Bool.noConfusion (show false = true from h)
  | .ofNat 26 => fun h => Bool.noConfusion (show false = true from h)
  | .ofNat 27 => fun h => Bool.noConfusion (show false = true from h)
  | .ofNat 28 => fun h => Bool.noConfusion (show false = true from h)
  | .ofNat (_ + 29) => fun h => Bool.noConfusion (show false = true from h)
theorem ask5a (u : List Int) (v : List (List Int)) : ∀ z : Int, Km440Neutral.asked1 ([z] :: u :: v) = false
  | .negSucc _ => rfl
  | .ofNat 0 => rfl
  | .ofNat 1 => rfl
  | .ofNat 2 => rfl
  | .ofNat 3 => rfl
  | .ofNat 4 => rfl
  | .ofNat 5 => rfl
  | .ofNat 6 => rfl
  | .ofNat 7 => rfl
  | .ofNat 8 => rfl
  | .ofNat 9 => rfl
  | .ofNat 10 => rfl
  | .ofNat 11 => rfl
  | .ofNat 12 => rfl
  | .ofNat 13 => rfl
  | .ofNat 14 => rfl
  | .ofNat 15 => rfl
  | .ofNat 16 => rfl
  | .ofNat 17 => rfl
  | .ofNat 18 => rfl
  | .ofNat 19 => rfl
  | .ofNat 20 => rfl
  | .ofNat 21 => rfl
  | .ofNat 22 => rfl
  | .ofNat 23 => rfl
  | .ofNat 24 => rfl
  | .ofNat 25 => rfl
  | .ofNat 26 => rfl
  | .ofNat 27 => rfl
  | .ofNat 28 => rfl
  | .ofNat (_ + 29) => rfl
theorem ask5b (b : Int) (u : List Int) (v : List (List Int)) : ∀ z : Int, Km440Neutral.asked1 ([z, b] :: u :: v) = false
  | .negSucc _ => rfl
  | .ofNat 0 => rfl
  | .ofNat 1 => rfl
  | .ofNat 2 => rfl
  | .ofNat 3 => rfl
  | .ofNat 4 => rfl
  | .ofNat 5 => rfl
  | .ofNat 6 => rfl
  | .ofNat 7 => rfl
  | .ofNat 8 => rfl
  | .ofNat 9 => rfl
  | .ofNat 10 => rfl
  | .ofNat 11 => rfl
  | .ofNat 12 => rfl
  | .ofNat 13 => rfl
  | .ofNat 14 => rfl
  | .ofNat 15 => rfl
  | .ofNat 16 => rfl
  | .ofNat 17 => rfl
  | .ofNat 18 => rfl
  | .ofNat 19 => rfl
  | .ofNat 20 => rfl
  | .ofNat 21 => rfl
  | .ofNat 22 => rfl
  | .ofNat 23 => rfl
  | .ofNat 24 => rfl
  | .ofNat 25 => rfl
  | .ofNat 26 => rfl
  | .ofNat 27 => rfl
  | .ofNat 28 => rfl
  | .ofNat (_ + 29) => rfl
theorem ask5c (b c : Int) (u : List Int) (v : List (List Int)) : ∀ z : Int, Km440Neutral.asked1 ([z, b, c] :: u :: v) = false
  | .negSucc _ => rfl
  | .ofNat 0 => rfl
  | .ofNat 1 => rfl
  | .ofNat 2 => rfl
  | .ofNat 3 => rfl
  | .ofNat 4 => rfl
  | .ofNat 5 => rfl
  | .ofNat 6 => rfl
  | .ofNat 7 => rfl
  | .ofNat 8 => rfl
  | .ofNat 9 => rfl
  | .ofNat 10 => rfl
  | .ofNat 11 => rfl
  | .ofNat 12 => rfl
  | .ofNat 13 => rfl
  | .ofNat 14 => rfl
  | .ofNat 15 => rfl
  | .ofNat 16 => rfl
  | .ofNat 17 => rfl
  | .ofNat 18 => rfl
  | .ofNat 19 => rfl
  | .ofNat 20 => rfl
  | .ofNat 21 => rfl
  | .ofNat 22 => rfl
  | .ofNat 23 => rfl
  | .ofNat 24 => rfl
  | .ofNat 25 => rfl
  | .ofNat 26 => rfl
  | .ofNat 27 => rfl
  | .ofNat 28 => rfl
  | .ofNat (_ + 29) => rfl
theorem ask5d (b c d : Int) (t u : List Int) (v : List (List Int)) : ∀ z : Int, Km440Neutral.asked1 ((z :: b :: c :: d :: t) :: u :: v) = false
  | .negSucc _ => rfl
  | .ofNat 0 => rfl
  | .ofNat 1 => rfl
  | .ofNat 2 => rfl
  | .ofNat 3 => rfl
  | .ofNat 4 => rfl
  | .ofNat 5 => rfl
  | .ofNat 6 => rfl
  | .ofNat 7 => rfl
  | .ofNat 8 => rfl
  | .ofNat 9 => rfl
  | .ofNat 10 => rfl
  | .ofNat 11 => rfl
  | .ofNat 12 => rfl
  | .ofNat 13 => rfl
  | .ofNat 14 => rfl
  | .ofNat 15 => rfl
  | .ofNat 16 => rfl
  | .ofNat 17 => rfl
  | .ofNat 18 => rfl
  | .ofNat 19 => rfl
  | .ofNat 20 => rfl
  | .ofNat 21 => rfl
  | .ofNat 22 => rfl
  | .ofNat 23 => rfl
  | .ofNat 24 => rfl
  | .ofNat 25 => rfl
  | .ofNat 26 => rfl
  | .ofNat 27 => rfl
  | .ofNat 28 => rfl
  | .ofNat (_ + 29) => rfl
theorem asked1_enc : ∀ {c : List (List Int)}, Km440Neutral.asked1 c = true → ∃ x, c = [enc x]
  | [], h => Bool.noConfusion (show false = true from h)
  | [[]], h => Bool.noConfusion (show false = true from h)
  | [[z]], h => ask1 z h
  | [[z, b]], h => ask2 b z h
  | [[z, b, c]], h => ask3 b c z h
  | [z :: b :: c :: d :: t], h => ask4 b c d t z h
  | [] :: _ :: _, h => Bool.noConfusion (show false = true from h)
  | [z] :: u :: v, h => Bool.noConfusion ((ask5a u v z).symm.trans h)
  | [z, b] :: u :: v, h => Bool.noConfusion ((ask5b b u v z).symm.trans h)
  | [z, b, c] :: u :: v, h => Bool.noConfusion ((ask5c b c u v z).symm.trans h)
  | (z :: b :: c :: d :: t) :: u :: v, h => Bool.noConfusion ((ask5d b c d t u v z).symm.trans h)
theorem whole4 (b c d : Int) (t : List Int) : ∀ z : Int, PyKm440.whole [z :: b :: c :: d :: t] = [z :: b :: c :: d :: t]
  | .negSucc _ => rfl
  | .ofNat 0 => rfl
  | .ofNat 1 => rfl
  | .ofNat 2 => rfl
  | .ofNat 3 => rfl
  | .ofNat 4 => rfl
  | .ofNat 5 => rfl
  | .ofNat 6 => rfl
  | .ofNat 7 => rfl
  | .ofNat 8 => rfl
  | .ofNat 9 => rfl
  | .ofNat 10 => rfl
  | .ofNat 11 => rfl
  | .ofNat 12 => rfl
  | .ofNat 13 => rfl
  | .ofNat 14 => rfl
  | .ofNat 15 => rfl
  | .ofNat 16 => rfl
  | .ofNat 17 => rfl
  | .ofNat 18 => rfl
  | .ofNat 19 => rfl
  | .ofNat 20 => rfl
  | .ofNat 21 => rfl
  | .ofNat 22 => rfl
  | .ofNat 23 => rfl
  | .ofNat 24 => rfl
  | .ofNat 25 => rfl
  | .ofNat 26 => rfl
  | .ofNat 27 => rfl
  | .ofNat 28 => rfl
  | .ofNat (_ + 29) => rfl
theorem whole1 : ∀ z : Int, PyKm440.whole [[z]] = [[z]]
  | .negSucc _ => rfl
  | .ofNat 0 => rfl
  | .ofNat 1 => rfl
  | .ofNat 2 => rfl
  | .ofNat 3 => rfl
  | .ofNat 4 => rfl
  | .ofNat 5 => rfl
  | .ofNat 6 => rfl
  | .ofNat 7 => rfl
  | .ofNat 8 => rfl
  | .ofNat 9 => rfl
  | .ofNat 10 => rfl
  | .ofNat 11 => rfl
  | .ofNat 12 => rfl
  | .ofNat 13 => rfl
  | .ofNat 14 => rfl
  | .ofNat 15 => rfl
  | .ofNat 16 => rfl
  | .ofNat 17 => rfl
  | .ofNat 18 => rfl
  | .ofNat 19 => rfl
  | .ofNat 20 => rfl
  | .ofNat 21 => rfl
  | .ofNat 22 => rfl
  | .ofNat 23 => rfl
  | .ofNat 24 => rfl
  | .ofNat 25 => rfl
  | .ofNat 26 => rfl
  | .ofNat 27 => rfl
  | .ofNat 28 => rfl
  | .ofNat (_ + 29) => rfl
theorem whole2 (b : Int) : ∀ z : Int, PyKm440.whole [[z, b]] = [[z, b]]
  | .negSucc _ => rfl
  | .ofNat 0 => rfl
  | .ofNat 1 => rfl
  | .ofNat 2 => rfl
  | .ofNat 3 => rfl
  | .ofNat 4 => rfl
  | .ofNat 5 => rfl
  | .ofNat 6 => rfl
  | .ofNat 7 => rfl
  | .ofNat 8 => rfl
  | .ofNat 9 => rfl
  | .ofNat 10 => rfl
  | .ofNat 11 => rfl
  | .ofNat 12 => rfl
  | .ofNat 13 => rfl
  | .ofNat 14 => rfl
  | .ofNat 15 => rfl
  | .ofNat 16 => rfl
  | .ofNat 17 => rfl
  | .ofNat 18 => rfl
  | .ofNat 19 => rfl
  | .ofNat 20 => rfl
  | .ofNat 21 => rfl
  | .ofNat 22 => rfl
  | .ofNat 23 => rfl
  | .ofNat 24 => rfl
  | .ofNat 25 => rfl
  | .ofNat 26 => rfl
  | .ofNat 27 => rfl
  | .ofNat 28 => rfl
  | .ofNat (_ + 29) => rfl
theorem whole3 (b c : Int) : ∀ z : Int, PyKm440.whole [[z, b, c]] = [[z, b, c]]
  | .negSucc _ => rfl
  | .ofNat 0 => rfl
  | .ofNat 1 => rfl
  | .ofNat 2 => rfl
  | .ofNat 3 => rfl
  | .ofNat 4 => rfl
  | .ofNat 5 => rfl
  | .ofNat 6 => rfl
  | .ofNat 7 => rfl
  | .ofNat 8 => rfl
  | .ofNat 9 => rfl
  | .ofNat 10 => rfl
  | .ofNat 11 => rfl
  | .ofNat 12 => rfl
  | .ofNat 13 => rfl
  | .ofNat 14 => rfl
  | .ofNat 15 => rfl
  | .ofNat 16 => rfl
  | .ofNat 17 => rfl
  | .ofNat 18 => rfl
  | .ofNat 19 => rfl
  | .ofNat 20 => rfl
  | .ofNat 21 => rfl
  | .ofNat 22 => rfl
  | .ofNat 23 => rfl
  | .ofNat 24 => rfl
  | .ofNat 25 => rfl
  | .ofNat 26 => rfl
  | .ofNat 27 => rfl
  | .ofNat 28 => rfl
  | .ofNat (_ + 29) => rfl
theorem whole5a (u : List Int) (v : List (List Int)) : ∀ z : Int, PyKm440.whole ([z] :: u :: v) = ([z] :: u :: v)
  | .negSucc _ => rfl
  | .ofNat 0 => rfl
  | .ofNat 1 => rfl
  | .ofNat 2 => rfl
  | .ofNat 3 => rfl
  | .ofNat 4 => rfl
  | .ofNat 5 => rfl
  | .ofNat 6 => rfl
  | .ofNat 7 => rfl
  | .ofNat 8 => rfl
  | .ofNat 9 => rfl
  | .ofNat 10 => rfl
  | .ofNat 11 => rfl
  | .ofNat 12 => rfl
  | .ofNat 13 => rfl
  | .ofNat 14 => rfl
  | .ofNat 15 => rfl
  | .ofNat 16 => rfl
  | .ofNat 17 => rfl
  | .ofNat 18 => rfl
  | .ofNat 19 => rfl
  | .ofNat 20 => rfl
  | .ofNat 21 => rfl
  | .ofNat 22 => rfl
  | .ofNat 23 => rfl
  | .ofNat 24 => rfl
  | .ofNat 25 => rfl
  | .ofNat 26 => rfl
  | .ofNat 27 => rfl
  | .ofNat 28 => rfl
  | .ofNat (_ + 29) => rfl
theorem whole5b (b : Int) (u : List Int) (v : List (List Int)) : ∀ z : Int, PyKm440.whole ([z, b] :: u :: v) = ([z, b] :: u :: v)
  | .negSucc _ => rfl
  | .ofNat 0 => rfl
  | .ofNat 1 => rfl
  | .ofNat 2 => rfl
  | .ofNat 3 => rfl
  | .ofNat 4 => rfl
  | .ofNat 5 => rfl
  | .ofNat 6 => rfl
  | .ofNat 7 => rfl
  | .ofNat 8 => rfl
  | .ofNat 9 => rfl
  | .ofNat 10 => rfl
  | .ofNat 11 => rfl
  | .ofNat 12 => rfl
  | .ofNat 13 => rfl
  | .ofNat 14 => rfl
  | .ofNat 15 => rfl
  | .ofNat 16 => rfl
  | .ofNat 17 => rfl
  | .ofNat 18 => rfl
  | .ofNat 19 => rfl
  | .ofNat 20 => rfl
  | .ofNat 21 => rfl
  | .ofNat 22 => rfl
  | .ofNat 23 => rfl
  | .ofNat 24 => rfl
  | .ofNat 25 => rfl
  | .ofNat 26 => rfl
  | .ofNat 27 => rfl
  | .ofNat 28 => rfl
  | .ofNat (_ + 29) => rfl
theorem whole5c (b c : Int) (u : List Int) (v : List (List Int)) : ∀ z : Int, PyKm440.whole ([z, b, c] :: u :: v) = ([z, b, c] :: u :: v)
  | .negSucc _ => rfl
  | .ofNat 0 => rfl
  | .ofNat 1 => rfl
  | .ofNat 2 => rfl
  | .ofNat 3 => rfl
  | .ofNat 4 => rfl
  | .ofNat 5 => rfl
  | .ofNat 6 => rfl
  | .ofNat 7 => rfl
  | .ofNat 8 => rfl
  | .ofNat 9 => rfl
  | .ofNat 10 => rfl
  | .ofNat 11 => rfl
  | .ofNat 12 => rfl
  | .ofNat 13 => rfl
  | .ofNat 14 => rfl
  | .ofNat 15 => rfl
  | .ofNat 16 => rfl
  | .ofNat 17 => rfl
  | .ofNat 18 => rfl
  | .ofNat 19 => rfl
  | .ofNat 20 => rfl
  | .ofNat 21 => rfl
  | .ofNat 22 => rfl
  | .ofNat 23 => rfl
  | .ofNat 24 => rfl
  | .ofNat 25 => rfl
  | .ofNat 26 => rfl
  | .ofNat 27 => rfl
  | .ofNat 28 => rfl
  | .ofNat (_ + 29) => rfl
theorem whole5d (b c d : Int) (t u : List Int) (v : List (List Int)) : ∀ z : Int, PyKm440.whole ((z :: b :: c :: d :: t) :: u :: v) = ((z :: b :: c :: d :: t) :: u :: v)
  | .negSucc _ => rfl
  | .ofNat 0 => rfl
  | .ofNat 1 => rfl
  | .ofNat 2 => rfl
  | .ofNat 3 => rfl
  | .ofNat 4 => rfl
  | .ofNat 5 => rfl
  | .ofNat 6 => rfl
  | .ofNat 7 => rfl
  | .ofNat 8 => rfl
  | .ofNat 9 => rfl
  | .ofNat 10 => rfl
  | .ofNat 11 => rfl
  | .ofNat 12 => rfl
  | .ofNat 13 => rfl
  | .ofNat 14 => rfl
  | .ofNat 15 => rfl
  | .ofNat 16 => rfl
  | .ofNat 17 => rfl
  | .ofNat 18 => rfl
  | .ofNat 19 => rfl
  | .ofNat 20 => rfl
  | .ofNat 21 => rfl
  | .ofNat 22 => rfl
  | .ofNat 23 => rfl
  | .ofNat 24 => rfl
  | .ofNat 25 => rfl
  | .ofNat 26 => rfl
  | .ofNat 27 => rfl
  | .ofNat 28 => rfl
  | .ofNat (_ + 29) => rfl
theorem whole_id : ∀ c : List (List Int), PyKm440.whole c = c
  | [] => rfl
  | [[]] => rfl
  | [[z]] => whole1 z
  | [[z, b]] => whole2 b z
  | [[z, b, c]] => whole3 b c z
  | [z :: b :: c :: d :: t] => whole4 b c d t z
  | [] :: _ :: _ => rfl
  | [z] :: u :: v => whole5a u v z
  | [z, b] :: u :: v => whole5b b u v z
  | [z, b, c] :: u :: v => whole5c b c u v z
  | (z :: b :: c :: d :: t) :: u :: v => whole5d b c d t u v z
theorem ite_some {α : Type} {c : Prop} [Decidable c] {x : Option α} {y : α} {z : α} : ((if c then some z else x) = some y) = ((c ∧ some z = some y) ∨ (¬ c ∧ x = some y)) := by
  by_cases h : c <;> simp [h]
theorem shape_rows {p : Int} {n k : Nat} (h : PyKm440.shape p = some (n, k)) : k = 0 := by
  unfold PyKm440.shape at h
  iterate 29 (rw [ite_some] at h; rcases h with ⟨_, h⟩ | ⟨_, h⟩; (· cases h; rfl))
  cases h
theorem call_flat {l : List Int} {c : List (List Int)} {t : List Int} (h : PyFlat.call PyKm440.shape l = some (c, t)) : l = c.flatten ++ t := by
  cases l with
  | nil => cases h
  | cons p r =>
    unfold PyFlat.call at h
    cases e : PyKm440.shape p with
    | none => simp only [e] at h; cases h
    | some nk =>
      obtain ⟨n, k⟩ := nk
      have hk := shape_rows e
      subst hk
      simp only [e] at h
      by_cases c1 : r.length < n
      · rw [if_pos c1] at h
        cases h
      · rw [if_neg c1] at h
        simp only [PyFlat.rows] at h
        have h := Option.some.inj h
        obtain ⟨h1, h2⟩ := Prod.mk.inj h
        subst h1 h2
        simp
theorem calls_flat : ∀ (f : Nat) (l : List Int) (raw : List (List (List Int))), PyFlat.calls PyKm440.shape f l = some raw → l = raw.flatMap List.flatten
  | _, [], raw, h => by
    have h : some [] = some raw := by
      cases ‹Nat› <;> exact h
    have h := Option.some.inj h
    subst h
    rfl
  | 0, p :: r, raw, h => by cases h
  | f + 1, p :: r, raw, h => by
    unfold PyFlat.calls at h
    cases e : PyFlat.call PyKm440.shape (p :: r) with
    | none => simp only [e] at h; cases h
    | some ct =>
      obtain ⟨c, t⟩ := ct
      simp only [e] at h
      cases e2 : PyFlat.calls PyKm440.shape f t with
      | none => simp only [e2] at h; cases h
      | some cs =>
        simp only [e2] at h
        have h := Option.some.inj h
        subst h
        rw [List.flatMap_cons, ← calls_flat f t cs e2]
        exact call_flat e
/-! ## What is answered, call by call -/
def stepC (s : Option Desk) (x : Call) : Option Desk × List Int := match s with
  | some a => (some (act a x).1, Km440Neutral.told (act a x).2)
  | none => match x with
    | .start n t => if n = 0 ∨ 24 < n ∨ 100000 < t then (none, [-22]) else (some ⟨opened n t, [], []⟩, [0])
    | _ => (none, [])
theorem step_enc (s : Option Desk) (x : Call) : Km440Neutral.step s [enc x] = stepC s x := by
  unfold Km440Neutral.step
  rw [callOf_enc]
  cases s with
  | some a => rfl
  | none =>
    cases x with
    | start n t =>
      show (if (Km440Neutral.told (act (fresh 1 0) (.start n t)).2).headD 0 < 0 then none else some (act (fresh 1 0) (.start n t)).1, Km440Neutral.told (act (fresh 1 0) (.start n t)).2) = if n = 0 ∨ 24 < n ∨ 100000 < t then (none, [-22]) else (some ⟨opened n t, [], []⟩, [0])
      have ea : act (fresh 1 0) (.start n t) = (if n = 0 ∨ PERSONS < n ∨ LATEST < t then (fresh 1 0, only (-22)) else (⟨opened n t, [], []⟩, only 0)) := rfl
      by_cases h : n = 0 ∨ PERSONS < n ∨ LATEST < t
      · have h' : n = 0 ∨ 24 < n ∨ 100000 < t := h
        rw [if_pos h] at ea
        rw [ea, if_pos h']
        rfl
      · have h' : ¬ (n = 0 ∨ 24 < n ∨ 100000 < t) := h
        rw [if_neg h] at ea
        rw [ea, if_neg h']
        rfl
    | _ => rfl
def tell (l : List Int) : List Int := (l.length : Int) :: l
def run : Option Desk → List Call → List Int
  | _, [] => []
  | s, x :: xs => tell (stepC s x).2 ++ run (stepC s x).1 xs
def may : Option Desk → List Call → Bool
  | _, [] => true
  | s, x :: xs => !((stepC s x).2.isEmpty) && may (stepC s x).1 xs
theorem may_enc : ∀ (xs : List Call) (s : Option Desk), Km440Neutral.may s (xs.map fun x => [enc x]) = may s xs
  | [], s => rfl
  | x :: xs, s => by
    show (!((Km440Neutral.step s [enc x]).2.isEmpty) && Km440Neutral.may (Km440Neutral.step s [enc x]).1 _) = _
    rw [step_enc, may_enc xs]
    rfl
theorem run_enc : ∀ (xs : List Call) (s : Option Desk), PyFlat.told (PyFlat.played Km440Neutral.step s (xs.map fun x => [enc x])) = run s xs
  | [], s => rfl
  | x :: xs, s => by
    show PyFlat.told ((Km440Neutral.step s [enc x]).2 :: PyFlat.played Km440Neutral.step (Km440Neutral.step s [enc x]).1 (xs.map fun x => [enc x])) = _
    rw [step_enc]
    show tell (stepC s x).2 ++ PyFlat.told (PyFlat.played Km440Neutral.step (stepC s x).1 (xs.map fun x => [enc x])) = _
    rw [run_enc xs]
    rfl
/-- **What is handed in, and what is due** -/
theorem asked_calls {l : List Int} (h : PyKm440.answers_asked l = true) : ∃ xs : List Call, l = xs.flatMap enc ∧ xs.length ≤ 1000 ∧ may none xs = true ∧ PyKm440.answers l = run none xs := by
  unfold PyKm440.answers_asked at h
  cases e : PyFlat.calls PyKm440.shape l.length l with
  | none => simp only [e] at h; cases h
  | some raw =>
    simp only [e] at h
    simp only [Bool.and_eq_true] at h
    obtain ⟨⟨⟨⟨h1, h2⟩, h3⟩, h4⟩, h5⟩ := h
    have ew : raw.map PyKm440.whole = raw := by
      rw [show PyKm440.whole = id from funext whole_id]
      exact List.map_id _
    rw [ew] at h4
    unfold Km440Neutral.asked at h4
    simp only [Bool.and_eq_true, decide_eq_true_eq] at h4
    obtain ⟨_, h6, h7, h8⟩ := h4
    have all : ∀ cs : List (List (List Int)), cs.all Km440Neutral.asked1 = true → ∃ xs : List Call, cs = xs.map fun x => [enc x] := by
      intro cs
      induction cs with
      | nil => intro _; exact ⟨[], rfl⟩
      | cons c cs ih =>
        intro hc
        rw [List.all_cons, Bool.and_eq_true] at hc
        obtain ⟨x, ex⟩ := asked1_enc hc.1
        obtain ⟨xs, exs⟩ := ih hc.2
        exact ⟨x :: xs, by rw [ex, exs]; rfl⟩
    obtain ⟨xs, exs⟩ := all raw h7
    subst exs
    refine ⟨xs, ?_, by rw [List.length_map] at h6; exact h6, by rw [← may_enc]; exact h8, ?_⟩
    · rw [calls_flat _ _ _ e]
      rw [List.flatMap_map]
      congr 1
      funext x
      show [enc x].flatten = enc x
      simp
    · unfold PyKm440.answers PyKm440.calls
      simp only [e]
      rw [ew, run_enc]
      rfl
/-! ## Desks that can be -/
def isAsk : Call → Bool
  | .who _ | .where_ _ | .count | .missing | .visitors | .children _ | .group _ | .alone | .lost | .may _ | .maySail | .long_ | .gateOf _ | .sums => true
  | _ => false
/-- a question: by the ship alone, and the desk stays -/
theorem act_ask (d : Desk) {c : Call} (h : isAsk c = true) : act d c = (d, ans d.now c) := by
  unfold ans
  cases c <;> first | rfl | cases h
structure GoodD (d : Desk) : Prop where
  now : Good d.now
  past : ∀ s ∈ d.past, Good s
  future : ∀ s ∈ d.future, Good s
  len : d.past.length + d.future.length ≤ 30
theorem become_past (d : Desk) (s : Ship) : (d.become s).past = (d.now :: d.past).take 30 := rfl
theorem GoodD.become {d : Desk} (g : GoodD d) {s : Ship} (h : Good s) : GoodD (d.become s) := by
  refine ⟨h, fun x hx => ?_, fun x hx => (by cases hx), ?_⟩
  · have hx : x ∈ (d.now :: d.past).take 30 := hx
    rcases List.mem_cons.mp (List.mem_of_mem_take hx) with e | e
    · rw [e]; exact g.now
    · exact g.past x e
  · show ((d.now :: d.past).take 30).length + 0 ≤ 30
    rw [List.length_take]
    omega
theorem GoodD.start {n t : Nat} : GoodD ⟨opened n t, [], []⟩ := ⟨opened_good, fun x hx => (by cases hx), fun x hx => (by cases hx), Nat.zero_le 30⟩
theorem take_all {α : Type} {l : List α} {n : Nat} (h : l.length ≤ n) : l.take n = l := List.take_of_length_le h
/-- doing again never drops the oldest: there is room -/
theorem again_room {d : Desk} (g : GoodD d) {k : Ship} {r : List Ship} (h : d.future = k :: r) : (d.now :: d.past).take PAST = d.now :: d.past := by
  refine take_all ?_
  have := g.len
  rw [h] at this
  simp at this
  show (d.now :: d.past).length ≤ 30
  simp
  omega
theorem GoodD.act {d : Desk} (g : GoodD d) (c : Call) : GoodD (act d c).1 := by
  by_cases h1 : isChange c = true
  · rw [act_change d h1]
    dsimp only
    split
    · exact g
    · exact g.become (g.now.res h1)
  by_cases h2 : isAsk c = true
  · rw [act_ask d h2]
    exact g
  cases c with
  | start n t =>
    have ea : Km440.act d (.start n t) = (if n = 0 ∨ PERSONS < n ∨ LATEST < t then (d, only (-22)) else (⟨opened n t, [], []⟩, only 0)) := rfl
    rw [ea]
    split
    · exact g
    · exact GoodD.start
  | back =>
    cases e : d.past with
    | nil =>
      have ea : Km440.act d .back = (d, only (-2)) := by unfold Km440.act; simp only [e]
      rw [ea]
      exact g
    | cons k r =>
      have ea : Km440.act d .back = (⟨k, r, d.now :: d.future⟩, only ((r.length : Nat) : Int)) := by unfold Km440.act; simp only [e]
      rw [ea]
      have hl := g.len
      rw [e] at hl
      refine ⟨g.past k (by rw [e]; exact List.mem_cons_self ..), fun x hx => g.past x (by rw [e]; exact List.mem_cons_of_mem _ hx), fun x hx => ?_, by simp at hl ⊢; omega⟩
      rcases List.mem_cons.mp hx with z | z
      · rw [z]; exact g.now
      · exact g.future x z
  | again =>
    cases e : d.future with
    | nil =>
      have ea : Km440.act d .again = (d, only (-2)) := by unfold Km440.act; simp only [e]
      rw [ea]
      exact g
    | cons k r =>
      have ea : Km440.act d .again = (⟨k, (d.now :: d.past).take PAST, r⟩, only ((r.length : Nat) : Int)) := by unfold Km440.act; simp only [e]
      rw [ea, again_room g e]
      have hl := g.len
      rw [e] at hl
      refine ⟨g.future k (by rw [e]; exact List.mem_cons_self ..), fun x hx => ?_, fun x hx => g.future x (by rw [e]; exact List.mem_cons_of_mem _ hx), by simp at hl ⊢; omega⟩
      rcases List.mem_cons.mp hx with z | z
      · rw [z]; exact g.now
      · exact g.past x z
  | state => exact g
  | _ => first | exact absurd rfl h1 | exact absurd rfl h2
/-- an answer has at most six numbers -/
theorem act_out (d : Desk) (c : Call) : (act d c).2.out.length ≤ 5 := by
  have adds : ∀ w v, (d.adds w v).2.out.length ≤ 5 := fun w v => by
    unfold Desk.adds
    split
    · exact Nat.zero_le _
    split
    · exact Nat.zero_le _
    · show 1 ≤ 5
      decide
  cases c with
  | person => exact adds none none
  | _ =>
    unfold act
    dsimp only
    repeat' split
    all_goals first | exact adds _ _ | (show 0 ≤ 5; decide) | (show 1 ≤ 5; decide) | (show 2 ≤ 5; decide) | (show 3 ≤ 5; decide) | (show 4 ≤ 5; decide) | (show 5 ≤ 5; decide)
theorem stepC_len (s : Option Desk) (x : Call) : (stepC s x).2.length ≤ 6 := by
  cases s with
  | some d =>
    show (Km440Neutral.told (act d x).2).length ≤ 6
    unfold Km440Neutral.told Km440Neutral.nums
    rw [List.length_cons, List.length_map]
    have := act_out d x
    omega
  | none =>
    cases x with
    | start n t =>
      show (if n = 0 ∨ 24 < n ∨ 100000 < t then (none, [-22]) else (some (⟨opened n t, [], []⟩ : Desk), [0]) : Option Desk × List Int).2.length ≤ 6
      split
      · show 1 ≤ 6
        decide
      · show 1 ≤ 6
        decide
    | _ => exact Nat.zero_le _
end Gw
namespace Gw
open PySem PySem.Spec PyProof.Rows L2
/-! ## The program's objects, by the specification's ship -/
def optV : Option Nat → V
  | none => .non
  | some k => .int k
def place (x : Km440.Person) : Int := if x.gone = true then 2 else if x.ashore = true then 1 else 0
def gf (g : Km440.Gate) : List (Str × V) := [("opened", .bl g.open_), ("went_out", .int g.out_), ("came_in", .int g.in_)]
def pf (i : Nat) (x : Km440.Person) : List (Str × V) := [("number", .int i), ("card", .int x.card), ("place", .int (place x)), ("since", .int x.since), ("guardian", optV x.with_), ("off_by", optV x.visitor)]
def sf (s : Km440.Ship) (lg lp : Addr) : List (Str × V) := [("most", .int s.most), ("sail", .int s.sail), ("minute", .int s.time), ("gates", .ref lg), ("persons", .ref lp), ("cards_given", .int s.cards), ("cards_shown_in_vain", .int s.rung)]
/-- where a ship's parts lie -/
structure Lay where
  lg : Addr
  lp : Addr
  ga : List Addr
  pa : List Addr
def GateAt (a : Adr) (H : Hp) (q : Addr) (g : Km440.Gate) : Prop := ∃ dx, H q = some (.ins a.C_Gate dx (gf g))
def PersonAt (a : Adr) (H : Hp) (q : Addr) (i : Nat) (x : Km440.Person) : Prop := ∃ dx, H q = some (.ins a.C_Person dx (pf i x))
structure ShipAt (a : Adr) (H : Hp) (p : Addr) (s : Km440.Ship) (l : Lay) : Prop where
  ship : ∃ dx, H p = some (.ins a.C_Ship dx (sf s l.lg l.lp))
  lg : H l.lg = some (.lst (l.ga.map V.ref))
  lp : H l.lp = some (.lst (l.pa.map V.ref))
  gp : l.lg ≠ l.lp
  gn : l.ga.Nodup
  pn : l.pa.Nodup
  gl : l.ga.length = s.gates.length
  pl : l.pa.length = s.persons.length
  gs : ∀ (i : Nat) (q : Addr) (g : Km440.Gate), l.ga[i]? = some q → s.gates[i]? = some g → GateAt a H q g
  ps : ∀ (i : Nat) (q : Addr) (x : Km440.Person), l.pa[i]? = some q → s.persons[i]? = some x → PersonAt a H q i x
def Lay.foot (p : Addr) (l : Lay) : List Addr := p :: l.lg :: l.lp :: (l.ga ++ l.pa)
theorem ShipAt.keep {a : Adr} {H H' : Hp} {p : Addr} {s : Km440.Ship} {l : Lay} (S : ShipAt a H p s l) (k : ∀ b o, b ∈ l.foot p → H b = some o → H' b = some o) : ShipAt a H' p s l := by
  obtain ⟨⟨dx, h1⟩, h2, h3, h0, h4, h5, h6, h7, h8, h9⟩ := S
  refine ⟨⟨dx, k _ _ (by simp [Lay.foot]) h1⟩, k _ _ (by simp [Lay.foot]) h2, k _ _ (by simp [Lay.foot]) h3, h0, h4, h5, h6, h7, fun i q g e1 e2 => ?_, fun i q x e1 e2 => ?_⟩
  · obtain ⟨d, e⟩ := h8 i q g e1 e2
    exact ⟨d, k _ _ (by simp [Lay.foot, List.mem_of_getElem? e1]) e⟩
  · obtain ⟨d, e⟩ := h9 i q x e1 e2
    exact ⟨d, k _ _ (by simp [Lay.foot, List.mem_of_getElem? e1]) e⟩
theorem ShipAt.same {a : Adr} {H H' : Hp} {p : Addr} {s : Km440.Ship} {l : Lay} (S : ShipAt a H p s l) (k : Same H H') : ShipAt a H' p s l := S.keep fun b o _ e => k b o e
def refO : Option Addr → V
  | none => .non
  | some q => .ref q
/-- the persons at these places -/
def refs (l : Lay) (js : List Nat) : List V := js.map fun j => V.ref (l.pa.getD j 0)
theorem Same.new {H : Hp} {l : Addr} {o : HO} (h : H l = none) : Same H (upd H l o) := fun b u e => by
  rw [upd_ne (ne_of_none e h)]
  exact e
/-- what is handed back: a new list of numbers -/
def Gives (H : Hp) (Q : VK) (ns : List Int) : Prop := ∀ (H' : Hp) (q : Addr), Same H H' → H q = none → H' q = some (.lst (ns.map V.int)) → Q (.ref q) H'
theorem ShipAt.gate {a : Adr} {H : Hp} {p : Addr} {s : Km440.Ship} {l : Lay} (S : ShipAt a H p s l) {i : Nat} {q : Addr} (h : l.ga[i]? = some q) : ∃ g, s.gates[i]? = some g ∧ GateAt a H q g := by
  have hl : i < s.gates.length := by rw [← S.gl]; exact (List.getElem?_eq_some_iff.mp h).1
  exact ⟨_, List.getElem?_eq_getElem hl, S.gs i q _ h (List.getElem?_eq_getElem hl)⟩
theorem ShipAt.person {a : Adr} {H : Hp} {p : Addr} {s : Km440.Ship} {l : Lay} (S : ShipAt a H p s l) {i : Nat} {q : Addr} (h : l.pa[i]? = some q) : ∃ x, s.persons[i]? = some x ∧ PersonAt a H q i x := by
  have hl : i < s.persons.length := by rw [← S.pl]; exact (List.getElem?_eq_some_iff.mp h).1
  exact ⟨_, List.getElem?_eq_getElem hl, S.ps i q _ h (List.getElem?_eq_getElem hl)⟩
theorem ShipAt.pa_some {a : Adr} {H : Hp} {p : Addr} {s : Km440.Ship} {l : Lay} (S : ShipAt a H p s l) {i : Nat} (h : i < s.persons.length) : ∃ q, l.pa[i]? = some q := ⟨_, List.getElem?_eq_getElem (by rw [S.pl]; exact h)⟩
theorem ShipAt.pa_of {a : Adr} {H : Hp} {p : Addr} {s : Km440.Ship} {l : Lay} (S : ShipAt a H p s l) {i : Nat} {x : Km440.Person} (h : s.persons[i]? = some x) : ∃ q, l.pa[i]? = some q ∧ PersonAt a H q i x := by
  obtain ⟨q, hq⟩ := S.pa_some (List.getElem?_eq_some_iff.mp h).1
  exact ⟨q, hq, S.ps i q x hq h⟩
theorem map_get {α β : Type} {f : α → β} {l : List α} {i : Nat} {y : β} (h : (l.map f)[i]? = some y) : ∃ x, l[i]? = some x ∧ y = f x := by
  rw [List.getElem?_map] at h
  cases e : l[i]? with
  | none => rw [e] at h; cases h
  | some x => rw [e] at h; exact ⟨x, rfl, (Option.some.inj h).symm⟩
/-! ## The first defs -/
section
variable {P : Program} {w : World} {K : PySem.W.Frag} {mg : Str → Option Value} {base : Heap} {a : Adr}
def sp_find_gate (a : Adr) : Sp := fun vs H Q _ => ∃ p s l, ∃ g : Nat, vs = [.ref p, .int g] ∧ ShipAt a H p s l ∧ Q (refO l.ga[g]?) H
theorem ok_find_gate (T : Txt K mg a) : FnOk P w K mg base CX0 1 a.f_find_gate a.d_find_gate ["ship", "g"] (sp_find_gate a) := by
  refine T.D_find_gate.F.ok sc_find_gate (fun vs H Q E h => ?_) (fun cdv A outer st H vs Q E hr h => ?_)
  · obtain ⟨p, s, l, g, rfl, _⟩ := h
    rfl
  · obtain ⟨p, s, l, g, rfl, S, q⟩ := h
    refine ⟨_, (pss_cons (ps_if (pt_cmpR op_ge (pv 1) (pe_callB call_len_seq (by rfl) T.x_len PySem.boot_len (pa_cons (pe_fld (pv 0) rfl) pa_nil)) (nomark _)) (pss_one (ps_ret pe_non)) pss_nil) (pss_one (ps_ret (pe_ix ix_list (pe_fld (pv 0) rfl) (pv 1) (fun _ _ => rfl))))), ?_⟩
    obtain ⟨dx, h1⟩ := S.ship
    refine ⟨_, rfl, _, rfl, p, _, dx, _, _, rfl, h1, T.C_Ship.cl, T.n_Ship_gates, rfl, l.lg, _, rfl, .inl (SqL.of S.lg), _, _, rfl, rfl, _, rfl, ite2 (fun c => ?_) (fun c => ?_)⟩
    · have c := of_decide_eq_true c
      rw [List.length_map] at c
      rw [List.getElem?_eq_none_iff.mpr (by omega)] at q
      exact q
    · have c := of_decide_eq_false (eq_false_of_ne_true c)
      rw [List.length_map] at c
      obtain ⟨x, hx⟩ : ∃ x, l.ga[g]? = some x := ⟨_, List.getElem?_eq_getElem (by omega)⟩
      rw [hx] at q
      exact ⟨_, rfl, p, _, dx, _, _, rfl, h1, T.C_Ship.cl, T.n_Ship_gates, rfl, _, rfl, l.lg, _, _, _, rfl, rfl, SqL.of S.lg, atI_nat (by rw [List.getElem?_map, hx]; rfl), q⟩
end
end Gw
namespace Gw
open PySem PySem.Spec PyProof.Rows L2
/-! ## Picking persons by a comprehension -/
theorem getD_get {l : List Addr} {j : Nat} {q : Addr} (h : l[j]? = some q) : l.getD j 0 = q := by simp [List.getD, h]
theorem refs_get {l : Lay} {js : List Nat} {i : Nat} {x : V} (h : (refs l js)[i]? = some x) : ∃ j, js[i]? = some j ∧ x = V.ref (l.pa.getD j 0) := map_get h
theorem take_snoc {α : Type} : ∀ {l : List α} {i : Nat} {x : α}, l[i]? = some x → l.take (i + 1) = l.take i ++ [x]
  | [], i, x, h => by simp at h
  | a :: l, 0, x, h => by
    have e : a = x := Option.some.inj h
    subst e
    rfl
  | a :: l, i + 1, x, h => by
    have ih := take_snoc (l := l) (i := i) (x := x) h
    show a :: l.take (i + 1) = a :: l.take i ++ [x]
    rw [ih]
    rfl
theorem lc_pick {K : PySem.W.Frag} {lp D : Addr} {js : List Nat} {l : Lay} {slot : Nat} {tt : TT} {σ : L2.St} {H : Hp} {Qd : Hp → Prop} (hs : slot < σ.length) (hD : H D = none) (hl : SqL K H lp (refs l js)) (hn : js.length ≤ 1000) (g : Nat → Bool)
    (ht : ∀ j, j ∈ js → ∀ H', Same H H' → ∀ Q : Bool → Hp → Prop, (∀ H'', Same H' H'' → Q (g j) H'') → tt ((σ.set slot none).set slot (some (V.ref (l.pa.getD j 0)))) H' Q)
    (hd : ∀ H', Same H H' → H' D = some (.lst (refs l (js.filter g))) → Qd H') :
    ∃ W : Nat → Nat → Hp → Prop, (∃ m, W 0 m (upd H D (.lst []))) ∧ ∀ i m H, W i m H →
      ((Itl K lp).stop i H ∧ Qd H) ∨ ((Itl K lp).go i H ∧ ∃ Nx : Hp → Prop, (∀ H', Nx H' → ∃ m', m' < m ∧ W (i + 1) m' H') ∧ ∀ x H', (Itl K lp).yld i H x H' → gName slot x (wipe σ [slot]) H' fun σ2 H2 => wipe σ2 [slot] = wipe σ [slot] ∧ tt σ2 H2 fun b H3 =>
        if b = true then (tVar slot) σ2 H3 fun y H4 => ∃ acc, H4 D = some (.lst acc) ∧ acc.length < sizeLine ∧ Nx (upd H4 D (.lst (acc ++ [y]))) else Nx H3) := by
  refine lc_list (K := K) (a := lp) (xs := refs l js) (fun i H' => Same H H' ∧ H' D = some (.lst (refs l ((js.take i).filter g)))) ⟨Same.new hD, upd_same⟩ (fun i H' _ h => Same.seq h.1 hl) ?_ ?_
  · rintro i x H' hx ⟨sm, hDD⟩
    obtain ⟨j, hj, rfl⟩ := refs_get hx
    have hjm : j ∈ js := List.mem_of_getElem? hj
    show wipe ((σ.set slot none).set slot (some (V.ref (l.pa.getD j 0)))) [slot] = wipe σ [slot] ∧ _
    refine ⟨?_, ht j hjm H' sm _ fun H'' sm2 => ?_⟩
    · show ((σ.set slot none).set slot (some (V.ref (l.pa.getD j 0)))).set slot none = σ.set slot none
      rw [List.set_set, List.set_set]
    · have e : (js.take (i + 1)).filter g = (js.take i).filter g ++ (if g j = true then [j] else []) := by
        rw [take_snoc hj, List.filter_append, List.filter_cons, List.filter_nil]
      cases hg : g j with
      | false =>
        rw [hg] at e
        refine iteF ⟨sm.trans sm2, ?_⟩
        rw [e, if_neg Bool.false_ne_true, List.append_nil]
        exact sm2 _ _ hDD
      | true =>
        rw [hg, if_pos rfl] at e
        refine iteT ⟨V.ref (l.pa.getD j 0), ?_, _, sm2 _ _ hDD, ?_, ?_, ?_⟩
        · show ((σ.set slot none).set slot _)[slot]? = _
          rw [List.getElem?_set_self (by rw [List.length_set]; exact hs)]
        · show ((((js.take i).filter g).map _).length) < sizeLine
          rw [List.length_map]
          have h1 := List.length_filter_le g (js.take i)
          have h2 : (js.take i).length ≤ js.length := by rw [List.length_take]; omega
          exact small1000 (by omega)
        · intro b o e1
          have : b ≠ D := fun z => by rw [z, hD] at e1; cases e1
          rw [upd_ne this]
          exact sm2 _ _ (sm _ _ e1)
        · show (upd H'' D _) D = _
          rw [upd_same, e]
          show some (HO.lst (refs l _ ++ [V.ref (l.pa.getD j 0)])) = some (HO.lst (refs l (_ ++ [j])))
          unfold refs
          rw [List.map_append]
          rfl
  · rintro H' ⟨sm, hDD⟩
    refine hd H' sm ?_
    rw [hDD]
    unfold refs
    rw [List.length_map, List.take_length]
theorem pa_refs {a : Adr} {H : Hp} {p : Addr} {s : Km440.Ship} {l : Lay} (S : ShipAt a H p s l) : l.pa.map V.ref = refs l (List.range s.persons.length) := by
  unfold refs
  apply List.ext_getElem?
  intro i
  rw [List.getElem?_map, List.getElem?_map]
  by_cases h : i < s.persons.length
  · have h' : i < l.pa.length := by rw [S.pl]; exact h
    rw [List.getElem?_range h, List.getElem?_eq_getElem h']
    simp [List.getD, h']
  · rw [List.getElem?_eq_none_iff.mpr (by rw [S.pl]; omega), List.getElem?_eq_none_iff.mpr (by rw [List.length_range]; omega)]
    rfl
theorem getD_at {s : Km440.Ship} {j : Nat} {x : Km440.Person} (h : s.persons[j]? = some x) : s.persons.getD j noOne = x := by simp [List.getD, h]
theorem place_here {x : Km440.Person} : decide (V.int (place x) = V.int 0) = fHere x := by
  unfold place fHere
  cases x.gone <;> cases x.ashore <;> rfl
theorem place_away {x : Km440.Person} : decide (V.int (place x) = V.int 1) = fAway x := by
  unfold place fAway
  cases x.gone <;> cases x.ashore <;> rfl
theorem place_gone {x : Km440.Person} : decide (V.int (place x) = V.int 2) = x.gone := by
  unfold place
  cases x.gone <;> cases x.ashore <;> rfl
section
variable {P : Program} {w : World} {K : PySem.W.Frag} {mg : Str → Option Value} {base : Heap} {a : Adr}
/-! ## ship.py -/
def sp_find_person (a : Adr) : Sp := fun vs H Q _ => ∃ p s l, ∃ k : Nat, vs = [.ref p, .int k] ∧ ShipAt a H p s l ∧ (s.is k = false → Q .non H) ∧
  ∀ q x, s.is k = true → l.pa[k]? = some q → s.persons[k]? = some x → x.gone = false → Q (.ref q) H
theorem ok_find_person (T : Txt K mg a) : FnOk P w K mg base CX0 1 a.f_find_person a.d_find_person ["ship", "p"] (sp_find_person a) := by
  refine T.D_find_person.F.ok sc_find_person (fun vs H Q E h => ?_) (fun cdv A outer st H vs Q E hr h => ?_)
  · obtain ⟨p, s, l, g, rfl, _⟩ := h
    rfl
  · obtain ⟨p, s, l, k, rfl, S, q1, q2⟩ := h
    refine ⟨_, (pss_cons (ps_if (pt_cmpR op_ge (pv 1) (pe_callB call_len_seq (by rfl) T.x_len PySem.boot_len (pa_cons (pe_fld (pv 0) rfl) pa_nil)) (nomark _)) (pss_one (ps_ret pe_non)) pss_nil) (pss_cons (ps_set (i := 2) sc_find_person.nd rfl (Or.inl rfl) (pe_ix ix_list (pe_fld (pv 0) rfl) (pv 1) (fun _ _ => rfl))) (pss_cons (ps_if (pt_cmpR op_eq (pe_fld (pv 2) rfl) (pe_gint T.c_GONE rfl) (nomark _)) (pss_one (ps_ret pe_non)) pss_nil) (pss_one (ps_ret (pv 2)))))), ?_⟩
    obtain ⟨dx, h1⟩ := S.ship
    refine ⟨_, rfl, _, rfl, p, _, dx, _, _, rfl, h1, T.C_Ship.cl, T.n_Ship_persons, rfl, l.lp, _, rfl, .inl (SqL.of S.lp), _, _, rfl, rfl, _, rfl, ite2 (fun c => ?_) (fun c => ?_)⟩
    · have c := of_decide_eq_true c
      rw [List.length_map, S.pl] at c
      exact q1 (by unfold Km440.Ship.is; rw [decide_eq_false (by omega)]; rfl)
    · have c := of_decide_eq_false (eq_false_of_ne_true c)
      rw [List.length_map, S.pl] at c
      have hk : k < s.persons.length := by omega
      obtain ⟨x, hx⟩ := S.pa_some hk
      obtain ⟨y, hy, d, hh⟩ := S.person hx
      have ei : s.is k = !y.gone := by rw [is_in hk, person_at hy]
      refine ⟨_, rfl, p, _, dx, _, _, rfl, h1, T.C_Ship.cl, T.n_Ship_persons, rfl, _, rfl, l.lp, _, _, _, rfl, rfl, SqL.of S.lp, atI_nat (by rw [List.getElem?_map, hx]; rfl), ?_⟩
      refine ⟨_, rfl, x, _, d, _, _, rfl, hh, T.C_Person.cl, T.n_Person_place, rfl, rfl, _, rfl, ?_⟩
      rw [place_gone]
      cases hg : y.gone with
      | true => exact iteT (q1 (by rw [ei, hg]; rfl))
      | false => exact iteF ⟨_, rfl, q2 x y (by rw [ei, hg]; rfl) hx hy hg⟩
def sp_find_holder (a : Adr) : Sp := fun vs H Q _ => ∃ p s l, ∃ c : Nat, vs = [.ref p, .int c] ∧ ShipAt a H p s l ∧ (s.holder c = none → Q .non H) ∧
  ∀ k q x, s.holder c = some k → l.pa[k]? = some q → s.persons[k]? = some x → x.gone = false → Q (.ref q) H
theorem holds_at {s : Km440.Ship} {i c : Nat} {x : Km440.Person} (h : s.persons[i]? = some x) : (s.is i && (s.person i).card == c) = (!x.gone && x.card == c) := by
  rw [is_in (List.getElem?_eq_some_iff.mp h).1, person_at h]
theorem ok_find_holder (T : Txt K mg a) : FnOk P w K mg base CX0 1 a.f_find_holder a.d_find_holder ["ship", "card"] (sp_find_holder a) := by
  refine T.D_find_holder.F.ok sc_find_holder (fun vs H Q E h => ?_) (fun cdv A outer st H vs Q E hr h => ?_)
  · obtain ⟨p, s, l, g, rfl, _⟩ := h
    rfl
  · obtain ⟨p, s, l, c, rfl, S, q1, q2⟩ := h
    refine ⟨_, (pss_cons (ps_for PassesOwn.never rfl (pi_list (pe_fld (pv 0) rfl)) (pg_name (i := 2) sc_find_holder.nd rfl (Or.inl rfl)) (pss_one (ps_if (PW.pt (pw_and (pt_cmpR op_eq (pe_fld (pv 2) rfl) (pv 1) (nomark _)) (pw_and1 (pt_cmpR op_ne (pe_fld (pv 2) rfl) (pe_gint T.c_GONE rfl) (nomark _))))) (pss_one (ps_ret (pv 2))) pss_nil))) (pss_one (ps_ret pe_non))), ?_⟩
    obtain ⟨dx, h1⟩ := S.ship
    refine ⟨_, rfl, p, _, dx, _, _, rfl, h1, T.C_Ship.cl, T.n_Ship_persons, rfl, l.lp, rfl, ⟨_, SqL.of S.lp⟩, for_list (K := K) (a := l.lp) (xs := l.pa.map V.ref)
      (fun i σ H' => H' = H ∧ (∃ v, σ = [some (.ref p), some (.int c), v]) ∧ ∀ j, j < i → (s.is j && (s.person j).card == c) = false) ⟨rfl, ⟨_, rfl⟩, fun j hj => absurd hj (Nat.not_lt_zero _)⟩
      (fun i σ H' _ h => by rw [h.1]; exact SqL.of S.lp) ?_ ?_⟩
    · rintro i y σ H' hi ⟨rfl, ⟨v, rfl⟩, hb⟩
      obtain ⟨q, hq, rfl⟩ := map_get hi
      obtain ⟨x, hx, d, hh⟩ := S.person hq
      refine ⟨_, rfl, q, _, d, _, _, rfl, hh, T.C_Person.cl, T.n_Person_card, rfl, _, rfl, rfl, _, rfl, ?_⟩
      have e := holds_at (c := c) hx
      have nx : (s.is i && (s.person i).card == c) = false → ∀ j, j < i + 1 → (s.is j && (s.person j).card == c) = false := fun h j hj => by
        by_cases q : j < i
        · exact hb j q
        · have : j = i := by omega
          subst this
          exact h
      refine ite2 (fun ec => ?_) (fun ec => ?_)
      · have ec : x.card = c := by have := of_decide_eq_true ec; injection this with z; omega
        refine ⟨_, rfl, q, _, d, _, _, rfl, hh, T.C_Person.cl, T.n_Person_place, rfl, rfl, _, rfl, ?_⟩
        rw [place_gone]
        cases hg : x.gone with
        | true => exact iteF ⟨rfl, ⟨_, rfl⟩, nx (by rw [e, hg]; rfl)⟩
        | false =>
          refine iteT ⟨_, rfl, q2 i q x ?_ hq hx hg⟩
          unfold Km440.Ship.holder
          rw [List.find?_range_eq_some]
          refine ⟨by rw [e, hg, ec]; simp, List.mem_range.mpr (List.getElem?_eq_some_iff.mp hx).1, fun j hj => by rw [hb j hj]; rfl⟩
      · have ec : ¬ x.card = c := fun z => ec (by rw [z]; exact decide_eq_true rfl)
        exact iteF ⟨rfl, ⟨_, rfl⟩, nx (by rw [e]; simp [ec])⟩
    · rintro σ H' ⟨rfl, ⟨v, rfl⟩, hb⟩
      refine q1 ?_
      unfold Km440.Ship.holder
      rw [List.find?_range_eq_none]
      intro i hi
      rw [hb i (by rw [List.length_map, S.pl]; exact hi)]
      rfl
theorem refs_length {l : Lay} {js : List Nat} : (refs l js).length = js.length := by unfold refs; rw [List.length_map]
/-- a new list of the persons at these places -/
def Picks (H : Hp) (l : Lay) (Q : VK) (js : List Nat) : Prop := ∀ (H' : Hp) (D : Addr), Same H H' → H D = none → H' D = some (.lst (refs l js)) → Q (.ref D) H'
theorem range24 {s : Km440.Ship} (g : Good s) : (List.range s.persons.length).length ≤ 1000 := by rw [List.length_range]; exact Nat.le_trans g.np (by decide)
theorem sel_len {f : Km440.Person → Bool} {s : Km440.Ship} (g : Good s) : (sel f s.persons).length ≤ 1000 := by
  rw [sel_length]
  exact Nat.le_trans List.countP_le_length (Nat.le_trans g.np (by decide))
def sp_persons_in (a : Adr) : Sp := fun vs H Q _ => ∃ p s l, ∃ k : Int, vs = [.ref p, .int k] ∧ ShipAt a H p s l ∧ Good s ∧ Picks H l Q (sel (fun x => decide (V.int (place x) = V.int k)) s.persons)
theorem ok_persons_in (T : Txt K mg a) : FnOk P w K mg base CX0 1 a.f_persons_in a.d_persons_in ["ship", "place"] (sp_persons_in a) := by
  refine T.D_persons_in.F.ok sc_persons_in (fun vs H Q E h => ?_) (fun cdv A outer st H vs Q E hr h => ?_)
  · obtain ⟨p, s, l, k, rfl, _⟩ := h
    rfl
  · obtain ⟨p, s, l, n, rfl, S, g, k⟩ := h
    refine ⟨_, (pss_one (ps_ret (pe_lc rfl sc_persons_in.nd (tt := (tTest (tOp rEq (tFld K (tVar 2) "place") (tVar 1)))) (te := (tVar 2)) (pi_list (pe_fld (pv 0) rfl)) (blkOk_by (own := [("person", 2)]) rfl) (fun _ _ _ _ _ => pg_name (i := 2) sc_persons_in.nd rfl (Or.inl rfl)) (fun _ _ _ _ _ => pts_one (pt_cmpR op_eq (pe_fld (pv 2) rfl) (pv 1) (nomark _))) (fun _ _ _ _ _ => (pv 2))))), ?_⟩
    obtain ⟨dx, h1⟩ := S.ship
    refine ⟨_, rfl, p, _, dx, _, _, rfl, h1, T.C_Ship.cl, T.n_Ship_persons, rfl, l.lp, rfl, ⟨_, SqL.of S.lp⟩, fun D hD =>
      lc_pick (by show 2 < 3; decide) hD (by rw [← pa_refs S]; exact SqL.of S.lp) (range24 g) (fun j => decide (V.int (place (s.persons.getD j noOne)) = V.int n)) (fun j hj H' sm R hR => ?_) (fun H' sm hH => k H' D sm hD ?_)⟩
    · obtain ⟨q, hq⟩ := S.pa_some (List.mem_range.mp hj)
      obtain ⟨x, hx, d, hh⟩ := S.person hq
      rw [getD_get hq]
      refine ⟨_, rfl, q, _, d, _, _, rfl, sm _ _ hh, T.C_Person.cl, T.n_Person_place, rfl, _, rfl, rfl, _, rfl, ?_⟩
      have := hR H' (Same.refl _)
      rw [getD_at hx] at this
      exact this
    · rw [hH]
      rfl
def sp_persons_aboard (a : Adr) : Sp := fun vs H Q _ => ∃ p s l, vs = [.ref p] ∧ ShipAt a H p s l ∧ Good s ∧ Picks H l Q s.here
theorem sel_here {s : Km440.Ship} : sel (fun x => decide (V.int (place x) = V.int 0)) s.persons = s.here := by
  rw [here_eq]
  exact sel_congr fun x _ => place_here
theorem sel_away {s : Km440.Ship} : sel (fun x => decide (V.int (place x) = V.int 1)) s.persons = s.away := by
  rw [away_eq]
  exact sel_congr fun x _ => place_away
theorem sel_gone {s : Km440.Ship} : sel (fun x => decide (V.int (place x) = V.int 2)) s.persons = sel (fun x => x.gone) s.persons := sel_congr fun x _ => place_gone
theorem ok_persons_aboard (T : Txt K mg a) : FnOk P w K mg base CX0 2 a.f_persons_aboard a.d_persons_aboard ["ship"] (sp_persons_aboard a) := by
  have G_persons_in := ok_persons_in (P := P) (w := w) (base := base) T
  refine T.D_persons_aboard.F.ok sc_persons_aboard (fun vs H Q E h => ?_) (fun cdv A outer st H vs Q E hr h => ?_)
  · obtain ⟨p, s, l, rfl, _⟩ := h
    rfl
  · obtain ⟨p, s, l, rfl, S, g, k⟩ := h
    refine ⟨_, (pss_one (ps_ret (pe_call G_persons_in (hr.mono (by decide)) rfl T.D_persons_in.m T.D_persons_in.F.kp T.D_persons_in.B .nil pass0 (pa_cons (pv 0) (pa_cons (pe_gint T.c_ABOARD rfl) pa_nil))))), ?_⟩
    rw [← sel_here] at k
    exact ⟨_, rfl, p, s, l, 0, rfl, S, g, k⟩
theorem notN_opt {o : Option Nat} : (!decide (optV o = V.non)) = o.isSome := by cases o <;> rfl
theorem isN_opt {o : Option Nat} : decide (optV o = V.non) = o.isNone := by cases o <;> rfl
def sp_visitors_aboard (a : Adr) : Sp := fun vs H Q _ => ∃ p s l, vs = [.ref p] ∧ ShipAt a H p s l ∧ Good s ∧ Picks H l Q s.visitors
theorem ok_visitors_aboard (T : Txt K mg a) : FnOk P w K mg base CX0 3 a.f_visitors_aboard a.d_visitors_aboard ["ship"] (sp_visitors_aboard a) := by
  have G_persons_aboard := ok_persons_aboard (P := P) (w := w) (base := base) T
  refine T.D_visitors_aboard.F.ok sc_visitors_aboard (fun vs H Q E h => ?_) (fun cdv A outer st H vs Q E hr h => ?_)
  · obtain ⟨p, s, l, rfl, _⟩ := h
    rfl
  · obtain ⟨p, s, l, rfl, S, g, k⟩ := h
    refine ⟨_, (pss_one (ps_ret (pe_lc rfl sc_visitors_aboard.nd (tt := (tTest (tOp (fun x y H Q => y = .non ∧ Q (.bl (!decide (x = .non))) H) (tFld K (tVar 1) "off_by") (tC .non)))) (te := (tVar 1)) (pi_list (pe_call G_persons_aboard (hr.mono (by decide)) rfl T.D_persons_aboard.m T.D_persons_aboard.F.kp T.D_persons_aboard.B .nil pass0 (pa_cons (pv 0) pa_nil))) (blkOk_by (own := [("person", 1)]) rfl) (fun _ _ _ _ _ => pg_name (i := 1) sc_visitors_aboard.nd rfl (Or.inl rfl)) (fun _ _ _ _ _ => pts_one (pt_cmpR op_notN (pe_fld (pv 1) rfl) pe_non (nomark _))) (fun _ _ _ _ _ => (pv 1))))), ?_⟩
    refine ⟨_, rfl, p, s, l, rfl, S, g, fun H1 D1 sm1 hD1 hH1 => ⟨D1, rfl, ⟨_, SqL.of hH1⟩, fun D2 hD2 =>
      lc_pick (by show 1 < 2; decide) hD2 (SqL.of hH1) (by rw [here_eq]; exact sel_len g) (fun j => (s.persons.getD j noOne).visitor.isSome) (fun j hj H' sm R hR => ?_) (fun H2 sm2 hH2 => k H2 D2 (sm1.trans sm2) (sm1.free hD2) ?_)⟩⟩
    · rw [here_eq] at hj
      obtain ⟨q, hq⟩ := S.pa_some (sel_lt hj)
      obtain ⟨x, hx, d, hh⟩ := S.person hq
      rw [getD_get hq]
      refine ⟨_, rfl, q, _, d, _, _, rfl, sm _ _ (sm1 _ _ hh), T.C_Person.cl, T.n_Person_off_by, rfl, rfl, _, rfl, ?_⟩
      have := hR H' (Same.refl _)
      rw [getD_at hx, ← notN_opt] at this
      exact this
    · rw [hH2, visitors_eq, here_eq, sel_filter fHere (fun x => x.visitor.isSome)]
def sp_missing_persons (a : Adr) : Sp := fun vs H Q _ => ∃ p s l, vs = [.ref p] ∧ ShipAt a H p s l ∧ Good s ∧ Picks H l Q s.missing
theorem ok_missing_persons (T : Txt K mg a) : FnOk P w K mg base CX0 2 a.f_missing_persons a.d_missing_persons ["ship"] (sp_missing_persons a) := by
  have G_persons_in := ok_persons_in (P := P) (w := w) (base := base) T
  refine T.D_missing_persons.F.ok sc_missing_persons (fun vs H Q E h => ?_) (fun cdv A outer st H vs Q E hr h => ?_)
  · obtain ⟨p, s, l, rfl, _⟩ := h
    rfl
  · obtain ⟨p, s, l, rfl, S, g, k⟩ := h
    refine ⟨_, (pss_one (ps_ret (pe_lc rfl sc_missing_persons.nd (tt := (tTest (tOp (fun x y H Q => y = .non ∧ Q (.bl (decide (x = .non))) H) (tFld K (tVar 1) "off_by") (tC .non)))) (te := (tVar 1)) (pi_list (pe_call G_persons_in (hr.mono (by decide)) rfl T.D_persons_in.m T.D_persons_in.F.kp T.D_persons_in.B .nil pass0 (pa_cons (pv 0) (pa_cons (pe_gint T.c_ASHORE rfl) pa_nil)))) (blkOk_by (own := [("person", 1)]) rfl) (fun _ _ _ _ _ => pg_name (i := 1) sc_missing_persons.nd rfl (Or.inl rfl)) (fun _ _ _ _ _ => pts_one (pt_cmpR op_isN (pe_fld (pv 1) rfl) pe_non (nomark _))) (fun _ _ _ _ _ => (pv 1))))), ?_⟩
    refine ⟨_, rfl, p, s, l, 1, rfl, S, g, ?_⟩
    rw [sel_away]
    refine fun H1 D1 sm1 hD1 hH1 => ⟨D1, rfl, ⟨_, SqL.of hH1⟩, fun D2 hD2 =>
      lc_pick (by show 1 < 2; decide) hD2 (SqL.of hH1) (by rw [away_eq]; exact sel_len g) (fun j => (s.persons.getD j noOne).visitor.isNone) (fun j hj H' sm R hR => ?_) (fun H2 sm2 hH2 => k H2 D2 (sm1.trans sm2) (sm1.free hD2) ?_)⟩
    · rw [away_eq] at hj
      obtain ⟨q, hq⟩ := S.pa_some (sel_lt hj)
      obtain ⟨x, hx, d, hh⟩ := S.person hq
      rw [getD_get hq]
      refine ⟨_, rfl, q, _, d, _, _, rfl, sm _ _ (sm1 _ _ hh), T.C_Person.cl, T.n_Person_off_by, rfl, rfl, _, rfl, ?_⟩
      have := hR H' (Same.refl _)
      rw [getD_at hx, ← isN_opt] at this
      exact this
    · rw [hH2, missing_eq, away_eq, sel_filter fAway (fun x => x.visitor.isNone)]
def sp_is_full (a : Adr) : Sp := fun vs H Q _ => ∃ p s l, vs = [.ref p] ∧ ShipAt a H p s l ∧ Good s ∧ ∀ H', Same H H' → Q (.bl (decide (s.most ≤ s.here.length))) H'
theorem ok_is_full (T : Txt K mg a) : FnOk P w K mg base CX0 3 a.f_is_full a.d_is_full ["ship"] (sp_is_full a) := by
  have G_persons_aboard := ok_persons_aboard (P := P) (w := w) (base := base) T
  refine T.D_is_full.F.ok sc_is_full (fun vs H Q E h => ?_) (fun cdv A outer st H vs Q E hr h => ?_)
  · obtain ⟨p, s, l, rfl, _⟩ := h
    rfl
  · obtain ⟨p, s, l, rfl, S, g, k⟩ := h
    refine ⟨_, (pss_one (ps_ret (pe_cmpR op_ge (pe_callB call_len_seq (by rfl) T.x_len PySem.boot_len (pa_cons (pe_call G_persons_aboard (hr.mono (by decide)) rfl T.D_persons_aboard.m T.D_persons_aboard.F.kp T.D_persons_aboard.B .nil pass0 (pa_cons (pv 0) pa_nil)) pa_nil)) (pe_fld (pv 0) rfl) (nomark _)))), ?_⟩
    refine ⟨_, rfl, p, s, l, rfl, S, g, fun H' D sm hD hH => ?_⟩
    obtain ⟨dx, h1⟩ := (S.same sm).ship
    refine ⟨D, _, rfl, .inl (SqL.of hH), _, rfl, p, _, dx, _, _, rfl, h1, T.C_Ship.cl, T.n_Ship_most, rfl, _, _, rfl, rfl, ?_⟩
    have e : (decide ((s.most : Int) ≤ ((refs l s.here).length : Int))) = decide (s.most ≤ s.here.length) := by
      unfold refs
      rw [List.length_map]
      exact decide_eq_decide.mpr (by omega)
    show Q (V.bl (decide ((s.most : Int) ≤ ((refs l s.here).length : Int)))) H'
    rw [e]
    exact k H' sm
def sp_has_passed (a : Adr) : Sp := fun vs H Q _ => ∃ p s l, ∃ t : Nat, vs = [.ref p, .int t] ∧ ShipAt a H p s l ∧ Q (.bl (decide (t < s.time))) H
theorem ok_has_passed (T : Txt K mg a) : FnOk P w K mg base CX0 1 a.f_has_passed a.d_has_passed ["ship", "t"] (sp_has_passed a) := by
  refine T.D_has_passed.F.ok sc_has_passed (fun vs H Q E h => ?_) (fun cdv A outer st H vs Q E hr h => ?_)
  · obtain ⟨p, s, l, t, rfl, _⟩ := h
    rfl
  · obtain ⟨p, s, l, t, rfl, S, k⟩ := h
    refine ⟨_, (pss_one (ps_ret (pe_cmpR op_lt (pv 1) (pe_fld (pv 0) rfl) (nomark _)))), ?_⟩
    obtain ⟨dx, h1⟩ := S.ship
    refine ⟨_, rfl, _, rfl, p, _, dx, _, _, rfl, h1, T.C_Ship.cl, T.n_Ship_minute, rfl, _, _, rfl, rfl, ?_⟩
    show Q (V.bl (decide ((t : Int) < (s.time : Int)))) H
    rw [show decide ((t : Int) < (s.time : Int)) = decide (t < s.time) from decide_eq_decide.mpr (by omega)]
    exact k
theorem is_ashore_at {s : Km440.Ship} {q : Nat} {y : Km440.Person} (h : s.persons[q]? = some y) : (s.is q && (s.person q).ashore) = fAway y := by
  rw [is_in (List.getElem?_eq_some_iff.mp h).1, person_at h]
  rfl
def sp_is_guardian_ashore (a : Adr) : Sp := fun vs H Q _ => ∃ p s l, ∃ (i : Nat) (q : Addr) (x : Km440.Person) (m : Nat), vs = [.ref p, .ref q] ∧ ShipAt a H p s l ∧ Good s ∧ l.pa[i]? = some q ∧ s.persons[i]? = some x ∧ x.with_ = some m ∧ Q (.bl (s.is m && (s.person m).ashore)) H
theorem ok_is_guardian_ashore (T : Txt K mg a) : FnOk P w K mg base CX0 1 a.f_is_guardian_ashore a.d_is_guardian_ashore ["ship", "child"] (sp_is_guardian_ashore a) := by
  refine T.D_is_guardian_ashore.F.ok sc_is_guardian_ashore (fun vs H Q E h => ?_) (fun cdv A outer st H vs Q E hr h => ?_)
  · obtain ⟨p, s, l, i, q, x, m, rfl, _⟩ := h
    rfl
  · obtain ⟨p, s, l, i, q, x, m, rfl, S, g, hq, hx, hw, k⟩ := h
    refine ⟨_, (pss_one (ps_ret (pe_cmpR op_eq (pe_fld (pe_ix ix_list (pe_fld (pv 0) rfl) (pe_fld (pv 1) rfl) (fun _ _ => rfl)) rfl) (pe_gint T.c_ASHORE rfl) (nomark _)))), ?_⟩
    obtain ⟨dx, h1⟩ := S.ship
    obtain ⟨d, hh⟩ := S.ps i q x hq hx
    obtain ⟨y, hy, _, _⟩ := g.wi i x m hx hw
    obtain ⟨r, hr', d2, hh2⟩ := S.pa_of hy
    refine ⟨_, rfl, p, _, dx, _, _, rfl, h1, T.C_Ship.cl, T.n_Ship_persons, rfl, _, rfl, q, _, d, _, _, rfl, hh, T.C_Person.cl, T.n_Person_guardian, rfl, l.lp, _, _, _, rfl, (by rw [hw]; rfl), SqL.of S.lp, atI_nat (j := m) (by rw [List.getElem?_map, hr']; rfl),
      r, _, d2, _, _, rfl, hh2, T.C_Person.cl, T.n_Person_place, rfl, rfl, ?_⟩
    rw [place_away, ← is_ashore_at hy]
    exact k
def sp_may_go_ashore (a : Adr) : Sp := fun vs H Q _ => ∃ p s l, ∃ i q x, vs = [.ref p, .ref q] ∧ ShipAt a H p s l ∧ Good s ∧ l.pa[i]? = some q ∧ s.persons[i]? = some x ∧ x.gone = false ∧ Q (.bl (s.mayGo i)) H
theorem mayGo_at {s : Km440.Ship} {i : Nat} {x : Km440.Person} (h : s.persons[i]? = some x) (hg : x.gone = false) : s.mayGo i = (!x.ashore && (match x.with_ with | some q => s.is q && (s.person q).ashore | none => true)) := by
  unfold Km440.Ship.mayGo
  rw [is_in (List.getElem?_eq_some_iff.mp h).1, person_at h, hg]
  rfl
theorem place_here' {x : Km440.Person} (hg : x.gone = false) : decide (V.int (place x) = V.int 0) = !x.ashore := by
  rw [place_here]
  unfold fHere
  rw [hg]
  rfl
theorem ok_may_go_ashore (T : Txt K mg a) : FnOk P w K mg base CX0 2 a.f_may_go_ashore a.d_may_go_ashore ["ship", "person"] (sp_may_go_ashore a) := by
  have G_is_guardian_ashore := ok_is_guardian_ashore (P := P) (w := w) (base := base) T
  refine T.D_may_go_ashore.F.ok sc_may_go_ashore (fun vs H Q E h => ?_) (fun cdv A outer st H vs Q E hr h => ?_)
  · obtain ⟨p, s, l, i, q, x, rfl, _⟩ := h
    rfl
  · obtain ⟨p, s, l, i, q, x, rfl, S, g, hq, hx, hg, k⟩ := h
    refine ⟨_, (pss_cons (ps_if (pt_cmpR op_ne (pe_fld (pv 1) rfl) (pe_gint T.c_ABOARD rfl) (nomark _)) (pss_one (ps_ret pe_bl)) pss_nil) (pss_one (ps_ret (pe_or (pe_cmpR op_isN (pe_fld (pv 1) rfl) pe_non (nomark _)) (pe_one (pe_call G_is_guardian_ashore (hr.mono (by decide)) rfl T.D_is_guardian_ashore.m T.D_is_guardian_ashore.F.kp T.D_is_guardian_ashore.B .nil pass0 (pa_cons (pv 0) (pa_cons (pv 1) pa_nil)))))))), ?_⟩
    obtain ⟨d, hh⟩ := S.ps i q x hq hx
    rw [mayGo_at hx hg] at k
    refine ⟨_, rfl, q, _, d, _, _, rfl, hh, T.C_Person.cl, T.n_Person_place, rfl, rfl, _, rfl, ?_⟩
    rw [place_here' hg]
    cases ha : x.ashore with
    | true => rw [ha] at k; exact iteT k
    | false =>
      rw [ha] at k
      refine iteF ⟨_, rfl, q, _, d, _, _, rfl, hh, T.C_Person.cl, T.n_Person_guardian, rfl, rfl, _, rfl, ?_⟩
      cases hw : x.with_ with
      | none => rw [hw] at k; exact iteT k
      | some m =>
        rw [hw] at k
        exact iteF ⟨_, rfl, _, rfl, p, s, l, i, q, x, m, rfl, S, g, hq, hx, hw, k⟩
end
end Gw
namespace Gw
open PySem PySem.Spec PyProof.Rows L2
/-! ## What changes a ship's objects -/
theorem ne_len {C C' d d' : Addr} {fs fs' : List (Str × V)} (h : fs.length ≠ fs'.length) : HO.ins C d fs ≠ HO.ins C' d' fs' := fun z => by
  injection z with _ _ z
  exact h (congrArg List.length z)
section
variable {a : Adr} {H H' : Hp} {p : Addr} {s : Km440.Ship} {l : Lay}
theorem ShipAt.ne_gate (S : ShipAt a H p s l) {i : Nat} {q : Addr} (h : l.ga[i]? = some q) : q ≠ p := by
  obtain ⟨dx, h1⟩ := S.ship
  obtain ⟨g, _, d, h2⟩ := S.gate h
  exact ne_of h2 h1 (ne_len (by show 3 ≠ 7; decide))
theorem ShipAt.ne_person (S : ShipAt a H p s l) {i : Nat} {q : Addr} (h : l.pa[i]? = some q) : q ≠ p := by
  obtain ⟨dx, h1⟩ := S.ship
  obtain ⟨g, _, d, h2⟩ := S.person h
  exact ne_of h2 h1 (ne_len (by show 6 ≠ 7; decide))
theorem ShipAt.gate_person (S : ShipAt a H p s l) {i j : Nat} {q r : Addr} (h : l.ga[i]? = some q) (h' : l.pa[j]? = some r) : q ≠ r := by
  obtain ⟨g, _, d, h1⟩ := S.gate h
  obtain ⟨x, _, d', h2⟩ := S.person h'
  exact ne_of h1 h2 (ne_len (by show 3 ≠ 6; decide))
theorem ShipAt.lg_p (S : ShipAt a H p s l) : l.lg ≠ p := by
  obtain ⟨dx, h1⟩ := S.ship
  exact ne_of S.lg h1 (by intro z; cases z)
theorem ShipAt.lp_p (S : ShipAt a H p s l) : l.lp ≠ p := by
  obtain ⟨dx, h1⟩ := S.ship
  exact ne_of S.lp h1 (by intro z; cases z)
theorem ShipAt.lg_gate (S : ShipAt a H p s l) {i : Nat} {q : Addr} (h : l.ga[i]? = some q) : l.lg ≠ q := by
  obtain ⟨g, _, d, h1⟩ := S.gate h
  exact ne_of S.lg h1 (by intro z; cases z)
theorem ShipAt.lp_gate (S : ShipAt a H p s l) {i : Nat} {q : Addr} (h : l.ga[i]? = some q) : l.lp ≠ q := by
  obtain ⟨g, _, d, h1⟩ := S.gate h
  exact ne_of S.lp h1 (by intro z; cases z)
theorem ShipAt.lg_person (S : ShipAt a H p s l) {i : Nat} {q : Addr} (h : l.pa[i]? = some q) : l.lg ≠ q := by
  obtain ⟨g, _, d, h1⟩ := S.person h
  exact ne_of S.lg h1 (by intro z; cases z)
theorem ShipAt.lp_person (S : ShipAt a H p s l) {i : Nat} {q : Addr} (h : l.pa[i]? = some q) : l.lp ≠ q := by
  obtain ⟨g, _, d, h1⟩ := S.person h
  exact ne_of S.lp h1 (by intro z; cases z)
/-- the ship's own numbers are changed -/
theorem ShipAt.setShip (S : ShipAt a H p s l) {s' : Km440.Ship} (hg : s'.gates = s.gates) (hp : s'.persons = s.persons) {dx : Addr} (h1 : H' p = some (.ins a.C_Ship dx (sf s' l.lg l.lp))) (k : ∀ b, b ≠ p → H' b = H b) : ShipAt a H' p s' l := by
  refine ⟨⟨dx, h1⟩, by rw [k _ S.lg_p]; exact S.lg, by rw [k _ S.lp_p]; exact S.lp, S.gp, S.gn, S.pn, by rw [hg]; exact S.gl, by rw [hp]; exact S.pl, fun i q g e1 e2 => ?_, fun i q x e1 e2 => ?_⟩
  · rw [hg] at e2
    obtain ⟨d, h⟩ := S.gs i q g e1 e2
    exact ⟨d, by rw [k _ (S.ne_gate e1)]; exact h⟩
  · rw [hp] at e2
    obtain ⟨d, h⟩ := S.ps i q x e1 e2
    exact ⟨d, by rw [k _ (S.ne_person e1)]; exact h⟩
/-- a person is changed -/
theorem ShipAt.setPerson (S : ShipAt a H p s l) {i : Nat} {q dx : Addr} {x : Km440.Person} (hq : l.pa[i]? = some q) (h1 : H' q = some (.ins a.C_Person dx (pf i x))) (k : ∀ b, b ≠ q → H' b = H b) : ShipAt a H' p (s.set i x) l := by
  obtain ⟨d0, h0⟩ := S.ship
  have hi : i < s.persons.length := by rw [← S.pl]; exact (List.getElem?_eq_some_iff.mp hq).1
  refine ⟨⟨d0, by rw [k _ (Ne.symm (S.ne_person hq))]; exact h0⟩, by rw [k _ (S.lg_person hq)]; exact S.lg, by rw [k _ (S.lp_person hq)]; exact S.lp, S.gp, S.gn, S.pn, S.gl, ?_, fun j r g e1 e2 => ?_, fun j r y e1 e2 => ?_⟩
  · show _ = (s.persons.set i x).length
    rw [List.length_set]
    exact S.pl
  · obtain ⟨d, h⟩ := S.gs j r g e1 e2
    exact ⟨d, by rw [k _ (S.gate_person e1 hq)]; exact h⟩
  · have e2 : (s.persons.set i x)[j]? = some y := e2
    by_cases e : j = i
    · subst e
      rw [List.getElem?_set_self hi] at e2
      have e2 := Option.some.inj e2
      subst e2
      have e1 := Option.some.inj (e1.symm.trans hq)
      subst e1
      exact ⟨dx, h1⟩
    · rw [List.getElem?_set_ne (fun z => e z.symm)] at e2
      obtain ⟨d, h⟩ := S.ps j r y e1 e2
      exact ⟨d, by rw [k r fun z => e (nd_ix S.pn e1 (by rw [z]; exact hq))]; exact h⟩
/-- a gate is changed -/
theorem ShipAt.setGate (S : ShipAt a H p s l) {i : Nat} {q dx : Addr} {x : Km440.Gate} (hq : l.ga[i]? = some q) (h1 : H' q = some (.ins a.C_Gate dx (gf x))) (k : ∀ b, b ≠ q → H' b = H b) : ShipAt a H' p (s.setGate i x) l := by
  obtain ⟨d0, h0⟩ := S.ship
  have hi : i < s.gates.length := by rw [← S.gl]; exact (List.getElem?_eq_some_iff.mp hq).1
  refine ⟨⟨d0, by rw [k _ (Ne.symm (S.ne_gate hq))]; exact h0⟩, by rw [k _ (S.lg_gate hq)]; exact S.lg, by rw [k _ (S.lp_gate hq)]; exact S.lp, S.gp, S.gn, S.pn, ?_, S.pl, fun j r g e1 e2 => ?_, fun j r y e1 e2 => ?_⟩
  · show _ = (s.gates.set i x).length
    rw [List.length_set]
    exact S.gl
  · have e2 : (s.gates.set i x)[j]? = some g := e2
    by_cases e : j = i
    · subst e
      rw [List.getElem?_set_self hi] at e2
      have e2 := Option.some.inj e2
      subst e2
      have e1 := Option.some.inj (e1.symm.trans hq)
      subst e1
      exact ⟨dx, h1⟩
    · rw [List.getElem?_set_ne (fun z => e z.symm)] at e2
      obtain ⟨d, h⟩ := S.gs j r g e1 e2
      exact ⟨d, by rw [k r fun z => e (nd_ix S.gn e1 (by rw [z]; exact hq))]; exact h⟩
  · obtain ⟨d, h⟩ := S.ps j r y e1 e2
    exact ⟨d, by rw [k _ (Ne.symm (S.gate_person hq e1))]; exact h⟩
theorem nd_snoc' {α : Type} {l : List α} {x : α} (h : l.Nodup) (n : x ∉ l) : (l ++ [x]).Nodup := by
  rw [List.nodup_append]
  refine ⟨h, by simp, fun y hy z hz => ?_⟩
  have := List.mem_singleton.mp hz
  subst this
  exact fun e => n (e ▸ hy)
theorem ShipAt.foot_some (S : ShipAt a H p s l) {b : Addr} (hb : b ∈ l.foot p) : ∃ o, H b = some o := by
  unfold Lay.foot at hb
  rcases List.mem_cons.mp hb with e | hb
  · subst e
    obtain ⟨d, h⟩ := S.ship
    exact ⟨_, h⟩
  rcases List.mem_cons.mp hb with e | hb
  · subst e
    exact ⟨_, S.lg⟩
  rcases List.mem_cons.mp hb with e | hb
  · subst e
    exact ⟨_, S.lp⟩
  rcases List.mem_append.mp hb with hb | hb
  · obtain ⟨i, hi⟩ := List.getElem?_of_mem hb
    obtain ⟨g, _, d, h⟩ := S.gate hi
    exact ⟨_, h⟩
  · obtain ⟨i, hi⟩ := List.getElem?_of_mem hb
    obtain ⟨g, _, d, h⟩ := S.person hi
    exact ⟨_, h⟩
theorem ShipAt.fresh (S : ShipAt a H p s l) {b : Addr} (hb : H b = none) : b ∉ l.foot p := fun m => by
  obtain ⟨o, h⟩ := S.foot_some m
  rw [hb] at h
  cases h
/-- one more gate: q, new, behind the others -/
theorem ShipAt.addGate (S : ShipAt a H p s l) {q dx : Addr} {x : Km440.Gate} (hq : H q = none) (h1 : H' q = some (.ins a.C_Gate dx (gf x))) (h2 : H' l.lg = some (.lst ((l.ga ++ [q]).map V.ref))) (k : ∀ b, b ∈ l.foot p → b ≠ l.lg → H' b = H b) :
    ShipAt a H' p { s with gates := s.gates ++ [x] } { l with ga := l.ga ++ [q] } := by
  obtain ⟨d0, h0⟩ := S.ship
  have nq := S.fresh hq
  have nq' : q ∉ l.ga := fun m => nq (by simp [Lay.foot, m])
  refine ⟨⟨d0, by rw [k _ (by simp [Lay.foot]) (Ne.symm S.lg_p)]; exact h0⟩, h2, by rw [k _ (by simp [Lay.foot]) (Ne.symm S.gp)]; exact S.lp, S.gp, nd_snoc' S.gn nq', S.pn, ?_, S.pl, fun j r g e1 e2 => ?_, fun j r y e1 e2 => ?_⟩
  · show (l.ga ++ [q]).length = (s.gates ++ [x]).length
    rw [List.length_append, List.length_append, S.gl]
    rfl
  · have e1 : (l.ga ++ [q])[j]? = some r := e1
    have e2 : (s.gates ++ [x])[j]? = some g := e2
    rcases getElem?_snoc e1 with e1 | ⟨e, e1⟩
    · have hj : j < s.gates.length := by rw [← S.gl]; exact (List.getElem?_eq_some_iff.mp e1).1
      rw [List.getElem?_append_left hj] at e2
      obtain ⟨d, h⟩ := S.gs j r g e1 e2
      exact ⟨d, by rw [k _ (by simp [Lay.foot, List.mem_of_getElem? e1]) (Ne.symm (S.lg_gate e1))]; exact h⟩
    · subst e1
      rw [e, S.gl, List.getElem?_append_right (Nat.le_refl _), Nat.sub_self] at e2
      have e2 : x = g := by simpa using e2
      subst e2
      exact ⟨dx, h1⟩
  · obtain ⟨d, h⟩ := S.ps j r y e1 e2
    exact ⟨d, by rw [k _ (by simp [Lay.foot, List.mem_of_getElem? e1]) (Ne.symm (S.lg_person e1))]; exact h⟩
/-- one more person: q, new, behind the others -/
theorem ShipAt.addPerson (S : ShipAt a H p s l) {q dx d0 : Addr} {s' : Km440.Ship} {x : Km440.Person} (hs : s'.gates = s.gates) (hp : s'.persons = s.persons ++ [x]) (hq : H q = none) (h1 : H' q = some (.ins a.C_Person dx (pf s.persons.length x)))
    (h2 : H' l.lp = some (.lst ((l.pa ++ [q]).map V.ref))) (h3 : H' p = some (.ins a.C_Ship d0 (sf s' l.lg l.lp))) (k : ∀ b, b ∈ l.foot p → b ≠ l.lp → b ≠ p → H' b = H b) :
    ShipAt a H' p s' { l with pa := l.pa ++ [q] } := by
  have nq := S.fresh hq
  have nq' : q ∉ l.pa := fun m => nq (by simp [Lay.foot, m])
  refine ⟨⟨d0, h3⟩, by rw [k _ (by simp [Lay.foot]) S.gp S.lg_p]; exact S.lg, h2, S.gp, S.gn, nd_snoc' S.pn nq', by rw [hs]; exact S.gl, ?_, fun j r g e1 e2 => ?_, fun j r y e1 e2 => ?_⟩
  · show (l.pa ++ [q]).length = _
    rw [hp, List.length_append, List.length_append, S.pl]
    rfl
  · rw [hs] at e2
    obtain ⟨d, h⟩ := S.gs j r g e1 e2
    exact ⟨d, by rw [k _ (by simp [Lay.foot, List.mem_of_getElem? e1]) (Ne.symm (S.lp_gate e1)) (S.ne_gate e1)]; exact h⟩
  · have e1 : (l.pa ++ [q])[j]? = some r := e1
    rw [hp] at e2
    rcases getElem?_snoc e1 with e1 | ⟨e, e1⟩
    · have hj : j < s.persons.length := by rw [← S.pl]; exact (List.getElem?_eq_some_iff.mp e1).1
      rw [List.getElem?_append_left hj] at e2
      obtain ⟨d, h⟩ := S.ps j r y e1 e2
      exact ⟨d, by rw [k _ (by simp [Lay.foot, List.mem_of_getElem? e1]) (Ne.symm (S.lp_person e1)) (S.ne_person e1)]; exact h⟩
    · subst e1
      rw [S.pl] at e
      subst e
      rw [List.getElem?_append_right (Nat.le_refl _), Nat.sub_self] at e2
      have e2 : x = y := by simpa using e2
      subst e2
      exact ⟨dx, h1⟩
/-! ## What a change leaves as it was -/
structure Chg (a : Adr) (H H' : Hp) (p : Addr) (l : Lay) (s' : Km440.Ship) (l' : Lay) : Prop where
  at_ : ShipAt a H' p s' l'
  keep : ∀ b o, H b = some o → b ∉ l.foot p → H' b = some o
  foot : ∀ b, b ∈ l'.foot p → b ∈ l.foot p ∨ H b = none
theorem Chg.same (S : ShipAt a H p s l) (sm : Same H H') : Chg a H H' p l s l := ⟨S.same sm, fun b o e _ => sm b o e, fun b m => .inl m⟩
theorem Chg.trans {H1 H2 : Hp} {l1 l2 : Lay} {s1 s2 : Km440.Ship} (A : Chg a H H1 p l s1 l1) (B : Chg a H1 H2 p l1 s2 l2) : Chg a H H2 p l s2 l2 := by
  refine ⟨B.at_, fun b o e n => B.keep b o (A.keep b o e n) fun m => ?_, fun b m => ?_⟩
  · rcases A.foot b m with z | z
    · exact n z
    · rw [z] at e
      cases e
  · rcases B.foot b m with z | z
    · exact A.foot b z
    · by_cases c : b ∈ l.foot p
      · exact .inl c
      · cases q : H b with
        | none => exact .inr rfl
        | some o =>
          rw [A.keep b o q c] at z
          cases z
/-- a change's end: the ship that is due, the numbers that are due in a new list -/
def Does (a : Adr) (H : Hp) (p : Addr) (l : Lay) (Q : VK) (r : Km440.Ship × List Int) : Prop :=
  ∀ (H' : Hp) (l' : Lay) (q : Addr), Chg a H H' p l r.1 l' → H q = none → q ∉ l'.foot p → H' q = some (.lst (r.2.map V.int)) → Q (.ref q) H'
/-- it ends by a new list behind a heap in which the ship stands as due -/
theorem Does.fin {H1 : Hp} {l' : Lay} {Q : VK} {r : Km440.Ship × List Int} {xs : List V} {q : Addr} (D : Does a H p l Q r) (C : Chg a H H1 p l r.1 l') (hq : H1 q = none) (hq0 : H q = none) (e : xs = r.2.map V.int) : Q (.ref q) (upd H1 q (.lst xs)) := by
  subst e
  refine D _ l' q ?_ hq0 (C.at_.fresh hq) upd_same
  exact C.trans (Chg.same C.at_ (Same.new hq))
theorem Does.refuse {Q : VK} {q : Addr} {i : Int} (S : ShipAt a H p s l) (D : Does a H p l Q (s, [i])) (hq : H q = none) : Q (.ref q) (upd H q (.lst [.int i])) :=
  D.fin (Chg.same S (Same.refl H)) hq hq rfl
/-- .. where other new things were made before -/
theorem Does.refuse' {H1 : Hp} {Q : VK} {q : Addr} {i : Int} (S : ShipAt a H p s l) (D : Does a H p l Q (s, [i])) (sm : Same H H1) (hq : H1 q = none) : Q (.ref q) (upd H1 q (.lst [.int i])) :=
  D.fin (Chg.same S sm) hq (sm.free hq) rfl
end
end Gw
namespace Gw
open PySem PySem.Spec PyProof.Rows L2
theorem bAnd_nat (x y : Nat) : Builtin.bitAnd (x : Int) (y : Int) = ((x &&& y : Nat) : Int) := by
  unfold Builtin.bitAnd
  rw [decide_eq_true (by omega), decide_eq_true (by omega)]
  show (((x : Int).toNat &&& (y : Int).toNat : Nat) : Int) = _
  rw [Int.toNat_natCast, Int.toNat_natCast]
theorem or_apart {x y : Nat} (h : x &&& y = 0) : Builtin.bitOr (x : Int) (y : Int) = ((x + y : Nat) : Int) := by
  rw [bitOr_and, bAnd_nat, h]
  omega
theorem add_or : ∀ {x y : Nat}, x &&& y = 0 → x + y = x ||| y := by
  intro x
  induction x using Nat.strongRecOn with
  | _ x ih =>
    intro y h
    by_cases hx : x = 0
    · subst hx
      rw [Nat.zero_or, Nat.zero_add]
    · have h1 : (x / 2) &&& (y / 2) = 0 := by rw [← Nat.and_div_two, h]
      have e := ih (x / 2) (by omega) h1
      have h2 : (x ||| y) / 2 = x / 2 ||| y / 2 := Nat.or_div_two
      have h3 : (x ||| y) % 2 = 1 ↔ x % 2 = 1 ∨ y % 2 = 1 := Nat.or_mod_two_eq_one
      have h4 : (x &&& y) % 2 = 1 ↔ x % 2 = 1 ∧ y % 2 = 1 := Nat.and_mod_two_eq_one
      rw [h] at h4
      omega
theorem and_pow {x k : Nat} (h : x.testBit k = false) : x &&& 2 ^ k = 0 := Nat.eq_of_testBit_eq fun i => by
  rw [Nat.testBit_and, Nat.testBit_two_pow, Nat.zero_testBit]
  by_cases c : k = i
  · subst c
    rw [h]
    rfl
  · rw [decide_eq_false c, Bool.and_false]
theorem bits_test : ∀ {l : List Nat}, l.Nodup → ∀ k, (Km440.bits l).testBit k = decide (k ∈ l)
  | [], _, k => by
    show (0 : Nat).testBit k = _
    rw [Nat.zero_testBit]
    simp
  | m :: l, h, k => by
    rw [List.nodup_cons] at h
    have ih := bits_test h.2
    have z : Km440.bits l &&& 2 ^ m = 0 := and_pow (by rw [ih m]; exact decide_eq_false h.1)
    rw [bits_cons, Nat.add_comm, add_or z, Nat.testBit_or, ih k, Nat.testBit_two_pow, Bool.eq_iff_iff]
    simp
    constructor
    · rintro (q | q)
      · exact .inr q
      · exact .inl q.symm
    · rintro (q | q)
      · exact .inr q.symm
      · exact .inl q
theorem sel_nodup (f : Km440.Person → Bool) (l : List Km440.Person) : (sel f l).Nodup := (sel_sorted f l).imp fun h => Nat.ne_of_lt h
theorem shl_one (j : Nat) : (1 : Int) * 2 ^ (j : Int).toNat = ((2 ^ j : Nat) : Int) := by
  rw [Int.one_mul, Int.toNat_natCast]
  exact (Int.natCast_pow 2 j).symm
theorem bits_take {js : List Nat} (hp : js.Nodup) {i j : Nat} (h : js[i]? = some j) : Builtin.bitOr ((Km440.bits (js.take i) : Nat) : Int) (1 * 2 ^ (j : Int).toNat) = ((Km440.bits (js.take (i + 1)) : Nat) : Int) := by
  have e := take_snoc h
  have nd : (js.take (i + 1)).Nodup := List.Pairwise.sublist (List.take_sublist _ _) hp
  rw [e, List.nodup_append] at nd
  have hlt : (Km440.bits (js.take i)).testBit j = false := by
    rw [bits_test nd.1 j]
    exact decide_eq_false fun m => nd.2.2 j m j (List.mem_singleton.mpr rfl) rfl
  rw [shl_one, or_apart (and_pow hlt), e, bits_snoc]
theorem dec_opt {w : Option Nat} {i : Nat} : scal (optV w) (V.int i) = true ∧ decide (optV w = V.int i) = (w == some i) := by
  cases w with
  | none => exact ⟨rfl, by simp [optV]⟩
  | some k =>
    refine ⟨rfl, ?_⟩
    rw [Bool.eq_iff_iff]
    simp [optV]
    omega
section
variable {P : Program} {w : World} {K : PySem.W.Frag} {mg : Str → Option Value} {base : Heap} {a : Adr}
def sp_as_bits (a : Adr) : Sp := fun vs H Q _ => ∃ D p s l js, vs = [.ref D] ∧ ShipAt a H p s l ∧ Good s ∧ js.Nodup ∧ (∀ j ∈ js, j < s.persons.length) ∧ H D = some (.lst (refs l js)) ∧ Q (.int (Km440.bits js : Nat)) H
theorem ok_as_bits (T : Txt K mg a) : FnOk P w K mg base CX0 1 a.f_as_bits a.d_as_bits ["persons"] (sp_as_bits a) := by
  refine T.D_as_bits.F.ok sc_as_bits (fun vs H Q E h => ?_) (fun cdv A outer st H vs Q E hr h => ?_)
  · obtain ⟨D, p, s, l, js, rfl, _⟩ := h
    rfl
  · obtain ⟨D, p, s, l, js, rfl, S, g, hp, hj, hD, k⟩ := h
    refine ⟨_, (pss_cons (ps_set (i := 1) sc_as_bits.nd rfl (Or.inl rfl) pe_int) (pss_cons (ps_for PassesOwn.never rfl (pi_list (pv 0)) (pg_name (i := 2) sc_as_bits.nd rfl (Or.inl rfl)) (pss_one (ps_set (i := 1) sc_as_bits.nd rfl (Or.inl rfl) (pe_op op_or (pv 1) (pe_op op_shl pe_int (pe_fld (pv 2) rfl)))))) (pss_one (ps_ret (pv 1))))), ?_⟩
    refine ⟨_, rfl, D, rfl, ⟨_, SqL.of hD⟩, for_list (K := K) (a := D) (xs := refs l js) (fun i σ H' => H' = H ∧ ∃ v, σ = [some (.ref D), some (.int (Km440.bits (js.take i) : Nat)), v]) ⟨rfl, _, rfl⟩ (fun i σ H' _ h => by rw [h.1]; exact SqL.of hD) ?_ ?_⟩
    · rintro i y σ H' hi ⟨rfl, v, rfl⟩
      obtain ⟨j, hji, rfl⟩ := refs_get hi
      have hjl := hj j (List.mem_of_getElem? hji)
      obtain ⟨q, hq⟩ := S.pa_some hjl
      obtain ⟨x, hx, d, hh⟩ := S.person hq
      rw [getD_get hq]
      have := g.np
      refine ⟨_, rfl, _, rfl, q, _, d, _, _, rfl, hh, T.C_Person.cl, T.n_Person_number, rfl, _, _, rfl, rfl, ⟨by omega, by omega, by decide⟩, _, _, rfl, rfl, rfl, some (V.ref q), ?_⟩
      show [some (V.ref D), some (V.int (Builtin.bitOr _ _)), some (V.ref q)] = _
      rw [bits_take hp hji]
    · rintro σ H' ⟨rfl, v, rfl⟩
      refine ⟨_, rfl, ?_⟩
      show Q (V.int _) H'
      rw [show (refs l js).length = js.length from List.length_map .., List.take_length]
      exact k
def sp_children_of (a : Adr) : Sp := fun vs H Q _ => ∃ p s l, ∃ i q x, vs = [.ref p, .ref q] ∧ ShipAt a H p s l ∧ Good s ∧ l.pa[i]? = some q ∧ s.persons[i]? = some x ∧ Picks H l Q (s.children i)
theorem ok_children_of (T : Txt K mg a) : FnOk P w K mg base CX0 1 a.f_children_of a.d_children_of ["ship", "person"] (sp_children_of a) := by
  refine T.D_children_of.F.ok sc_children_of (fun vs H Q E h => ?_) (fun cdv A outer st H vs Q E hr h => ?_)
  · obtain ⟨p, s, l, i, q, x, rfl, _⟩ := h
    rfl
  · obtain ⟨p, s, l, i, q, x, rfl, S, g, hq, hx, k⟩ := h
    refine ⟨_, (pss_cons (ps_setLc (i := 2) rfl sc_children_of.nd rfl rfl (sw_true rfl rfl rfl rfl) (tt := (tTest (tOp rEq (tFld K (tVar 3) "guardian") (tFld K (tVar 1) "number")))) (te := (tVar 3)) (pi_list (pe_fld (pv 0) rfl)) (blkOk_by (own := [("other", 3)]) rfl) (fun _ _ _ _ _ => pg_name (i := 3) sc_children_of.nd rfl (Or.inl rfl)) (fun _ _ _ _ _ => pts_one (pt_cmpR op_eq (pe_fld (pv 3) rfl) (pe_fld (pv 1) rfl) (nomark _))) (fun _ _ _ _ _ => (pv 3))) (pss_one (ps_ret (pe_lc rfl sc_children_of.nd (tt := (tTest (tOp rNe (tFld K (tVar 4) "place") (tC (.int (2)))))) (te := (tVar 4)) (pi_list (pv 2)) (blkOk_by (own := [("child", 4)]) rfl) (fun _ _ _ _ _ => pg_name (i := 4) sc_children_of.nd rfl (Or.inl rfl)) (fun _ _ _ _ _ => pts_one (pt_cmpR op_ne (pe_fld (pv 4) rfl) (pe_gint T.c_GONE rfl) (nomark _))) (fun _ _ _ _ _ => (pv 4)))))), ?_⟩
    obtain ⟨dx, h1⟩ := S.ship
    obtain ⟨d, hh⟩ := S.ps i q x hq hx
    refine ⟨_, rfl, p, _, dx, _, _, rfl, h1, T.C_Ship.cl, T.n_Ship_persons, rfl, l.lp, rfl, ⟨_, SqL.of S.lp⟩, fun D1 hD1 =>
      lc_pick (by show 3 < 5; decide) hD1 (by rw [← pa_refs S]; exact SqL.of S.lp) (range24 g) (fun j => (s.persons.getD j noOne).with_ == some i) (fun j hj H' sm R hR => ?_) (fun H1 sm1 hH1 => ?_)⟩
    · obtain ⟨r, hr'⟩ := S.pa_some (List.mem_range.mp hj)
      obtain ⟨z, hz, d2, hh2⟩ := S.person hr'
      rw [getD_get hr']
      refine ⟨_, rfl, r, _, d2, _, _, rfl, sm _ _ hh2, T.C_Person.cl, T.n_Person_guardian, rfl, _, rfl, q, _, d, _, _, rfl, sm _ _ hh, T.C_Person.cl, T.n_Person_number, rfl, dec_opt.1, _, rfl, ?_⟩
      rw [dec_opt.2]
      have := hR H' (Same.refl _)
      rw [getD_at hz] at this
      exact this
    · refine ⟨_, rfl, D1, rfl, ⟨_, SqL.of hH1⟩, fun D2 hD2 =>
        lc_pick (by show 4 < 5; decide) hD2 (SqL.of hH1) (Nat.le_trans (List.length_filter_le _ _) (range24 g)) (fun j => !(s.persons.getD j noOne).gone) (fun j hj H' sm R hR => ?_) (fun H2 sm2 hH2 => k H2 D2 (sm1.trans sm2) (sm1.free hD2) ?_)⟩
      · obtain ⟨r, hr'⟩ := S.pa_some (List.mem_range.mp (List.mem_filter.mp hj).1)
        obtain ⟨z, hz, d2, hh2⟩ := S.person hr'
        rw [getD_get hr']
        refine ⟨_, rfl, r, _, d2, _, _, rfl, sm _ _ (sm1 _ _ hh2), T.C_Person.cl, T.n_Person_place, rfl, rfl, _, rfl, ?_⟩
        rw [place_gone]
        have := hR H' (Same.refl _)
        rw [getD_at hz] at this
        exact this
      · rw [hH2, children_eq]
        have e : (List.range s.persons.length).filter (fun j => (s.persons.getD j noOne).with_ == some i) = sel (fun x => x.with_ == some i) s.persons := rfl
        rw [e, sel_filter (fun x => x.with_ == some i) (fun x => !x.gone)]
        congr 3
        exact sel_congr fun x _ => Bool.and_comm ..
def sp_overdue_visitors (a : Adr) : Sp := fun vs H Q _ => ∃ p s l, vs = [.ref p] ∧ ShipAt a H p s l ∧ Good s ∧ Picks H l Q s.stay
theorem ok_overdue_visitors (T : Txt K mg a) : FnOk P w K mg base CX0 4 a.f_overdue_visitors a.d_overdue_visitors ["ship"] (sp_overdue_visitors a) := by
  have G_visitors_aboard := ok_visitors_aboard (P := P) (w := w) (base := base) T
  have G_has_passed := ok_has_passed (P := P) (w := w) (base := base) T
  refine T.D_overdue_visitors.F.ok sc_overdue_visitors (fun vs H Q E h => ?_) (fun cdv A outer st H vs Q E hr h => ?_)
  · obtain ⟨p, s, l, rfl, _⟩ := h
    rfl
  · obtain ⟨p, s, l, rfl, S, g, k⟩ := h
    refine ⟨_, (pss_one (ps_ret (pe_lc rfl sc_overdue_visitors.nd (tt := (tB (tCall (sp_has_passed a) [] E0 (tCons (tVar 0) (tCons (tFld K (tVar 1) "off_by") tNil))))) (te := (tVar 1)) (pi_list (pe_call G_visitors_aboard (hr.mono (by decide)) rfl T.D_visitors_aboard.m T.D_visitors_aboard.F.kp T.D_visitors_aboard.B .nil pass0 (pa_cons (pv 0) pa_nil))) (blkOk_by (own := [("visitor", 1)]) rfl) (fun _ _ _ _ _ => pg_name (i := 1) sc_overdue_visitors.nd rfl (Or.inl rfl)) (fun _ _ _ _ _ => pts_one (pt_val (pe_call G_has_passed (hr.mono (by decide)) rfl T.D_has_passed.m T.D_has_passed.F.kp T.D_has_passed.B .nil pass0 (pa_cons (pv 0) (pa_cons (pe_fld (pv 1) rfl) pa_nil))))) (fun _ _ _ _ _ => (pv 1))))), ?_⟩
    refine ⟨_, rfl, p, s, l, rfl, S, g, fun H1 D1 sm1 hD1 hH1 => ⟨D1, rfl, ⟨_, SqL.of hH1⟩, fun D2 hD2 =>
      lc_pick (by show 1 < 2; decide) hD2 (SqL.of hH1) (by rw [visitors_eq]; exact sel_len g) (fun j => fOver s.time (s.persons.getD j noOne)) (fun j hj H' sm R hR => ?_) (fun H2 sm2 hH2 => k H2 D2 (sm1.trans sm2) (sm1.free hD2) ?_)⟩⟩
    · rw [visitors_eq] at hj
      obtain ⟨q, hq⟩ := S.pa_some (sel_lt hj)
      obtain ⟨x, hx, d, hh⟩ := S.person hq
      rw [getD_get hq]
      have hj2 := (List.mem_filter.mp hj).2
      rw [getD_at hx] at hj2
      have hv : x.visitor.isSome = true := (Bool.and_eq_true .. ▸ hj2).2
      obtain ⟨u, hu⟩ : ∃ u, x.visitor = some u := Option.isSome_iff_exists.mp hv
      have sm4 : Same H H' := sm1.trans sm
      refine ⟨_, rfl, _, rfl, q, _, d, _, _, rfl, sm4 _ _ hh, T.C_Person.cl, T.n_Person_off_by, rfl, p, s, l, u, (by show [V.ref p, optV x.visitor] = _; rw [hu]; rfl), S.same sm4, _, rfl, ?_⟩
      have e : decide (u < s.time) = fOver s.time (s.persons.getD j noOne) := by
        rw [getD_at hx]
        unfold fOver
        rw [hu]
      rw [e]
      exact hR H' (Same.refl _)
    · rw [hH2, stay_eq, visitors_eq, sel_filter _ (fOver s.time)]
      congr 3
      refine sel_congr fun x _ => ?_
      unfold fOver
      cases x.visitor <;> simp
def sp_count_open_gates (a : Adr) : Sp := fun vs H Q _ => ∃ p s l, vs = [.ref p] ∧ ShipAt a H p s l ∧ Good s ∧ ∀ H', Same H H' → Q (.int ((s.gates.filter fun x => x.open_).length : Nat)) H'
theorem ok_count_open_gates (T : Txt K mg a) : FnOk P w K mg base CX0 1 a.f_count_open_gates a.d_count_open_gates ["ship"] (sp_count_open_gates a) := by
  refine T.D_count_open_gates.F.ok sc_count_open_gates (fun vs H Q E h => ?_) (fun cdv A outer st H vs Q E hr h => ?_)
  · obtain ⟨p, s, l, rfl, _⟩ := h
    rfl
  · obtain ⟨p, s, l, rfl, S, g, k⟩ := h
    refine ⟨_, (pss_one (ps_ret (pe_callB call_len_seq (by rfl) T.x_len PySem.boot_len (pa_cons (pe_lc rfl sc_count_open_gates.nd (tt := (tB (tFld K (tVar 1) "opened"))) (te := (tVar 1)) (pi_list (pe_fld (pv 0) rfl)) (blkOk_by (own := [("gate", 1)]) rfl) (fun _ _ _ _ _ => pg_name (i := 1) sc_count_open_gates.nd rfl (Or.inl rfl)) (fun _ _ _ _ _ => pts_one (pt_val (pe_fld (pv 1) rfl))) (fun _ _ _ _ _ => (pv 1))) pa_nil)))), ?_⟩
    obtain ⟨dx, h1⟩ := S.ship
    refine ⟨_, rfl, p, _, dx, _, _, rfl, h1, T.C_Ship.cl, T.n_Ship_gates, rfl, l.lg, rfl, ⟨_, SqL.of S.lg⟩, fun D hD =>
      lc_list (K := K) (a := l.lg) (xs := l.ga.map V.ref) (fun i H' => Same H H' ∧ ∃ xs, H' D = some (.lst xs) ∧ xs.length = ((s.gates.take i).filter fun x => x.open_).length) ⟨Same.new hD, [], upd_same, rfl⟩ (fun i H' _ h => Same.seq h.1 (SqL.of S.lg)) ?_ ?_⟩
    · rintro i y H' hi ⟨sm, xs, hDD, hxs⟩
      obtain ⟨q, hq, rfl⟩ := map_get hi
      obtain ⟨x, hx, d, hh⟩ := S.gate hq
      have e : (s.gates.take (i + 1)).filter (fun x => x.open_) = (s.gates.take i).filter (fun x => x.open_) ++ (if x.open_ = true then [x] else []) := by
        rw [take_snoc hx, List.filter_append, List.filter_cons, List.filter_nil]
      refine ⟨rfl, _, rfl, q, _, d, _, _, rfl, sm _ _ hh, T.C_Gate.cl, T.n_Gate_opened, rfl, _, rfl, ?_⟩
      cases ho : x.open_ with
      | false =>
        rw [ho, if_neg Bool.false_ne_true, List.append_nil] at e
        exact iteF ⟨sm, xs, hDD, by rw [e]; exact hxs⟩
      | true =>
        rw [ho, if_pos rfl] at e
        have hlen : xs.length ≤ 1000 := by
          rw [hxs]
          refine Nat.le_trans (List.length_filter_le _ _) ?_
          rw [List.length_take]
          have := g.ng
          omega
        refine iteT ⟨_, rfl, xs, hDD, small1000 hlen, ?_, _, upd_same, ?_⟩
        · intro b o e1
          have : b ≠ D := fun z => by rw [z, hD] at e1; cases e1
          rw [upd_ne this]
          exact sm _ _ e1
        · rw [e, List.length_append, List.length_append, hxs]
          rfl
    · rintro H' ⟨sm, xs, hDD, hxs⟩
      refine ⟨D, xs, rfl, .inl (SqL.of hDD), ?_⟩
      show Q (V.int _) H'
      rw [List.length_map, S.gl, List.take_length] at hxs
      rw [hxs]
      exact k H' sm
def sp_is_no_coming_minute (a : Adr) : Sp := fun vs H Q _ => ∃ p s l, ∃ t : Nat, vs = [.ref p, .int t] ∧ ShipAt a H p s l ∧ Q (.bl (decide (t < s.time ∨ 100000 < t))) H
theorem ok_is_no_coming_minute (T : Txt K mg a) : FnOk P w K mg base CX0 2 a.f_is_no_coming_minute a.d_is_no_coming_minute ["ship", "t"] (sp_is_no_coming_minute a) := by
  have G_has_passed := ok_has_passed (P := P) (w := w) (base := base) T
  refine T.D_is_no_coming_minute.F.ok sc_is_no_coming_minute (fun vs H Q E h => ?_) (fun cdv A outer st H vs Q E hr h => ?_)
  · obtain ⟨p, s, l, t, rfl, _⟩ := h
    rfl
  · obtain ⟨p, s, l, t, rfl, S, k⟩ := h
    refine ⟨_, (pss_one (ps_ret (pe_or (pe_call G_has_passed (hr.mono (by decide)) rfl T.D_has_passed.m T.D_has_passed.F.kp T.D_has_passed.B .nil pass0 (pa_cons (pv 0) (pa_cons (pv 1) pa_nil))) (pe_one (pe_cmpR op_gt (pv 1) (pe_gint T.c_LAST_MINUTE rfl) (nomark _)))))), ?_⟩
    refine ⟨_, rfl, _, rfl, p, s, l, t, rfl, S, _, rfl, ite2 (fun c => ?_) (fun c => ?_)⟩
    · have c := of_decide_eq_true c
      rw [decide_eq_true (show t < s.time ∨ 100000 < t from .inl c)] at k
      exact k
    · have c := of_decide_eq_false (eq_false_of_ne_true c)
      refine ⟨_, rfl, _, _, rfl, rfl, ?_⟩
      show Q (V.bl (decide ((100000 : Int) < (t : Int)))) H
      rw [show decide ((100000 : Int) < (t : Int)) = decide (t < s.time ∨ 100000 < t) from decide_eq_decide.mpr (by omega)]
      exact k
def sp_give_card (a : Adr) : Sp := fun vs H Q _ => ∃ p s l, vs = [.ref p] ∧ ShipAt a H p s l ∧ ∀ H' dx, H' p = some (.ins a.C_Ship dx (sf { s with cards := s.cards + 1 } l.lg l.lp)) → (∀ b, b ≠ p → H' b = H b) → Q (.int s.cards) H'
theorem ok_give_card (T : Txt K mg a) : FnOk P w K mg base CX0 1 a.f_give_card a.d_give_card ["ship"] (sp_give_card a) := by
  refine T.D_give_card.F.ok sc_give_card (fun vs H Q E h => ?_) (fun cdv A outer st H vs Q E hr h => ?_)
  · obtain ⟨p, s, l, rfl, _⟩ := h
    rfl
  · obtain ⟨p, s, l, rfl, S, k⟩ := h
    refine ⟨_, (pss_cons (ps_set (i := 1) sc_give_card.nd rfl (Or.inl rfl) (pe_fld (pv 0) rfl)) (pss_cons (ps_fld (pv 0) (pe_op op_add (pv 1) pe_int) rfl) (pss_one (ps_ret (pv 1))))), ?_⟩
    obtain ⟨dx, h1⟩ := S.ship
    refine ⟨_, rfl, p, _, dx, _, _, rfl, h1, T.C_Ship.cl, T.n_Ship_cards_given, rfl, ?_⟩
    refine ⟨_, rfl, _, _, rfl, rfl, _, rfl, p, _, dx, _, rfl, h1, T.C_Ship.cl, T.n_Ship_cards_given, (by show 7 < 1000; decide), ?_⟩
    refine ⟨_, rfl, k _ dx upd_same fun b hb => upd_ne hb⟩
def sp_Gate_init (a : Adr) : Sp := fun vs H Q _ => ∃ p dx, vs = [.ref p] ∧ H p = some (.ins a.C_Gate dx []) ∧ ∀ H', H' p = some (.ins a.C_Gate dx (gf ⟨false, 0, 0⟩)) → (∀ b, b ≠ p → H' b = H b) → Q .non H'
theorem ok_Gate_init (T : Txt K mg a) : FnOk P w K mg base CX0 1 a.f_Gate_init a.d_Gate_init ["self"] (sp_Gate_init a) := by
  refine T.D_Gate_init.F.ok sc_Gate_init (fun vs H Q E h => ?_) (fun cdv A outer st H vs Q E hr h => ?_)
  · obtain ⟨p, dx, rfl, _⟩ := h
    rfl
  · obtain ⟨p, dx, rfl, h1, k⟩ := h
    refine ⟨_, (pss_cons (ps_fld (pv 0) pe_bl rfl) (pss_cons (ps_fld (pv 0) pe_int rfl) (pss_one (ps_fld (pv 0) pe_int rfl)))), ?_⟩
    refine ⟨_, rfl, p, _, dx, _, rfl, h1, T.C_Gate.cl, T.n_Gate_opened, (by show 0 < 1000; decide), ?_⟩
    refine ⟨_, rfl, p, _, dx, _, rfl, upd_same, T.C_Gate.cl, T.n_Gate_went_out, (by show 1 < 1000; decide), ?_⟩
    refine ⟨_, rfl, p, _, dx, _, rfl, upd_same, T.C_Gate.cl, T.n_Gate_came_in, (by show 2 < 1000; decide), ?_⟩
    exact k _ upd_same fun b hb => by rw [upd_ne hb, upd_ne hb, upd_ne hb]
def sp_Person_init (a : Adr) : Sp := fun vs H Q _ => ∃ p dx, ∃ n c si : Nat, ∃ wi v, vs = [.ref p, .int n, .int c, .int si, optV wi, optV v] ∧ H p = some (.ins a.C_Person dx []) ∧ ∀ H', H' p = some (.ins a.C_Person dx (pf n ⟨c, wi, false, si, v, false⟩)) → (∀ b, b ≠ p → H' b = H b) → Q .non H'
theorem ok_Person_init (T : Txt K mg a) : FnOk P w K mg base CX0 1 a.f_Person_init a.d_Person_init ["self", "number", "card", "since", "guardian", "off_by"] (sp_Person_init a) := by
  refine T.D_Person_init.F.ok sc_Person_init (fun vs H Q E h => ?_) (fun cdv A outer st H vs Q E hr h => ?_)
  · obtain ⟨p, dx, n, c, si, wi, v, rfl, _⟩ := h
    rfl
  · obtain ⟨p, dx, n, c, si, wi, v, rfl, h1, k⟩ := h
    refine ⟨_, (pss_cons (ps_fld (pv 0) (pv 1) rfl) (pss_cons (ps_fld (pv 0) (pv 2) rfl) (pss_cons (ps_fld (pv 0) (pe_gint T.c_ABOARD rfl) rfl) (pss_cons (ps_fld (pv 0) (pv 3) rfl) (pss_cons (ps_fld (pv 0) (pv 4) rfl) (pss_one (ps_fld (pv 0) (pv 5) rfl))))))), ?_⟩
    refine ⟨_, rfl, _, rfl, p, _, dx, _, rfl, h1, T.C_Person.cl, T.n_Person_number, (by show 0 < 1000; decide), ?_⟩
    refine ⟨_, rfl, _, rfl, p, _, dx, _, rfl, upd_same, T.C_Person.cl, T.n_Person_card, (by show 1 < 1000; decide), ?_⟩
    refine ⟨_, rfl, p, _, dx, _, rfl, upd_same, T.C_Person.cl, T.n_Person_place, (by show 2 < 1000; decide), ?_⟩
    refine ⟨_, rfl, _, rfl, p, _, dx, _, rfl, upd_same, T.C_Person.cl, T.n_Person_since, (by show 3 < 1000; decide), ?_⟩
    refine ⟨_, rfl, _, rfl, p, _, dx, _, rfl, upd_same, T.C_Person.cl, T.n_Person_guardian, (by show 4 < 1000; decide), ?_⟩
    refine ⟨_, rfl, _, rfl, p, _, dx, _, rfl, upd_same, T.C_Person.cl, T.n_Person_off_by, (by show 5 < 1000; decide), ?_⟩
    exact k _ upd_same fun b hb => by rw [upd_ne hb, upd_ne hb, upd_ne hb, upd_ne hb, upd_ne hb, upd_ne hb]
end
end Gw
namespace Gw
open PySem PySem.Spec PyProof.Rows L2
theorem mem_p {p : Addr} {l : Lay} : p ∈ l.foot p := by simp [Lay.foot]
theorem mem_lg {p : Addr} {l : Lay} : l.lg ∈ l.foot p := by simp [Lay.foot]
theorem mem_lp {p : Addr} {l : Lay} : l.lp ∈ l.foot p := by simp [Lay.foot]
theorem mem_ga {p q : Addr} {l : Lay} {i : Nat} (h : l.ga[i]? = some q) : q ∈ l.foot p := by simp [Lay.foot, List.mem_of_getElem? h]
theorem mem_pa {p q : Addr} {l : Lay} {i : Nat} (h : l.pa[i]? = some q) : q ∈ l.foot p := by simp [Lay.foot, List.mem_of_getElem? h]
theorem Same.made' {H H1 : Hp} {x dx C : Addr} {o : HO} (nx : H x = Option.none) (nd : H dx = Option.none) (k : ∀ b, b ≠ x → H1 b = (upd (upd H dx (.own x)) x o) b) : Same H H1 := fun b u e => by
  rw [k b (ne_of_none e nx), upd_ne (ne_of_none e nx), upd_ne (ne_of_none e nd)]
  exact e
section
variable {P : Program} {w : World} {K : PySem.W.Frag} {mg : Str → Option Value} {base : Heap} {a : Adr}
/-- one object of the ship is written -/
theorem Chg.one {H H' : Hp} {p : Addr} {s' : Km440.Ship} {l : Lay} {q : Addr} (S' : ShipAt a H' p s' l) (hq : q ∈ l.foot p) (k : ∀ b, b ≠ q → H' b = H b) : Chg a H H' p l s' l :=
  ⟨S', fun b o e n => by rw [k b fun z => n (z ▸ hq)]; exact e, fun b m => .inl m⟩
def sp_add_gate (a : Adr) : Sp := fun vs H Q _ => ∃ p s l, vs = [.ref p] ∧ ShipAt a H p s l ∧ Good s ∧ Does a H p l Q (res s .gate)
theorem ok_add_gate (T : Txt K mg a) : FnOk P w K mg base CX0 3 a.f_add_gate a.d_add_gate ["ship"] (sp_add_gate a) := by
  have G_Gate_init := ok_Gate_init (P := P) (w := w) (base := base) T
  refine T.D_add_gate.F.ok sc_add_gate (fun vs H Q E h => ?_) (fun cdv A outer st H vs Q E hr h => ?_)
  · obtain ⟨p, s, l, rfl, _⟩ := h
    rfl
  · obtain ⟨p, s, l, rfl, S, g, k⟩ := h
    refine ⟨_, (pss_cons (ps_if (pt_cmpR op_ge (pe_callB call_len_seq (by rfl) T.x_len PySem.boot_len (pa_cons (pe_fld (pv 0) rfl) pa_nil)) (pe_gint T.c_MOST_GATES rfl) (nomark _)) (pss_one (ps_ret (pe_lst (pa_cons (pe_gint T.c_NO_MORE_OF_THEM rfl) pa_nil)))) pss_nil) (pss_cons (ps_expr (pe_bm PySem.F.plainAttrs_list PySem.F.slot_list_append PySem.F.type_list_append mt_append (pe_fld (pv 0) rfl) (pa_cons (pe_make0 T.C_Gate.mkr G_Gate_init (hr.mono (by decide)) rfl T.C_Gate.m T.D_Gate_init.B .nil pass0) pa_nil))) (pss_one (ps_ret (pe_lst (pa_cons (pe_op op_sub (pe_callB call_len_seq (by rfl) T.x_len PySem.boot_len (pa_cons (pe_fld (pv 0) rfl) pa_nil)) pe_int) pa_nil)))))), ?_⟩
    obtain ⟨dx, h1⟩ := S.ship
    rw [res_gate] at k
    refine ⟨_, rfl, p, _, dx, _, _, rfl, h1, T.C_Ship.cl, T.n_Ship_gates, rfl, l.lg, _, rfl, .inl (SqL.of S.lg), _, _, rfl, rfl, _, rfl, ite2 (fun c => ?_) (fun c => ?_)⟩
    · have c := of_decide_eq_true c
      rw [List.length_map, S.gl] at c
      rw [if_pos (by omega)] at k
      exact ⟨(by show 1 ≤ sizeLine; decide), fun q hq => k.refuse S hq⟩
    · have c := of_decide_eq_false (eq_false_of_ne_true c)
      rw [List.length_map, S.gl] at c
      rw [if_neg (by omega)] at k
      refine ⟨_, rfl, p, _, dx, _, _, rfl, h1, T.C_Ship.cl, T.n_Ship_gates, rfl, .inl ⟨rfl, _, SqL.of S.lg⟩, fun x d nx nd ne => ⟨x, d, rfl, upd_same, fun H1 c1 k1 => ⟨rfl, ?_⟩⟩⟩
      have sm : Same H H1 := Same.made' (C := a.C_Gate) nx nd k1
      have hx : x ≠ l.lg := fun z => by rw [z, S.lg] at nx; cases nx
      have hlg : (l.ga.map V.ref).length ≤ 1000 := by rw [List.length_map, S.gl]; have := g.ng; omega
      refine ⟨l.lg, _, _, rfl, rfl, sm _ _ S.lg, small1000 hlg, ?_⟩
      have hp2 : (upd H1 l.lg (.lst (l.ga.map V.ref ++ [V.ref x]))) p = some (.ins a.C_Ship dx (sf s l.lg l.lp)) := by
        rw [upd_ne (Ne.symm S.lg_p)]
        exact sm _ _ h1
      refine ⟨_, rfl, p, _, dx, _, _, rfl, hp2, T.C_Ship.cl, T.n_Ship_gates, rfl, l.lg, _, rfl, .inl (SqL.of upd_same), _, _, rfl, rfl, (by show 1 ≤ sizeLine; decide), fun q hq => ?_⟩
      have C : Chg a H (upd H1 l.lg (.lst (l.ga.map V.ref ++ [V.ref x]))) p l { s with gates := s.gates ++ [⟨false, 0, 0⟩] } { l with ga := l.ga ++ [x] } := by
        refine ⟨S.addGate nx (dx := d) (by rw [upd_ne hx]; exact c1) (by rw [upd_same, List.map_append]; rfl) fun b hb hbl => ?_, fun b o e hb => ?_, fun b hb => ?_⟩
        · obtain ⟨o, ho⟩ := S.foot_some hb
          rw [upd_ne hbl, sm _ _ ho, ho]
        · rw [upd_ne (fun z => hb (by rw [z]; exact mem_lg) : b ≠ l.lg)]
          exact sm _ _ e
        · have hb : b ∈ p :: l.lg :: l.lp :: ((l.ga ++ [x]) ++ l.pa) := hb
          simp at hb
          rcases hb with z | z | z | z | z | z
          · exact .inl (by simp [Lay.foot, z])
          · exact .inl (by simp [Lay.foot, z])
          · exact .inl (by simp [Lay.foot, z])
          · exact .inl (by simp [Lay.foot, z])
          · exact .inr (by rw [z]; exact nx)
          · exact .inl (by simp [Lay.foot, z])
      refine k.fin C hq ?_ ?_
      · by_cases z : q = l.lg
        · rw [z, upd_same] at hq
          cases hq
        · rw [upd_ne z] at hq
          exact sm.free hq
      · show [V.int ((((l.ga.map V.ref ++ [V.ref x]).length : Nat) : Int) - 1)] = [V.int ((s.gates.length : Nat) : Int)]
        rw [List.length_append, List.length_map, S.gl]
        simp
def sp_take_aboard (a : Adr) : Sp := fun vs H Q _ => ∃ p s l, ∃ wi v : Option Nat, vs = [.ref p, optV wi, optV v] ∧ ShipAt a H p s l ∧ Good s ∧ Does a H p l Q (added s wi v)
theorem ok_take_aboard (T : Txt K mg a) : FnOk P w K mg base CX0 4 a.f_take_aboard a.d_take_aboard ["ship", "guardian", "off_by"] (sp_take_aboard a) := by
  have G_is_full := ok_is_full (P := P) (w := w) (base := base) T
  have G_Person_init := ok_Person_init (P := P) (w := w) (base := base) T
  have G_give_card := ok_give_card (P := P) (w := w) (base := base) T
  refine T.D_take_aboard.F.ok sc_take_aboard (fun vs H Q E h => ?_) (fun cdv A outer st H vs Q E hr h => ?_)
  · obtain ⟨p, s, l, wi, v, rfl, _⟩ := h
    rfl
  · obtain ⟨p, s, l, wi, v, rfl, S, g, k⟩ := h
    refine ⟨_, (pss_cons (ps_if (pt_cmpR op_ge (pe_callB call_len_seq (by rfl) T.x_len PySem.boot_len (pa_cons (pe_fld (pv 0) rfl) pa_nil)) (pe_gint T.c_MOST_PERSONS rfl) (nomark _)) (pss_one (ps_ret (pe_lst (pa_cons (pe_gint T.c_NO_MORE_OF_THEM rfl) pa_nil)))) pss_nil) (pss_cons (ps_if (pt_val (pe_call G_is_full (hr.mono (by decide)) rfl T.D_is_full.m T.D_is_full.F.kp T.D_is_full.B .nil pass0 (pa_cons (pv 0) pa_nil))) (pss_one (ps_ret (pe_lst (pa_cons (pe_gint T.c_NO_ROOM_ABOARD rfl) pa_nil)))) pss_nil) (pss_cons (ps_set (i := 3) sc_take_aboard.nd rfl (Or.inl rfl) (pe_make T.C_Person.mkr G_Person_init (hr.mono (by decide)) rfl T.C_Person.m T.D_Person_init.B .nil pass0 (pa_cons (pe_callB call_len_seq (by rfl) T.x_len PySem.boot_len (pa_cons (pe_fld (pv 0) rfl) pa_nil)) (pa_cons (pe_call G_give_card (hr.mono (by decide)) rfl T.D_give_card.m T.D_give_card.F.kp T.D_give_card.B .nil pass0 (pa_cons (pv 0) pa_nil)) (pa_cons (pe_fld (pv 0) rfl) (pa_cons (pv 1) (pa_cons (pv 2) pa_nil))))))) (pss_cons (ps_expr (pe_bm PySem.F.plainAttrs_list PySem.F.slot_list_append PySem.F.type_list_append mt_append (pe_fld (pv 0) rfl) (pa_cons (pv 3) pa_nil))) (pss_one (ps_ret (pe_lst (pa_cons (pe_fld (pv 3) rfl) (pa_cons (pe_fld (pv 3) rfl) pa_nil))))))))), ?_⟩
    obtain ⟨dx, h1⟩ := S.ship
    unfold added at k
    refine ⟨_, rfl, p, _, dx, _, _, rfl, h1, T.C_Ship.cl, T.n_Ship_persons, rfl, l.lp, _, rfl, .inl (SqL.of S.lp), _, _, rfl, rfl, _, rfl, ite2 (fun c => ?_) (fun c => ?_)⟩
    · have c := of_decide_eq_true c
      rw [List.length_map, S.pl] at c
      rw [if_pos (by omega)] at k
      exact ⟨(by show 1 ≤ sizeLine; decide), fun q hq => k.refuse S hq⟩
    have c := of_decide_eq_false (eq_false_of_ne_true c)
    rw [List.length_map, S.pl] at c
    rw [if_neg (by omega)] at k
    refine ⟨_, rfl, p, s, l, rfl, S, g, fun H1 sm1 => ⟨_, rfl, ite2 (fun c2 => ?_) (fun c2 => ?_)⟩⟩
    · have c2 := of_decide_eq_true c2
      rw [if_pos c2] at k
      exact ⟨(by show 1 ≤ sizeLine; decide), fun q hq => k.refuse' S sm1 hq⟩
    have c2 := of_decide_eq_false (eq_false_of_ne_true c2)
    rw [if_neg c2] at k
    have S1 := S.same sm1
    obtain ⟨d1, h11⟩ := S1.ship
    refine ⟨_, rfl, p, _, d1, _, _, rfl, h11, T.C_Ship.cl, T.n_Ship_persons, rfl, l.lp, _, rfl, .inl (SqL.of S1.lp), _, rfl, p, s, l, rfl, S1, fun H2 d2 hp2 k2 => ⟨_, rfl, p, _, d2, _, _, rfl, hp2, T.C_Ship.cl, T.n_Ship_minute, rfl, _, rfl, _, rfl, fun x d nx nd ne => ?_⟩⟩
    refine ⟨x, d, s.persons.length, s.cards, s.time, wi, v, (by show [V.ref x, V.int ((l.pa.map V.ref).length : Nat), _, _, _, _] = _; rw [List.length_map, S.pl]), upd_same, fun H3 c3 k3 => ⟨rfl, ?_⟩⟩
    have sm3 : Same H2 H3 := Same.made' (C := a.C_Person) nx nd k3
    have S2 : ShipAt a H2 p { s with cards := s.cards + 1 } l := S1.setShip rfl rfl hp2 k2
    have old : ∀ b, b ∈ l.foot p → b ≠ p → H3 b = H b := fun b hb hbp => by
      obtain ⟨o, ho⟩ := S.foot_some hb
      rw [ho]
      exact sm3 _ _ (by rw [k2 b hbp]; exact sm1 _ _ ho)
    have hx : x ≠ l.lp := fun z => by rw [z, S2.lp] at nx; cases nx
    have hxp : x ≠ p := fun z => by rw [z, hp2] at nx; cases nx
    have hp3 : H3 p = some (.ins a.C_Ship d2 (sf { s with cards := s.cards + 1 } l.lg l.lp)) := sm3 _ _ hp2
    have hl3 : H3 l.lp = some (.lst (l.pa.map V.ref)) := sm3 _ _ S2.lp
    have hlp : (l.pa.map V.ref).length ≤ 1000 := by rw [List.length_map, S.pl]; omega
    have hx4 : (upd H3 l.lp (.lst (l.pa.map V.ref ++ [V.ref x]))) x = some (.ins a.C_Person d (pf s.persons.length ⟨s.cards, wi, false, s.time, v, false⟩)) := by rw [upd_ne hx]; exact c3
    refine ⟨_, rfl, p, _, d2, _, _, rfl, hp3, T.C_Ship.cl, T.n_Ship_persons, rfl, .inl ⟨rfl, _, SqL.of hl3⟩, _, rfl, l.lp, _, _, rfl, rfl, hl3, small1000 hlp, ?_⟩
    refine ⟨_, rfl, x, _, d, _, _, rfl, hx4, T.C_Person.cl, T.n_Person_number, rfl, _, rfl, x, _, d, _, _, rfl, hx4, T.C_Person.cl, T.n_Person_card, rfl, (by show 2 ≤ sizeLine; decide), fun q hq => ?_⟩
    have nxH : H x = none := by
      have z : H1 x = none := by rw [← k2 x hxp]; exact nx
      exact sm1.free z
    have C : Chg a H (upd H3 l.lp (.lst (l.pa.map V.ref ++ [V.ref x]))) p l (s.add wi v) { l with pa := l.pa ++ [x] } := by
      refine ⟨S.addPerson (s' := s.add wi v) (x := ⟨s.cards, wi, false, s.time, v, false⟩) rfl rfl nxH hx4 (by rw [upd_same, List.map_append]; rfl) (d0 := d2) (by rw [upd_ne (Ne.symm S.lp_p)]; exact hp3) fun b hb hbl hbp => ?_, fun b o e hb => ?_, fun b hb => ?_⟩
      · rw [upd_ne hbl, old b hb hbp]
      · rw [upd_ne (fun z => hb (by rw [z]; exact mem_lp) : b ≠ l.lp)]
        refine sm3 _ _ ?_
        rw [k2 b (fun z => hb (by rw [z]; exact mem_p) : b ≠ p)]
        exact sm1 _ _ e
      · have hb : b ∈ p :: l.lg :: l.lp :: (l.ga ++ (l.pa ++ [x])) := hb
        simp at hb
        rcases hb with z | z | z | z | z | z
        · exact .inl (by simp [Lay.foot, z])
        · exact .inl (by simp [Lay.foot, z])
        · exact .inl (by simp [Lay.foot, z])
        · exact .inl (by simp [Lay.foot, z])
        · exact .inl (by simp [Lay.foot, z])
        · exact .inr (by rw [z]; exact nxH)
    refine k.fin C hq ?_ rfl
    have hq3 : H3 q = none := by
      by_cases z : q = l.lp
      · rw [z, upd_same] at hq
        cases hq
      · rw [upd_ne z] at hq
        exact hq
    have hq2 := sm3.free hq3
    have hqp : q ≠ p := fun z => by rw [z, hp2] at hq2; cases hq2
    rw [k2 q hqp] at hq2
    exact sm1.free hq2
def sp_add_person (a : Adr) : Sp := fun vs H Q _ => ∃ p s l, vs = [.ref p] ∧ ShipAt a H p s l ∧ Good s ∧ Does a H p l Q (res s .person)
theorem ok_add_person (T : Txt K mg a) : FnOk P w K mg base CX0 5 a.f_add_person a.d_add_person ["ship"] (sp_add_person a) := by
  have G_take_aboard := ok_take_aboard (P := P) (w := w) (base := base) T
  refine T.D_add_person.F.ok sc_add_person (fun vs H Q E h => ?_) (fun cdv A outer st H vs Q E hr h => ?_)
  · obtain ⟨p, s, l, rfl, _⟩ := h
    rfl
  · obtain ⟨p, s, l, rfl, S, g, k⟩ := h
    refine ⟨_, (pss_one (ps_ret (pe_call G_take_aboard (hr.mono (by decide)) rfl T.D_take_aboard.m T.D_take_aboard.F.kp T.D_take_aboard.B .nil pass0 (pa_cons (pv 0) (pa_cons pe_non (pa_cons pe_non pa_nil)))))), ?_⟩
    rw [res_person] at k
    exact ⟨_, rfl, p, s, l, none, none, rfl, S, g, k⟩
def sp_add_child (a : Adr) : Sp := fun vs H Q _ => ∃ p s l, ∃ i : Nat, vs = [.ref p, .int i] ∧ ShipAt a H p s l ∧ Good s ∧ Does a H p l Q (res s (.child i))
theorem place_away' {x : Km440.Person} (hg : x.gone = false) : decide (V.int (place x) = V.int 1) = x.ashore := by
  rw [place_away]
  unfold fAway
  rw [hg]
  rfl
theorem ok_add_child (T : Txt K mg a) : FnOk P w K mg base CX0 5 a.f_add_child a.d_add_child ["ship", "p"] (sp_add_child a) := by
  have G_find_person := ok_find_person (P := P) (w := w) (base := base) T
  have G_take_aboard := ok_take_aboard (P := P) (w := w) (base := base) T
  refine T.D_add_child.F.ok sc_add_child (fun vs H Q E h => ?_) (fun cdv A outer st H vs Q E hr h => ?_)
  · obtain ⟨p, s, l, i, rfl, _⟩ := h
    rfl
  · obtain ⟨p, s, l, i, rfl, S, g, k⟩ := h
    refine ⟨_, (pss_cons (ps_set (i := 2) sc_add_child.nd rfl (Or.inl rfl) (pe_call G_find_person (hr.mono (by decide)) rfl T.D_find_person.m T.D_find_person.F.kp T.D_find_person.B .nil pass0 (pa_cons (pv 0) (pa_cons (pv 1) pa_nil)))) (pss_cons (ps_if (pt_cmpR op_isN (pv 2) pe_non (nomark _)) (pss_one (ps_ret (pe_lst (pa_cons (pe_gint T.c_NONE_THERE rfl) pa_nil)))) pss_nil) (pss_cons (ps_if (PW.pt (pw_or (pt_cmpR op_notN (pe_fld (pv 2) rfl) pe_non (nomark _)) (pw_or1 (pt_cmpR op_notN (pe_fld (pv 2) rfl) pe_non (nomark _))))) (pss_one (ps_ret (pe_lst (pa_cons (pe_gint T.c_WRONG_NUMBER rfl) pa_nil)))) pss_nil) (pss_cons (ps_if (pt_cmpR op_eq (pe_fld (pv 2) rfl) (pe_gint T.c_ASHORE rfl) (nomark _)) (pss_one (ps_ret (pe_lst (pa_cons (pe_gint T.c_NOT_AS_THINGS_ARE rfl) pa_nil)))) pss_nil) (pss_one (ps_ret (pe_call G_take_aboard (hr.mono (by decide)) rfl T.D_take_aboard.m T.D_take_aboard.F.kp T.D_take_aboard.B .nil pass0 (pa_cons (pv 0) (pa_cons (pv 1) (pa_cons pe_non pa_nil)))))))))), ?_⟩
    rw [res_child] at k
    refine ⟨_, rfl, _, rfl, p, s, l, i, rfl, S, fun hi => ?_, fun q x hi hq hx hg => ?_⟩
    · rw [if_pos hi] at k
      exact ⟨_, rfl, rfl, _, rfl, iteT ⟨(by show 1 ≤ sizeLine; decide), fun q hq => k.refuse S hq⟩⟩
    rw [if_neg (by rw [hi]; decide), person_at hx] at k
    obtain ⟨d, hh⟩ := S.ps i q x hq hx
    refine ⟨_, rfl, rfl, _, rfl, iteF ⟨_, rfl, q, _, d, _, _, rfl, hh, T.C_Person.cl, T.n_Person_guardian, rfl, rfl, _, rfl, ?_⟩⟩
    have refuse : (x.with_.isSome = true ∨ x.visitor.isSome = true) → Does a H p l Q (s, [-22]) := fun c => by rw [if_pos c] at k; exact k
    rw [notN_opt]
    cases h1 : x.with_.isSome with
    | true => exact iteT ⟨(by show 1 ≤ sizeLine; decide), fun q hq => (refuse (.inl h1)).refuse S hq⟩
    | false =>
      refine iteF ⟨_, rfl, q, _, d, _, _, rfl, hh, T.C_Person.cl, T.n_Person_off_by, rfl, rfl, _, rfl, ?_⟩
      rw [notN_opt]
      cases h2 : x.visitor.isSome with
      | true => exact iteT ⟨(by show 1 ≤ sizeLine; decide), fun q hq => (refuse (.inr h2)).refuse S hq⟩
      | false =>
        rw [if_neg (by rw [h1, h2]; simp)] at k
        refine iteF ⟨_, rfl, q, _, d, _, _, rfl, hh, T.C_Person.cl, T.n_Person_place, rfl, rfl, _, rfl, ?_⟩
        rw [place_away' hg]
        cases h3 : x.ashore with
        | true =>
          rw [h3, if_pos rfl] at k
          exact iteT ⟨(by show 1 ≤ sizeLine; decide), fun q hq => k.refuse S hq⟩
        | false =>
          rw [h3, if_neg Bool.false_ne_true] at k
          exact iteF ⟨_, rfl, _, rfl, p, s, l, some i, none, rfl, S, g, k⟩
def sp_add_visitor (a : Adr) : Sp := fun vs H Q _ => ∃ p s l, ∃ t : Nat, vs = [.ref p, .int t] ∧ ShipAt a H p s l ∧ Good s ∧ Does a H p l Q (res s (.visitor t))
theorem Does.later {H H1 : Hp} {p : Addr} {s : Km440.Ship} {l : Lay} {Q : VK} {r : Km440.Ship × List Int} (S : ShipAt a H p s l) (D : Does a H p l Q r) (sm : Same H H1) : Does a H1 p l Q r :=
  fun H' l' q C hq hn e => D H' l' q ((Chg.same S sm).trans C) (sm.free hq) hn e
theorem open_none {gs : List Km440.Gate} : decide (V.int ((gs.filter fun x => x.open_).length : Nat) = V.int 0) = !(gs.any fun g => g.open_) := by
  rw [dec_int, Bool.eq_iff_iff]
  simp
theorem ok_add_visitor (T : Txt K mg a) : FnOk P w K mg base CX0 5 a.f_add_visitor a.d_add_visitor ["ship", "t"] (sp_add_visitor a) := by
  have G_is_no_coming_minute := ok_is_no_coming_minute (P := P) (w := w) (base := base) T
  have G_take_aboard := ok_take_aboard (P := P) (w := w) (base := base) T
  have G_count_open_gates := ok_count_open_gates (P := P) (w := w) (base := base) T
  refine T.D_add_visitor.F.ok sc_add_visitor (fun vs H Q E h => ?_) (fun cdv A outer st H vs Q E hr h => ?_)
  · obtain ⟨p, s, l, t, rfl, _⟩ := h
    rfl
  · obtain ⟨p, s, l, t, rfl, S, g, k⟩ := h
    refine ⟨_, (pss_cons (ps_if (pt_val (pe_call G_is_no_coming_minute (hr.mono (by decide)) rfl T.D_is_no_coming_minute.m T.D_is_no_coming_minute.F.kp T.D_is_no_coming_minute.B .nil pass0 (pa_cons (pv 0) (pa_cons (pv 1) pa_nil)))) (pss_one (ps_ret (pe_lst (pa_cons (pe_gint T.c_WRONG_NUMBER rfl) pa_nil)))) pss_nil) (pss_cons (ps_if (pt_cmpR op_eq (pe_call G_count_open_gates (hr.mono (by decide)) rfl T.D_count_open_gates.m T.D_count_open_gates.F.kp T.D_count_open_gates.B .nil pass0 (pa_cons (pv 0) pa_nil)) pe_int (nomark _)) (pss_one (ps_ret (pe_lst (pa_cons (pe_gint T.c_NOT_AS_THINGS_ARE rfl) pa_nil)))) pss_nil) (pss_one (ps_ret (pe_call G_take_aboard (hr.mono (by decide)) rfl T.D_take_aboard.m T.D_take_aboard.F.kp T.D_take_aboard.B .nil pass0 (pa_cons (pv 0) (pa_cons pe_non (pa_cons (pv 1) pa_nil)))))))), ?_⟩
    rw [res_visitor] at k
    refine ⟨_, rfl, _, rfl, p, s, l, t, rfl, S, _, rfl, ite2 (fun c => ?_) (fun c => ?_)⟩
    · have c := of_decide_eq_true c
      rw [if_pos c] at k
      exact ⟨(by show 1 ≤ sizeLine; decide), fun q hq => k.refuse S hq⟩
    have c := of_decide_eq_false (eq_false_of_ne_true c)
    rw [if_neg c] at k
    refine ⟨_, rfl, p, s, l, rfl, S, g, fun H1 sm => ⟨rfl, _, rfl, ?_⟩⟩
    rw [open_none]
    cases ho : (s.gates.any fun g => g.open_) with
    | false =>
      rw [if_pos ho] at k
      exact iteT ⟨(by show 1 ≤ sizeLine; decide), fun q hq => k.refuse' S sm hq⟩
    | true =>
      rw [if_neg (by rw [ho]; decide)] at k
      exact iteF ⟨_, rfl, _, rfl, p, s, l, none, some t, rfl, S.same sm, g, k.later S sm⟩
def sp_change_card (a : Adr) : Sp := fun vs H Q _ => ∃ p s l, ∃ i : Nat, vs = [.ref p, .int i] ∧ ShipAt a H p s l ∧ Good s ∧ Does a H p l Q (res s (.card i))
theorem ok_change_card (T : Txt K mg a) : FnOk P w K mg base CX0 2 a.f_change_card a.d_change_card ["ship", "p"] (sp_change_card a) := by
  have G_find_person := ok_find_person (P := P) (w := w) (base := base) T
  have G_give_card := ok_give_card (P := P) (w := w) (base := base) T
  refine T.D_change_card.F.ok sc_change_card (fun vs H Q E h => ?_) (fun cdv A outer st H vs Q E hr h => ?_)
  · obtain ⟨p, s, l, i, rfl, _⟩ := h
    rfl
  · obtain ⟨p, s, l, i, rfl, S, g, k⟩ := h
    refine ⟨_, (pss_cons (ps_set (i := 2) sc_change_card.nd rfl (Or.inl rfl) (pe_call G_find_person (hr.mono (by decide)) rfl T.D_find_person.m T.D_find_person.F.kp T.D_find_person.B .nil pass0 (pa_cons (pv 0) (pa_cons (pv 1) pa_nil)))) (pss_cons (ps_if (pt_cmpR op_isN (pv 2) pe_non (nomark _)) (pss_one (ps_ret (pe_lst (pa_cons (pe_gint T.c_NONE_THERE rfl) pa_nil)))) pss_nil) (pss_cons (ps_if (pt_cmpR op_ge (pe_fld (pv 0) rfl) (pe_gint T.c_MOST_CARDS rfl) (nomark _)) (pss_one (ps_ret (pe_lst (pa_cons (pe_gint T.c_NO_MORE_OF_THEM rfl) pa_nil)))) pss_nil) (pss_cons (ps_fld (pv 2) (pe_call G_give_card (hr.mono (by decide)) rfl T.D_give_card.m T.D_give_card.F.kp T.D_give_card.B .nil pass0 (pa_cons (pv 0) pa_nil)) rfl) (pss_one (ps_ret (pe_lst (pa_cons (pe_fld (pv 2) rfl) pa_nil)))))))), ?_⟩
    rw [res_card] at k
    refine ⟨_, rfl, _, rfl, p, s, l, i, rfl, S, fun hi => ?_, fun q x hi hq hx hg => ?_⟩
    · rw [if_pos hi] at k
      exact ⟨_, rfl, rfl, _, rfl, iteT ⟨(by show 1 ≤ sizeLine; decide), fun q hq => k.refuse S hq⟩⟩
    rw [if_neg (by rw [hi]; decide), person_at hx] at k
    obtain ⟨d, hh⟩ := S.ps i q x hq hx
    obtain ⟨dx, h1⟩ := S.ship
    refine ⟨_, rfl, rfl, _, rfl, iteF ⟨_, rfl, p, _, dx, _, _, rfl, h1, T.C_Ship.cl, T.n_Ship_cards_given, rfl, _, _, rfl, rfl, _, rfl, ite2 (fun c => ?_) (fun c => ?_)⟩⟩
    · have c := of_decide_eq_true c
      rw [if_pos (by omega)] at k
      exact ⟨(by show 1 ≤ sizeLine; decide), fun q hq => k.refuse S hq⟩
    have c := of_decide_eq_false (eq_false_of_ne_true c)
    rw [if_neg (by omega)] at k
    refine ⟨_, rfl, p, s, l, rfl, S, fun H1 d1 hp1 k1 => ?_⟩
    have S1 : ShipAt a H1 p { s with cards := s.cards + 1 } l := S.setShip rfl rfl hp1 k1
    have hh1 : H1 q = some (.ins a.C_Person d (pf i x)) := by rw [k1 q (S.ne_person hq)]; exact hh
    refine ⟨_, rfl, q, _, d, _, rfl, hh1, T.C_Person.cl, T.n_Person_card, (by show 6 < 1000; decide), ?_⟩
    have S2 : ShipAt a (upd H1 q (.ins a.C_Person d (pf i { x with card := s.cards }))) p { s.set i { x with card := s.cards } with cards := s.cards + 1 } l :=
      S1.setPerson (x := { x with card := s.cards }) hq upd_same fun b hb => upd_ne hb
    refine ⟨_, rfl, q, _, d, _, _, rfl, upd_same, T.C_Person.cl, T.n_Person_card, rfl, (by show 1 ≤ sizeLine; decide), fun r hr' => ?_⟩
    refine k.fin ((Chg.one S1 mem_p k1).trans (Chg.one S2 (mem_pa hq) fun b hb => upd_ne hb)) hr' ?_ rfl
    have hrq : r ≠ q := fun z => by rw [z] at hr'; exact absurd (hr'.symm.trans upd_same) (by simp)
    have z : (upd H1 q (.ins a.C_Person d (pf i { x with card := s.cards }))) r = none := hr'
    rw [upd_ne hrq] at z
    have hrp : r ≠ p := fun y => by rw [y, hp1] at z; cases z
    rw [k1 r hrp] at z
    exact z
end
end Gw
namespace Gw
open PySem PySem.Spec PyProof.Rows L2
theorem gate_at {s : Km440.Ship} {k : Nat} {x : Km440.Gate} (h : s.gates[k]? = some x) : s.gate k = x := by
  unfold Km440.Ship.gate
  simp [List.getD, h]
theorem ga_none {a : Adr} {H : Hp} {p : Addr} {s : Km440.Ship} {l : Lay} (S : ShipAt a H p s l) {k : Nat} (h : s.gates.length ≤ k) : l.ga[k]? = none := List.getElem?_eq_none_iff.mpr (by rw [S.gl]; exact h)
theorem ga_some {a : Adr} {H : Hp} {p : Addr} {s : Km440.Ship} {l : Lay} (S : ShipAt a H p s l) {k : Nat} (h : ¬ s.gates.length ≤ k) : ∃ q x d, l.ga[k]? = some q ∧ s.gates[k]? = some x ∧ H q = some (.ins a.C_Gate d (gf x)) := by
  have hl : k < l.ga.length := by rw [S.gl]; omega
  obtain ⟨x, hx, d, hh⟩ := S.gate (List.getElem?_eq_getElem hl)
  exact ⟨_, x, d, List.getElem?_eq_getElem hl, hx, hh⟩
theorem upd_free {H : Hp} {q r : Addr} {o : HO} (h : (upd H q o) r = none) : r ≠ q ∧ H r = none := by
  have e : r ≠ q := fun z => by rw [z, upd_same] at h; cases h
  rw [upd_ne e] at h
  exact ⟨e, h⟩
section
variable {P : Program} {w : World} {K : PySem.W.Frag} {mg : Str → Option Value} {base : Heap} {a : Adr}
def sp_turn_gate (a : Adr) : Sp := fun vs H Q _ => ∃ p s l, ∃ k o : Nat, vs = [.ref p, .int k, .int o] ∧ ShipAt a H p s l ∧ Good s ∧ Does a H p l Q (res s (.open_ k o))
theorem ok_turn_gate (T : Txt K mg a) : FnOk P w K mg base CX0 2 a.f_turn_gate a.d_turn_gate ["ship", "g", "opened"] (sp_turn_gate a) := by
  have G_find_gate := ok_find_gate (P := P) (w := w) (base := base) T
  have G_count_open_gates := ok_count_open_gates (P := P) (w := w) (base := base) T
  refine T.D_turn_gate.F.ok sc_turn_gate (fun vs H Q E h => ?_) (fun cdv A outer st H vs Q E hr h => ?_)
  · obtain ⟨p, s, l, i, o, rfl, _⟩ := h
    rfl
  · obtain ⟨p, s, l, i, o, rfl, S, g, k⟩ := h
    refine ⟨_, (pss_cons (ps_set (i := 3) sc_turn_gate.nd rfl (Or.inl rfl) (pe_call G_find_gate (hr.mono (by decide)) rfl T.D_find_gate.m T.D_find_gate.F.kp T.D_find_gate.B .nil pass0 (pa_cons (pv 0) (pa_cons (pv 1) pa_nil)))) (pss_cons (ps_if (pt_cmpR op_isN (pv 3) pe_non (nomark _)) (pss_one (ps_ret (pe_lst (pa_cons (pe_gint T.c_NONE_THERE rfl) pa_nil)))) pss_nil) (pss_cons (ps_if (pt_cmpR op_gt (pv 2) pe_int (nomark _)) (pss_one (ps_ret (pe_lst (pa_cons (pe_gint T.c_WRONG_NUMBER rfl) pa_nil)))) pss_nil) (pss_cons (ps_set (i := 4) sc_turn_gate.nd rfl (Or.inl rfl) (pe_cmpR op_eq (pv 2) pe_int (nomark _))) (pss_cons (ps_if (pt_cmpR op_eq (pe_fld (pv 3) rfl) (pv 4) (nomark _)) (pss_one (ps_ret (pe_lst (pa_cons (pe_gint T.c_SO_ALREADY rfl) pa_nil)))) pss_nil) (pss_cons (ps_set (i := 5) sc_turn_gate.nd rfl (Or.inl rfl) (pe_call G_count_open_gates (hr.mono (by decide)) rfl T.D_count_open_gates.m T.D_count_open_gates.F.kp T.D_count_open_gates.B .nil pass0 (pa_cons (pv 0) pa_nil))) (pss_cons (ps_fld (pv 3) (pv 4) rfl) (pss_one (ps_ret (pe_lst (pa_cons (pv 5) pa_nil))))))))))), ?_⟩
    rw [res_open] at k
    refine ⟨_, rfl, _, rfl, p, s, l, i, rfl, S, ?_⟩
    by_cases c : s.gates.length ≤ i
    · rw [if_pos c] at k
      rw [ga_none S c]
      exact ⟨_, rfl, rfl, _, rfl, iteT ⟨(by show 1 ≤ sizeLine; decide), fun q hq => k.refuse S hq⟩⟩
    rw [if_neg c] at k
    obtain ⟨q, x, d, hq, hx, hh⟩ := ga_some S c
    rw [gate_at hx] at k
    rw [hq]
    refine ⟨_, rfl, rfl, _, rfl, iteF ⟨_, rfl, _, _, rfl, rfl, _, rfl, ite2 (fun c2 => ?_) (fun c2 => ?_)⟩⟩
    · have c2 := of_decide_eq_true c2
      rw [if_pos (by omega)] at k
      exact ⟨(by show 1 ≤ sizeLine; decide), fun q hq => k.refuse S hq⟩
    have c2 := of_decide_eq_false (eq_false_of_ne_true c2)
    rw [if_neg (by omega)] at k
    have eo : decide (V.int (o : Int) = V.int 1) = (o == 1) := by
      rw [dec_int, Bool.eq_iff_iff]
      simp
      omega
    refine ⟨_, rfl, rfl, _, rfl, q, _, d, _, _, rfl, hh, T.C_Gate.cl, T.n_Gate_opened, rfl, _, rfl, rfl, _, rfl, ?_⟩
    rw [eo]
    by_cases c3 : x.open_ = (o == 1)
    · rw [if_pos c3] at k
      rw [decide_eq_true (congrArg V.bl c3)]
      exact iteT ⟨(by show 1 ≤ sizeLine; decide), fun q hq => k.refuse S hq⟩
    rw [if_neg c3] at k
    rw [decide_eq_false (show ¬ V.bl x.open_ = V.bl (o == 1) from fun z => c3 (by injection z))]
    refine iteF ⟨_, rfl, p, s, l, rfl, S, g, fun H1 sm => ⟨_, rfl, _, rfl, q, _, d, _, rfl, sm _ _ hh, T.C_Gate.cl, T.n_Gate_opened, (by show 3 < 1000; decide), ?_⟩⟩
    have S2 : ShipAt a (upd H1 q (.ins a.C_Gate d (gf { x with open_ := o == 1 }))) p (s.setGate i { x with open_ := o == 1 }) l := (S.same sm).setGate hq upd_same fun b hb => upd_ne hb
    refine ⟨_, rfl, (by show 1 ≤ sizeLine; decide), fun r hr' => ?_⟩
    exact k.fin ((Chg.same S sm).trans (Chg.one S2 (mem_ga hq) fun b hb => upd_ne hb)) hr' (sm.free (upd_free hr').2) rfl
def sp_move (a : Adr) : Sp := fun vs H Q _ => ∃ p s l, ∃ i q x, ∃ b : Bool, vs = [.ref p, .ref q, .int (if b = true then 1 else 0)] ∧ ShipAt a H p s l ∧ l.pa[i]? = some q ∧ s.persons[i]? = some x ∧ x.gone = false ∧
  ∀ H' d, H' q = some (.ins a.C_Person d (pf i { x with ashore := b, since := s.time })) → (∀ b, b ≠ q → H' b = H b) → Q .non H'
theorem ok_move (T : Txt K mg a) : FnOk P w K mg base CX0 1 a.f_move a.d_move ["ship", "person", "place"] (sp_move a) := by
  refine T.D_move.F.ok sc_move (fun vs H Q E h => ?_) (fun cdv A outer st H vs Q E hr h => ?_)
  · obtain ⟨p, s, l, i, q, x, b, rfl, _⟩ := h
    rfl
  · obtain ⟨p, s, l, i, q, x, b, rfl, S, hq, hx, hg, k⟩ := h
    refine ⟨_, (pss_cons (ps_fld (pv 1) (pv 2) rfl) (pss_one (ps_fld (pv 1) (pe_fld (pv 0) rfl) rfl))), ?_⟩
    obtain ⟨dx, h1⟩ := S.ship
    obtain ⟨d, hh⟩ := S.ps i q x hq hx
    refine ⟨_, rfl, _, rfl, q, _, d, _, rfl, hh, T.C_Person.cl, T.n_Person_place, (by show 6 < 1000; decide), ?_⟩
    refine ⟨_, rfl, p, _, dx, _, _, rfl, (by rw [upd_ne (Ne.symm (S.ne_person hq))]; exact h1), T.C_Ship.cl, T.n_Ship_minute, rfl, _, rfl, q, _, d, _, rfl, upd_same, T.C_Person.cl, T.n_Person_since, (by show 6 < 1000; decide), ?_⟩
    refine k _ d ?_ fun b hb => by rw [upd_ne hb, upd_ne hb]
    rw [upd_same]
    have e : place { x with ashore := b, since := s.time } = if b = true then 1 else 0 := by
      unfold place
      rw [if_neg (by show ¬ x.gone = true; rw [hg]; decide)]
    show some (HO.ins a.C_Person d [("number", V.int i), ("card", V.int x.card), ("place", V.int (if b = true then 1 else 0)), ("since", V.int s.time), ("guardian", optV x.with_), ("off_by", optV x.visitor)]) = _
    rw [← e]
    rfl
/-- a person and the gate, where a scan has found them -/
structure At (a : Adr) (H : Hp) (p : Addr) (s : Km440.Ship) (l : Lay) (j : Nat) (r : Addr) (y : Km440.Gate) (i : Nat) (q : Addr) (x : Km440.Person) : Prop where
  S : ShipAt a H p s l
  g : Good s
  hr : l.ga[j]? = some r
  hy : s.gates[j]? = some y
  hq : l.pa[i]? = some q
  hx : s.persons[i]? = some x
  hg : x.gone = false
def sp_come_aboard (a : Adr) : Sp := fun vs H Q _ => ∃ p s l j r y i q x, vs = [.ref p, .ref r, .ref q] ∧ At a H p s l j r y i q x ∧ x.ashore = true ∧ Does a H p l Q (passes s j i)
theorem At.moved {H H1 H2 : Hp} {p r q : Addr} {s : Km440.Ship} {l : Lay} {j i : Nat} {y : Km440.Gate} {x : Km440.Person} (A : At a H p s l j r y i q x) {x' : Km440.Person} {y' : Km440.Gate} {d d' : Addr}
    (h1 : H1 q = some (.ins a.C_Person d (pf i x'))) (k1 : ∀ b, b ≠ q → H1 b = H b) (h2 : H2 r = some (.ins a.C_Gate d' (gf y'))) (k2 : ∀ b, b ≠ r → H2 b = H1 b) : Chg a H H2 p l ((s.set i x').setGate j y') l := by
  have S1 := A.S.setPerson A.hq h1 k1
  exact (Chg.one S1 (mem_pa A.hq) k1).trans (Chg.one (S1.setGate A.hr h2 k2) (mem_ga A.hr) k2)
theorem ok_come_aboard (T : Txt K mg a) : FnOk P w K mg base CX0 4 a.f_come_aboard a.d_come_aboard ["ship", "gate", "person"] (sp_come_aboard a) := by
  have G_is_full := ok_is_full (P := P) (w := w) (base := base) T
  have G_move := ok_move (P := P) (w := w) (base := base) T
  refine T.D_come_aboard.F.ok sc_come_aboard (fun vs H Q E h => ?_) (fun cdv A outer st H vs Q E hr h => ?_)
  · obtain ⟨p, s, l, j, r, y, i, q, x, rfl, _⟩ := h
    rfl
  · obtain ⟨p, s, l, j, r, y, i, q, x, rfl, A, ha, k⟩ := h
    refine ⟨_, (pss_cons (ps_if (pt_val (pe_call G_is_full (hr.mono (by decide)) rfl T.D_is_full.m T.D_is_full.F.kp T.D_is_full.B .nil pass0 (pa_cons (pv 0) pa_nil))) (pss_one (ps_ret (pe_lst (pa_cons (pe_gint T.c_NO_ROOM_ABOARD rfl) pa_nil)))) pss_nil) (pss_cons (ps_expr (pe_call G_move (hr.mono (by decide)) rfl T.D_move.m T.D_move.F.kp T.D_move.B .nil pass0 (pa_cons (pv 0) (pa_cons (pv 2) (pa_cons (pe_gint T.c_ABOARD rfl) pa_nil))))) (pss_cons (ps_fld (pv 1) (pe_op op_add (pe_fld (pv 1) rfl) pe_int) rfl) (pss_one (ps_ret (pe_lst (pa_cons (pe_gint T.c_CAME_IN rfl) (pa_cons (pe_fld (pv 2) rfl) pa_nil)))))))), ?_⟩
    unfold passes at k
    rw [person_at A.hx, gate_at A.hy, if_pos ha] at k
    refine ⟨_, rfl, p, s, l, rfl, A.S, A.g, fun H1 sm => ⟨_, rfl, ite2 (fun c => ?_) (fun c => ?_)⟩⟩
    · have c := of_decide_eq_true c
      rw [if_pos c] at k
      exact ⟨(by show 1 ≤ sizeLine; decide), fun q hq => k.refuse' A.S sm hq⟩
    have c := of_decide_eq_false (eq_false_of_ne_true c)
    rw [if_neg c] at k
    have A1 : At a H1 p s l j r y i q x := ⟨A.S.same sm, A.g, A.hr, A.hy, A.hq, A.hx, A.hg⟩
    refine ⟨_, rfl, _, rfl, p, s, l, i, q, x, false, rfl, A1.S, A.hq, A.hx, A.hg, fun H2 d h2 k2 => ?_⟩
    obtain ⟨d', hh⟩ := A1.S.gs j r y A.hr A.hy
    have hrq : r ≠ q := A.S.gate_person A.hr A.hq
    have hh2 : H2 r = some (.ins a.C_Gate d' (gf y)) := by rw [k2 r hrq]; exact hh
    refine ⟨_, rfl, r, _, d', _, _, rfl, hh2, T.C_Gate.cl, T.n_Gate_came_in, rfl, _, _, rfl, rfl, _, rfl, r, _, d', _, rfl, hh2, T.C_Gate.cl, T.n_Gate_came_in, (by show 3 < 1000; decide), ?_⟩
    have C := A1.moved h2 k2 (H2 := upd H2 r (.ins a.C_Gate d' (gf { y with in_ := y.in_ + 1 }))) (y' := { y with in_ := y.in_ + 1 }) upd_same fun b hb => upd_ne hb
    refine ⟨_, rfl, q, _, d, _, _, rfl, (by rw [upd_ne (Ne.symm hrq)]; exact h2), T.C_Person.cl, T.n_Person_number, rfl, (by show 2 ≤ sizeLine; decide), fun t ht => ?_⟩
    refine k.fin ((Chg.same A.S sm).trans C) ht ?_ rfl
    have t1 := (upd_free ht).2
    have tq : t ≠ q := fun z => by rw [z, h2] at t1; cases t1
    rw [k2 t tq] at t1
    exact sm.free t1
def sp_go_ashore (a : Adr) : Sp := fun vs H Q _ => ∃ p s l j r y i q x, vs = [.ref p, .ref r, .ref q] ∧ At a H p s l j r y i q x ∧ x.ashore = false ∧ Does a H p l Q (passes s j i)
theorem ok_go_ashore (T : Txt K mg a) : FnOk P w K mg base CX0 3 a.f_go_ashore a.d_go_ashore ["ship", "gate", "person"] (sp_go_ashore a) := by
  have G_move := ok_move (P := P) (w := w) (base := base) T
  have G_may_go_ashore := ok_may_go_ashore (P := P) (w := w) (base := base) T
  refine T.D_go_ashore.F.ok sc_go_ashore (fun vs H Q E h => ?_) (fun cdv A outer st H vs Q E hr h => ?_)
  · obtain ⟨p, s, l, j, r, y, i, q, x, rfl, _⟩ := h
    rfl
  · obtain ⟨p, s, l, j, r, y, i, q, x, rfl, A, ha, k⟩ := h
    refine ⟨_, (pss_cons (ps_if (pt_not (pt_val (pe_call G_may_go_ashore (hr.mono (by decide)) rfl T.D_may_go_ashore.m T.D_may_go_ashore.F.kp T.D_may_go_ashore.B .nil pass0 (pa_cons (pv 0) (pa_cons (pv 2) pa_nil))))) (pss_one (ps_ret (pe_lst (pa_cons (pe_gint T.c_MAY_NOT rfl) pa_nil)))) pss_nil) (pss_cons (ps_expr (pe_call G_move (hr.mono (by decide)) rfl T.D_move.m T.D_move.F.kp T.D_move.B .nil pass0 (pa_cons (pv 0) (pa_cons (pv 2) (pa_cons (pe_gint T.c_ASHORE rfl) pa_nil))))) (pss_cons (ps_fld (pv 1) (pe_op op_add (pe_fld (pv 1) rfl) pe_int) rfl) (pss_one (ps_ret (pe_lst (pa_cons (pe_gint T.c_WENT_OUT rfl) (pa_cons (pe_fld (pv 2) rfl) pa_nil)))))))), ?_⟩
    unfold passes at k
    rw [person_at A.hx, gate_at A.hy, if_neg (by rw [ha]; decide)] at k
    refine ⟨_, rfl, _, rfl, p, s, l, i, q, x, rfl, A.S, A.g, A.hq, A.hx, A.hg, _, rfl, ?_⟩
    cases c : s.mayGo i with
    | false =>
      rw [if_pos c] at k
      exact iteT ⟨(by show 1 ≤ sizeLine; decide), fun q hq => k.refuse A.S hq⟩
    | true =>
      rw [if_neg (by rw [c]; decide)] at k
      refine iteF ⟨_, rfl, _, rfl, p, s, l, i, q, x, true, rfl, A.S, A.hq, A.hx, A.hg, fun H2 d h2 k2 => ?_⟩
      obtain ⟨d', hh⟩ := A.S.gs j r y A.hr A.hy
      have hrq : r ≠ q := A.S.gate_person A.hr A.hq
      have hh2 : H2 r = some (.ins a.C_Gate d' (gf y)) := by rw [k2 r hrq]; exact hh
      refine ⟨_, rfl, r, _, d', _, _, rfl, hh2, T.C_Gate.cl, T.n_Gate_went_out, rfl, _, _, rfl, rfl, _, rfl, r, _, d', _, rfl, hh2, T.C_Gate.cl, T.n_Gate_went_out, (by show 3 < 1000; decide), ?_⟩
      have C := A.moved h2 k2 (H2 := upd H2 r (.ins a.C_Gate d' (gf { y with out_ := y.out_ + 1 }))) (y' := { y with out_ := y.out_ + 1 }) upd_same fun b hb => upd_ne hb
      refine ⟨_, rfl, q, _, d, _, _, rfl, (by rw [upd_ne (Ne.symm hrq)]; exact h2), T.C_Person.cl, T.n_Person_number, rfl, (by show 2 ≤ sizeLine; decide), fun t ht => ?_⟩
      refine k.fin C ht ?_ rfl
      have t1 := (upd_free ht).2
      have tq : t ≠ q := fun z => by rw [z, h2] at t1; cases t1
      rw [k2 t tq] at t1
      exact t1
def sp_has_counted_enough (a : Adr) : Sp := fun vs H Q _ => ∃ p s l, ∃ j : Nat, ∃ r, ∃ y : Km440.Gate, vs = [.ref p, .ref r] ∧ ShipAt a H p s l ∧ l.ga[j]? = some r ∧ s.gates[j]? = some y ∧ Q (.bl (decide (100000 ≤ s.rung ∨ 100000 ≤ y.out_ ∨ 100000 ≤ y.in_))) H
theorem ok_has_counted_enough (T : Txt K mg a) : FnOk P w K mg base CX0 1 a.f_has_counted_enough a.d_has_counted_enough ["ship", "gate"] (sp_has_counted_enough a) := by
  refine T.D_has_counted_enough.F.ok sc_has_counted_enough (fun vs H Q E h => ?_) (fun cdv A outer st H vs Q E hr h => ?_)
  · obtain ⟨p, s, l, j, r, y, rfl, _⟩ := h
    rfl
  · obtain ⟨p, s, l, j, r, y, rfl, S, hr', hy, k⟩ := h
    refine ⟨_, (pss_one (ps_ret (pe_cmpR op_ge (pe_callB (call_max3 rfl) (by rfl) T.x_max (by decide +kernel) (pa_cons (pe_fld (pv 1) rfl) (pa_cons (pe_fld (pv 1) rfl) (pa_cons (pe_fld (pv 0) rfl) pa_nil)))) (pe_gint T.c_MOST_PASSAGES rfl) (nomark _)))), ?_⟩
    obtain ⟨dx, h1⟩ := S.ship
    obtain ⟨d, hh⟩ := S.gs j r y hr' hy
    refine ⟨_, rfl, r, _, d, _, _, rfl, hh, T.C_Gate.cl, T.n_Gate_went_out, rfl, _, rfl, r, _, d, _, _, rfl, hh, T.C_Gate.cl, T.n_Gate_came_in, rfl, _, rfl, p, _, dx, _, _, rfl, h1, T.C_Ship.cl, T.n_Ship_cards_shown_in_vain, rfl, _, _, _, rfl, _, _, rfl, rfl, ?_⟩
    show Q (V.bl (decide ((100000 : Int) ≤ max (max (y.out_ : Int) (y.in_ : Int)) (s.rung : Int)))) H
    rw [show decide ((100000 : Int) ≤ max (max (y.out_ : Int) (y.in_ : Int)) (s.rung : Int)) = decide (100000 ≤ s.rung ∨ 100000 ≤ y.out_ ∨ 100000 ≤ y.in_) from decide_eq_decide.mpr (by omega)]
    exact k
def sp_scan_card (a : Adr) : Sp := fun vs H Q _ => ∃ p s l, ∃ k c : Nat, vs = [.ref p, .int k, .int c] ∧ ShipAt a H p s l ∧ Good s ∧ Does a H p l Q (res s (.scan k c))
theorem ok_scan_card (T : Txt K mg a) : FnOk P w K mg base CX0 5 a.f_scan_card a.d_scan_card ["ship", "g", "card"] (sp_scan_card a) := by
  have G_find_gate := ok_find_gate (P := P) (w := w) (base := base) T
  have G_has_counted_enough := ok_has_counted_enough (P := P) (w := w) (base := base) T
  have G_find_holder := ok_find_holder (P := P) (w := w) (base := base) T
  have G_go_ashore := ok_go_ashore (P := P) (w := w) (base := base) T
  have G_come_aboard := ok_come_aboard (P := P) (w := w) (base := base) T
  refine T.D_scan_card.F.ok sc_scan_card (fun vs H Q E h => ?_) (fun cdv A outer st H vs Q E hr h => ?_)
  · obtain ⟨p, s, l, i, o, rfl, _⟩ := h
    rfl
  · obtain ⟨p, s, l, i, o, rfl, S, g, k⟩ := h
    refine ⟨_, (pss_cons (ps_set (i := 3) sc_scan_card.nd rfl (Or.inl rfl) (pe_call G_find_gate (hr.mono (by decide)) rfl T.D_find_gate.m T.D_find_gate.F.kp T.D_find_gate.B .nil pass0 (pa_cons (pv 0) (pa_cons (pv 1) pa_nil)))) (pss_cons (ps_if (pt_cmpR op_isN (pv 3) pe_non (nomark _)) (pss_one (ps_ret (pe_lst (pa_cons (pe_gint T.c_NONE_THERE rfl) pa_nil)))) pss_nil) (pss_cons (ps_if (pt_not (pt_val (pe_fld (pv 3) rfl))) (pss_one (ps_ret (pe_lst (pa_cons (pe_gint T.c_NOT_AS_THINGS_ARE rfl) pa_nil)))) pss_nil) (pss_cons (ps_if (pt_val (pe_call G_has_counted_enough (hr.mono (by decide)) rfl T.D_has_counted_enough.m T.D_has_counted_enough.F.kp T.D_has_counted_enough.B .nil pass0 (pa_cons (pv 0) (pa_cons (pv 3) pa_nil)))) (pss_one (ps_ret (pe_lst (pa_cons (pe_gint T.c_NO_MORE_OF_THEM rfl) pa_nil)))) pss_nil) (pss_cons (ps_set (i := 4) sc_scan_card.nd rfl (Or.inl rfl) (pe_call G_find_holder (hr.mono (by decide)) rfl T.D_find_holder.m T.D_find_holder.F.kp T.D_find_holder.B .nil pass0 (pa_cons (pv 0) (pa_cons (pv 2) pa_nil)))) (pss_cons (ps_if (pt_cmpR op_isN (pv 4) pe_non (nomark _)) (pss_cons (ps_fld (pv 0) (pe_op op_add (pe_fld (pv 0) rfl) pe_int) rfl) (pss_one (ps_ret (pe_lst (pa_cons (pe_gint T.c_SHOWN_IN_VAIN rfl) (pa_cons pe_int pa_nil)))))) pss_nil) (pss_cons (ps_if (pt_cmpR op_eq (pe_fld (pv 4) rfl) (pe_gint T.c_ASHORE rfl) (nomark _)) (pss_one (ps_ret (pe_call G_come_aboard (hr.mono (by decide)) rfl T.D_come_aboard.m T.D_come_aboard.F.kp T.D_come_aboard.B .nil pass0 (pa_cons (pv 0) (pa_cons (pv 3) (pa_cons (pv 4) pa_nil)))))) pss_nil) (pss_one (ps_ret (pe_call G_go_ashore (hr.mono (by decide)) rfl T.D_go_ashore.m T.D_go_ashore.F.kp T.D_go_ashore.B .nil pass0 (pa_cons (pv 0) (pa_cons (pv 3) (pa_cons (pv 4) pa_nil))))))))))))), ?_⟩
    rw [res_scan] at k
    refine ⟨_, rfl, _, rfl, p, s, l, i, rfl, S, ?_⟩
    by_cases c : s.gates.length ≤ i
    · rw [if_pos c] at k
      rw [ga_none S c]
      exact ⟨_, rfl, rfl, _, rfl, iteT ⟨(by show 1 ≤ sizeLine; decide), fun q hq => k.refuse S hq⟩⟩
    rw [if_neg c] at k
    obtain ⟨r, y, d, hr', hy, hh⟩ := ga_some S c
    rw [gate_at hy] at k
    rw [hr']
    refine ⟨_, rfl, rfl, _, rfl, iteF ⟨_, rfl, r, _, d, _, _, rfl, hh, T.C_Gate.cl, T.n_Gate_opened, rfl, _, rfl, ?_⟩⟩
    cases ho : y.open_ with
    | false =>
      rw [if_pos ho] at k
      exact iteT ⟨(by show 1 ≤ sizeLine; decide), fun q hq => k.refuse S hq⟩
    | true =>
      rw [if_neg (by rw [ho]; decide)] at k
      refine iteF ⟨_, rfl, _, rfl, p, s, l, i, r, y, rfl, S, hr', hy, _, rfl, ite2 (fun c2 => ?_) (fun c2 => ?_)⟩
      · have c2 := of_decide_eq_true c2
        rw [if_pos c2] at k
        exact ⟨(by show 1 ≤ sizeLine; decide), fun q hq => k.refuse S hq⟩
      have c2 := of_decide_eq_false (eq_false_of_ne_true c2)
      rw [if_neg c2] at k
      refine ⟨_, rfl, _, rfl, p, s, l, o, rfl, S, fun hn => ?_, fun m q x hm hq hx hg => ?_⟩
      · rw [hn] at k
        obtain ⟨dx, h1⟩ := S.ship
        refine ⟨_, rfl, rfl, _, rfl, iteT ⟨_, rfl, p, _, dx, _, _, rfl, h1, T.C_Ship.cl, T.n_Ship_cards_shown_in_vain, rfl, _, _, rfl, rfl, _, rfl, p, _, dx, _, rfl, h1, T.C_Ship.cl, T.n_Ship_cards_shown_in_vain, (by show 7 < 1000; decide), ?_⟩⟩
        refine ⟨(by show 2 ≤ sizeLine; decide), fun t ht => ?_⟩
        have S1 : ShipAt a (upd H p (.ins a.C_Ship dx (sf { s with rung := s.rung + 1 } l.lg l.lp))) p { s with rung := s.rung + 1 } l := S.setShip rfl rfl upd_same fun b hb => upd_ne hb
        exact k.fin (Chg.one S1 mem_p fun b hb => upd_ne hb) ht (upd_free ht).2 rfl
      · rw [hm] at k
        obtain ⟨d2, hh2⟩ := S.ps m q x hq hx
        refine ⟨_, rfl, rfl, _, rfl, iteF ⟨_, rfl, q, _, d2, _, _, rfl, hh2, T.C_Person.cl, T.n_Person_place, rfl, rfl, _, rfl, ?_⟩⟩
        rw [place_away' hg]
        cases ha : x.ashore with
        | true => exact iteT ⟨_, rfl, _, rfl, _, rfl, p, s, l, i, r, y, m, q, x, rfl, ⟨S, g, hr', hy, hq, hx, hg⟩, ha, k⟩
        | false => exact iteF ⟨_, rfl, _, rfl, _, rfl, p, s, l, i, r, y, m, q, x, rfl, ⟨S, g, hr', hy, hq, hx, hg⟩, ha, k⟩
def sp_leave_for_good (a : Adr) : Sp := fun vs H Q _ => ∃ p s l, ∃ i : Nat, vs = [.ref p, .int i] ∧ ShipAt a H p s l ∧ Good s ∧ Does a H p l Q (res s (.leave i))
theorem place_here0 {x : Km440.Person} (hg : x.gone = false) : decide (V.int (place x) = V.int 0) = !x.ashore := place_here' hg
theorem ok_leave_for_good (T : Txt K mg a) : FnOk P w K mg base CX0 2 a.f_leave_for_good a.d_leave_for_good ["ship", "p"] (sp_leave_for_good a) := by
  have G_find_person := ok_find_person (P := P) (w := w) (base := base) T
  have G_children_of := ok_children_of (P := P) (w := w) (base := base) T
  refine T.D_leave_for_good.F.ok sc_leave_for_good (fun vs H Q E h => ?_) (fun cdv A outer st H vs Q E hr h => ?_)
  · obtain ⟨p, s, l, i, rfl, _⟩ := h
    rfl
  · obtain ⟨p, s, l, i, rfl, S, g, k⟩ := h
    refine ⟨_, (pss_cons (ps_set (i := 2) sc_leave_for_good.nd rfl (Or.inl rfl) (pe_call G_find_person (hr.mono (by decide)) rfl T.D_find_person.m T.D_find_person.F.kp T.D_find_person.B .nil pass0 (pa_cons (pv 0) (pa_cons (pv 1) pa_nil)))) (pss_cons (ps_if (pt_cmpR op_isN (pv 2) pe_non (nomark _)) (pss_one (ps_ret (pe_lst (pa_cons (pe_gint T.c_NONE_THERE rfl) pa_nil)))) pss_nil) (pss_cons (ps_if (pt_cmpR op_eq (pe_fld (pv 2) rfl) (pe_gint T.c_ABOARD rfl) (nomark _)) (pss_one (ps_ret (pe_lst (pa_cons (pe_gint T.c_NOT_AS_THINGS_ARE rfl) pa_nil)))) pss_nil) (pss_cons (ps_if (pt_cmpR op_gt (pe_callB call_len_seq (by rfl) T.x_len PySem.boot_len (pa_cons (pe_call G_children_of (hr.mono (by decide)) rfl T.D_children_of.m T.D_children_of.F.kp T.D_children_of.B .nil pass0 (pa_cons (pv 0) (pa_cons (pv 2) pa_nil))) pa_nil)) pe_int (nomark _)) (pss_one (ps_ret (pe_lst (pa_cons (pe_gint T.c_MAY_NOT rfl) pa_nil)))) pss_nil) (pss_cons (ps_fld (pv 2) (pe_gint T.c_GONE rfl) rfl) (pss_one (ps_ret (pe_lst (pa_cons (pe_op op_sub (pe_fld (pv 0) rfl) (pe_fld (pv 2) rfl)) pa_nil))))))))), ?_⟩
    rw [res_leave] at k
    refine ⟨_, rfl, _, rfl, p, s, l, i, rfl, S, fun hi => ?_, fun q x hi hq hx hg => ?_⟩
    · rw [if_pos hi] at k
      exact ⟨_, rfl, rfl, _, rfl, iteT ⟨(by show 1 ≤ sizeLine; decide), fun q hq => k.refuse S hq⟩⟩
    rw [if_neg (by rw [hi]; decide), person_at hx] at k
    obtain ⟨d, hh⟩ := S.ps i q x hq hx
    refine ⟨_, rfl, rfl, _, rfl, iteF ⟨_, rfl, q, _, d, _, _, rfl, hh, T.C_Person.cl, T.n_Person_place, rfl, rfl, _, rfl, ?_⟩⟩
    rw [place_here' hg]
    cases ha : x.ashore with
    | false =>
      rw [if_pos ha] at k
      exact iteT ⟨(by show 1 ≤ sizeLine; decide), fun q hq => k.refuse S hq⟩
    | true =>
      rw [if_neg (by rw [ha]; decide)] at k
      refine iteF ⟨_, rfl, _, rfl, p, s, l, i, q, x, rfl, S, g, hq, hx, fun H1 D sm hD hH => ⟨D, _, rfl, .inl (SqL.of hH), _, _, rfl, rfl, _, rfl, ite2 (fun c => ?_) (fun c => ?_)⟩⟩
      · have c := of_decide_eq_true c
        rw [refs_length] at c
        rw [if_pos (fun z => by rw [z] at c; exact absurd c (by decide))] at k
        exact ⟨(by show 1 ≤ sizeLine; decide), fun q hq => k.refuse' S sm hq⟩
      have c := of_decide_eq_false (eq_false_of_ne_true c)
      rw [refs_length] at c
      rw [if_neg (fun z => z (List.eq_nil_of_length_eq_zero (by omega)))] at k
      have k := k.later S sm
      have S := S.same sm
      have hh := sm _ _ hh
      clear hD hH c
      revert k S hh
      generalize H1 = H
      intro k S hh
      obtain ⟨dx, h1⟩ := S.ship
      refine ⟨_, rfl, q, _, d, _, rfl, hh, T.C_Person.cl, T.n_Person_place, (by show 6 < 1000; decide), ?_⟩
      have S1 : ShipAt a (upd H q (.ins a.C_Person d (pf i { x with gone := true }))) p (s.set i { x with gone := true }) l := S.setPerson hq upd_same fun b hb => upd_ne hb
      refine ⟨_, rfl, p, _, dx, _, _, rfl, (by rw [upd_ne (Ne.symm (S.ne_person hq))]; exact h1), T.C_Ship.cl, T.n_Ship_minute, rfl, _, rfl, q, _, d, _, _, rfl, upd_same, T.C_Person.cl, T.n_Person_since, rfl, _, _, rfl, rfl, (by show 1 ≤ sizeLine; decide), fun t ht => ?_⟩
      refine k.fin (Chg.one S1 (mem_pa hq) fun b hb => upd_ne hb) ht (upd_free ht).2 ?_
      have := g.si x (List.mem_of_getElem? hx)
      show [V.int ((s.time : Int) - (x.since : Int))] = [V.int ((s.time - x.since : Nat) : Int)]
      rw [Int.ofNat_sub this]
def sp_let_minutes_pass (a : Adr) : Sp := fun vs H Q _ => ∃ p s l, ∃ n : Nat, vs = [.ref p, .int n] ∧ ShipAt a H p s l ∧ Good s ∧ Does a H p l Q (res s (.minutes n))
theorem ok_let_minutes_pass (T : Txt K mg a) : FnOk P w K mg base CX0 5 a.f_let_minutes_pass a.d_let_minutes_pass ["ship", "n"] (sp_let_minutes_pass a) := by
  have G_as_bits := ok_as_bits (P := P) (w := w) (base := base) T
  have G_overdue_visitors := ok_overdue_visitors (P := P) (w := w) (base := base) T
  refine T.D_let_minutes_pass.F.ok sc_let_minutes_pass (fun vs H Q E h => ?_) (fun cdv A outer st H vs Q E hr h => ?_)
  · obtain ⟨p, s, l, i, rfl, _⟩ := h
    rfl
  · obtain ⟨p, s, l, n, rfl, S, g, k⟩ := h
    refine ⟨_, (pss_cons (ps_if (PW.pt (pw_or (pt_cmpR op_lt (pv 1) pe_int (nomark _)) (pw_or1 (pt_cmpR op_gt (pv 1) (pe_gint T.c_LONGEST_STEP rfl) (nomark _))))) (pss_one (ps_ret (pe_lst (pa_cons (pe_gint T.c_WRONG_NUMBER rfl) pa_nil)))) pss_nil) (pss_cons (ps_if (pt_cmpR op_gt (pe_op op_add (pe_fld (pv 0) rfl) (pv 1)) (pe_gint T.c_LAST_MINUTE rfl) (nomark _)) (pss_one (ps_ret (pe_lst (pa_cons (pe_gint T.c_TOO_LATE rfl) pa_nil)))) pss_nil) (pss_cons (ps_fld (pv 0) (pe_op op_add (pe_fld (pv 0) rfl) (pv 1)) rfl) (pss_one (ps_ret (pe_lst (pa_cons (pe_fld (pv 0) rfl) (pa_cons (pe_call G_as_bits (hr.mono (by decide)) rfl T.D_as_bits.m T.D_as_bits.F.kp T.D_as_bits.B .nil pass0 (pa_cons (pe_call G_overdue_visitors (hr.mono (by decide)) rfl T.D_overdue_visitors.m T.D_overdue_visitors.F.kp T.D_overdue_visitors.B .nil pass0 (pa_cons (pv 0) pa_nil)) pa_nil)) pa_nil)))))))), ?_⟩
    rw [res_minutes] at k
    obtain ⟨dx, h1⟩ := S.ship
    refine ⟨_, rfl, _, _, rfl, rfl, _, rfl, ite2 (fun c => ?_) (fun c => ?_)⟩
    · have c := of_decide_eq_true c
      rw [if_pos (by omega)] at k
      exact iteT ⟨(by show 1 ≤ sizeLine; decide), fun q hq => k.refuse S hq⟩
    have c := of_decide_eq_false (eq_false_of_ne_true c)
    refine ⟨_, rfl, _, _, rfl, rfl, _, rfl, ite2 (fun c2 => ?_) (fun c2 => ?_)⟩
    · have c2 := of_decide_eq_true c2
      rw [if_pos (by omega)] at k
      exact ⟨(by show 1 ≤ sizeLine; decide), fun q hq => k.refuse S hq⟩
    have c2 := of_decide_eq_false (eq_false_of_ne_true c2)
    rw [if_neg (by omega)] at k
    refine ⟨_, rfl, p, _, dx, _, _, rfl, h1, T.C_Ship.cl, T.n_Ship_minute, rfl, _, rfl, _, _, rfl, rfl, _, _, rfl, rfl, _, rfl, ite2 (fun c3 => ?_) (fun c3 => ?_)⟩
    · have c3 := of_decide_eq_true c3
      rw [if_pos (by omega)] at k
      exact ⟨(by show 1 ≤ sizeLine; decide), fun q hq => k.refuse S hq⟩
    have c3 := of_decide_eq_false (eq_false_of_ne_true c3)
    rw [if_neg (by omega)] at k
    refine ⟨_, rfl, p, _, dx, _, _, rfl, h1, T.C_Ship.cl, T.n_Ship_minute, rfl, _, rfl, _, _, rfl, rfl, _, rfl, p, _, dx, _, rfl, h1, T.C_Ship.cl, T.n_Ship_minute, (by show 7 < 1000; decide), ?_⟩
    have S1 : ShipAt a (upd H p (.ins a.C_Ship dx (sf { s with time := s.time + n } l.lg l.lp))) p { s with time := s.time + n } l := S.setShip rfl rfl upd_same fun b hb => upd_ne hb
    have g1 : Good { s with time := s.time + n } := g.gates rfl g.ng (Nat.le_add_right _ _) rfl
    refine ⟨_, rfl, p, _, dx, _, _, rfl, upd_same, T.C_Ship.cl, T.n_Ship_minute, rfl, _, rfl, p, _, l, rfl, S1, g1, fun H2 D sm hD hH => ⟨D, p, _, l, Km440.Ship.stay { s with time := s.time + n }, rfl, S1.same sm, g1, ?_, ?_, hH, ?_⟩⟩
    · rw [stay_eq]
      exact sel_nodup _ _
    · intro j hj
      rw [stay_eq] at hj
      exact sel_lt hj
    · refine ⟨(by show 2 ≤ sizeLine; decide), fun t ht => ?_⟩
      exact k.fin ((Chg.one S1 mem_p fun b hb => upd_ne hb).trans (Chg.same S1 sm)) ht (upd_free (sm.free ht)).2 rfl
def sp_set_sail (a : Adr) : Sp := fun vs H Q _ => ∃ p s l, ∃ t : Nat, vs = [.ref p, .int t] ∧ ShipAt a H p s l ∧ Good s ∧ Does a H p l Q (res s (.sail t))
theorem ok_set_sail (T : Txt K mg a) : FnOk P w K mg base CX0 3 a.f_set_sail a.d_set_sail ["ship", "t"] (sp_set_sail a) := by
  have G_is_no_coming_minute := ok_is_no_coming_minute (P := P) (w := w) (base := base) T
  refine T.D_set_sail.F.ok sc_set_sail (fun vs H Q E h => ?_) (fun cdv A outer st H vs Q E hr h => ?_)
  · obtain ⟨p, s, l, i, rfl, _⟩ := h
    rfl
  · obtain ⟨p, s, l, t, rfl, S, g, k⟩ := h
    refine ⟨_, (pss_cons (ps_if (pt_val (pe_call G_is_no_coming_minute (hr.mono (by decide)) rfl T.D_is_no_coming_minute.m T.D_is_no_coming_minute.F.kp T.D_is_no_coming_minute.B .nil pass0 (pa_cons (pv 0) (pa_cons (pv 1) pa_nil)))) (pss_one (ps_ret (pe_lst (pa_cons (pe_gint T.c_WRONG_NUMBER rfl) pa_nil)))) pss_nil) (pss_cons (ps_set (i := 2) sc_set_sail.nd rfl (Or.inl rfl) (pe_fld (pv 0) rfl)) (pss_cons (ps_fld (pv 0) (pv 1) rfl) (pss_one (ps_ret (pe_lst (pa_cons (pv 2) pa_nil))))))), ?_⟩
    rw [res_sail] at k
    obtain ⟨dx, h1⟩ := S.ship
    refine ⟨_, rfl, _, rfl, p, s, l, t, rfl, S, _, rfl, ite2 (fun c => ?_) (fun c => ?_)⟩
    · have c := of_decide_eq_true c
      rw [if_pos c] at k
      exact ⟨(by show 1 ≤ sizeLine; decide), fun q hq => k.refuse S hq⟩
    have c := of_decide_eq_false (eq_false_of_ne_true c)
    rw [if_neg c] at k
    refine ⟨_, rfl, p, _, dx, _, _, rfl, h1, T.C_Ship.cl, T.n_Ship_sail, rfl, _, rfl, _, rfl, p, _, dx, _, rfl, h1, T.C_Ship.cl, T.n_Ship_sail, (by show 7 < 1000; decide), ?_⟩
    have S1 : ShipAt a (upd H p (.ins a.C_Ship dx (sf { s with sail := t } l.lg l.lp))) p { s with sail := t } l := S.setShip rfl rfl upd_same fun b hb => upd_ne hb
    exact ⟨_, rfl, (by show 1 ≤ sizeLine; decide), fun r hr' => k.fin (Chg.one S1 mem_p fun b hb => upd_ne hb) hr' (upd_free hr').2 rfl⟩
def sp_give_more_time (a : Adr) : Sp := fun vs H Q _ => ∃ p s l, ∃ i t : Nat, vs = [.ref p, .int i, .int t] ∧ ShipAt a H p s l ∧ Good s ∧ Does a H p l Q (res s (.more i t))
theorem ok_give_more_time (T : Txt K mg a) : FnOk P w K mg base CX0 2 a.f_give_more_time a.d_give_more_time ["ship", "p", "t"] (sp_give_more_time a) := by
  have G_find_person := ok_find_person (P := P) (w := w) (base := base) T
  refine T.D_give_more_time.F.ok sc_give_more_time (fun vs H Q E h => ?_) (fun cdv A outer st H vs Q E hr h => ?_)
  · obtain ⟨p, s, l, i, t, rfl, _⟩ := h
    rfl
  · obtain ⟨p, s, l, i, t, rfl, S, g, k⟩ := h
    refine ⟨_, (pss_cons (ps_set (i := 3) sc_give_more_time.nd rfl (Or.inl rfl) (pe_call G_find_person (hr.mono (by decide)) rfl T.D_find_person.m T.D_find_person.F.kp T.D_find_person.B .nil pass0 (pa_cons (pv 0) (pa_cons (pv 1) pa_nil)))) (pss_cons (ps_if (pt_cmpR op_isN (pv 3) pe_non (nomark _)) (pss_one (ps_ret (pe_lst (pa_cons (pe_gint T.c_NONE_THERE rfl) pa_nil)))) pss_nil) (pss_cons (ps_if (pt_cmpR op_isN (pe_fld (pv 3) rfl) pe_non (nomark _)) (pss_one (ps_ret (pe_lst (pa_cons (pe_gint T.c_NOT_AS_THINGS_ARE rfl) pa_nil)))) pss_nil) (pss_cons (ps_if (PW.pt (pw_or (pt_cmpR op_lt (pv 2) (pe_fld (pv 3) rfl) (nomark _)) (pw_or1 (pt_cmpR op_gt (pv 2) (pe_gint T.c_LAST_MINUTE rfl) (nomark _))))) (pss_one (ps_ret (pe_lst (pa_cons (pe_gint T.c_WRONG_NUMBER rfl) pa_nil)))) pss_nil) (pss_cons (ps_set (i := 4) sc_give_more_time.nd rfl (Or.inl rfl) (pe_fld (pv 3) rfl)) (pss_cons (ps_fld (pv 3) (pv 2) rfl) (pss_one (ps_ret (pe_lst (pa_cons (pv 4) pa_nil)))))))))), ?_⟩
    rw [res_more] at k
    refine ⟨_, rfl, _, rfl, p, s, l, i, rfl, S, fun hi => ?_, fun q x hi hq hx hg => ?_⟩
    · rw [if_pos hi] at k
      exact ⟨_, rfl, rfl, _, rfl, iteT ⟨(by show 1 ≤ sizeLine; decide), fun q hq => k.refuse S hq⟩⟩
    rw [if_neg (by rw [hi]; decide), person_at hx] at k
    obtain ⟨d, hh⟩ := S.ps i q x hq hx
    refine ⟨_, rfl, rfl, _, rfl, iteF ⟨_, rfl, q, _, d, _, _, rfl, hh, T.C_Person.cl, T.n_Person_off_by, rfl, rfl, _, rfl, ?_⟩⟩
    rw [isN_opt]
    cases hv : x.visitor with
    | none =>
      rw [hv] at k
      exact iteT ⟨(by show 1 ≤ sizeLine; decide), fun q hq => k.refuse S hq⟩
    | some u =>
      rw [hv] at k
      dsimp only at k
      have hu : (pf i x).lookup ("off_by" : Str) = some (V.int u) := by
        show some (optV x.visitor) = _
        rw [hv]
        rfl
      refine iteF ⟨_, rfl, _, rfl, q, _, d, _, _, rfl, hh, T.C_Person.cl, T.n_Person_off_by, hu, _, _, rfl, rfl, _, rfl, ite2 (fun c => ?_) (fun c => ?_)⟩
      · have c := of_decide_eq_true c
        rw [if_pos (by omega)] at k
        exact iteT ⟨(by show 1 ≤ sizeLine; decide), fun q hq => k.refuse S hq⟩
      have c := of_decide_eq_false (eq_false_of_ne_true c)
      refine ⟨_, rfl, _, _, rfl, rfl, _, rfl, ite2 (fun c2 => ?_) (fun c2 => ?_)⟩
      · have c2 := of_decide_eq_true c2
        rw [if_pos (by omega)] at k
        exact ⟨(by show 1 ≤ sizeLine; decide), fun q hq => k.refuse S hq⟩
      have c2 := of_decide_eq_false (eq_false_of_ne_true c2)
      rw [if_neg (by omega)] at k
      refine ⟨_, rfl, q, _, d, _, _, rfl, hh, T.C_Person.cl, T.n_Person_off_by, hu, _, rfl, _, rfl, q, _, d, _, rfl, hh, T.C_Person.cl, T.n_Person_off_by, (by show 6 < 1000; decide), ?_⟩
      have S1 : ShipAt a (upd H q (.ins a.C_Person d (pf i { x with visitor := some t }))) p (s.set i { x with visitor := some t }) l := S.setPerson hq upd_same fun b hb => upd_ne hb
      exact ⟨_, rfl, (by show 1 ≤ sizeLine; decide), fun r hr' => k.fin (Chg.one S1 (mem_pa hq) fun b hb => upd_ne hb) hr' (upd_free hr').2 rfl⟩
end
end Gw
namespace Gw
open PySem PySem.Spec PyProof.Rows L2
/-- a question's end: nothing that was is changed, the numbers that are due in a new list -/
def Tells (H : Hp) (Q : VK) (ns : List Int) : Prop := ∀ (H' : Hp) (q : Addr), Same H H' → H q = none → H' q = some (.lst (ns.map V.int)) → Q (.ref q) H'
theorem Tells.fin {H H1 : Hp} {Q : VK} {ns : List Int} {xs : List V} {q : Addr} (D : Tells H Q ns) (sm : Same H H1) (hq : H1 q = none) (e : xs = ns.map V.int) : Q (.ref q) (upd H1 q (.lst xs)) := by
  subst e
  exact D _ q (sm.trans (Same.new hq)) (sm.free hq) upd_same
theorem Tells.now {H : Hp} {Q : VK} {ns : List Int} {xs : List V} {q : Addr} (D : Tells H Q ns) (hq : H q = none) (e : xs = ns.map V.int) : Q (.ref q) (upd H q (.lst xs)) := D.fin (Same.refl H) hq e
section
variable {P : Program} {w : World} {K : PySem.W.Frag} {mg : Str → Option Value} {base : Heap} {a : Adr}
def sp_one_more_or_zero (a : Adr) : Sp := fun vs H Q _ => ∃ o : Option Nat, vs = [optV o] ∧ Q (.int (one0 o)) H
theorem ok_one_more_or_zero (T : Txt K mg a) : FnOk P w K mg base CX0 1 a.f_one_more_or_zero a.d_one_more_or_zero ["number"] (sp_one_more_or_zero a) := by
  refine T.D_one_more_or_zero.F.ok sc_one_more_or_zero (fun vs H Q E h => ?_) (fun cdv A outer st H vs Q E hr h => ?_)
  · obtain ⟨o, rfl, _⟩ := h
    rfl
  · obtain ⟨o, rfl, k⟩ := h
    refine ⟨_, (pss_cons (ps_if (pt_cmpR op_isN (pv 0) pe_non (nomark _)) (pss_one (ps_ret pe_int)) pss_nil) (pss_one (ps_ret (pe_op op_add (pv 0) pe_int)))), ?_⟩
    cases o with
    | none => exact ⟨_, rfl, rfl, _, rfl, iteT k⟩
    | some n => exact ⟨_, rfl, rfl, _, rfl, iteF ⟨_, rfl, _, _, rfl, rfl, k⟩⟩
def sp_who_has (a : Adr) : Sp := fun vs H Q _ => ∃ p s l, ∃ c : Nat, vs = [.ref p, .int c] ∧ ShipAt a H p s l ∧ Good s ∧ Tells H Q (res s (.who c)).2
theorem place_bit {x : Km440.Person} (hg : x.gone = false) : place x = ((Km440.bit x.ashore : Nat) : Int) := by
  unfold place Km440.bit
  rw [hg]
  cases x.ashore <;> rfl
theorem ok_who_has (T : Txt K mg a) : FnOk P w K mg base CX0 2 a.f_who_has a.d_who_has ["ship", "card"] (sp_who_has a) := by
  have G_find_holder := ok_find_holder (P := P) (w := w) (base := base) T
  refine T.D_who_has.F.ok sc_who_has (fun vs H Q E h => ?_) (fun cdv A outer st H vs Q E hr h => ?_)
  · obtain ⟨p, s, l, c, rfl, _⟩ := h
    rfl
  · obtain ⟨p, s, l, c, rfl, S, g, k⟩ := h
    refine ⟨_, (pss_cons (ps_set (i := 2) sc_who_has.nd rfl (Or.inl rfl) (pe_call G_find_holder (hr.mono (by decide)) rfl T.D_find_holder.m T.D_find_holder.F.kp T.D_find_holder.B .nil pass0 (pa_cons (pv 0) (pa_cons (pv 1) pa_nil)))) (pss_cons (ps_if (pt_cmpR op_isN (pv 2) pe_non (nomark _)) (pss_one (ps_ret (pe_lst (pa_cons (pe_gint T.c_NONE_THERE rfl) pa_nil)))) pss_nil) (pss_one (ps_ret (pe_lst (pa_cons (pe_fld (pv 2) rfl) (pa_cons (pe_fld (pv 2) rfl) pa_nil))))))), ?_⟩
    rw [ans_who] at k
    refine ⟨_, rfl, _, rfl, p, s, l, c, rfl, S, fun hn => ?_, fun m q x hm hq hx hg => ?_⟩
    · rw [hn] at k
      exact ⟨_, rfl, rfl, _, rfl, iteT ⟨(by show 1 ≤ sizeLine; decide), fun q hq => k.now hq rfl⟩⟩
    · rw [hm] at k
      dsimp only at k
      rw [person_at hx] at k
      obtain ⟨d, hh⟩ := S.ps m q x hq hx
      refine ⟨_, rfl, rfl, _, rfl, iteF ⟨_, rfl, q, _, d, _, _, rfl, hh, T.C_Person.cl, T.n_Person_number, rfl, _, rfl, q, _, d, _, _, rfl, hh, T.C_Person.cl, T.n_Person_place, rfl, (by show 2 ≤ sizeLine; decide), fun t ht => k.now ht ?_⟩⟩
      rw [place_bit hg]
      rfl
def sp_where_is (a : Adr) : Sp := fun vs H Q _ => ∃ p s l, ∃ i : Nat, vs = [.ref p, .int i] ∧ ShipAt a H p s l ∧ Good s ∧ Tells H Q (res s (.where_ i)).2
theorem ok_where_is (T : Txt K mg a) : FnOk P w K mg base CX0 2 a.f_where_is a.d_where_is ["ship", "p"] (sp_where_is a) := by
  have G_find_person := ok_find_person (P := P) (w := w) (base := base) T
  have G_one_more_or_zero := ok_one_more_or_zero (P := P) (w := w) (base := base) T
  refine T.D_where_is.F.ok sc_where_is (fun vs H Q E h => ?_) (fun cdv A outer st H vs Q E hr h => ?_)
  · obtain ⟨p, s, l, c, rfl, _⟩ := h
    rfl
  · obtain ⟨p, s, l, i, rfl, S, g, k⟩ := h
    refine ⟨_, (pss_cons (ps_set (i := 2) sc_where_is.nd rfl (Or.inl rfl) (pe_call G_find_person (hr.mono (by decide)) rfl T.D_find_person.m T.D_find_person.F.kp T.D_find_person.B .nil pass0 (pa_cons (pv 0) (pa_cons (pv 1) pa_nil)))) (pss_cons (ps_if (pt_cmpR op_isN (pv 2) pe_non (nomark _)) (pss_one (ps_ret (pe_lst (pa_cons (pe_gint T.c_NONE_THERE rfl) pa_nil)))) pss_nil) (pss_cons (ps_set (i := 3) sc_where_is.nd rfl (Or.inl rfl) (pe_op op_sub (pe_fld (pv 0) rfl) (pe_fld (pv 2) rfl))) (pss_one (ps_ret (pe_lst (pa_cons (pe_fld (pv 2) rfl) (pa_cons (pv 3) (pa_cons (pe_fld (pv 2) rfl) (pa_cons (pe_call G_one_more_or_zero (hr.mono (by decide)) rfl T.D_one_more_or_zero.m T.D_one_more_or_zero.F.kp T.D_one_more_or_zero.B .nil pass0 (pa_cons (pe_fld (pv 2) rfl) pa_nil)) (pa_cons (pe_call G_one_more_or_zero (hr.mono (by decide)) rfl T.D_one_more_or_zero.m T.D_one_more_or_zero.F.kp T.D_one_more_or_zero.B .nil pass0 (pa_cons (pe_fld (pv 2) rfl) pa_nil)) pa_nil))))))))))), ?_⟩
    rw [ans_where] at k
    refine ⟨_, rfl, _, rfl, p, s, l, i, rfl, S, fun hi => ?_, fun q x hi hq hx hg => ?_⟩
    · rw [if_pos hi] at k
      exact ⟨_, rfl, rfl, _, rfl, iteT ⟨(by show 1 ≤ sizeLine; decide), fun q hq => k.now hq rfl⟩⟩
    rw [if_neg (by rw [hi]; decide), person_at hx] at k
    obtain ⟨dx, h1⟩ := S.ship
    obtain ⟨d, hh⟩ := S.ps i q x hq hx
    refine ⟨_, rfl, rfl, _, rfl, iteF ⟨_, rfl, p, _, dx, _, _, rfl, h1, T.C_Ship.cl, T.n_Ship_minute, rfl, _, rfl, q, _, d, _, _, rfl, hh, T.C_Person.cl, T.n_Person_since, rfl, _, _, rfl, rfl, ?_⟩⟩
    refine ⟨_, rfl, q, _, d, _, _, rfl, hh, T.C_Person.cl, T.n_Person_place, rfl, _, rfl, _, rfl, q, _, d, _, _, rfl, hh, T.C_Person.cl, T.n_Person_card, rfl, _, rfl, q, _, d, _, _, rfl, hh, T.C_Person.cl, T.n_Person_guardian, rfl, x.with_, rfl,
      _, rfl, q, _, d, _, _, rfl, hh, T.C_Person.cl, T.n_Person_off_by, rfl, x.visitor, rfl, (by show 5 ≤ sizeLine; decide), fun t ht => k.now ht ?_⟩
    have := g.si x (List.mem_of_getElem? hx)
    rw [place_bit hg]
    show [V.int _, V.int ((s.time : Int) - (x.since : Int)), _, _, _] = [V.int _, V.int ((s.time - x.since : Nat) : Int), _, _, _]
    rw [Int.ofNat_sub this]
def sp_count_aboard (a : Adr) : Sp := fun vs H Q _ => ∃ p s l, vs = [.ref p] ∧ ShipAt a H p s l ∧ Good s ∧ Tells H Q (res s .count).2
theorem ok_count_aboard (T : Txt K mg a) : FnOk P w K mg base CX0 3 a.f_count_aboard a.d_count_aboard ["ship"] (sp_count_aboard a) := by
  have G_persons_aboard := ok_persons_aboard (P := P) (w := w) (base := base) T
  have G_as_bits := ok_as_bits (P := P) (w := w) (base := base) T
  refine T.D_count_aboard.F.ok sc_count_aboard (fun vs H Q E h => ?_) (fun cdv A outer st H vs Q E hr h => ?_)
  · obtain ⟨p, s, l, rfl, _⟩ := h
    rfl
  · obtain ⟨p, s, l, rfl, S, g, k⟩ := h
    refine ⟨_, (pss_cons (ps_set (i := 1) sc_count_aboard.nd rfl (Or.inl rfl) (pe_call G_persons_aboard (hr.mono (by decide)) rfl T.D_persons_aboard.m T.D_persons_aboard.F.kp T.D_persons_aboard.B .nil pass0 (pa_cons (pv 0) pa_nil))) (pss_one (ps_ret (pe_lst (pa_cons (pe_callB call_len_seq (by rfl) T.x_len PySem.boot_len (pa_cons (pv 1) pa_nil)) (pa_cons (pe_call G_as_bits (hr.mono (by decide)) rfl T.D_as_bits.m T.D_as_bits.F.kp T.D_as_bits.B .nil pass0 (pa_cons (pv 1) pa_nil)) (pa_cons (pe_op op_sub (pe_fld (pv 0) rfl) (pe_callB call_len_seq (by rfl) T.x_len PySem.boot_len (pa_cons (pv 1) pa_nil))) pa_nil))))))), ?_⟩
    rw [ans_count] at k
    refine ⟨_, rfl, p, s, l, rfl, S, g, fun H1 D sm hD hH => ?_⟩
    have S1 := S.same sm
    obtain ⟨dx, h1⟩ := S1.ship
    refine ⟨_, rfl, D, _, rfl, .inl (SqL.of hH), _, rfl, D, p, s, l, s.here, rfl, S1, g, (by rw [here_eq]; exact sel_nodup _ _), (fun j hj => by rw [here_eq] at hj; exact sel_lt hj), hH,
      _, rfl, p, _, dx, _, _, rfl, h1, T.C_Ship.cl, T.n_Ship_most, rfl, _, rfl, D, _, rfl, .inl (SqL.of hH), _, _, rfl, rfl, (by show 3 ≤ sizeLine; decide), fun t ht => k.fin sm ht ?_⟩
    rw [refs_length]
    show [_, _, V.int ((s.most : Int) - (s.here.length : Int))] = [_, _, V.int ((s.most - s.here.length : Nat) : Int)]
    rw [Int.ofNat_sub g.here]
def sp_can_start (a : Adr) : Sp := fun vs H Q _ => ∃ m t : Nat, vs = [.int m, .int t] ∧ Q (.bl (!decide (m = 0 ∨ 24 < m ∨ 100000 < t))) H
theorem ok_can_start (T : Txt K mg a) : FnOk P w K mg base CX0 1 a.f_can_start a.d_can_start ["most", "sail"] (sp_can_start a) := by
  refine T.D_can_start.F.ok sc_can_start (fun vs H Q E h => ?_) (fun cdv A outer st H vs Q E hr h => ?_)
  · obtain ⟨m, t, rfl, _⟩ := h
    rfl
  · obtain ⟨m, t, rfl, k⟩ := h
    refine ⟨_, (pss_one (ps_ret (pe_and (pe_cmpR op_ge (pv 0) pe_int (nomark _)) (pe_and (pe_cmpR op_le (pv 0) (pe_gint T.c_MOST_PERSONS rfl) (nomark _)) (pe_one (pe_cmpR op_le (pv 1) (pe_gint T.c_LAST_MINUTE rfl) (nomark _))))))), ?_⟩
    refine ⟨_, rfl, _, _, rfl, rfl, _, rfl, ite2 (fun c => ?_) (fun c => ?_)⟩
    · have c := of_decide_eq_true c
      refine ⟨_, rfl, _, _, rfl, rfl, _, rfl, ite2 (fun c2 => ?_) (fun c2 => ?_)⟩
      · have c2 := of_decide_eq_true c2
        refine ⟨_, rfl, _, _, rfl, rfl, ?_⟩
        show Q (V.bl (decide ((t : Int) ≤ 100000))) H
        rw [show decide ((t : Int) ≤ 100000) = !decide (m = 0 ∨ 24 < m ∨ 100000 < t) from by rw [← decide_not]; exact decide_eq_decide.mpr (by omega)]
        exact k
      · have c2 := of_decide_eq_false (eq_false_of_ne_true c2)
        rw [decide_eq_true (by omega)] at k
        exact k
    · have c := of_decide_eq_false (eq_false_of_ne_true c)
      rw [decide_eq_true (by omega)] at k
      exact k
def sp_Ship_init (a : Adr) : Sp := fun vs H Q _ => ∃ p dx, ∃ m t : Nat, vs = [.ref p, .int m, .int t] ∧ H p = some (.ins a.C_Ship dx []) ∧ ∀ H' l, ShipAt a H' p (Km440.opened m t) l → (∀ b o, H b = some o → b ≠ p → H' b = some o) → (∀ b, b ∈ l.foot p → b = p ∨ H b = none) → Q .non H'
theorem ok_Ship_init (T : Txt K mg a) : FnOk P w K mg base CX0 1 a.f_Ship_init a.d_Ship_init ["self", "most", "sail"] (sp_Ship_init a) := by
  refine T.D_Ship_init.F.ok sc_Ship_init (fun vs H Q E h => ?_) (fun cdv A outer st H vs Q E hr h => ?_)
  · obtain ⟨p, dx, m, t, rfl, _⟩ := h
    rfl
  · obtain ⟨p, dx, m, t, rfl, h1, k⟩ := h
    refine ⟨_, (pss_cons (ps_fld (pv 0) (pv 1) rfl) (pss_cons (ps_fld (pv 0) (pv 2) rfl) (pss_cons (ps_fld (pv 0) pe_int rfl) (pss_cons (ps_fld (pv 0) (pe_lst pa_nil) rfl) (pss_cons (ps_fld (pv 0) (pe_lst pa_nil) rfl) (pss_cons (ps_fld (pv 0) pe_int rfl) (pss_one (ps_fld (pv 0) pe_int rfl)))))))), ?_⟩
    refine ⟨_, rfl, _, rfl, p, _, dx, _, rfl, h1, T.C_Ship.cl, T.n_Ship_most, (by show 0 < 1000; decide), ?_⟩
    refine ⟨_, rfl, _, rfl, p, _, dx, _, rfl, upd_same, T.C_Ship.cl, T.n_Ship_sail, (by show 1 < 1000; decide), ?_⟩
    refine ⟨_, rfl, p, _, dx, _, rfl, upd_same, T.C_Ship.cl, T.n_Ship_minute, (by show 2 < 1000; decide), ?_⟩
    refine ⟨Nat.zero_le _, fun lg hlg => ?_⟩
    have plg : p ≠ lg := ne_of_none upd_same hlg
    refine ⟨_, rfl, p, _, dx, _, rfl, (by rw [upd_ne plg]; exact upd_same), T.C_Ship.cl, T.n_Ship_gates, (by show 3 < 1000; decide), ?_⟩
    refine ⟨Nat.zero_le _, fun lp hlp => ?_⟩
    have plp : p ≠ lp := ne_of_none upd_same hlp
    have hlp1 := (upd_free hlp).2
    have hgp : lp ≠ lg := (upd_free hlp1).1
    refine ⟨_, rfl, p, _, dx, _, rfl, (by rw [upd_ne plp]; exact upd_same), T.C_Ship.cl, T.n_Ship_persons, (by show 4 < 1000; decide), ?_⟩
    refine ⟨_, rfl, p, _, dx, _, rfl, upd_same, T.C_Ship.cl, T.n_Ship_cards_given, (by show 5 < 1000; decide), ?_⟩
    refine ⟨_, rfl, p, _, dx, _, rfl, upd_same, T.C_Ship.cl, T.n_Ship_cards_shown_in_vain, (by show 6 < 1000; decide), ?_⟩
    refine k _ ⟨lg, lp, [], []⟩ ⟨⟨dx, upd_same⟩, ?_, ?_, Ne.symm hgp, List.nodup_nil, List.nodup_nil, rfl, rfl, fun i q g e => by simp at e, fun i q g e => by simp at e⟩ ?_ ?_
    · rw [upd_ne (Ne.symm plg), upd_ne (Ne.symm plg), upd_ne (Ne.symm plg), upd_ne (Ne.symm hgp), upd_ne (Ne.symm plg)]
      exact upd_same
    · rw [upd_ne (Ne.symm plp), upd_ne (Ne.symm plp), upd_ne (Ne.symm plp)]
      exact upd_same
    · have hlg0 : H lg = none := (upd_free (upd_free (upd_free hlg).2).2).2
      have hlp0 : H lp = none := (upd_free (upd_free (upd_free (upd_free hlp1).2).2).2).2
      intro b o e hb
      rw [upd_ne hb, upd_ne hb, upd_ne hb, upd_ne (ne_of_none e hlp0), upd_ne hb, upd_ne (ne_of_none e hlg0), upd_ne hb, upd_ne hb, upd_ne hb]
      exact e
    · have hlg0 : H lg = none := (upd_free (upd_free (upd_free hlg).2).2).2
      have hlp0 : H lp = none := (upd_free (upd_free (upd_free (upd_free hlp1).2).2).2).2
      intro b hb
      have hb : b ∈ [p, lg, lp] := hb
      simp at hb
      rcases hb with z | z | z
      · exact .inl z
      · exact .inr (by rw [z]; exact hlg0)
      · exact .inr (by rw [z]; exact hlp0)
end
end Gw
namespace Gw
open PySem PySem.Spec PyProof.Rows L2
theorem Tells.later {H H1 : Hp} {Q : VK} {ns : List Int} (D : Tells H Q ns) (sm : Same H H1) : Tells H1 Q ns := fun H' q s h e => D H' q (sm.trans s) (sm.free h) e
section
variable {P : Program} {w : World} {K : PySem.W.Frag} {mg : Str → Option Value} {base : Heap} {a : Adr}
def sp_one_if (a : Adr) : Sp := fun vs H Q _ => ∃ b : Bool, vs = [.bl b] ∧ Q (.int (Km440.bit b : Nat)) H
theorem ok_one_if (T : Txt K mg a) : FnOk P w K mg base CX0 1 a.f_one_if a.d_one_if ["truth"] (sp_one_if a) := by
  refine T.D_one_if.F.ok sc_one_if (fun vs H Q E h => ?_) (fun cdv A outer st H vs Q E hr h => ?_)
  · obtain ⟨b, rfl, _⟩ := h
    rfl
  · obtain ⟨b, rfl, k⟩ := h
    refine ⟨_, (pss_one (ps_ret (pe_ifExp (pt_val (pv 0)) pe_int pe_int))), ?_⟩
    cases b with
    | true => exact ⟨_, rfl, _, rfl, iteT k⟩
    | false => exact ⟨_, rfl, _, rfl, iteF k⟩
def sp_told_as_bits (a : Adr) : Sp := fun vs H Q _ => ∃ D p s l js, vs = [.ref D] ∧ ShipAt a H p s l ∧ Good s ∧ js.Nodup ∧ (∀ j ∈ js, j < s.persons.length) ∧ H D = some (.lst (refs l js)) ∧ Tells H Q [((js.length : Nat) : Int), ((Km440.bits js : Nat) : Int)]
theorem ok_told_as_bits (T : Txt K mg a) : FnOk P w K mg base CX0 2 a.f_told_as_bits a.d_told_as_bits ["persons"] (sp_told_as_bits a) := by
  have G_as_bits := ok_as_bits (P := P) (w := w) (base := base) T
  refine T.D_told_as_bits.F.ok sc_told_as_bits (fun vs H Q E h => ?_) (fun cdv A outer st H vs Q E hr h => ?_)
  · obtain ⟨D, p, s, l, js, rfl, _⟩ := h
    rfl
  · obtain ⟨D, p, s, l, js, rfl, S, g, hp, hj, hD, k⟩ := h
    refine ⟨_, (pss_one (ps_ret (pe_lst (pa_cons (pe_callB call_len_seq (by rfl) T.x_len PySem.boot_len (pa_cons (pv 0) pa_nil)) (pa_cons (pe_call G_as_bits (hr.mono (by decide)) rfl T.D_as_bits.m T.D_as_bits.F.kp T.D_as_bits.B .nil pass0 (pa_cons (pv 0) pa_nil)) pa_nil))))), ?_⟩
    refine ⟨_, rfl, D, _, rfl, .inl (SqL.of hD), _, rfl, D, p, s, l, js, rfl, S, g, hp, hj, hD, (by show 2 ≤ sizeLine; decide), fun t ht => k.now ht ?_⟩
    rw [refs_length]
    rfl
theorem missing_nd {s : Km440.Ship} : s.missing.Nodup ∧ ∀ j ∈ s.missing, j < s.persons.length := by rw [missing_eq]; exact ⟨sel_nodup _ _, fun j hj => sel_lt hj⟩
theorem visitors_nd {s : Km440.Ship} : s.visitors.Nodup ∧ ∀ j ∈ s.visitors, j < s.persons.length := by rw [visitors_eq]; exact ⟨sel_nodup _ _, fun j hj => sel_lt hj⟩
theorem stay_nd {s : Km440.Ship} : s.stay.Nodup ∧ ∀ j ∈ s.stay, j < s.persons.length := by rw [stay_eq]; exact ⟨sel_nodup _ _, fun j hj => sel_lt hj⟩
theorem alone_nd {s : Km440.Ship} : s.alone.Nodup ∧ ∀ j ∈ s.alone, j < s.persons.length := by rw [alone_eq]; exact ⟨sel_nodup _ _, fun j hj => sel_lt hj⟩
theorem lost_nd {s : Km440.Ship} : s.lost.Nodup ∧ ∀ j ∈ s.lost, j < s.persons.length := by rw [lost_eq]; exact ⟨sel_nodup _ _, fun j hj => sel_lt hj⟩
theorem children_nd {s : Km440.Ship} {i : Nat} : (s.children i).Nodup ∧ ∀ j ∈ s.children i, j < s.persons.length := by rw [children_eq]; exact ⟨sel_nodup _ _, fun j hj => sel_lt hj⟩
def sp_who_is_missing (a : Adr) : Sp := fun vs H Q _ => ∃ p s l, vs = [.ref p] ∧ ShipAt a H p s l ∧ Good s ∧ Tells H Q (res s .missing).2
theorem ok_who_is_missing (T : Txt K mg a) : FnOk P w K mg base CX0 3 a.f_who_is_missing a.d_who_is_missing ["ship"] (sp_who_is_missing a) := by
  have G_told_as_bits := ok_told_as_bits (P := P) (w := w) (base := base) T
  have G_missing_persons := ok_missing_persons (P := P) (w := w) (base := base) T
  refine T.D_who_is_missing.F.ok sc_who_is_missing (fun vs H Q E h => ?_) (fun cdv A outer st H vs Q E hr h => ?_)
  · obtain ⟨p, s, l, rfl, _⟩ := h
    rfl
  · obtain ⟨p, s, l, rfl, S, g, k⟩ := h
    refine ⟨_, (pss_one (ps_ret (pe_call G_told_as_bits (hr.mono (by decide)) rfl T.D_told_as_bits.m T.D_told_as_bits.F.kp T.D_told_as_bits.B .nil pass0 (pa_cons (pe_call G_missing_persons (hr.mono (by decide)) rfl T.D_missing_persons.m T.D_missing_persons.F.kp T.D_missing_persons.B .nil pass0 (pa_cons (pv 0) pa_nil)) pa_nil)))), ?_⟩
    rw [ans_missing] at k
    exact ⟨_, rfl, p, s, l, rfl, S, g, fun H1 D sm hD hH => ⟨D, p, s, l, s.missing, rfl, S.same sm, g, missing_nd.1, missing_nd.2, hH, k.later sm⟩⟩
def sp_which_visitors (a : Adr) : Sp := fun vs H Q _ => ∃ p s l, vs = [.ref p] ∧ ShipAt a H p s l ∧ Good s ∧ Tells H Q (res s .visitors).2
theorem ok_which_visitors (T : Txt K mg a) : FnOk P w K mg base CX0 5 a.f_which_visitors a.d_which_visitors ["ship"] (sp_which_visitors a) := by
  have G_visitors_aboard := ok_visitors_aboard (P := P) (w := w) (base := base) T
  have G_as_bits := ok_as_bits (P := P) (w := w) (base := base) T
  have G_overdue_visitors := ok_overdue_visitors (P := P) (w := w) (base := base) T
  refine T.D_which_visitors.F.ok sc_which_visitors (fun vs H Q E h => ?_) (fun cdv A outer st H vs Q E hr h => ?_)
  · obtain ⟨p, s, l, rfl, _⟩ := h
    rfl
  · obtain ⟨p, s, l, rfl, S, g, k⟩ := h
    refine ⟨_, (pss_cons (ps_set (i := 1) sc_which_visitors.nd rfl (Or.inl rfl) (pe_call G_visitors_aboard (hr.mono (by decide)) rfl T.D_visitors_aboard.m T.D_visitors_aboard.F.kp T.D_visitors_aboard.B .nil pass0 (pa_cons (pv 0) pa_nil))) (pss_one (ps_ret (pe_lst (pa_cons (pe_callB call_len_seq (by rfl) T.x_len PySem.boot_len (pa_cons (pv 1) pa_nil)) (pa_cons (pe_call G_as_bits (hr.mono (by decide)) rfl T.D_as_bits.m T.D_as_bits.F.kp T.D_as_bits.B .nil pass0 (pa_cons (pv 1) pa_nil)) (pa_cons (pe_call G_as_bits (hr.mono (by decide)) rfl T.D_as_bits.m T.D_as_bits.F.kp T.D_as_bits.B .nil pass0 (pa_cons (pe_call G_overdue_visitors (hr.mono (by decide)) rfl T.D_overdue_visitors.m T.D_overdue_visitors.F.kp T.D_overdue_visitors.B .nil pass0 (pa_cons (pv 0) pa_nil)) pa_nil)) pa_nil))))))), ?_⟩
    rw [ans_visitors] at k
    refine ⟨_, rfl, p, s, l, rfl, S, g, fun H1 D sm hD hH => ⟨_, rfl, D, _, rfl, .inl (SqL.of hH), _, rfl, D, p, s, l, s.visitors, rfl, S.same sm, g, visitors_nd.1, visitors_nd.2, hH, _, rfl, p, s, l, rfl, S.same sm, g, fun H2 D2 sm2 hD2 hH2 =>
      ⟨D2, p, s, l, s.stay, rfl, (S.same sm).same sm2, g, stay_nd.1, stay_nd.2, hH2, (by show 3 ≤ sizeLine; decide), fun t ht => k.fin (sm.trans sm2) ht ?_⟩⟩⟩
    rw [refs_length]
    rfl
def sp_which_children (a : Adr) : Sp := fun vs H Q _ => ∃ p s l, ∃ i : Nat, vs = [.ref p, .int i] ∧ ShipAt a H p s l ∧ Good s ∧ Tells H Q (res s (.children i)).2
theorem ok_which_children (T : Txt K mg a) : FnOk P w K mg base CX0 3 a.f_which_children a.d_which_children ["ship", "p"] (sp_which_children a) := by
  have G_find_person := ok_find_person (P := P) (w := w) (base := base) T
  have G_told_as_bits := ok_told_as_bits (P := P) (w := w) (base := base) T
  have G_children_of := ok_children_of (P := P) (w := w) (base := base) T
  refine T.D_which_children.F.ok sc_which_children (fun vs H Q E h => ?_) (fun cdv A outer st H vs Q E hr h => ?_)
  · obtain ⟨p, s, l, i, rfl, _⟩ := h
    rfl
  · obtain ⟨p, s, l, i, rfl, S, g, k⟩ := h
    refine ⟨_, (pss_cons (ps_set (i := 2) sc_which_children.nd rfl (Or.inl rfl) (pe_call G_find_person (hr.mono (by decide)) rfl T.D_find_person.m T.D_find_person.F.kp T.D_find_person.B .nil pass0 (pa_cons (pv 0) (pa_cons (pv 1) pa_nil)))) (pss_cons (ps_if (pt_cmpR op_isN (pv 2) pe_non (nomark _)) (pss_one (ps_ret (pe_lst (pa_cons (pe_gint T.c_NONE_THERE rfl) pa_nil)))) pss_nil) (pss_one (ps_ret (pe_call G_told_as_bits (hr.mono (by decide)) rfl T.D_told_as_bits.m T.D_told_as_bits.F.kp T.D_told_as_bits.B .nil pass0 (pa_cons (pe_call G_children_of (hr.mono (by decide)) rfl T.D_children_of.m T.D_children_of.F.kp T.D_children_of.B .nil pass0 (pa_cons (pv 0) (pa_cons (pv 2) pa_nil))) pa_nil)))))), ?_⟩
    rw [ans_children] at k
    refine ⟨_, rfl, _, rfl, p, s, l, i, rfl, S, fun hi => ?_, fun q x hi hq hx hg => ?_⟩
    · rw [if_pos hi] at k
      exact ⟨_, rfl, rfl, _, rfl, iteT ⟨(by show 1 ≤ sizeLine; decide), fun q hq => k.now hq rfl⟩⟩
    rw [if_neg (by rw [hi]; decide)] at k
    exact ⟨_, rfl, rfl, _, rfl, iteF ⟨_, rfl, _, rfl, p, s, l, i, q, x, rfl, S, g, hq, hx, fun H1 D sm hD hH => ⟨D, p, s, l, s.children i, rfl, S.same sm, g, children_nd.1, children_nd.2, hH, k.later sm⟩⟩⟩
def sp_which_group (a : Adr) : Sp := fun vs H Q _ => ∃ p s l, ∃ i : Nat, vs = [.ref p, .int i] ∧ ShipAt a H p s l ∧ Good s ∧ Tells H Q (res s (.group i)).2
theorem group_eq {s : Km440.Ship} (g : Good s) (i : Nat) : s.grow 24 [i] = i :: (s.children i).filter (fun j => fHere (s.persons.getD j noOne)) := by
  rw [grow_eq g, here_eq, children_eq, sel_filter (fun x => !x.gone && x.with_ == some i) fHere]
  have e : (fun c => (s.person c).with_ == some i) = (fun c => (fun x : Km440.Person => x.with_ == some i) (s.persons.getD c noOne)) := rfl
  rw [e, sel_filter fHere (fun x => x.with_ == some i)]
  congr 1
  apply sel_congr
  intro x _
  unfold fHere
  cases x.gone <;> cases x.ashore <;> cases (x.with_ == some i) <;> rfl
theorem group_nd {s : Km440.Ship} (g : Good s) {i : Nat} (hi : i < s.persons.length) : (i :: (s.children i).filter (fun j => fHere (s.persons.getD j noOne))).Nodup ∧ ∀ j ∈ i :: (s.children i).filter (fun j => fHere (s.persons.getD j noOne)), j < s.persons.length := by
  refine ⟨List.nodup_cons.mpr ⟨fun m => ?_, List.Pairwise.sublist List.filter_sublist children_nd.1⟩, fun j hj => ?_⟩
  · have m := (List.mem_filter.mp m).1
    rw [children_eq] at m
    have m2 := (List.mem_filter.mp m).2
    have hx := List.getElem?_eq_getElem hi
    rw [getD_at hx] at m2
    have hw : (s.persons[i]).with_ = some i := eq_of_beq (Bool.and_eq_true .. ▸ m2).2
    obtain ⟨y, hy, hn, _⟩ := g.wi i _ i hx hw
    rw [hx] at hy
    have hy := Option.some.inj hy
    rw [← hy, hw] at hn
    cases hn
  · rcases List.mem_cons.mp hj with e | e
    · rw [e]; exact hi
    · exact children_nd.2 j (List.mem_filter.mp e).1
theorem ok_which_group (T : Txt K mg a) : FnOk P w K mg base CX0 3 a.f_which_group a.d_which_group ["ship", "p"] (sp_which_group a) := by
  have G_find_person := ok_find_person (P := P) (w := w) (base := base) T
  have G_told_as_bits := ok_told_as_bits (P := P) (w := w) (base := base) T
  have G_children_of := ok_children_of (P := P) (w := w) (base := base) T
  refine T.D_which_group.F.ok sc_which_group (fun vs H Q E h => ?_) (fun cdv A outer st H vs Q E hr h => ?_)
  · obtain ⟨p, s, l, i, rfl, _⟩ := h
    rfl
  · obtain ⟨p, s, l, i, rfl, S, g, k⟩ := h
    refine ⟨_, (pss_cons (ps_set (i := 2) sc_which_group.nd rfl (Or.inl rfl) (pe_call G_find_person (hr.mono (by decide)) rfl T.D_find_person.m T.D_find_person.F.kp T.D_find_person.B .nil pass0 (pa_cons (pv 0) (pa_cons (pv 1) pa_nil)))) (pss_cons (ps_if (pt_cmpR op_isN (pv 2) pe_non (nomark _)) (pss_one (ps_ret (pe_lst (pa_cons (pe_gint T.c_NONE_THERE rfl) pa_nil)))) pss_nil) (pss_cons (ps_setLc (i := 3) rfl sc_which_group.nd rfl rfl (sw_true rfl rfl rfl rfl) (tt := (tTest (tOp rEq (tFld K (tVar 4) "place") (tC (.int (0)))))) (te := (tVar 4)) (pi_list (pe_call G_children_of (hr.mono (by decide)) rfl T.D_children_of.m T.D_children_of.F.kp T.D_children_of.B .nil pass0 (pa_cons (pv 0) (pa_cons (pv 2) pa_nil)))) (blkOk_by (own := [("child", 4)]) rfl) (fun _ _ _ _ _ => pg_name (i := 4) sc_which_group.nd rfl (Or.inl rfl)) (fun _ _ _ _ _ => pts_one (pt_cmpR op_eq (pe_fld (pv 4) rfl) (pe_gint T.c_ABOARD rfl) (nomark _))) (fun _ _ _ _ _ => (pv 4))) (pss_one (ps_ret (pe_call G_told_as_bits (hr.mono (by decide)) rfl T.D_told_as_bits.m T.D_told_as_bits.F.kp T.D_told_as_bits.B .nil pass0 (pa_cons (pe_op op_cat (pe_lst (pa_cons (pv 2) pa_nil)) (pv 3)) pa_nil))))))), ?_⟩
    rw [ans_group] at k
    refine ⟨_, rfl, _, rfl, p, s, l, i, rfl, S, fun hi => ?_, fun q x hi hq hx hg => ?_⟩
    · rw [if_pos hi] at k
      exact ⟨_, rfl, rfl, _, rfl, iteT ⟨(by show 1 ≤ sizeLine; decide), fun q hq => k.now hq rfl⟩⟩
    rw [if_neg (by rw [hi]; decide), group_eq g] at k
    have hil : i < s.persons.length := (List.getElem?_eq_some_iff.mp hx).1
    refine ⟨_, rfl, rfl, _, rfl, iteF ⟨_, rfl, _, rfl, p, s, l, i, q, x, rfl, S, g, hq, hx, fun H1 D1 sm1 hD1 hH1 => ⟨D1, rfl, ⟨_, SqL.of hH1⟩, fun D2 hD2 =>
      lc_pick (by show 4 < 5; decide) hD2 (SqL.of hH1) (by rw [children_eq]; exact sel_len g) (fun j => fHere (s.persons.getD j noOne)) (fun j hj H' sm R hR => ?_) (fun H2 sm2 hH2 => ?_)⟩⟩⟩
    · obtain ⟨r, hr'⟩ := S.pa_some (children_nd.2 j hj)
      obtain ⟨y, hy, d, hh⟩ := S.person hr'
      rw [getD_get hr']
      refine ⟨_, rfl, r, _, d, _, _, rfl, sm _ _ (sm1 _ _ hh), T.C_Person.cl, T.n_Person_place, rfl, rfl, _, rfl, ?_⟩
      rw [place_here, ← getD_at hy]
      exact hR H' (Same.refl _)
    · have sm := sm1.trans sm2
      refine ⟨_, rfl, (by show 1 ≤ sizeLine; decide), fun L hL => ⟨_, rfl, L, D2, _, _, rfl, rfl, upd_same, (by rw [upd_ne (ne_of_none hH2 hL)]; exact hH2), ?_, fun D3 hD3 => ?_⟩⟩
      · rw [refs_length]
        have h1 := List.length_filter_le (fun j => fHere (s.persons.getD j noOne)) (s.children i)
        have h2 : (s.children i).length ≤ 1000 := by rw [children_eq]; exact sel_len g
        have h3 : 1 + ((s.children i).filter (fun j => fHere (s.persons.getD j noOne))).length ≤ 1001 := by omega
        exact Nat.le_trans h3 (by decide)
      · have sm3 : Same H (upd (upd H2 L (.lst [V.ref q])) D3 (.lst ([V.ref q] ++ refs l ((s.children i).filter (fun j => fHere (s.persons.getD j noOne)))))) := (sm.trans (Same.new hL)).trans (Same.new hD3)
        refine ⟨D3, p, s, l, _, rfl, S.same sm3, g, (group_nd g hil).1, (group_nd g hil).2, ?_, k.later sm3⟩
        rw [upd_same]
        unfold refs
        rw [List.map_cons, getD_get hq]
        rfl
def sp_children_in (a : Adr) : Sp := fun vs H Q _ => ∃ p s l, ∃ k : Int, vs = [.ref p, .int k] ∧ ShipAt a H p s l ∧ Good s ∧ Picks H l Q (sel (fun x => decide (V.int (place x) = V.int k) && x.with_.isSome) s.persons)
theorem ok_children_in (T : Txt K mg a) : FnOk P w K mg base CX0 2 a.f_children_in a.d_children_in ["ship", "place"] (sp_children_in a) := by
  have G_persons_in := ok_persons_in (P := P) (w := w) (base := base) T
  refine T.D_children_in.F.ok sc_children_in (fun vs H Q E h => ?_) (fun cdv A outer st H vs Q E hr h => ?_)
  · obtain ⟨p, s, l, k, rfl, _⟩ := h
    rfl
  · obtain ⟨p, s, l, n, rfl, S, g, k⟩ := h
    refine ⟨_, (pss_one (ps_ret (pe_lc rfl sc_children_in.nd (tt := (tTest (tOp (fun x y H Q => y = .non ∧ Q (.bl (!decide (x = .non))) H) (tFld K (tVar 2) "guardian") (tC .non)))) (te := (tVar 2)) (pi_list (pe_call G_persons_in (hr.mono (by decide)) rfl T.D_persons_in.m T.D_persons_in.F.kp T.D_persons_in.B .nil pass0 (pa_cons (pv 0) (pa_cons (pv 1) pa_nil)))) (blkOk_by (own := [("person", 2)]) rfl) (fun _ _ _ _ _ => pg_name (i := 2) sc_children_in.nd rfl (Or.inl rfl)) (fun _ _ _ _ _ => pts_one (pt_cmpR op_notN (pe_fld (pv 2) rfl) pe_non (nomark _))) (fun _ _ _ _ _ => (pv 2))))), ?_⟩
    refine ⟨_, rfl, _, rfl, p, s, l, n, rfl, S, g, fun H1 D1 sm1 hD1 hH1 => ⟨D1, rfl, ⟨_, SqL.of hH1⟩, fun D2 hD2 =>
      lc_pick (by show 2 < 3; decide) hD2 (SqL.of hH1) (sel_len g) (fun j => (s.persons.getD j noOne).with_.isSome) (fun j hj H' sm R hR => ?_) (fun H2 sm2 hH2 => k H2 D2 (sm1.trans sm2) (sm1.free hD2) ?_)⟩⟩
    · obtain ⟨q, hq⟩ := S.pa_some (sel_lt hj)
      obtain ⟨x, hx, d, hh⟩ := S.person hq
      rw [getD_get hq]
      refine ⟨_, rfl, q, _, d, _, _, rfl, sm _ _ (sm1 _ _ hh), T.C_Person.cl, T.n_Person_guardian, rfl, rfl, _, rfl, ?_⟩
      have := hR H' (Same.refl _)
      rw [getD_at hx, ← notN_opt] at this
      exact this
    · rw [hH2, sel_filter _ (fun x => x.with_.isSome)]
def sp_who_is_alone (a : Adr) : Sp := fun vs H Q _ => ∃ p s l, vs = [.ref p] ∧ ShipAt a H p s l ∧ Good s ∧ Tells H Q (res s .alone).2
theorem ok_who_is_alone (T : Txt K mg a) : FnOk P w K mg base CX0 3 a.f_who_is_alone a.d_who_is_alone ["ship"] (sp_who_is_alone a) := by
  have G_told_as_bits := ok_told_as_bits (P := P) (w := w) (base := base) T
  have G_children_in := ok_children_in (P := P) (w := w) (base := base) T
  have G_is_guardian_ashore := ok_is_guardian_ashore (P := P) (w := w) (base := base) T
  refine T.D_who_is_alone.F.ok sc_who_is_alone (fun vs H Q E h => ?_) (fun cdv A outer st H vs Q E hr h => ?_)
  · obtain ⟨p, s, l, rfl, _⟩ := h
    rfl
  · obtain ⟨p, s, l, rfl, S, g, k⟩ := h
    refine ⟨_, (pss_one (ps_ret (pe_call G_told_as_bits (hr.mono (by decide)) rfl T.D_told_as_bits.m T.D_told_as_bits.F.kp T.D_told_as_bits.B .nil pass0 (pa_cons (pe_lc rfl sc_who_is_alone.nd (tt := (tB (tCall (sp_is_guardian_ashore a) [] E0 (tCons (tVar 0) (tCons (tVar 1) tNil))))) (te := (tVar 1)) (pi_list (pe_call G_children_in (hr.mono (by decide)) rfl T.D_children_in.m T.D_children_in.F.kp T.D_children_in.B .nil pass0 (pa_cons (pv 0) (pa_cons (pe_gint T.c_ABOARD rfl) pa_nil)))) (blkOk_by (own := [("child", 1)]) rfl) (fun _ _ _ _ _ => pg_name (i := 1) sc_who_is_alone.nd rfl (Or.inl rfl)) (fun _ _ _ _ _ => pts_one (pt_val (pe_call G_is_guardian_ashore (hr.mono (by decide)) rfl T.D_is_guardian_ashore.m T.D_is_guardian_ashore.F.kp T.D_is_guardian_ashore.B .nil pass0 (pa_cons (pv 0) (pa_cons (pv 1) pa_nil))))) (fun _ _ _ _ _ => (pv 1))) pa_nil)))), ?_⟩
    rw [ans_alone] at k
    refine ⟨_, rfl, p, s, l, 0, rfl, S, g, fun H1 D1 sm1 hD1 hH1 => ⟨D1, rfl, ⟨_, SqL.of hH1⟩, fun D2 hD2 =>
      lc_pick (by show 1 < 2; decide) hD2 (SqL.of hH1) (sel_len g) (fun j => fWithAshore s (s.persons.getD j noOne)) (fun j hj H' sm R hR => ?_) (fun H2 sm2 hH2 => ⟨D2, p, s, l, s.alone, rfl, (S.same sm1).same sm2, g, alone_nd.1, alone_nd.2, ?_, k.later (sm1.trans sm2)⟩)⟩⟩
    · obtain ⟨q, hq⟩ := S.pa_some (sel_lt hj)
      obtain ⟨x, hx, d, hh⟩ := S.person hq
      rw [getD_get hq]
      have hj2 := (List.mem_filter.mp hj).2
      rw [getD_at hx] at hj2
      obtain ⟨m, hm⟩ : ∃ m, x.with_ = some m := Option.isSome_iff_exists.mp (Bool.and_eq_true .. ▸ hj2).2
      refine ⟨_, rfl, _, rfl, p, s, l, j, q, x, m, rfl, (S.same sm1).same sm, g, hq, hx, hm, _, rfl, ?_⟩
      have := hR H' (Same.refl _)
      rw [getD_at hx] at this
      unfold fWithAshore at this
      rw [hm] at this
      exact this
    · rw [hH2, sel_filter _ (fWithAshore s), alone_eq]
      congr 3
      refine sel_congr fun x _ => ?_
      rw [place_here]
      unfold fWithAshore
      cases x.with_ <;> simp
def sp_who_is_lost (a : Adr) : Sp := fun vs H Q _ => ∃ p s l, vs = [.ref p] ∧ ShipAt a H p s l ∧ Good s ∧ Tells H Q (res s .lost).2
theorem ok_who_is_lost (T : Txt K mg a) : FnOk P w K mg base CX0 3 a.f_who_is_lost a.d_who_is_lost ["ship"] (sp_who_is_lost a) := by
  have G_told_as_bits := ok_told_as_bits (P := P) (w := w) (base := base) T
  have G_children_in := ok_children_in (P := P) (w := w) (base := base) T
  have G_is_guardian_ashore := ok_is_guardian_ashore (P := P) (w := w) (base := base) T
  refine T.D_who_is_lost.F.ok sc_who_is_lost (fun vs H Q E h => ?_) (fun cdv A outer st H vs Q E hr h => ?_)
  · obtain ⟨p, s, l, rfl, _⟩ := h
    rfl
  · obtain ⟨p, s, l, rfl, S, g, k⟩ := h
    refine ⟨_, (pss_one (ps_ret (pe_call G_told_as_bits (hr.mono (by decide)) rfl T.D_told_as_bits.m T.D_told_as_bits.F.kp T.D_told_as_bits.B .nil pass0 (pa_cons (pe_lc rfl sc_who_is_lost.nd (tt := (tNot (tB (tCall (sp_is_guardian_ashore a) [] E0 (tCons (tVar 0) (tCons (tVar 1) tNil)))))) (te := (tVar 1)) (pi_list (pe_call G_children_in (hr.mono (by decide)) rfl T.D_children_in.m T.D_children_in.F.kp T.D_children_in.B .nil pass0 (pa_cons (pv 0) (pa_cons (pe_gint T.c_ASHORE rfl) pa_nil)))) (blkOk_by (own := [("child", 1)]) rfl) (fun _ _ _ _ _ => pg_name (i := 1) sc_who_is_lost.nd rfl (Or.inl rfl)) (fun _ _ _ _ _ => pts_one (pt_not (pt_val (pe_call G_is_guardian_ashore (hr.mono (by decide)) rfl T.D_is_guardian_ashore.m T.D_is_guardian_ashore.F.kp T.D_is_guardian_ashore.B .nil pass0 (pa_cons (pv 0) (pa_cons (pv 1) pa_nil)))))) (fun _ _ _ _ _ => (pv 1))) pa_nil)))), ?_⟩
    rw [ans_lost] at k
    refine ⟨_, rfl, p, s, l, 1, rfl, S, g, fun H1 D1 sm1 hD1 hH1 => ⟨D1, rfl, ⟨_, SqL.of hH1⟩, fun D2 hD2 =>
      lc_pick (by show 1 < 2; decide) hD2 (SqL.of hH1) (sel_len g) (fun j => fLost s (s.persons.getD j noOne)) (fun j hj H' sm R hR => ?_) (fun H2 sm2 hH2 => ⟨D2, p, s, l, s.lost, rfl, (S.same sm1).same sm2, g, lost_nd.1, lost_nd.2, ?_, k.later (sm1.trans sm2)⟩)⟩⟩
    · obtain ⟨q, hq⟩ := S.pa_some (sel_lt hj)
      obtain ⟨x, hx, d, hh⟩ := S.person hq
      rw [getD_get hq]
      have hj2 := (List.mem_filter.mp hj).2
      rw [getD_at hx] at hj2
      obtain ⟨m, hm⟩ : ∃ m, x.with_ = some m := Option.isSome_iff_exists.mp (Bool.and_eq_true .. ▸ hj2).2
      refine ⟨_, rfl, _, rfl, p, s, l, j, q, x, m, rfl, (S.same sm1).same sm, g, hq, hx, hm, _, rfl, ?_⟩
      have := hR H' (Same.refl _)
      rw [getD_at hx] at this
      unfold fLost at this
      rw [hm] at this
      dsimp only at this
      rw [← Bool.not_and] at this
      exact this
    · rw [hH2, sel_filter _ (fLost s), lost_eq]
      congr 3
      refine sel_congr fun x _ => ?_
      rw [place_away]
      unfold fLost
      cases x.with_ <;> simp
def sp_may_they_go (a : Adr) : Sp := fun vs H Q _ => ∃ p s l, ∃ i : Nat, vs = [.ref p, .int i] ∧ ShipAt a H p s l ∧ Good s ∧ Tells H Q (res s (.may i)).2
theorem ok_may_they_go (T : Txt K mg a) : FnOk P w K mg base CX0 3 a.f_may_they_go a.d_may_they_go ["ship", "p"] (sp_may_they_go a) := by
  have G_find_person := ok_find_person (P := P) (w := w) (base := base) T
  have G_one_if := ok_one_if (P := P) (w := w) (base := base) T
  have G_may_go_ashore := ok_may_go_ashore (P := P) (w := w) (base := base) T
  refine T.D_may_they_go.F.ok sc_may_they_go (fun vs H Q E h => ?_) (fun cdv A outer st H vs Q E hr h => ?_)
  · obtain ⟨p, s, l, i, rfl, _⟩ := h
    rfl
  · obtain ⟨p, s, l, i, rfl, S, g, k⟩ := h
    refine ⟨_, (pss_cons (ps_set (i := 2) sc_may_they_go.nd rfl (Or.inl rfl) (pe_call G_find_person (hr.mono (by decide)) rfl T.D_find_person.m T.D_find_person.F.kp T.D_find_person.B .nil pass0 (pa_cons (pv 0) (pa_cons (pv 1) pa_nil)))) (pss_cons (ps_if (pt_cmpR op_isN (pv 2) pe_non (nomark _)) (pss_one (ps_ret (pe_lst (pa_cons (pe_gint T.c_NONE_THERE rfl) pa_nil)))) pss_nil) (pss_one (ps_ret (pe_lst (pa_cons (pe_call G_one_if (hr.mono (by decide)) rfl T.D_one_if.m T.D_one_if.F.kp T.D_one_if.B .nil pass0 (pa_cons (pe_call G_may_go_ashore (hr.mono (by decide)) rfl T.D_may_go_ashore.m T.D_may_go_ashore.F.kp T.D_may_go_ashore.B .nil pass0 (pa_cons (pv 0) (pa_cons (pv 2) pa_nil))) pa_nil)) pa_nil)))))), ?_⟩
    rw [ans_may] at k
    refine ⟨_, rfl, _, rfl, p, s, l, i, rfl, S, fun hi => ?_, fun q x hi hq hx hg => ?_⟩
    · rw [if_pos hi] at k
      exact ⟨_, rfl, rfl, _, rfl, iteT ⟨(by show 1 ≤ sizeLine; decide), fun q hq => k.now hq rfl⟩⟩
    rw [if_neg (by rw [hi]; decide)] at k
    exact ⟨_, rfl, rfl, _, rfl, iteF ⟨_, rfl, _, rfl, p, s, l, i, q, x, rfl, S, g, hq, hx, hg, _, rfl, (by show 1 ≤ sizeLine; decide), fun t ht => k.now ht rfl⟩⟩
def sp_is_ready (a : Adr) : Sp := fun vs H Q _ => ∃ p s l, vs = [.ref p] ∧ ShipAt a H p s l ∧ Good s ∧ Tells H Q (res s .maySail).2
theorem len0 {js : List Nat} : decide (V.int ((js.length : Nat) : Int) = V.int 0) = (js == []) := by
  cases js with
  | nil => rfl
  | cons x r =>
    rw [dec_int, Bool.eq_iff_iff]
    simp
    omega
theorem open_all {gs : List Km440.Gate} : decide (V.int ((gs.filter fun x => x.open_).length : Nat) = V.int 0) = gs.all fun g => !g.open_ := by
  rw [open_none, Bool.eq_iff_iff]
  simp
theorem max_sub (x y : Nat) : (if (0 : Int) > (x : Int) - (y : Int) then 0 else (x : Int) - (y : Int)) = ((x - y : Nat) : Int) := by
  split <;> omega
theorem ok_is_ready (T : Txt K mg a) : FnOk P w K mg base CX0 4 a.f_is_ready a.d_is_ready ["ship"] (sp_is_ready a) := by
  have G_count_open_gates := ok_count_open_gates (P := P) (w := w) (base := base) T
  have G_missing_persons := ok_missing_persons (P := P) (w := w) (base := base) T
  have G_visitors_aboard := ok_visitors_aboard (P := P) (w := w) (base := base) T
  have G_one_if := ok_one_if (P := P) (w := w) (base := base) T
  refine T.D_is_ready.F.ok sc_is_ready (fun vs H Q E h => ?_) (fun cdv A outer st H vs Q E hr h => ?_)
  · obtain ⟨p, s, l, rfl, _⟩ := h
    rfl
  · obtain ⟨p, s, l, rfl, S, g, k⟩ := h
    refine ⟨_, (pss_cons (ps_set (i := 1) sc_is_ready.nd rfl (Or.inl rfl) (pe_callB call_len_seq (by rfl) T.x_len PySem.boot_len (pa_cons (pe_call G_missing_persons (hr.mono (by decide)) rfl T.D_missing_persons.m T.D_missing_persons.F.kp T.D_missing_persons.B .nil pass0 (pa_cons (pv 0) pa_nil)) pa_nil))) (pss_cons (ps_set (i := 2) sc_is_ready.nd rfl (Or.inl rfl) (pe_callB call_len_seq (by rfl) T.x_len PySem.boot_len (pa_cons (pe_call G_visitors_aboard (hr.mono (by decide)) rfl T.D_visitors_aboard.m T.D_visitors_aboard.F.kp T.D_visitors_aboard.B .nil pass0 (pa_cons (pv 0) pa_nil)) pa_nil))) (pss_cons (ps_set (i := 3) sc_is_ready.nd rfl (Or.inl rfl) (pe_call G_count_open_gates (hr.mono (by decide)) rfl T.D_count_open_gates.m T.D_count_open_gates.F.kp T.D_count_open_gates.B .nil pass0 (pa_cons (pv 0) pa_nil))) (pss_cons (ps_set (i := 4) sc_is_ready.nd rfl (Or.inl rfl) (pe_and (pe_cmpR op_eq (pv 1) pe_int (nomark _)) (pe_and (pe_cmpR op_eq (pv 2) pe_int (nomark _)) (pe_one (pe_cmpR op_eq (pv 3) pe_int (nomark _)))))) (pss_one (ps_ret (pe_lst (pa_cons (pe_call G_one_if (hr.mono (by decide)) rfl T.D_one_if.m T.D_one_if.F.kp T.D_one_if.B .nil pass0 (pa_cons (pv 4) pa_nil)) (pa_cons (pv 1) (pa_cons (pv 2) (pa_cons (pv 3) (pa_cons (pe_callB (call_max2 rfl) (by rfl) T.x_max (by decide +kernel) (pa_cons (pe_op op_sub (pe_fld (pv 0) rfl) (pe_fld (pv 0) rfl)) (pa_cons pe_int pa_nil))) pa_nil)))))))))))), ?_⟩
    rw [ans_maySail] at k
    refine ⟨_, rfl, p, s, l, rfl, S, g, fun H1 D1 sm1 hD1 hH1 => ⟨D1, _, rfl, .inl (SqL.of hH1), _, rfl, p, s, l, rfl, S.same sm1, g, fun H2 D2 sm2 hD2 hH2 => ⟨D2, _, rfl, .inl (SqL.of hH2), _, rfl, p, s, l, rfl, (S.same sm1).same sm2, g, fun H3 sm3 => ?_⟩⟩⟩
    have sm := (sm1.trans sm2).trans sm3
    have S3 := S.same sm
    obtain ⟨dx, h1⟩ := S3.ship
    rw [refs_length, refs_length]
    have em : s.maySail = (s.missing == [] && (s.visitors == [] && s.gates.all fun g => !g.open_)) := rfl
    have fin : ∀ b : Bool, b = s.maySail → Tells H Q [((Km440.bit b : Nat) : Int), ((s.missing.length : Nat) : Int), ((s.visitors.length : Nat) : Int), (((s.gates.filter fun g => g.open_).length : Nat) : Int), ((s.sail - s.time : Nat) : Int)] := fun b e => by rw [e]; exact k
    refine ⟨_, rfl, rfl, _, rfl, ?_⟩
    rw [len0]
    cases c1 : (s.missing == []) with
    | false =>
      refine iteF ⟨_, rfl, false, rfl, _, rfl, _, rfl, _, rfl, _, rfl, p, _, dx, _, _, rfl, h1, T.C_Ship.cl, T.n_Ship_sail, rfl, _, rfl, p, _, dx, _, _, rfl, h1, T.C_Ship.cl, T.n_Ship_minute, rfl, _, _, rfl, rfl, _, _, rfl, (by show 5 ≤ sizeLine; decide), fun t ht => (fin false (by rw [em, c1]; rfl)).fin sm ht ?_⟩
      rw [max_sub]
      rfl
    | true =>
      refine iteT ⟨_, rfl, rfl, _, rfl, ?_⟩
      rw [len0]
      cases c2 : (s.visitors == []) with
      | false =>
        refine iteF ⟨_, rfl, false, rfl, _, rfl, _, rfl, _, rfl, _, rfl, p, _, dx, _, _, rfl, h1, T.C_Ship.cl, T.n_Ship_sail, rfl, _, rfl, p, _, dx, _, _, rfl, h1, T.C_Ship.cl, T.n_Ship_minute, rfl, _, _, rfl, rfl, _, _, rfl, (by show 5 ≤ sizeLine; decide), fun t ht => (fin false (by rw [em, c1, c2]; rfl)).fin sm ht ?_⟩
        rw [max_sub]
        rfl
      | true =>
        refine iteT ⟨_, rfl, rfl, _, rfl, _, rfl, _, rfl, _, rfl, _, rfl, _, rfl, p, _, dx, _, _, rfl, h1, T.C_Ship.cl, T.n_Ship_sail, rfl, _, rfl, p, _, dx, _, _, rfl, h1, T.C_Ship.cl, T.n_Ship_minute, rfl, _, _, rfl, rfl, _, _, rfl, (by show 5 ≤ sizeLine; decide), fun t ht => (fin _ (by rw [em, c1, c2, ← open_all, Bool.true_and, Bool.true_and])).fin sm ht ?_⟩
        rw [max_sub]
        rfl
def sp_missing_for_longest (a : Adr) : Sp := fun vs H Q _ => ∃ p s l, vs = [.ref p] ∧ ShipAt a H p s l ∧ Good s ∧ Tells H Q (res s .long_).2
def lstep (s : Km440.Ship) (r : Option Nat) (p : Nat) : Option Nat := match r with
  | none => some p
  | some q => if (s.person p).since < (s.person q).since then some p else some q
theorem longest_eq (s : Km440.Ship) : s.longest = s.missing.foldl (lstep s) none := rfl
theorem ok_missing_for_longest (T : Txt K mg a) : FnOk P w K mg base CX0 3 a.f_missing_for_longest a.d_missing_for_longest ["ship"] (sp_missing_for_longest a) := by
  have G_missing_persons := ok_missing_persons (P := P) (w := w) (base := base) T
  refine T.D_missing_for_longest.F.ok sc_missing_for_longest (fun vs H Q E h => ?_) (fun cdv A outer st H vs Q E hr h => ?_)
  · obtain ⟨p, s, l, rfl, _⟩ := h
    rfl
  · obtain ⟨p, s, l, rfl, S, g, k⟩ := h
    refine ⟨_, (pss_cons (ps_set (i := 1) sc_missing_for_longest.nd rfl (Or.inl rfl) (pe_call G_missing_persons (hr.mono (by decide)) rfl T.D_missing_persons.m T.D_missing_persons.F.kp T.D_missing_persons.B .nil pass0 (pa_cons (pv 0) pa_nil))) (pss_cons (ps_if (pt_cmpR op_eq (pe_callB call_len_seq (by rfl) T.x_len PySem.boot_len (pa_cons (pv 1) pa_nil)) pe_int (nomark _)) (pss_one (ps_ret (pe_lst (pa_cons (pe_gint T.c_NOBODY_MISSING rfl) pa_nil)))) pss_nil) (pss_cons (ps_set (i := 2) sc_missing_for_longest.nd rfl (Or.inl rfl) (pe_ix ix_list (pv 1) pe_int (fun _ _ => rfl))) (pss_cons (ps_for PassesOwn.never rfl (pi_list (pv 1)) (pg_name (i := 3) sc_missing_for_longest.nd rfl (Or.inl rfl)) (pss_one (ps_if (pt_cmpR op_lt (pe_fld (pv 3) rfl) (pe_fld (pv 2) rfl) (nomark _)) (pss_one (ps_set (i := 2) sc_missing_for_longest.nd rfl (Or.inl rfl) (pv 3))) pss_nil))) (pss_one (ps_ret (pe_lst (pa_cons (pe_fld (pv 2) rfl) (pa_cons (pe_op op_sub (pe_fld (pv 0) rfl) (pe_fld (pv 2) rfl)) pa_nil))))))))), ?_⟩
    rw [ans_long, longest_eq] at k
    refine ⟨_, rfl, p, s, l, rfl, S, g, fun H1 D sm hD hH => ⟨_, rfl, D, _, rfl, .inl (SqL.of hH), rfl, _, rfl, ?_⟩⟩
    rw [refs_length, len0]
    have S1 := S.same sm
    cases e : s.missing with
    | nil =>
      rw [e] at k
      exact iteT ⟨(by show 1 ≤ sizeLine; decide), fun q hq => k.fin sm hq rfl⟩
    | cons j0 r0 =>
      have hlt : ∀ j ∈ s.missing, j < s.persons.length := missing_nd.2
      have h0 : s.missing[0]? = some j0 := by rw [e]; rfl
      obtain ⟨q0, hq0⟩ := S1.pa_some (hlt j0 (List.mem_of_getElem? h0))
      refine iteF ⟨_, rfl, D, _, _, _, rfl, rfl, SqL.of hH, atI_nat (j := 0) (v := V.ref q0) (by unfold refs; rw [List.getElem?_map, h0]; show some (V.ref (l.pa.getD j0 0)) = _; rw [getD_get hq0]), ?_⟩
      refine ⟨_, rfl, D, rfl, ⟨_, SqL.of hH⟩, for_list (K := K) (a := D) (xs := refs l s.missing)
        (fun i σ H' => H' = H1 ∧ ∃ lo q v, l.pa[lo]? = some q ∧ lo < s.persons.length ∧ σ = [some (.ref p), some (.ref D), some (.ref q), v] ∧ ((i = 0 ∧ lo = j0) ∨ (s.missing.take i).foldl (lstep s) none = some lo)) ⟨rfl, j0, q0, _, hq0, hlt j0 (List.mem_of_getElem? h0), rfl, .inl ⟨rfl, rfl⟩⟩
        (fun i σ H' _ h => by rw [h.1]; exact SqL.of hH) ?_ ?_⟩
      · rintro i y σ H' hi ⟨rfl, lo, q, v, hq, hlo, rfl, hc⟩
        obtain ⟨j, hj, rfl⟩ := refs_get hi
        obtain ⟨qj, hqj⟩ := S1.pa_some (hlt j (List.mem_of_getElem? hj))
        obtain ⟨x, hx, d, hh⟩ := S1.person hqj
        obtain ⟨y, hy, d2, hh2⟩ := S1.person hq
        rw [getD_get hqj]
        have ef : (s.missing.take (i + 1)).foldl (lstep s) none = lstep s ((s.missing.take i).foldl (lstep s) none) j := by
          rw [take_snoc hj, List.foldl_append]
          rfl
        refine ⟨_, rfl, qj, _, d, _, _, rfl, hh, T.C_Person.cl, T.n_Person_since, rfl, _, rfl, q, _, d2, _, _, rfl, hh2, T.C_Person.cl, T.n_Person_since, rfl, _, _, rfl, rfl, _, rfl, ite2 (fun c => ?_) (fun c => ?_)⟩
        · have c := of_decide_eq_true c
          refine ⟨_, rfl, rfl, j, qj, some (V.ref qj), hqj, hlt j (List.mem_of_getElem? hj), rfl, .inr ?_⟩
          rcases hc with ⟨z1, z2⟩ | hc
          · subst z1 z2
            rw [ef]
            rfl
          · rw [ef, hc]
            show (if (s.person j).since < (s.person lo).since then some j else some lo) = _
            rw [person_at hx, person_at hy, if_pos (by omega)]
        · have c := of_decide_eq_false (eq_false_of_ne_true c)
          refine ⟨rfl, lo, q, some (V.ref qj), hq, hlo, rfl, .inr ?_⟩
          rcases hc with ⟨z1, z2⟩ | hc
          · subst z1 z2
            rw [h0] at hj
            have hj := Option.some.inj hj
            rw [ef, ← hj]
            rfl
          · rw [ef, hc]
            show (if (s.person j).since < (s.person lo).since then some j else some lo) = _
            rw [person_at hx, person_at hy, if_neg (by omega)]
      · rintro σ H' ⟨rfl, lo, q, v, hq, hlo, rfl, hc⟩
        rw [refs_length, List.take_length] at hc
        have hc : s.missing.foldl (lstep s) none = some lo := hc.resolve_left fun z => by rw [e] at z; exact absurd z.1 (by simp)
        rw [hc] at k
        obtain ⟨y, hy, d2, hh2⟩ := S1.person hq
        obtain ⟨dx, h1⟩ := S1.ship
        dsimp only at k
        rw [person_at hy] at k
        refine ⟨_, rfl, q, _, d2, _, _, rfl, hh2, T.C_Person.cl, T.n_Person_number, rfl, _, rfl, p, _, dx, _, _, rfl, h1, T.C_Ship.cl, T.n_Ship_minute, rfl, _, rfl, q, _, d2, _, _, rfl, hh2, T.C_Person.cl, T.n_Person_since, rfl, _, _, rfl, rfl, (by show 2 ≤ sizeLine; decide), fun t ht => k.fin sm ht ?_⟩
        have := g.si y (List.mem_of_getElem? hy)
        show [V.int _, V.int ((s.time : Int) - (y.since : Int))] = [V.int _, V.int ((s.time - y.since : Nat) : Int)]
        rw [Int.ofNat_sub this]
def sp_look_at_gate (a : Adr) : Sp := fun vs H Q _ => ∃ p s l, ∃ i : Nat, vs = [.ref p, .int i] ∧ ShipAt a H p s l ∧ Good s ∧ Tells H Q (res s (.gateOf i)).2
theorem ok_look_at_gate (T : Txt K mg a) : FnOk P w K mg base CX0 2 a.f_look_at_gate a.d_look_at_gate ["ship", "g"] (sp_look_at_gate a) := by
  have G_find_gate := ok_find_gate (P := P) (w := w) (base := base) T
  have G_one_if := ok_one_if (P := P) (w := w) (base := base) T
  refine T.D_look_at_gate.F.ok sc_look_at_gate (fun vs H Q E h => ?_) (fun cdv A outer st H vs Q E hr h => ?_)
  · obtain ⟨p, s, l, i, rfl, _⟩ := h
    rfl
  · obtain ⟨p, s, l, i, rfl, S, g, k⟩ := h
    refine ⟨_, (pss_cons (ps_set (i := 2) sc_look_at_gate.nd rfl (Or.inl rfl) (pe_call G_find_gate (hr.mono (by decide)) rfl T.D_find_gate.m T.D_find_gate.F.kp T.D_find_gate.B .nil pass0 (pa_cons (pv 0) (pa_cons (pv 1) pa_nil)))) (pss_cons (ps_if (pt_cmpR op_isN (pv 2) pe_non (nomark _)) (pss_one (ps_ret (pe_lst (pa_cons (pe_gint T.c_NONE_THERE rfl) pa_nil)))) pss_nil) (pss_one (ps_ret (pe_lst (pa_cons (pe_call G_one_if (hr.mono (by decide)) rfl T.D_one_if.m T.D_one_if.F.kp T.D_one_if.B .nil pass0 (pa_cons (pe_fld (pv 2) rfl) pa_nil)) (pa_cons (pe_fld (pv 2) rfl) (pa_cons (pe_fld (pv 2) rfl) pa_nil)))))))), ?_⟩
    rw [ans_gateOf] at k
    refine ⟨_, rfl, _, rfl, p, s, l, i, rfl, S, ?_⟩
    by_cases c : s.gates.length ≤ i
    · rw [if_pos c] at k
      rw [ga_none S c]
      exact ⟨_, rfl, rfl, _, rfl, iteT ⟨(by show 1 ≤ sizeLine; decide), fun q hq => k.now hq rfl⟩⟩
    rw [if_neg c] at k
    obtain ⟨q, x, d, hq, hx, hh⟩ := ga_some S c
    rw [gate_at hx] at k
    rw [hq]
    exact ⟨_, rfl, rfl, _, rfl, iteF ⟨_, rfl, q, _, d, _, _, rfl, hh, T.C_Gate.cl, T.n_Gate_opened, rfl, _, rfl, _, rfl, q, _, d, _, _, rfl, hh, T.C_Gate.cl, T.n_Gate_went_out, rfl, _, rfl, q, _, d, _, _, rfl, hh, T.C_Gate.cl, T.n_Gate_came_in, rfl, (by show 3 ≤ sizeLine; decide), fun t ht => k.now ht rfl⟩⟩
def sp_sum_up (a : Adr) : Sp := fun vs H Q _ => ∃ p s l, vs = [.ref p] ∧ ShipAt a H p s l ∧ Good s ∧ Tells H Q (res s .sums).2
theorem ok_sum_up (T : Txt K mg a) : FnOk P w K mg base CX0 3 a.f_sum_up a.d_sum_up ["ship"] (sp_sum_up a) := by
  have G_persons_aboard := ok_persons_aboard (P := P) (w := w) (base := base) T
  have G_persons_in := ok_persons_in (P := P) (w := w) (base := base) T
  refine T.D_sum_up.F.ok sc_sum_up (fun vs H Q E h => ?_) (fun cdv A outer st H vs Q E hr h => ?_)
  · obtain ⟨p, s, l, rfl, _⟩ := h
    rfl
  · obtain ⟨p, s, l, rfl, S, g, k⟩ := h
    refine ⟨_, (pss_cons (ps_set (i := 1) sc_sum_up.nd rfl (Or.inl rfl) (pe_callB call_len_seq (by rfl) T.x_len PySem.boot_len (pa_cons (pe_call G_persons_aboard (hr.mono (by decide)) rfl T.D_persons_aboard.m T.D_persons_aboard.F.kp T.D_persons_aboard.B .nil pass0 (pa_cons (pv 0) pa_nil)) pa_nil))) (pss_cons (ps_set (i := 2) sc_sum_up.nd rfl (Or.inl rfl) (pe_callB call_len_seq (by rfl) T.x_len PySem.boot_len (pa_cons (pe_call G_persons_in (hr.mono (by decide)) rfl T.D_persons_in.m T.D_persons_in.F.kp T.D_persons_in.B .nil pass0 (pa_cons (pv 0) (pa_cons (pe_gint T.c_ASHORE rfl) pa_nil))) pa_nil))) (pss_cons (ps_set (i := 3) sc_sum_up.nd rfl (Or.inl rfl) (pe_callB call_len_seq (by rfl) T.x_len PySem.boot_len (pa_cons (pe_call G_persons_in (hr.mono (by decide)) rfl T.D_persons_in.m T.D_persons_in.F.kp T.D_persons_in.B .nil pass0 (pa_cons (pv 0) (pa_cons (pe_gint T.c_GONE rfl) pa_nil))) pa_nil))) (pss_one (ps_ret (pe_lst (pa_cons (pe_callB call_len_seq (by rfl) T.x_len PySem.boot_len (pa_cons (pe_fld (pv 0) rfl) pa_nil)) (pa_cons (pv 1) (pa_cons (pv 2) (pa_cons (pv 3) (pa_cons (pe_fld (pv 0) rfl) (pa_cons (pe_fld (pv 0) rfl) pa_nil)))))))))))), ?_⟩
    rw [ans_sums] at k
    refine ⟨_, rfl, p, s, l, rfl, S, g, fun H1 D1 sm1 hD1 hH1 => ⟨D1, _, rfl, .inl (SqL.of hH1), _, rfl, p, s, l, 1, rfl, S.same sm1, g, fun H2 D2 sm2 hD2 hH2 => ⟨D2, _, rfl, .inl (SqL.of hH2), _, rfl, p, s, l, 2, rfl, (S.same sm1).same sm2, g, fun H3 D3 sm3 hD3 hH3 => ⟨D3, _, rfl, .inl (SqL.of hH3), ?_⟩⟩⟩⟩
    have sm := (sm1.trans sm2).trans sm3
    have S3 := S.same sm
    obtain ⟨dx, h1⟩ := S3.ship
    rw [refs_length, refs_length, refs_length, sel_away, sel_gone]
    refine ⟨_, rfl, p, _, dx, _, _, rfl, h1, T.C_Ship.cl, T.n_Ship_persons, rfl, l.lp, _, rfl, .inl (SqL.of S3.lp), _, rfl, _, rfl, _, rfl, _, rfl, p, _, dx, _, _, rfl, h1, T.C_Ship.cl, T.n_Ship_cards_given, rfl, _, rfl, p, _, dx, _, _, rfl, h1, T.C_Ship.cl, T.n_Ship_cards_shown_in_vain, rfl, (by show 6 ≤ sizeLine; decide), fun t ht => k.fin sm ht ?_⟩
    rw [List.length_map, S.pl, sel_length, List.countP_eq_length_filter]
    rfl
end
end Gw
namespace Gw
open PySem PySem.Spec PyProof.Rows L2
/-! ## Copies -/
theorem lc_copy {K : PySem.W.Frag} {lp D : Addr} {xs : List V} {slot : Nat} {te : TE} {σ : L2.St} {H : Hp} {Qd : Hp → Prop} (hD : H D = none) (hl : SqL K H lp xs) (hn : xs.length ≤ 1000) (P : Nat → HO → Prop)
    (ht : ∀ i x, xs[i]? = some x → ∀ H', Same H H' → ∀ Q : VK, (∀ H'' q o, Same H' H'' → H' q = none → H'' q = some o → P i o → Q (.ref q) H'') → te ((σ.set slot none).set slot (some x)) H' Q)
    (hd : ∀ (H' : Hp) (qs : List Addr), Same H H' → H' D = some (.lst (qs.map V.ref)) → qs.length = xs.length → qs.Nodup → (∀ q ∈ qs, H q = none ∧ q ≠ D) → (∀ (i : Nat) (q : Addr), qs[i]? = some q → ∃ o, H' q = some o ∧ P i o) → Qd H') :
    ∃ W : Nat → Nat → Hp → Prop, (∃ m, W 0 m (upd H D (.lst []))) ∧ ∀ i m H, W i m H →
      ((Itl K lp).stop i H ∧ Qd H) ∨ ((Itl K lp).go i H ∧ ∃ Nx : Hp → Prop, (∀ H', Nx H' → ∃ m', m' < m ∧ W (i + 1) m' H') ∧ ∀ x H', (Itl K lp).yld i H x H' → gName slot x (wipe σ [slot]) H' fun σ2 H2 => wipe σ2 [slot] = wipe σ [slot] ∧ tYes σ2 H2 fun b H3 =>
        if b = true then te σ2 H3 fun y H4 => ∃ acc, H4 D = some (.lst acc) ∧ acc.length < sizeLine ∧ Nx (upd H4 D (.lst (acc ++ [y]))) else Nx H3) := by
  refine lc_list (K := K) (a := lp) (xs := xs) (fun i H' => Same H H' ∧ ∃ qs : List Addr, H' D = some (.lst (qs.map V.ref)) ∧ qs.length = i ∧ qs.Nodup ∧ (∀ q ∈ qs, H q = none ∧ q ≠ D) ∧ ∀ (j : Nat) (q : Addr), qs[j]? = some q → ∃ o, H' q = some o ∧ P j o)
    ⟨Same.new hD, [], upd_same, rfl, List.nodup_nil, fun q hq => (by cases hq), fun j q hq => by simp at hq⟩ (fun i H' _ h => Same.seq h.1 hl) ?_ ?_
  · rintro i x H' hx ⟨sm, qs, hDD, hqs, nd, fr, at_⟩
    have hi : i < xs.length := (List.getElem?_eq_some_iff.mp hx).1
    show wipe ((σ.set slot none).set slot (some x)) [slot] = wipe σ [slot] ∧ _
    refine ⟨?_, ?_⟩
    · show ((σ.set slot none).set slot (some x)).set slot none = σ.set slot none
      rw [List.set_set, List.set_set]
    · unfold tYes
      dsimp only
      rw [if_pos rfl]
      refine ht i x hx H' sm _ fun H'' q o sm2 hq ho hp => ?_
      have qD : q ≠ D := fun z => by rw [z, hDD] at hq; cases hq
      refine ⟨_, sm2 _ _ hDD, small1000 (by rw [List.length_map]; omega), ?_, qs ++ [q], ?_, ?_, nd_snoc' nd (fun m => ?_), fun r hr => ?_, fun j r hr => ?_⟩
      · intro b o e1
        have : b ≠ D := fun z => by rw [z, hD] at e1; cases e1
        rw [upd_ne this]
        exact sm2 _ _ (sm _ _ e1)
      · rw [upd_same, List.map_append]
        rfl
      · rw [List.length_append, hqs]
        rfl
      · obtain ⟨j, hj⟩ := List.getElem?_of_mem m
        obtain ⟨o', ho', _⟩ := at_ j q hj
        rw [hq] at ho'
        cases ho'
      · rcases List.mem_append.mp hr with m | m
        · exact fr r m
        · have m := List.mem_singleton.mp m
          subst m
          exact ⟨sm.free hq, qD⟩
      · rcases getElem?_snoc hr with hr | ⟨e, hr⟩
        · obtain ⟨o', ho', hp'⟩ := at_ j r hr
          refine ⟨o', ?_, hp'⟩
          rw [upd_ne (fr r (List.mem_of_getElem? hr)).2]
          exact sm2 _ _ ho'
        · subst hr
          rw [hqs] at e
          subst e
          exact ⟨o, by rw [upd_ne qD]; exact ho, hp⟩
  · rintro H' ⟨sm, qs, hDD, hqs, nd, fr, at_⟩
    exact hd H' qs sm hDD hqs nd fr at_
section
variable {P : Program} {w : World} {K : PySem.W.Frag} {mg : Str → Option Value} {base : Heap} {a : Adr}
/-- a new thing, and nothing that was is changed -/
def New (H : Hp) (Q : VK) (p : HO → Prop) : Prop := ∀ (H' : Hp) (q : Addr) (o : HO), Same H H' → H q = none → H' q = some o → p o → Q (.ref q) H'
def sp_copied_gate (a : Adr) : Sp := fun vs H Q _ => ∃ r g, vs = [.ref r] ∧ GateAt a H r g ∧ New H Q (fun o => ∃ dx, o = .ins a.C_Gate dx (gf g))
theorem ok_copied_gate (T : Txt K mg a) : FnOk P w K mg base CX0 3 a.f_copied_gate a.d_copied_gate ["gate"] (sp_copied_gate a) := by
  have G_Gate_init := ok_Gate_init (P := P) (w := w) (base := base) T
  refine T.D_copied_gate.F.ok sc_copied_gate (fun vs H Q E h => ?_) (fun cdv A outer st H vs Q E hr h => ?_)
  · obtain ⟨r, g, rfl, _⟩ := h
    rfl
  · obtain ⟨r, g, rfl, ⟨d, hh⟩, k⟩ := h
    refine ⟨_, (pss_cons (ps_set (i := 1) sc_copied_gate.nd rfl (Or.inl rfl) (pe_make0 T.C_Gate.mkr G_Gate_init (hr.mono (by decide)) rfl T.C_Gate.m T.D_Gate_init.B .nil pass0)) (pss_cons (ps_fld (pv 1) (pe_fld (pv 0) rfl) rfl) (pss_cons (ps_fld (pv 1) (pe_fld (pv 0) rfl) rfl) (pss_cons (ps_fld (pv 1) (pe_fld (pv 0) rfl) rfl) (pss_one (ps_ret (pv 1))))))), ?_⟩
    refine fun x dx nx nd ne => ⟨x, dx, rfl, upd_same, fun H1 c1 k1 => ⟨rfl, ?_⟩⟩
    have sm : Same H H1 := Same.made' (C := a.C_Gate) nx nd k1
    have xr : r ≠ x := fun z => by rw [← z, hh] at nx; cases nx
    have hr1 : H1 r = some (.ins a.C_Gate d (gf g)) := sm _ _ hh
    refine ⟨_, rfl, r, _, d, _, _, rfl, hr1, T.C_Gate.cl, T.n_Gate_opened, rfl, _, rfl, x, _, dx, _, rfl, c1, T.C_Gate.cl, T.n_Gate_opened, (by show 3 < 1000; decide), ?_⟩
    refine ⟨_, rfl, r, _, d, _, _, rfl, (by rw [upd_ne xr]; exact hr1), T.C_Gate.cl, T.n_Gate_went_out, rfl, _, rfl, x, _, dx, _, rfl, upd_same, T.C_Gate.cl, T.n_Gate_went_out, (by show 3 < 1000; decide), ?_⟩
    refine ⟨_, rfl, r, _, d, _, _, rfl, (by rw [upd_ne xr, upd_ne xr]; exact hr1), T.C_Gate.cl, T.n_Gate_came_in, rfl, _, rfl, x, _, dx, _, rfl, upd_same, T.C_Gate.cl, T.n_Gate_came_in, (by show 3 < 1000; decide), ?_⟩
    refine ⟨_, rfl, k _ x _ (fun b o e => ?_) nx upd_same ⟨dx, rfl⟩⟩
    have hb : b ≠ x := ne_of_none e nx
    rw [upd_ne hb, upd_ne hb, upd_ne hb]
    exact sm _ _ e
def sp_copied_person (a : Adr) : Sp := fun vs H Q _ => ∃ r i y, vs = [.ref r] ∧ PersonAt a H r i y ∧ New H Q (fun o => ∃ dx, o = .ins a.C_Person dx (pf i y))
theorem ok_copied_person (T : Txt K mg a) : FnOk P w K mg base CX0 3 a.f_copied_person a.d_copied_person ["person"] (sp_copied_person a) := by
  have G_Person_init := ok_Person_init (P := P) (w := w) (base := base) T
  refine T.D_copied_person.F.ok sc_copied_person (fun vs H Q E h => ?_) (fun cdv A outer st H vs Q E hr h => ?_)
  · obtain ⟨r, i, g, rfl, _⟩ := h
    rfl
  · obtain ⟨r, i, y, rfl, ⟨d, hh⟩, k⟩ := h
    refine ⟨_, (pss_cons (ps_set (i := 1) sc_copied_person.nd rfl (Or.inl rfl) (pe_make T.C_Person.mkr G_Person_init (hr.mono (by decide)) rfl T.C_Person.m T.D_Person_init.B .nil pass0 (pa_cons (pe_fld (pv 0) rfl) (pa_cons (pe_fld (pv 0) rfl) (pa_cons (pe_fld (pv 0) rfl) (pa_cons (pe_fld (pv 0) rfl) (pa_cons (pe_fld (pv 0) rfl) pa_nil))))))) (pss_cons (ps_fld (pv 1) (pe_fld (pv 0) rfl) rfl) (pss_one (ps_ret (pv 1))))), ?_⟩
    refine ⟨_, rfl, r, _, d, _, _, rfl, hh, T.C_Person.cl, T.n_Person_number, rfl, _, rfl, r, _, d, _, _, rfl, hh, T.C_Person.cl, T.n_Person_card, rfl, _, rfl, r, _, d, _, _, rfl, hh, T.C_Person.cl, T.n_Person_since, rfl,
      _, rfl, r, _, d, _, _, rfl, hh, T.C_Person.cl, T.n_Person_guardian, rfl, _, rfl, r, _, d, _, _, rfl, hh, T.C_Person.cl, T.n_Person_off_by, rfl, fun x dx nx nd ne => ⟨x, dx, i, y.card, y.since, y.with_, y.visitor, rfl, upd_same, fun H1 c1 k1 => ⟨rfl, ?_⟩⟩⟩
    have sm : Same H H1 := Same.made' (C := a.C_Person) nx nd k1
    have hr1 : H1 r = some (.ins a.C_Person d (pf i y)) := sm _ _ hh
    refine ⟨_, rfl, r, _, d, _, _, rfl, hr1, T.C_Person.cl, T.n_Person_place, rfl, _, rfl, x, _, dx, _, rfl, c1, T.C_Person.cl, T.n_Person_place, (by show 6 < 1000; decide), ?_⟩
    refine ⟨_, rfl, k _ x _ (fun b o e => ?_) nx upd_same ⟨dx, rfl⟩⟩
    rw [upd_ne (ne_of_none e nx)]
    exact sm _ _ e
def sp_copied_ship (a : Adr) : Sp := fun vs H Q _ => ∃ p s l, vs = [.ref p] ∧ ShipAt a H p s l ∧ Good s ∧ ∀ H' p' l', Same H H' → ShipAt a H' p' s l' → (∀ b, b ∈ l'.foot p' → H b = none) → Q (.ref p') H'
theorem ok_copied_ship (T : Txt K mg a) : FnOk P w K mg base CX0 4 a.f_copied_ship a.d_copied_ship ["ship"] (sp_copied_ship a) := by
  have G_Ship_init := ok_Ship_init (P := P) (w := w) (base := base) T
  have G_copied_gate := ok_copied_gate (P := P) (w := w) (base := base) T
  have G_copied_person := ok_copied_person (P := P) (w := w) (base := base) T
  refine T.D_copied_ship.F.ok sc_copied_ship (fun vs H Q E h => ?_) (fun cdv A outer st H vs Q E hr h => ?_)
  · obtain ⟨p, s, l, rfl, _⟩ := h
    rfl
  · obtain ⟨p, s, l, rfl, S, g, k⟩ := h
    refine ⟨_, (pss_cons (ps_set (i := 1) sc_copied_ship.nd rfl (Or.inl rfl) (pe_make T.C_Ship.mkr G_Ship_init (hr.mono (by decide)) rfl T.C_Ship.m T.D_Ship_init.B .nil pass0 (pa_cons (pe_fld (pv 0) rfl) (pa_cons (pe_fld (pv 0) rfl) pa_nil)))) (pss_cons (ps_fld (pv 1) (pe_fld (pv 0) rfl) rfl) (pss_cons (ps_fld (pv 1) (pe_lc rfl sc_copied_ship.nd (tt := tYes) (te := (tCall (sp_copied_gate a) [] E0 (tCons (tVar 2) tNil))) (pi_list (pe_fld (pv 0) rfl)) (blkOk_by (own := [("gate", 2)]) rfl) (fun _ _ _ _ _ => pg_name (i := 2) sc_copied_ship.nd rfl (Or.inl rfl)) (fun _ _ _ _ _ => pts_nil) (fun _ _ _ _ _ => (pe_call G_copied_gate (hr.mono (by decide)) rfl T.D_copied_gate.m T.D_copied_gate.F.kp T.D_copied_gate.B .nil pass0 (pa_cons (pv 2) pa_nil)))) rfl) (pss_cons (ps_fld (pv 1) (pe_lc rfl sc_copied_ship.nd (tt := tYes) (te := (tCall (sp_copied_person a) [] E0 (tCons (tVar 3) tNil))) (pi_list (pe_fld (pv 0) rfl)) (blkOk_by (own := [("person", 3)]) rfl) (fun _ _ _ _ _ => pg_name (i := 3) sc_copied_ship.nd rfl (Or.inl rfl)) (fun _ _ _ _ _ => pts_nil) (fun _ _ _ _ _ => (pe_call G_copied_person (hr.mono (by decide)) rfl T.D_copied_person.m T.D_copied_person.F.kp T.D_copied_person.B .nil pass0 (pa_cons (pv 3) pa_nil)))) rfl) (pss_cons (ps_fld (pv 1) (pe_fld (pv 0) rfl) rfl) (pss_cons (ps_fld (pv 1) (pe_fld (pv 0) rfl) rfl) (pss_one (ps_ret (pv 1))))))))), ?_⟩
    obtain ⟨d, hh⟩ := S.ship
    refine ⟨_, rfl, p, _, d, _, _, rfl, hh, T.C_Ship.cl, T.n_Ship_most, rfl, _, rfl, p, _, d, _, _, rfl, hh, T.C_Ship.cl, T.n_Ship_sail, rfl, fun x dx nx nd ne => ⟨x, dx, s.most, s.sail, rfl, upd_same, fun H1 l0 S1 k1 f1 => ⟨rfl, ?_⟩⟩⟩
    have sm1 : Same H H1 := fun b o e => k1 b o (by rw [upd_ne (ne_of_none e nx), upd_ne (ne_of_none e nd)]; exact e) (ne_of_none e nx)
    obtain ⟨d1, c1⟩ := S1.ship
    have xp : p ≠ x := ne_of_none hh nx
    refine ⟨_, rfl, p, _, d, _, _, rfl, sm1 _ _ hh, T.C_Ship.cl, T.n_Ship_minute, rfl, _, rfl, x, _, d1, _, rfl, c1, T.C_Ship.cl, T.n_Ship_minute, (by show 7 < 1000; decide), ?_⟩
    have sm2 : ∀ {o : HO}, Same H (upd H1 x o) := fun {o} b u e => by
      rw [upd_ne (ne_of_none e nx)]
      exact sm1 _ _ e
    generalize hH2 : upd H1 x _ = H2
    have c2 : H2 x = some (.ins a.C_Ship d1 (sf { Km440.opened s.most s.sail with time := s.time } l0.lg l0.lp)) := by rw [← hH2]; exact upd_same
    have sm2 : Same H H2 := by rw [← hH2]; exact sm2
    clear hH2
    -- the gates
    refine ⟨_, rfl, p, _, d, _, _, rfl, sm2 _ _ hh, T.C_Ship.cl, T.n_Ship_gates, rfl, l.lg, rfl, ⟨_, SqL.of (sm2 _ _ S.lg)⟩, fun D hD =>
      lc_copy hD (SqL.of (sm2 _ _ S.lg)) (by rw [List.length_map, S.gl]; have := g.ng; omega) (fun i o => ∃ gt, s.gates[i]? = some gt ∧ ∃ dx, o = .ins a.C_Gate dx (gf gt)) (fun i y hy H' sm Q' hQ' => ?_) (fun H3 qs sm3 hD3 hl3 nd3 fr3 at3 => ?_)⟩
    · obtain ⟨r, hr', rfl⟩ := map_get hy
      obtain ⟨gt, hg', dg, hgt⟩ := S.gate hr'
      exact ⟨_, rfl, r, gt, rfl, ⟨dg, sm _ _ (sm2 _ _ hgt)⟩, fun H'' q o s1 s2 s3 ⟨dd, s4⟩ => hQ' H'' q o s1 s2 s3 ⟨gt, hg', dd, s4⟩⟩
    have xD : x ≠ D := ne_of_none c2 hD
    rw [List.length_map, S.gl] at hl3
    refine ⟨_, rfl, x, _, d1, _, rfl, sm3 _ _ c2, T.C_Ship.cl, T.n_Ship_gates, (by show 7 < 1000; decide), ?_⟩
    generalize hH4 : upd H3 x _ = H4
    have c4 : H4 x = some (.ins a.C_Ship d1 (sf { Km440.opened s.most s.sail with time := s.time } D l0.lp)) := by rw [← hH4]; exact upd_same
    have k4 : ∀ b, b ≠ x → H4 b = H3 b := fun b hb => by rw [← hH4]; exact upd_ne hb
    clear hH4
    have sm4 : Same H H4 := fun b u e => by
      rw [k4 b (ne_of_none e nx)]
      exact sm3 _ _ (sm2 _ _ e)
    have hD4 : H4 D = some (.lst (qs.map V.ref)) := by rw [k4 D (Ne.symm xD)]; exact hD3
    have qx : ∀ q ∈ qs, q ≠ x := fun q hq z => by
      have := (fr3 q hq).1
      rw [z, c2] at this
      cases this
    -- the persons
    refine ⟨_, rfl, p, _, d, _, _, rfl, sm4 _ _ hh, T.C_Ship.cl, T.n_Ship_persons, rfl, l.lp, rfl, ⟨_, SqL.of (sm4 _ _ S.lp)⟩, fun E hE =>
      lc_copy hE (SqL.of (sm4 _ _ S.lp)) (by rw [List.length_map, S.pl]; have := g.np; omega) (fun i o => ∃ y, s.persons[i]? = some y ∧ ∃ dx, o = .ins a.C_Person dx (pf i y)) (fun i y hy H' sm Q' hQ' => ?_) (fun H5 rs sm5 hE5 hl5 nd5 fr5 at5 => ?_)⟩
    · obtain ⟨r, hr', rfl⟩ := map_get hy
      obtain ⟨gt, hg', dg, hgt⟩ := S.person hr'
      exact ⟨_, rfl, r, i, gt, rfl, ⟨dg, sm _ _ (sm4 _ _ hgt)⟩, fun H'' q o s1 s2 s3 ⟨dd, s4⟩ => hQ' H'' q o s1 s2 s3 ⟨gt, hg', dd, s4⟩⟩
    have xE : x ≠ E := ne_of_none c4 hE
    rw [List.length_map, S.pl] at hl5
    refine ⟨_, rfl, x, _, d1, _, rfl, sm5 _ _ c4, T.C_Ship.cl, T.n_Ship_persons, (by show 7 < 1000; decide), ?_⟩
    have p5 : H5 p = some (.ins a.C_Ship d (sf s l.lg l.lp)) := sm5 _ _ (sm4 _ _ hh)
    refine ⟨_, rfl, p, _, d, _, _, rfl, (by rw [upd_ne xp]; exact p5), T.C_Ship.cl, T.n_Ship_cards_given, rfl, _, rfl, x, _, d1, _, rfl, upd_same, T.C_Ship.cl, T.n_Ship_cards_given, (by show 7 < 1000; decide), ?_⟩
    refine ⟨_, rfl, p, _, d, _, _, rfl, (by rw [upd_ne xp, upd_ne xp]; exact p5), T.C_Ship.cl, T.n_Ship_cards_shown_in_vain, rfl, _, rfl, x, _, d1, _, rfl, upd_same, T.C_Ship.cl, T.n_Ship_cards_shown_in_vain, (by show 7 < 1000; decide), ?_⟩
    generalize hH6 : upd (upd (upd H5 x _) x _) x _ = H6
    have c6 : H6 x = some (.ins a.C_Ship d1 (sf s D E)) := by rw [← hH6]; exact upd_same
    have k6 : ∀ b, b ≠ x → H6 b = H5 b := fun b hb => by rw [← hH6, upd_ne hb, upd_ne hb, upd_ne hb]
    clear hH6
    have sm6 : Same H H6 := fun b u e => by
      rw [k6 b (ne_of_none e nx)]
      exact sm5 _ _ (sm4 _ _ e)
    have rx : ∀ q ∈ rs, q ≠ x := fun q hq z => by
      have := (fr5 q hq).1
      rw [z, c4] at this
      cases this
    refine ⟨_, rfl, k H6 x ⟨D, E, qs, rs⟩ sm6 ⟨⟨d1, c6⟩, ?_, ?_, ?_, nd3, nd5, hl3, hl5, fun i q gt e1 e2 => ?_, fun i q y e1 e2 => ?_⟩ fun b hb => ?_⟩
    · show H6 D = _
      rw [k6 D (Ne.symm xD)]
      exact sm5 _ _ hD4
    · show H6 E = _
      rw [k6 E (Ne.symm xE)]
      exact hE5
    · show D ≠ E
      exact ne_of_none hD4 hE
    · have e1 : qs[i]? = some q := e1
      obtain ⟨o, ho, gt', hg', dd, rfl⟩ := at3 i q e1
      have hg' := Option.some.inj (hg'.symm.trans e2)
      subst hg'
      have hqx := qx q (List.mem_of_getElem? e1)
      refine ⟨dd, ?_⟩
      rw [k6 q hqx]
      refine sm5 _ _ ?_
      rw [k4 q hqx]
      exact ho
    · have e1 : rs[i]? = some q := e1
      obtain ⟨o, ho, gt', hg', dd, rfl⟩ := at5 i q e1
      have hg' := Option.some.inj (hg'.symm.trans e2)
      subst hg'
      refine ⟨dd, ?_⟩
      rw [k6 q (rx q (List.mem_of_getElem? e1))]
      exact ho
    · have hb : b ∈ x :: D :: E :: (qs ++ rs) := hb
      simp at hb
      rcases hb with z | z | z | z | z
      · rw [z]; exact nx
      · rw [z]; exact sm2.free hD
      · rw [z]; exact sm4.free hE
      · exact sm2.free (fr3 b z).1
      · exact sm4.free (fr5 b z).1
end
end Gw
namespace Gw
open PySem PySem.Spec PyProof.Rows L2
/-! ## The desk: the ship, and the ships that were -/
def vf (p le lr : Addr) : List (Str × V) := [("ship", .ref p), ("earlier", .ref le), ("later", .ref lr)]
def refE (es : List (Addr × Km440.Ship)) : List V := es.reverse.map fun x => V.ref x.1
/-- a ship that stands apart from what changes -/
def Std (a : Adr) (H : Hp) (F : Addr → Prop) (v le lr : Addr) (x : Addr × Km440.Ship) : Prop := ∃ l, ShipAt a H x.1 x.2 l ∧ ∀ b, b ∈ l.foot x.1 → F b ∧ b ≠ v ∧ b ≠ le ∧ b ≠ lr
structure DeskIn (a : Adr) (H : Hp) (v : Addr) (d : Km440.Desk) (F : Addr → Prop) (dx le lr p : Addr) (es fs : List (Addr × Km440.Ship)) : Prop where
  hv : H v = some (.ins a.C_Voyage dx (vf p le lr))
  hle : H le = some (.lst (refE es))
  hlr : H lr = some (.lst (refE fs))
  ne : le ≠ lr
  now : Std a H F v le lr (p, d.now)
  es_ : ∀ x ∈ es, Std a H F v le lr x
  fs_ : ∀ x ∈ fs, Std a H F v le lr x
  past : d.past = es.map (·.2)
  fut : d.future = fs.map (·.2)
  fv : F v
  fle : F le
  flr : F lr
  al : ∀ b, F b → ∃ o, H b = some o
def DeskAt (a : Adr) (H : Hp) (v : Addr) (d : Km440.Desk) (F : Addr → Prop) : Prop := ∃ dx le lr p es fs, DeskIn a H v d F dx le lr p es fs
section
variable {a : Adr} {H H' : Hp} {F F' : Addr → Prop} {v le lr p dx : Addr} {d d' : Km440.Desk} {es fs : List (Addr × Km440.Ship)}
theorem Std.keep {x : Addr × Km440.Ship} (S : Std a H F v le lr x) (k : ∀ b o, F b → b ≠ v → b ≠ le → b ≠ lr → H b = some o → H' b = some o) : Std a H' F v le lr x := by
  obtain ⟨l, S, h⟩ := S
  exact ⟨l, S.keep fun b o m e => k b o (h b m).1 (h b m).2.1 (h b m).2.2.1 (h b m).2.2.2 e, h⟩
theorem DeskIn.keep (D : DeskIn a H v d F dx le lr p es fs) (k : ∀ b o, F b → H b = some o → H' b = some o) : DeskIn a H' v d F dx le lr p es fs :=
  ⟨k _ _ D.fv D.hv, k _ _ D.fle D.hle, k _ _ D.flr D.hlr, D.ne, D.now.keep fun b o f _ _ _ e => k b o f e, fun x hx => (D.es_ x hx).keep fun b o f _ _ _ e => k b o f e, fun x hx => (D.fs_ x hx).keep fun b o f _ _ _ e => k b o f e, D.past, D.fut, D.fv, D.fle, D.flr,
    fun b f => (D.al b f).elim fun o e => ⟨o, k b o f e⟩⟩
theorem DeskAt.keep (D : DeskAt a H v d F) (k : ∀ b o, F b → H b = some o → H' b = some o) : DeskAt a H' v d F := by
  obtain ⟨dx, le, lr, p, es, fs, D⟩ := D
  exact ⟨dx, le, lr, p, es, fs, D.keep k⟩
theorem DeskIn.at_ (D : DeskIn a H v d F dx le lr p es fs) : DeskAt a H v d F := ⟨dx, le, lr, p, es, fs, D⟩
theorem DeskIn.v_le (D : DeskIn a H v d F dx le lr p es fs) : v ≠ le := ne_of D.hv D.hle (by intro z; cases z)
theorem DeskIn.v_lr (D : DeskIn a H v d F dx le lr p es fs) : v ≠ lr := ne_of D.hv D.hlr (by intro z; cases z)
/-- the ship and the two lists are set anew -/
theorem DeskIn.turn {p' : Addr} {es' fs' : List (Addr × Km440.Ship)} (D : DeskIn a H v d F dx le lr p es fs) (hv : H' v = some (.ins a.C_Voyage dx (vf p' le lr))) (hle : H' le = some (.lst (refE es'))) (hlr : H' lr = some (.lst (refE fs'))) (k : ∀ b, b ≠ v → b ≠ le → b ≠ lr → H' b = H b)
    (now : Std a H F v le lr (p', d'.now)) (es_ : ∀ x ∈ es', Std a H F v le lr x) (fs_ : ∀ x ∈ fs', Std a H F v le lr x) (past : d'.past = es'.map (·.2)) (fut : d'.future = fs'.map (·.2)) : DeskIn a H' v d' F dx le lr p' es' fs' := by
  have q : ∀ b o, F b → b ≠ v → b ≠ le → b ≠ lr → H b = some o → H' b = some o := fun b o _ h1 h2 h3 e => by rw [k b h1 h2 h3]; exact e
  refine ⟨hv, hle, hlr, D.ne, now.keep q, fun x hx => (es_ x hx).keep q, fun x hx => (fs_ x hx).keep q, past, fut, D.fv, D.fle, D.flr, fun b f => ?_⟩
  by_cases h1 : b = v
  · rw [h1]; exact ⟨_, hv⟩
  by_cases h2 : b = le
  · rw [h2]; exact ⟨_, hle⟩
  by_cases h3 : b = lr
  · rw [h3]; exact ⟨_, hlr⟩
  rw [k b h1 h2 h3]
  exact D.al b f
theorem refE_length : (refE es).length = es.length := by unfold refE; rw [List.length_map, List.length_reverse]
theorem refE_snoc {x : Addr × Km440.Ship} : refE es ++ [V.ref x.1] = refE (x :: es) := by
  unfold refE
  rw [List.reverse_cons, List.map_append]
  rfl
theorem refE_last {x : Addr × Km440.Ship} : (refE (x :: es))[(refE (x :: es)).length - 1]? = some (V.ref x.1) := by
  rw [← refE_snoc, List.length_append, List.getElem?_append_right (by simp)]
  simp
theorem refE_drop {x : Addr × Km440.Ship} : (refE (x :: es)).dropLast = refE es := by
  rw [← refE_snoc, List.dropLast_concat]
/-- the end of a call at the desk: the desk that is due, the numbers that are due in a new list -/
def Gets (a : Adr) (H : Hp) (v : Addr) (F : Addr → Prop) (Q : VK) (r : Km440.Desk × List Int) : Prop :=
  ∀ (H' : Hp) (F' : Addr → Prop) (q : Addr), DeskAt a H' v r.1 F' → (∀ b o, H b = some o → ¬ F b → H' b = some o) → (∀ b, F' b → F b ∨ H b = none) → H q = none → H' q = some (.lst (r.2.map V.int)) → Q (.ref q) H'
theorem Gets.fin {Q : VK} {r : Km440.Desk × List Int} {H1 : Hp} {q : Addr} {xs : List V} (G : Gets a H v F Q r) (D : DeskAt a H1 v r.1 F) (k : ∀ b o, H b = some o → ¬ F b → H1 b = some o) (hq : H1 q = none) (h0 : H q = none) (e : xs = r.2.map V.int) : Q (.ref q) (upd H1 q (.lst xs)) := by
  subst e
  exact G _ F q (D.keep fun b o _ e => Same.new hq b o e) (fun b o e n => Same.new hq b o (k b o e n)) (fun b f => .inl f) h0 upd_same
theorem Gets.tell {Q : VK} {r : Km440.Desk × List Int} (G : Gets a H v F Q r) (D : DeskAt a H v r.1 F) : Tells H Q r.2 := fun H' q sm hq e => G H' F q (D.keep fun b o _ e => sm b o e) (fun b o e _ => sm b o e) (fun b f => .inl f) hq e
end
section
variable {P : Program} {w : World} {K : PySem.W.Frag} {mg : Str → Option Value} {base : Heap} {a : Adr}
def actT (d : Km440.Desk) (x : Km440.Call) : Km440.Desk × List Int := ((Km440.act d x).1, Km440Neutral.told (Km440.act d x).2)
theorem act_back0 {d : Km440.Desk} (e : d.past = []) : actT d .back = (d, [-2]) := by
  have ea : Km440.act d .back = (d, Km440.only (-2)) := by unfold Km440.act; simp only [e]
  unfold actT
  rw [ea]
  rfl
theorem act_back1 {d : Km440.Desk} {k : Km440.Ship} {r : List Km440.Ship} (e : d.past = k :: r) : actT d .back = (⟨k, r, d.now :: d.future⟩, [((r.length : Nat) : Int)]) := by
  have ea : Km440.act d .back = (⟨k, r, d.now :: d.future⟩, Km440.only ((r.length : Nat) : Int)) := by unfold Km440.act; simp only [e]
  unfold actT
  rw [ea]
  rfl
theorem act_again0 {d : Km440.Desk} (e : d.future = []) : actT d .again = (d, [-2]) := by
  have ea : Km440.act d .again = (d, Km440.only (-2)) := by unfold Km440.act; simp only [e]
  unfold actT
  rw [ea]
  rfl
theorem act_again1 {d : Km440.Desk} (g : GoodD d) {k : Km440.Ship} {r : List Km440.Ship} (e : d.future = k :: r) : actT d .again = (⟨k, d.now :: d.past, r⟩, [((r.length : Nat) : Int)]) := by
  have ea : Km440.act d .again = (⟨k, (d.now :: d.past).take Km440.PAST, r⟩, Km440.only ((r.length : Nat) : Int)) := by unfold Km440.act; simp only [e]
  unfold actT
  rw [ea, again_room g e]
  rfl
theorem act_state {d : Km440.Desk} : actT d .state = (d, [((d.now.time : Nat) : Int), ((d.now.gates.length : Nat) : Int), ((d.now.sail : Nat) : Int), ((d.now.most : Nat) : Int), ((d.past.length : Nat) : Int), ((d.future.length : Nat) : Int)]) := rfl
def sp_Voyage_init (a : Adr) : Sp := fun vs H Q _ => ∃ v dx p, vs = [.ref v, .ref p] ∧ H v = some (.ins a.C_Voyage dx []) ∧ ∀ H' le lr, H' v = some (.ins a.C_Voyage dx (vf p le lr)) → H' le = some (.lst []) → H' lr = some (.lst []) → le ≠ lr → H le = none → H lr = none → (∀ b o, H b = some o → b ≠ v → H' b = some o) → Q .non H'
theorem ok_Voyage_init (T : Txt K mg a) : FnOk P w K mg base CX0 1 a.f_Voyage_init a.d_Voyage_init ["self", "ship"] (sp_Voyage_init a) := by
  refine T.D_Voyage_init.F.ok sc_Voyage_init (fun vs H Q E h => ?_) (fun cdv A outer st H vs Q E hr h => ?_)
  · obtain ⟨v, dx, p, rfl, _⟩ := h
    rfl
  · obtain ⟨v, dx, p, rfl, h1, k⟩ := h
    refine ⟨_, (pss_cons (ps_fld (pv 0) (pv 1) rfl) (pss_cons (ps_fld (pv 0) (pe_lst pa_nil) rfl) (pss_one (ps_fld (pv 0) (pe_lst pa_nil) rfl)))), ?_⟩
    refine ⟨_, rfl, _, rfl, v, _, dx, _, rfl, h1, T.C_Voyage.cl, T.n_Voyage_ship, (by show 0 < 1000; decide), ?_⟩
    refine ⟨Nat.zero_le _, fun le hle => ?_⟩
    have vle : v ≠ le := ne_of_none upd_same hle
    refine ⟨_, rfl, v, _, dx, _, rfl, (by rw [upd_ne vle]; exact upd_same), T.C_Voyage.cl, T.n_Voyage_earlier, (by show 1 < 1000; decide), ?_⟩
    refine ⟨Nat.zero_le _, fun lr hlr => ?_⟩
    have vlr : v ≠ lr := ne_of_none upd_same hlr
    have hlr1 := (upd_free hlr).2
    have hne : lr ≠ le := (upd_free hlr1).1
    refine ⟨_, rfl, v, _, dx, _, rfl, (by rw [upd_ne vlr]; exact upd_same), T.C_Voyage.cl, T.n_Voyage_later, (by show 2 < 1000; decide), ?_⟩
    have hle0 : H le = none := (upd_free hle).2
    have hlr0 : H lr = none := (upd_free (upd_free hlr1).2).2
    refine k _ le lr upd_same ?_ ?_ (Ne.symm hne) hle0 hlr0 fun b o e hb => ?_
    · rw [upd_ne (Ne.symm vle), upd_ne (Ne.symm hne), upd_ne (Ne.symm vle)]
      exact upd_same
    · rw [upd_ne (Ne.symm vlr)]
      exact upd_same
    · rw [upd_ne hb, upd_ne (ne_of_none e hlr0), upd_ne hb, upd_ne (ne_of_none e hle0), upd_ne hb]
      exact e
def sp_take_back (a : Adr) : Sp := fun vs H Q _ => ∃ v d F, vs = [.ref v] ∧ DeskAt a H v d F ∧ GoodD d ∧ Gets a H v F Q (actT d .back)
theorem ok_take_back (T : Txt K mg a) : FnOk P w K mg base CX0 1 a.f_take_back a.d_take_back ["voyage"] (sp_take_back a) := by
  refine T.D_take_back.F.ok sc_take_back (fun vs H Q E h => ?_) (fun cdv A outer st H vs Q E hr h => ?_)
  · obtain ⟨v, d, F, rfl, _⟩ := h
    rfl
  · obtain ⟨v, d, F, rfl, ⟨dx, le, lr, p, es, fs, D⟩, g, k⟩ := h
    refine ⟨_, (pss_cons (ps_if (pt_cmpR op_eq (pe_callB call_len_seq (by rfl) T.x_len PySem.boot_len (pa_cons (pe_fld (pv 0) rfl) pa_nil)) pe_int (nomark _)) (pss_one (ps_ret (pe_lst (pa_cons (pe_gint T.c_NONE_THERE rfl) pa_nil)))) pss_nil) (pss_cons (ps_expr (pe_bm PySem.F.plainAttrs_list PySem.F.slot_list_append PySem.F.type_list_append mt_append (pe_fld (pv 0) rfl) (pa_cons (pe_fld (pv 0) rfl) pa_nil))) (pss_cons (ps_fld (pv 0) (pe_bm0 PySem.F.plainAttrs_list PySem.F.slot_list_pop PySem.F.type_list_pop mt_pop (pe_fld (pv 0) rfl)) rfl) (pss_one (ps_ret (pe_lst (pa_cons (pe_callB call_len_seq (by rfl) T.x_len PySem.boot_len (pa_cons (pe_fld (pv 0) rfl) pa_nil)) pa_nil))))))), ?_⟩
    refine ⟨_, rfl, v, _, dx, _, _, rfl, D.hv, T.C_Voyage.cl, T.n_Voyage_earlier, rfl, le, _, rfl, .inl (SqL.of D.hle), rfl, _, rfl, ?_⟩
    rw [refE_length]
    match es, D with
    | [], D =>
      rw [act_back0 D.past] at k
      exact iteT ⟨(by show 1 ≤ sizeLine; decide), fun q hq => (k.tell D.at_).now hq rfl⟩
    | x :: r, D =>
      rw [act_back1 D.past] at k
      have hl := g.len
      rw [D.past, D.fut, List.length_map, List.length_map, List.length_cons] at hl
      refine iteF ⟨_, rfl, v, _, dx, _, _, rfl, D.hv, T.C_Voyage.cl, T.n_Voyage_later, rfl, .inl ⟨rfl, _, SqL.of D.hlr⟩, _, rfl, v, _, dx, _, _, rfl, D.hv, T.C_Voyage.cl, T.n_Voyage_ship, rfl, lr, _, _, rfl, rfl, D.hlr, small1000 (by rw [refE_length]; omega), ?_⟩
      have hv1 : (upd H lr (.lst (refE fs ++ [V.ref p]))) v = some (.ins a.C_Voyage dx (vf p le lr)) := by rw [upd_ne D.v_lr]; exact D.hv
      have hle1 : (upd H lr (.lst (refE fs ++ [V.ref p]))) le = some (.lst (refE (x :: r))) := by rw [upd_ne D.ne]; exact D.hle
      refine ⟨_, rfl, v, _, dx, _, _, rfl, hv1, T.C_Voyage.cl, T.n_Voyage_earlier, rfl, .inl ⟨rfl, _, SqL.of hle1⟩, le, _, _, rfl, rfl, hle1, refE_last, _, rfl, v, _, dx, _, rfl, (by rw [upd_ne D.v_le]; exact hv1), T.C_Voyage.cl, T.n_Voyage_ship, (by show 3 < 1000; decide), ?_⟩
      refine ⟨_, rfl, v, _, dx, _, _, rfl, upd_same, T.C_Voyage.cl, T.n_Voyage_earlier, rfl, le, refE r, rfl, .inl (SqL.of (by rw [upd_ne (Ne.symm D.v_le), upd_same, refE_drop])), (by show 1 ≤ sizeLine; decide), fun q hq => ?_⟩
      have hq1 := upd_free hq
      have hq2 := upd_free hq1.2
      have hq3 := upd_free hq2.2
      refine k.fin (DeskIn.at_ (D.turn (p' := x.1) (es' := r) (fs' := (p, d.now) :: fs) (d' := ⟨x.2, r.map (·.2), d.now :: d.future⟩) upd_same ?_ ?_ (fun b h1 h2 h3 => by rw [upd_ne h1, upd_ne h2, upd_ne h3]) (D.es_ x (List.mem_cons_self ..)) (fun y hy => D.es_ y (List.mem_cons_of_mem _ hy)) (fun y hy => ?_) rfl ?_)) (fun b o e n => ?_) hq hq3.2 ?_
      · rw [upd_ne (Ne.symm D.v_le), upd_same, refE_drop]
      · rw [upd_ne (Ne.symm D.v_lr), upd_ne (Ne.symm D.ne), upd_same, ← refE_snoc (x := (p, d.now))]
      · rcases List.mem_cons.mp hy with z | z
        · rw [z]; exact D.now
        · exact D.fs_ y z
      · show d.now :: d.future = _
        rw [D.fut]
        rfl
      · rw [upd_ne (fun z => n (by rw [z]; exact D.fv) : b ≠ v), upd_ne (fun z => n (by rw [z]; exact D.fle) : b ≠ le), upd_ne (fun z => n (by rw [z]; exact D.flr) : b ≠ lr)]
        exact e
      · rw [refE_length, ← List.length_map (f := fun x : Addr × Km440.Ship => x.2) (as := r)]
        rfl
def sp_do_again (a : Adr) : Sp := fun vs H Q _ => ∃ v d F, vs = [.ref v] ∧ DeskAt a H v d F ∧ GoodD d ∧ Gets a H v F Q (actT d .again)
theorem ok_do_again (T : Txt K mg a) : FnOk P w K mg base CX0 1 a.f_do_again a.d_do_again ["voyage"] (sp_do_again a) := by
  refine T.D_do_again.F.ok sc_do_again (fun vs H Q E h => ?_) (fun cdv A outer st H vs Q E hr h => ?_)
  · obtain ⟨v, d, F, rfl, _⟩ := h
    rfl
  · obtain ⟨v, d, F, rfl, ⟨dx, le, lr, p, es, fs, D⟩, g, k⟩ := h
    refine ⟨_, (pss_cons (ps_if (pt_cmpR op_eq (pe_callB call_len_seq (by rfl) T.x_len PySem.boot_len (pa_cons (pe_fld (pv 0) rfl) pa_nil)) pe_int (nomark _)) (pss_one (ps_ret (pe_lst (pa_cons (pe_gint T.c_NONE_THERE rfl) pa_nil)))) pss_nil) (pss_cons (ps_expr (pe_bm PySem.F.plainAttrs_list PySem.F.slot_list_append PySem.F.type_list_append mt_append (pe_fld (pv 0) rfl) (pa_cons (pe_fld (pv 0) rfl) pa_nil))) (pss_cons (ps_fld (pv 0) (pe_bm0 PySem.F.plainAttrs_list PySem.F.slot_list_pop PySem.F.type_list_pop mt_pop (pe_fld (pv 0) rfl)) rfl) (pss_one (ps_ret (pe_lst (pa_cons (pe_callB call_len_seq (by rfl) T.x_len PySem.boot_len (pa_cons (pe_fld (pv 0) rfl) pa_nil)) pa_nil))))))), ?_⟩
    refine ⟨_, rfl, v, _, dx, _, _, rfl, D.hv, T.C_Voyage.cl, T.n_Voyage_later, rfl, lr, _, rfl, .inl (SqL.of D.hlr), rfl, _, rfl, ?_⟩
    rw [refE_length]
    match fs, D with
    | [], D =>
      rw [act_again0 D.fut] at k
      exact iteT ⟨(by show 1 ≤ sizeLine; decide), fun q hq => (k.tell D.at_).now hq rfl⟩
    | x :: r, D =>
      rw [act_again1 g D.fut] at k
      have hl := g.len
      rw [D.past, D.fut, List.length_map, List.length_map, List.length_cons] at hl
      refine iteF ⟨_, rfl, v, _, dx, _, _, rfl, D.hv, T.C_Voyage.cl, T.n_Voyage_earlier, rfl, .inl ⟨rfl, _, SqL.of D.hle⟩, _, rfl, v, _, dx, _, _, rfl, D.hv, T.C_Voyage.cl, T.n_Voyage_ship, rfl, le, _, _, rfl, rfl, D.hle, small1000 (by rw [refE_length]; omega), ?_⟩
      have hv1 : (upd H le (.lst (refE es ++ [V.ref p]))) v = some (.ins a.C_Voyage dx (vf p le lr)) := by rw [upd_ne D.v_le]; exact D.hv
      have hlr1 : (upd H le (.lst (refE es ++ [V.ref p]))) lr = some (.lst (refE (x :: r))) := by rw [upd_ne (Ne.symm D.ne)]; exact D.hlr
      refine ⟨_, rfl, v, _, dx, _, _, rfl, hv1, T.C_Voyage.cl, T.n_Voyage_later, rfl, .inl ⟨rfl, _, SqL.of hlr1⟩, lr, _, _, rfl, rfl, hlr1, refE_last, _, rfl, v, _, dx, _, rfl, (by rw [upd_ne D.v_lr]; exact hv1), T.C_Voyage.cl, T.n_Voyage_ship, (by show 3 < 1000; decide), ?_⟩
      refine ⟨_, rfl, v, _, dx, _, _, rfl, upd_same, T.C_Voyage.cl, T.n_Voyage_later, rfl, lr, refE r, rfl, .inl (SqL.of (by rw [upd_ne (Ne.symm D.v_lr), upd_same, refE_drop])), (by show 1 ≤ sizeLine; decide), fun q hq => ?_⟩
      have hq1 := upd_free hq
      have hq2 := upd_free hq1.2
      have hq3 := upd_free hq2.2
      refine k.fin (DeskIn.at_ (D.turn (p' := x.1) (es' := (p, d.now) :: es) (fs' := r) (d' := ⟨x.2, d.now :: d.past, r.map (·.2)⟩) upd_same ?_ ?_ (fun b h1 h2 h3 => by rw [upd_ne h1, upd_ne h3, upd_ne h2]) (D.fs_ x (List.mem_cons_self ..)) (fun y hy => ?_) (fun y hy => D.fs_ y (List.mem_cons_of_mem _ hy)) ?_ rfl)) (fun b o e n => ?_) hq hq3.2 ?_
      · rw [upd_ne (Ne.symm D.v_le), upd_ne D.ne, upd_same, ← refE_snoc (x := (p, d.now))]
      · rw [upd_ne (Ne.symm D.v_lr), upd_same, refE_drop]
      · rcases List.mem_cons.mp hy with z | z
        · rw [z]; exact D.now
        · exact D.es_ y z
      · show d.now :: d.past = _
        rw [D.past]
        rfl
      · rw [upd_ne (fun z => n (by rw [z]; exact D.fv) : b ≠ v), upd_ne (fun z => n (by rw [z]; exact D.flr) : b ≠ lr), upd_ne (fun z => n (by rw [z]; exact D.fle) : b ≠ le)]
        exact e
      · rw [refE_length, ← List.length_map (f := fun x : Addr × Km440.Ship => x.2) (as := r)]
        rfl
def sp_tell_state (a : Adr) : Sp := fun vs H Q _ => ∃ v d F, vs = [.ref v] ∧ DeskAt a H v d F ∧ GoodD d ∧ Gets a H v F Q (actT d .state)
theorem ok_tell_state (T : Txt K mg a) : FnOk P w K mg base CX0 1 a.f_tell_state a.d_tell_state ["voyage"] (sp_tell_state a) := by
  refine T.D_tell_state.F.ok sc_tell_state (fun vs H Q E h => ?_) (fun cdv A outer st H vs Q E hr h => ?_)
  · obtain ⟨v, d, F, rfl, _⟩ := h
    rfl
  · obtain ⟨v, d, F, rfl, ⟨dx, le, lr, p, es, fs, D⟩, g, k⟩ := h
    refine ⟨_, (pss_cons (ps_set (i := 1) sc_tell_state.nd rfl (Or.inl rfl) (pe_fld (pv 0) rfl)) (pss_one (ps_ret (pe_lst (pa_cons (pe_fld (pv 1) rfl) (pa_cons (pe_callB call_len_seq (by rfl) T.x_len PySem.boot_len (pa_cons (pe_fld (pv 1) rfl) pa_nil)) (pa_cons (pe_fld (pv 1) rfl) (pa_cons (pe_fld (pv 1) rfl) (pa_cons (pe_callB call_len_seq (by rfl) T.x_len PySem.boot_len (pa_cons (pe_fld (pv 0) rfl) pa_nil)) (pa_cons (pe_callB call_len_seq (by rfl) T.x_len PySem.boot_len (pa_cons (pe_fld (pv 0) rfl) pa_nil)) pa_nil)))))))))), ?_⟩
    rw [act_state] at k
    have k := k.tell D.at_
    dsimp only at k
    obtain ⟨l, S, _⟩ := D.now
    obtain ⟨d1, h1⟩ := S.ship
    refine ⟨_, rfl, v, _, dx, _, _, rfl, D.hv, T.C_Voyage.cl, T.n_Voyage_ship, rfl, ?_⟩
    refine ⟨_, rfl, p, _, d1, _, _, rfl, h1, T.C_Ship.cl, T.n_Ship_minute, rfl, _, rfl, p, _, d1, _, _, rfl, h1, T.C_Ship.cl, T.n_Ship_gates, rfl, l.lg, _, rfl, .inl (SqL.of S.lg), _, rfl, p, _, d1, _, _, rfl, h1, T.C_Ship.cl, T.n_Ship_sail, rfl, _, rfl, p, _, d1, _, _, rfl, h1, T.C_Ship.cl, T.n_Ship_most, rfl,
      _, rfl, v, _, dx, _, _, rfl, D.hv, T.C_Voyage.cl, T.n_Voyage_earlier, rfl, le, _, rfl, .inl (SqL.of D.hle), _, rfl, v, _, dx, _, _, rfl, D.hv, T.C_Voyage.cl, T.n_Voyage_later, rfl, lr, _, rfl, .inl (SqL.of D.hlr), (by show 6 ≤ sizeLine; decide), fun q hq => k.now hq ?_⟩
    rw [List.length_map, S.gl, refE_length, refE_length, D.past, D.fut, List.length_map, List.length_map]
    rfl
def sp_keep_change (a : Adr) : Sp := fun vs H Q _ => ∃ v d F p1 s1 l1, vs = [.ref v, .ref p1] ∧ DeskAt a H v d F ∧ GoodD d ∧ ShipAt a H p1 s1 l1 ∧ (∀ b, b ∈ l1.foot p1 → ¬ F b) ∧
  ∀ H' F', DeskAt a H' v (d.become s1) F' → (∀ b o, H b = some o → ¬ F b → H' b = some o) → (∀ b, F' b → F b ∨ b ∈ l1.foot p1 ∨ H b = none) → Q .non H'
theorem refE_take {es : List (Addr × Km440.Ship)} (h : es.length = 31) : (refE es).eraseIdx 0 = refE (es.take 30) := by
  unfold refE
  rw [List.eraseIdx_zero, ← List.map_tail, List.tail_reverse, List.dropLast_eq_take, h]
theorem ok_keep_change (T : Txt K mg a) : FnOk P w K mg base CX0 1 a.f_keep_change a.d_keep_change ["voyage", "changed"] (sp_keep_change a) := by
  refine T.D_keep_change.F.ok sc_keep_change (fun vs H Q E h => ?_) (fun cdv A outer st H vs Q E hr h => ?_)
  · obtain ⟨v, d, F, p1, s1, l1, rfl, _⟩ := h
    rfl
  · obtain ⟨v, d, F, p1, s1, l1, rfl, ⟨dx, le, lr, p, es, fs, D⟩, g, S1, hS1, k⟩ := h
    refine ⟨_, (pss_cons (ps_expr (pe_bm PySem.F.plainAttrs_list PySem.F.slot_list_append PySem.F.type_list_append mt_append (pe_fld (pv 0) rfl) (pa_cons (pe_fld (pv 0) rfl) pa_nil))) (pss_cons (ps_if (pt_cmpR op_gt (pe_callB call_len_seq (by rfl) T.x_len PySem.boot_len (pa_cons (pe_fld (pv 0) rfl) pa_nil)) (pe_gint T.c_MOST_TAKEN_BACK rfl) (nomark _)) (pss_one (ps_expr (pe_bm PySem.F.plainAttrs_list PySem.F.slot_list_pop PySem.F.type_list_pop mt_popAt (pe_fld (pv 0) rfl) (pa_cons pe_int pa_nil)))) pss_nil) (pss_cons (ps_fld (pv 0) (pe_lst pa_nil) rfl) (pss_one (ps_fld (pv 0) (pv 1) rfl))))), ?_⟩
    have hl := g.len
    rw [D.past, List.length_map] at hl
    have fin : ∀ (H2 : Hp) (lr' : Addr), H2 lr' = none → H2 le = some (.lst (refE (((p, d.now) :: es).take 30))) → (∀ b, b ≠ le → H2 b = H b) → Q .non (upd (upd (upd H2 lr' (.lst [])) v (.ins a.C_Voyage dx (vf p le lr'))) v (.ins a.C_Voyage dx (vf p1 le lr'))) := fun H2 lr' hn hle2 k2 => by
      have nle : lr' ≠ le := fun z => by rw [z, hle2] at hn; cases hn
      have hn0 : H lr' = none := by rw [← k2 lr' nle]; exact hn
      have nv : lr' ≠ v := fun z => by rw [z, D.hv] at hn0; cases hn0
      have nF : ¬ F lr' := fun f => by
        obtain ⟨o, ho⟩ := D.al _ f
        rw [hn0] at ho
        cases ho
      have kk : ∀ b, b ≠ v → b ≠ le → b ≠ lr' → (upd (upd (upd H2 lr' (.lst [])) v (.ins a.C_Voyage dx (vf p le lr'))) v (.ins a.C_Voyage dx (vf p1 le lr'))) b = H b := fun b h1 h2 h3 => by rw [upd_ne h1, upd_ne h1, upd_ne h3, k2 b h2]
      have old : ∀ x, Std a H F v le lr x → Std a (upd (upd (upd H2 lr' (.lst [])) v (.ins a.C_Voyage dx (vf p le lr'))) v (.ins a.C_Voyage dx (vf p1 le lr'))) (fun b => F b ∨ b ∈ l1.foot p1 ∨ b = lr') v le lr' x := fun x ⟨l, S, h⟩ =>
        ⟨l, S.keep fun b o m e => by rw [kk b (h b m).2.1 (h b m).2.2.1 (fun z => nF (z ▸ (h b m).1))]; exact e, fun b m => ⟨.inl (h b m).1, (h b m).2.1, (h b m).2.2.1, fun z => nF (z ▸ (h b m).1)⟩⟩
      refine k _ (fun b => F b ∨ b ∈ l1.foot p1 ∨ b = lr') ⟨dx, le, lr', p1, ((p, d.now) :: es).take 30, [], upd_same, ?_, ?_, Ne.symm nle, ?_, fun x hx => ?_, fun x hx => (by cases hx), ?_, rfl, .inl D.fv, .inl D.fle, .inr (.inr rfl), fun b f => ?_⟩ (fun b o e n => ?_) (fun b f => ?_)
      · rw [upd_ne (Ne.symm D.v_le), upd_ne (Ne.symm D.v_le), upd_ne (Ne.symm nle)]
        exact hle2
      · rw [upd_ne nv, upd_ne nv, upd_same]
        rfl
      · have ap : ∀ b, b ∈ l1.foot p1 → b ≠ v ∧ b ≠ le ∧ b ≠ lr' := fun b m => ⟨fun z => hS1 b m (z ▸ D.fv), fun z => hS1 b m (z ▸ D.fle), fun z => S1.fresh hn0 (z ▸ m)⟩
        exact ⟨l1, S1.keep fun b o m e => by rw [kk b (ap b m).1 (ap b m).2.1 (ap b m).2.2]; exact e, fun b m => ⟨.inr (.inl m), ap b m⟩⟩
      · rcases List.mem_cons.mp (List.mem_of_mem_take hx) with z | z
        · rw [z]; exact old _ D.now
        · exact old _ (D.es_ x z)
      · show (d.now :: d.past).take 30 = _
        rw [D.past, List.map_take]
        rfl
      · by_cases h1 : b = v
        · rw [h1]; exact ⟨_, upd_same⟩
        by_cases h2 : b = le
        · rw [h2, upd_ne (Ne.symm D.v_le), upd_ne (Ne.symm D.v_le), upd_ne (Ne.symm nle)]
          exact ⟨_, hle2⟩
        by_cases h3 : b = lr'
        · rw [h3, upd_ne nv, upd_ne nv]
          exact ⟨_, upd_same⟩
        rw [kk b h1 h2 h3]
        rcases f with f | f | f
        · exact D.al b f
        · exact S1.foot_some f
        · exact absurd f h3
      · rw [kk b (fun z => n (by rw [z]; exact D.fv)) (fun z => n (by rw [z]; exact D.fle)) (fun z => by rw [z, hn0] at e; cases e)]
        exact e
      · rcases f with f | f | f
        · exact .inl f
        · exact .inr (.inl f)
        · exact .inr (.inr (by rw [f]; exact hn0))
    refine ⟨_, rfl, v, _, dx, _, _, rfl, D.hv, T.C_Voyage.cl, T.n_Voyage_earlier, rfl, .inl ⟨rfl, _, SqL.of D.hle⟩, _, rfl, v, _, dx, _, _, rfl, D.hv, T.C_Voyage.cl, T.n_Voyage_ship, rfl, le, _, _, rfl, rfl, D.hle, small1000 (by rw [refE_length]; omega), ?_⟩
    rw [refE_snoc (x := (p, d.now))]
    have hv1 : (upd H le (.lst (refE ((p, d.now) :: es)))) v = some (.ins a.C_Voyage dx (vf p le lr)) := by rw [upd_ne D.v_le]; exact D.hv
    refine ⟨_, rfl, v, _, dx, _, _, rfl, hv1, T.C_Voyage.cl, T.n_Voyage_earlier, rfl, le, refE ((p, d.now) :: es), rfl, .inl (SqL.of upd_same), _, _, rfl, rfl, _, rfl, ite2 (fun c => ?_) (fun c => ?_)⟩
    · have c := of_decide_eq_true c
      rw [refE_length, List.length_cons] at c
      have h31 : ((p, d.now) :: es).length = 31 := by rw [List.length_cons]; omega
      obtain ⟨y, hy⟩ : ∃ y, (refE ((p, d.now) :: es))[0]? = some y := ⟨_, List.getElem?_eq_getElem (by rw [refE_length, h31]; decide)⟩
      refine ⟨_, rfl, v, _, dx, _, _, rfl, hv1, T.C_Voyage.cl, T.n_Voyage_earlier, rfl, .inl ⟨rfl, _, SqL.of upd_same⟩, le, refE ((p, d.now) :: es), 0, 0, y, rfl, rfl, upd_same, (by decide), (by decide), (by rw [refE_length, h31]; rfl), hy, ?_⟩
      rw [refE_take h31]
      refine ⟨Nat.zero_le _, fun lr' hn => ?_⟩
      have nv : v ≠ lr' := fun z => by
        rw [← z, upd_ne D.v_le] at hn
        exact absurd (hn.symm.trans hv1) (by simp)
      refine ⟨_, rfl, v, _, dx, _, rfl, (by rw [upd_ne nv, upd_ne D.v_le]; exact hv1), T.C_Voyage.cl, T.n_Voyage_later, (by show 3 < 1000; decide), ?_⟩
      exact ⟨_, rfl, _, rfl, v, _, dx, _, rfl, upd_same, T.C_Voyage.cl, T.n_Voyage_ship, (by show 3 < 1000; decide), fin _ lr' hn upd_same fun b hb => by rw [upd_ne hb, upd_ne hb]⟩
    · have c := of_decide_eq_false (eq_false_of_ne_true c)
      rw [refE_length, List.length_cons] at c
      have e30 : ((p, d.now) :: es).take 30 = (p, d.now) :: es := List.take_of_length_le (by rw [List.length_cons]; omega)
      refine ⟨Nat.zero_le _, fun lr' hn => ?_⟩
      have nv : v ≠ lr' := ne_of_none hv1 hn
      refine ⟨_, rfl, v, _, dx, _, rfl, (by rw [upd_ne nv]; exact hv1), T.C_Voyage.cl, T.n_Voyage_later, (by show 3 < 1000; decide), ?_⟩
      exact ⟨_, rfl, _, rfl, v, _, dx, _, rfl, upd_same, T.C_Voyage.cl, T.n_Voyage_ship, (by show 3 < 1000; decide), fin _ lr' hn (by rw [e30]; exact upd_same) fun b hb => upd_ne hb⟩
end
end Gw
namespace Gw
open PySem PySem.Spec PyProof.Rows L2
section
variable {P : Program} {w : World} {K : PySem.W.Frag} {mg : Str → Option Value} {base : Heap} {a : Adr}
/-- a def that can be called as a handler -/
structure Hnd (P : Program) (w : World) (K : PySem.W.Frag) (mg : Str → Option Value) (base : Heap) (k : Nat) (f : Addr) (sp : Sp) : Prop where
  ex : ∃ fd ps, FnOk P w K mg base CX0 k f fd ps sp ∧ PySem.W.keepIn K (.ref f) = true ∧ Binds K fd ps []
def sp_call_with (P : Program) (w : World) (K : PySem.W.Frag) (mg : Str → Option Value) (base : Heap) (k : Nat) : Sp := fun vs H Q _ => ∃ f sp, ∃ p : V, ∃ gl, ∃ ns : List Int, vs = [.ref f, p, .ref gl] ∧ Hnd P w K mg base k f sp ∧ H gl = some (.lst (ns.map V.int)) ∧ ns.length ≤ 2 ∧ sp (p :: ns.map V.int) H Q E0
theorem ok_call_with (T : Txt K mg a) : FnOk P w K mg base CX0 6 a.f_call_with a.d_call_with ["handler", "ship", "given"] (sp_call_with P w K mg base 5) := by
  refine T.D_call_with.F.ok sc_call_with (fun vs H Q E h => ?_) (fun cdv A outer st H vs Q E hr h => ?_)
  · obtain ⟨f, sp, p, gl, ns, rfl, _⟩ := h
    rfl
  · obtain ⟨f, sp, p, gl, ns, rfl, ⟨fd, ps, F, hk, hb⟩, hg, hl, k⟩ := h
    refine ⟨_, (pss_cons (ps_if (pt_cmpR op_eq (pe_callB call_len_seq (by rfl) T.x_len PySem.boot_len (pa_cons (pv 2) pa_nil)) pe_int (nomark _)) (pss_one (ps_ret (pe_callv (k := 5) (pv 0) (hr.mono (by decide)) (pa_cons (pv 1) pa_nil)))) pss_nil) (pss_cons (ps_if (pt_cmpR op_eq (pe_callB call_len_seq (by rfl) T.x_len PySem.boot_len (pa_cons (pv 2) pa_nil)) pe_int (nomark _)) (pss_one (ps_ret (pe_callv (k := 5) (pv 0) (hr.mono (by decide)) (pa_cons (pv 1) (pa_cons (pe_ix ix_list (pv 2) pe_int (fun _ _ => rfl)) pa_nil))))) pss_nil) (pss_one (ps_ret (pe_callv (k := 5) (pv 0) (hr.mono (by decide)) (pa_cons (pv 1) (pa_cons (pe_ix ix_list (pv 2) pe_int (fun _ _ => rfl)) (pa_cons (pe_ix ix_list (pv 2) pe_int (fun _ _ => rfl)) pa_nil)))))))), ?_⟩
    match ns, hl with
    | [], _ => exact ⟨_, rfl, gl, _, rfl, .inl (SqL.of hg), rfl, _, rfl, iteT ⟨_, rfl, f, fd, ps, sp, rfl, F, hk, hb, _, rfl, k⟩⟩
    | [x], _ => exact ⟨_, rfl, gl, _, rfl, .inl (SqL.of hg), rfl, _, rfl, iteF ⟨_, rfl, gl, _, rfl, .inl (SqL.of hg), rfl, _, rfl, iteT ⟨_, rfl, f, fd, ps, sp, rfl, F, hk, hb, _, rfl, _, rfl, gl, _, _, _, rfl, rfl, SqL.of hg, atI_nat (j := 0) rfl, k⟩⟩⟩
    | [x, y], _ => exact ⟨_, rfl, gl, _, rfl, .inl (SqL.of hg), rfl, _, rfl, iteF ⟨_, rfl, gl, _, rfl, .inl (SqL.of hg), rfl, _, rfl, iteF ⟨_, rfl, f, fd, ps, sp, rfl, F, hk, hb, _, rfl, _, rfl, gl, _, _, _, rfl, rfl, SqL.of hg, atI_nat (j := 0) rfl, _, rfl, gl, _, _, _, rfl, rfl, SqL.of hg, atI_nat (j := 1) rfl, k⟩⟩⟩
theorem hnd {x : Str} {st : Stmt} {ps : List Str} {f : Addr} {fd : FuncData} {j k : Nat} {sp : Sp} (D : Df K mg x st ps f fd) (F : FnOk P w K mg base CX0 j f fd ps sp) (h : j ≤ k) : Hnd P w K mg base k f sp := ⟨fd, ps, F.mono h, D.F.kp, D.B⟩
abbrev chs (a : Adr) : List (Int × Addr) := [(1, a.f_add_gate), (2, a.f_add_person), (3, a.f_add_child), (4, a.f_add_visitor), (5, a.f_change_card), (6, a.f_turn_gate), (7, a.f_scan_card), (8, a.f_leave_for_good), (9, a.f_let_minutes_pass), (10, a.f_set_sail), (11, a.f_give_more_time)]
abbrev qus (a : Adr) : List (Int × Addr) := [(12, a.f_who_has), (13, a.f_where_is), (14, a.f_count_aboard), (15, a.f_who_is_missing), (16, a.f_which_visitors), (17, a.f_which_children), (18, a.f_which_group), (19, a.f_who_is_alone), (20, a.f_who_is_lost), (21, a.f_may_they_go), (22, a.f_is_ready), (23, a.f_missing_for_longest), (24, a.f_look_at_gate), (25, a.f_sum_up)]
theorem changer (T : Txt K mg a) {x : Km440.Call} {z : Int} {ns : List Int} (he : enc x = z :: ns) (h : isChange x = true) : ∃ f sp, atK (chs a) z = some f ∧ Hnd P w K mg base 5 f sp ∧ ns.length ≤ 2 ∧
    ∀ H p s l Q, ShipAt a H p s l → Good s → Does a H p l Q (res s x) → sp (V.ref p :: ns.map V.int) H Q E0 := by
  cases x with
  | gate =>
    obtain ⟨rfl, rfl⟩ := List.cons.inj he
    exact ⟨_, _, rfl, hnd T.D_add_gate (ok_add_gate T) (by decide), (by simp), fun H p s l Q S g k => ⟨p, s, l, rfl, S, g, k⟩⟩
  | person =>
    obtain ⟨rfl, rfl⟩ := List.cons.inj he
    exact ⟨_, _, rfl, hnd T.D_add_person (ok_add_person T) (by decide), (by simp), fun H p s l Q S g k => ⟨p, s, l, rfl, S, g, k⟩⟩
  | child i =>
    obtain ⟨rfl, rfl⟩ := List.cons.inj he
    exact ⟨_, _, rfl, hnd T.D_add_child (ok_add_child T) (by decide), (by simp), fun H p s l Q S g k => ⟨p, s, l, i, rfl, S, g, k⟩⟩
  | visitor i =>
    obtain ⟨rfl, rfl⟩ := List.cons.inj he
    exact ⟨_, _, rfl, hnd T.D_add_visitor (ok_add_visitor T) (by decide), (by simp), fun H p s l Q S g k => ⟨p, s, l, i, rfl, S, g, k⟩⟩
  | card i =>
    obtain ⟨rfl, rfl⟩ := List.cons.inj he
    exact ⟨_, _, rfl, hnd T.D_change_card (ok_change_card T) (by decide), (by simp), fun H p s l Q S g k => ⟨p, s, l, i, rfl, S, g, k⟩⟩
  | open_ i j =>
    obtain ⟨rfl, rfl⟩ := List.cons.inj he
    exact ⟨_, _, rfl, hnd T.D_turn_gate (ok_turn_gate T) (by decide), (by simp), fun H p s l Q S g k => ⟨p, s, l, i, j, rfl, S, g, k⟩⟩
  | scan i j =>
    obtain ⟨rfl, rfl⟩ := List.cons.inj he
    exact ⟨_, _, rfl, hnd T.D_scan_card (ok_scan_card T) (by decide), (by simp), fun H p s l Q S g k => ⟨p, s, l, i, j, rfl, S, g, k⟩⟩
  | leave i =>
    obtain ⟨rfl, rfl⟩ := List.cons.inj he
    exact ⟨_, _, rfl, hnd T.D_leave_for_good (ok_leave_for_good T) (by decide), (by simp), fun H p s l Q S g k => ⟨p, s, l, i, rfl, S, g, k⟩⟩
  | minutes i =>
    obtain ⟨rfl, rfl⟩ := List.cons.inj he
    exact ⟨_, _, rfl, hnd T.D_let_minutes_pass (ok_let_minutes_pass T) (by decide), (by simp), fun H p s l Q S g k => ⟨p, s, l, i, rfl, S, g, k⟩⟩
  | sail i =>
    obtain ⟨rfl, rfl⟩ := List.cons.inj he
    exact ⟨_, _, rfl, hnd T.D_set_sail (ok_set_sail T) (by decide), (by simp), fun H p s l Q S g k => ⟨p, s, l, i, rfl, S, g, k⟩⟩
  | more i j =>
    obtain ⟨rfl, rfl⟩ := List.cons.inj he
    exact ⟨_, _, rfl, hnd T.D_give_more_time (ok_give_more_time T) (by decide), (by simp), fun H p s l Q S g k => ⟨p, s, l, i, j, rfl, S, g, k⟩⟩
  | _ => cases h
theorem asker (T : Txt K mg a) {x : Km440.Call} {z : Int} {ns : List Int} (he : enc x = z :: ns) (h : isAsk x = true) : ∃ f sp, atK (qus a) z = some f ∧ Hnd P w K mg base 5 f sp ∧ ns.length ≤ 2 ∧
    ∀ H p s l Q, ShipAt a H p s l → Good s → Tells H Q (res s x).2 → sp (V.ref p :: ns.map V.int) H Q E0 := by
  cases x with
  | who i =>
    obtain ⟨rfl, rfl⟩ := List.cons.inj he
    exact ⟨_, _, rfl, hnd T.D_who_has (ok_who_has T) (by decide), (by simp), fun H p s l Q S g k => ⟨p, s, l, i, rfl, S, g, k⟩⟩
  | where_ i =>
    obtain ⟨rfl, rfl⟩ := List.cons.inj he
    exact ⟨_, _, rfl, hnd T.D_where_is (ok_where_is T) (by decide), (by simp), fun H p s l Q S g k => ⟨p, s, l, i, rfl, S, g, k⟩⟩
  | count =>
    obtain ⟨rfl, rfl⟩ := List.cons.inj he
    exact ⟨_, _, rfl, hnd T.D_count_aboard (ok_count_aboard T) (by decide), (by simp), fun H p s l Q S g k => ⟨p, s, l, rfl, S, g, k⟩⟩
  | missing =>
    obtain ⟨rfl, rfl⟩ := List.cons.inj he
    exact ⟨_, _, rfl, hnd T.D_who_is_missing (ok_who_is_missing T) (by decide), (by simp), fun H p s l Q S g k => ⟨p, s, l, rfl, S, g, k⟩⟩
  | visitors =>
    obtain ⟨rfl, rfl⟩ := List.cons.inj he
    exact ⟨_, _, rfl, hnd T.D_which_visitors (ok_which_visitors T) (by decide), (by simp), fun H p s l Q S g k => ⟨p, s, l, rfl, S, g, k⟩⟩
  | children i =>
    obtain ⟨rfl, rfl⟩ := List.cons.inj he
    exact ⟨_, _, rfl, hnd T.D_which_children (ok_which_children T) (by decide), (by simp), fun H p s l Q S g k => ⟨p, s, l, i, rfl, S, g, k⟩⟩
  | group i =>
    obtain ⟨rfl, rfl⟩ := List.cons.inj he
    exact ⟨_, _, rfl, hnd T.D_which_group (ok_which_group T) (by decide), (by simp), fun H p s l Q S g k => ⟨p, s, l, i, rfl, S, g, k⟩⟩
  | alone =>
    obtain ⟨rfl, rfl⟩ := List.cons.inj he
    exact ⟨_, _, rfl, hnd T.D_who_is_alone (ok_who_is_alone T) (by decide), (by simp), fun H p s l Q S g k => ⟨p, s, l, rfl, S, g, k⟩⟩
  | lost =>
    obtain ⟨rfl, rfl⟩ := List.cons.inj he
    exact ⟨_, _, rfl, hnd T.D_who_is_lost (ok_who_is_lost T) (by decide), (by simp), fun H p s l Q S g k => ⟨p, s, l, rfl, S, g, k⟩⟩
  | may i =>
    obtain ⟨rfl, rfl⟩ := List.cons.inj he
    exact ⟨_, _, rfl, hnd T.D_may_they_go (ok_may_they_go T) (by decide), (by simp), fun H p s l Q S g k => ⟨p, s, l, i, rfl, S, g, k⟩⟩
  | maySail =>
    obtain ⟨rfl, rfl⟩ := List.cons.inj he
    exact ⟨_, _, rfl, hnd T.D_is_ready (ok_is_ready T) (by decide), (by simp), fun H p s l Q S g k => ⟨p, s, l, rfl, S, g, k⟩⟩
  | long_ =>
    obtain ⟨rfl, rfl⟩ := List.cons.inj he
    exact ⟨_, _, rfl, hnd T.D_missing_for_longest (ok_missing_for_longest T) (by decide), (by simp), fun H p s l Q S g k => ⟨p, s, l, rfl, S, g, k⟩⟩
  | gateOf i =>
    obtain ⟨rfl, rfl⟩ := List.cons.inj he
    exact ⟨_, _, rfl, hnd T.D_look_at_gate (ok_look_at_gate T) (by decide), (by simp), fun H p s l Q S g k => ⟨p, s, l, i, rfl, S, g, k⟩⟩
  | sums =>
    obtain ⟨rfl, rfl⟩ := List.cons.inj he
    exact ⟨_, _, rfl, hnd T.D_sum_up (ok_sum_up T) (by decide), (by simp), fun H p s l Q S g k => ⟨p, s, l, rfl, S, g, k⟩⟩
  | _ => cases h
theorem no_change {x : Km440.Call} {z : Int} {ns : List Int} (he : enc x = z :: ns) (h : isChange x = false) : atK (chs a) z = none := by
  cases x with
  | gate => cases h
  | person => cases h
  | child _ => cases h
  | visitor _ => cases h
  | card _ => cases h
  | open_ _ _ => cases h
  | scan _ _ => cases h
  | leave _ => cases h
  | minutes _ => cases h
  | sail _ => cases h
  | more _ _ => cases h
  | _ => (obtain ⟨rfl, _⟩ := List.cons.inj he; rfl)
theorem actT_change (d : Km440.Desk) {c : Km440.Call} (h : isChange c = true) : actT d c = (if (ans d.now c).value < 0 then d else d.become (res d.now c).1, (res d.now c).2) := by
  unfold actT
  rw [act_change d h]
  rfl
theorem actT_ask (d : Km440.Desk) {c : Km440.Call} (h : isAsk c = true) : actT d c = (d, (res d.now c).2) := by
  unfold actT
  rw [act_ask d h]
  rfl
def sp_change (a : Adr) : Sp := fun vs H Q _ => ∃ v d F z gl, ∃ ns : List Int, ∃ x, vs = [.ref v, .int z, .ref gl] ∧ DeskAt a H v d F ∧ GoodD d ∧ enc x = z :: ns ∧ isChange x = true ∧ H gl = some (.lst (ns.map V.int)) ∧ Gets a H v F Q (actT d x)
theorem ok_change (T : Txt K mg a) : FnOk P w K mg base CX0 7 a.f_change a.d_change ["voyage", "number", "given"] (sp_change a) := by
  have G_copied_ship := ok_copied_ship (P := P) (w := w) (base := base) T
  have G_call_with := ok_call_with (P := P) (w := w) (base := base) T
  have G_keep_change := ok_keep_change (P := P) (w := w) (base := base) T
  refine T.D_change.F.ok sc_change (fun vs H Q E h => ?_) (fun cdv A outer st H vs Q E hr h => ?_)
  · obtain ⟨v, d, F, z, gl, ns, x, rfl, _⟩ := h
    rfl
  · obtain ⟨v, d, F, z, gl, ns, x, rfl, ⟨dx, le, lr, p, es, fs, D⟩, g, he, hx, hg, k⟩ := h
    refine ⟨_, (pss_cons (ps_set (i := 3) sc_change.nd rfl (Or.inl rfl) (pe_call G_copied_ship (hr.mono (by decide)) rfl T.D_copied_ship.m T.D_copied_ship.F.kp T.D_copied_ship.B .nil pass0 (pa_cons (pe_fld (pv 0) rfl) pa_nil))) (pss_cons (ps_set (i := 4) sc_change.nd rfl (Or.inl rfl) (pe_call G_call_with (hr.mono (by decide)) rfl T.D_call_with.m T.D_call_with.F.kp T.D_call_with.B .nil pass0 (pa_cons (pe_kdget T.k_CHANGES rfl T.m_CHANGES (pv 1) (fun _ _ => rfl)) (pa_cons (pv 3) (pa_cons (pv 2) pa_nil))))) (pss_cons (ps_if (pt_cmpR op_ge (pe_ix ix_list (pv 4) pe_int (fun _ _ => rfl)) pe_int (nomark _)) (pss_one (ps_expr (pe_call G_keep_change (hr.mono (by decide)) rfl T.D_keep_change.m T.D_keep_change.F.kp T.D_keep_change.B .nil pass0 (pa_cons (pv 0) (pa_cons (pv 3) pa_nil))))) pss_nil) (pss_one (ps_ret (pv 4)))))), ?_⟩
    rw [actT_change d hx] at k
    obtain ⟨f, sp, hf, hh, hn, hsp⟩ := changer (P := P) (w := w) (base := base) T he hx
    obtain ⟨l, S, hS⟩ := D.now
    refine ⟨_, rfl, v, _, dx, _, _, rfl, D.hv, T.C_Voyage.cl, T.n_Voyage_ship, rfl, p, d.now, l, rfl, S, g.now, fun H1 p1 l1 sm1 S1 f1 => ?_⟩
    refine ⟨_, rfl, _, _, rfl, hf, _, rfl, _, rfl, f, sp, _, gl, ns, rfl, hh, sm1 _ _ hg, hn, hsp H1 p1 d.now l1 _ S1 g.now fun H2 l2 q C hq hqn hH2 => ?_⟩
    have sm2 : Same H H2 := fun b o e => C.keep b o (sm1 _ _ e) fun m => by rw [f1 b m] at e; cases e
    have D2 : DeskAt a H2 v d F := D.at_.keep fun b o _ e => sm2 b o e
    have fresh : ∀ b, b ∈ l2.foot p1 → H b = none := fun b m => by
      rcases C.foot b m with z | z
      · exact f1 b z
      · exact sm1.free z
    refine ⟨_, rfl, q, _, _, _, rfl, rfl, SqL.of hH2, atI_nat (j := 0) (v := V.int (ans d.now x).value) rfl, _, _, rfl, rfl, _, rfl, ite2 (fun c => ?_) (fun c => ?_)⟩
    · have c := of_decide_eq_true c
      rw [if_neg (by omega)] at k
      refine ⟨_, rfl, _, rfl, v, d, F, p1, _, l2, rfl, D2, g, C.at_, fun b m hF => ?_, fun H3 F3 D3 k3 f3 => ⟨_, rfl, k H3 F3 q D3 (fun b o e n => k3 b o (sm2 _ _ e) n) (fun b hF => ?_) (sm1.free hq) (k3 q _ hH2 fun hF => ?_)⟩⟩
      · obtain ⟨o, ho⟩ := D.al b hF
        rw [fresh b m] at ho
        cases ho
      · rcases f3 b hF with z | z | z
        · exact .inl z
        · exact .inr (fresh b z)
        · exact .inr (sm2.free z)
      · obtain ⟨o, ho⟩ := D.al q hF
        rw [sm1.free hq] at ho
        cases ho
    · have c := of_decide_eq_false (eq_false_of_ne_true c)
      rw [if_pos (by omega)] at k
      exact ⟨_, rfl, k H2 F q D2 (fun b o e _ => sm2 b o e) (fun b hF => .inl hF) (sm1.free hq) hH2⟩
def sp_answer_one (a : Adr) : Sp := fun vs H Q _ => ∃ v d F z gl, ∃ ns : List Int, ∃ x, vs = [.ref v, .int z, .ref gl] ∧ DeskAt a H v d F ∧ GoodD d ∧ enc x = z :: ns ∧ Km440.isStart x = false ∧ H gl = some (.lst (ns.map V.int)) ∧ Gets a H v F Q (actT d x)
theorem kinds {x : Km440.Call} (h1 : isChange x = false) (h2 : isAsk x = false) (h3 : Km440.isStart x = false) : x = .back ∨ x = .again ∨ x = .state := by
  cases x with
  | back => exact .inl rfl
  | again => exact .inr (.inl rfl)
  | state => exact .inr (.inr rfl)
  | _ => first | cases h1; done | cases h2; done | cases h3; done
theorem no_ask {x : Km440.Call} {z : Int} {ns : List Int} (he : enc x = z :: ns) (h : x = .back ∨ x = .again ∨ x = .state) : atK (qus a) z = none := by
  rcases h with rfl | rfl | rfl <;> (obtain ⟨rfl, _⟩ := List.cons.inj he; rfl)
theorem ok_answer_one (T : Txt K mg a) : FnOk P w K mg base CX0 8 a.f_answer_one a.d_answer_one ["voyage", "number", "given"] (sp_answer_one a) := by
  have G_change := ok_change (P := P) (w := w) (base := base) T
  have G_call_with := ok_call_with (P := P) (w := w) (base := base) T
  refine T.D_answer_one.F.ok sc_answer_one (fun vs H Q E h => ?_) (fun cdv A outer st H vs Q E hr h => ?_)
  · obtain ⟨v, d, F, z, gl, ns, x, rfl, _⟩ := h
    rfl
  · obtain ⟨v, d, F, z, gl, ns, x, rfl, D, g, he, hs, hg, k⟩ := h
    refine ⟨_, (pss_cons (ps_if (pt_cmpR (op_kdin T.k_CHANGES) (pv 1) (pe_glob (v := .ref _) rfl T.m_CHANGES rfl) (by with_unfolding_all rfl)) (pss_one (ps_ret (pe_call G_change (hr.mono (by decide)) rfl T.D_change.m T.D_change.F.kp T.D_change.B .nil pass0 (pa_cons (pv 0) (pa_cons (pv 1) (pa_cons (pv 2) pa_nil)))))) pss_nil) (pss_cons (ps_if (pt_cmpR (op_kdin T.k_QUESTIONS) (pv 1) (pe_glob (v := .ref _) rfl T.m_QUESTIONS rfl) (by with_unfolding_all rfl)) (pss_one (ps_ret (pe_call G_call_with (hr.mono (by decide)) rfl T.D_call_with.m T.D_call_with.F.kp T.D_call_with.B .nil pass0 (pa_cons (pe_kdget T.k_QUESTIONS rfl T.m_QUESTIONS (pv 1) (fun _ _ => rfl)) (pa_cons (pe_fld (pv 0) rfl) (pa_cons (pv 2) pa_nil)))))) pss_nil) (pss_one (ps_ret (pe_callx (k := 5) (pe_kdget T.k_VOYAGE_CALLS rfl T.m_VOYAGE_CALLS (pv 1) (fun _ _ => rfl)) (hr.mono (by decide)) (pa_cons (pv 0) pa_nil)))))), ?_⟩
    refine ⟨_, rfl, _, rfl, rfl, _, rfl, ?_⟩
    cases h1 : isChange x with
    | true =>
      obtain ⟨f, sp, hf, _⟩ := changer (P := P) (w := w) (base := base) T he h1
      have e1 : (atK (chs a) z).isSome = true := by rw [hf]; rfl
      rw [e1]
      exact iteT ⟨_, rfl, _, rfl, _, rfl, v, d, F, z, gl, ns, x, rfl, D, g, he, h1, hg, k⟩
    | false =>
      have e1 : (atK (chs a) z).isSome = false := by rw [no_change he h1]; rfl
      rw [e1]
      refine iteF ⟨_, rfl, _, rfl, rfl, _, rfl, ?_⟩
      cases h2 : isAsk x with
      | true =>
        obtain ⟨f, sp, hf, hh, hn, hsp⟩ := asker (P := P) (w := w) (base := base) T he h2
        have e2 : (atK (qus a) z).isSome = true := by rw [hf]; rfl
        rw [e2]
        rw [actT_ask d h2] at k
        have k := k.tell D
        obtain ⟨dx, le, lr, p, es, fs, D⟩ := D
        obtain ⟨l, S, hS⟩ := D.now
        exact iteT ⟨_, rfl, _, _, rfl, hf, _, rfl, v, _, dx, _, _, rfl, D.hv, T.C_Voyage.cl, T.n_Voyage_ship, rfl, _, rfl, f, sp, _, gl, ns, rfl, hh, hg, hn, hsp H p d.now l _ S g.now k⟩
      | false =>
        have h3 := kinds h1 h2 hs
        have e2 : (atK (qus a) z).isSome = false := by rw [no_ask he h3]; rfl
        rw [e2]
        refine iteF ?_
        rcases h3 with rfl | rfl | rfl
        · obtain ⟨rfl, rfl⟩ := List.cons.inj he
          exact ⟨_, rfl, _, _, rfl, rfl, _, _, _, _, rfl, (ok_take_back T).mono (by decide), T.D_take_back.F.kp, T.D_take_back.B, _, rfl, v, d, F, rfl, D, g, k⟩
        · obtain ⟨rfl, rfl⟩ := List.cons.inj he
          exact ⟨_, rfl, _, _, rfl, rfl, _, _, _, _, rfl, (ok_do_again T).mono (by decide), T.D_do_again.F.kp, T.D_do_again.B, _, rfl, v, d, F, rfl, D, g, k⟩
        · obtain ⟨rfl, rfl⟩ := List.cons.inj he
          exact ⟨_, rfl, _, _, rfl, rfl, _, _, _, _, rfl, (ok_tell_state T).mono (by decide), T.D_tell_state.F.kp, T.D_tell_state.B, _, rfl, v, d, F, rfl, D, g, k⟩
end
end Gw
namespace Gw
open PySem PySem.Spec PyProof.Rows L2
/-! ## All calls, one behind the other -/
abbrev givens : List V := [.int 2, .int 0, .int 0, .int 1, .int 1, .int 1, .int 2, .int 2, .int 1, .int 1, .int 1, .int 2, .int 1, .int 1, .int 0, .int 0, .int 0, .int 1, .int 1, .int 0, .int 0, .int 1, .int 0, .int 0, .int 1, .int 0, .int 0, .int 0, .int 0]
theorem given_at {x : Km440.Call} {z : Int} {ns : List Int} (he : enc x = z :: ns) : atI givens z = some (V.int ((ns.length : Nat) : Int)) := by
  cases x <;> (obtain ⟨rfl, rfl⟩ := List.cons.inj he; rfl)
theorem enc_cons (x : Km440.Call) : ∃ z ns, enc x = z :: ns ∧ ns.length ≤ 2 := by
  cases x <;> exact ⟨_, _, rfl, by simp⟩
theorem cut_at {us ns ws : List Int} {z : Int} : cutV ((us ++ (z :: ns) ++ ws).map V.int) (some ((us.length : Int) + 1)) (some ((us.length : Int) + 1 + (ns.length : Int))) = ns.map V.int := by
  unfold cutV
  have e1 : ((us.length : Int) + 1) = ((us.length + 1 : Nat) : Int) := by omega
  have e2 : (((us.length + 1 : Nat) : Int) + (ns.length : Int)) = ((us.length + 1 + ns.length : Nat) : Int) := by omega
  rw [e1, e2, HT.sIx_nat, HT.sIx_nat]
  have el : ((us ++ (z :: ns) ++ ws).map V.int).length = us.length + 1 + ns.length + ws.length := by
    rw [List.length_map, List.length_append, List.length_append, List.length_cons]
    omega
  rw [el, Nat.min_eq_left (by omega), Nat.min_eq_left (by omega), ← List.map_drop, ← List.map_take]
  congr 1
  have e3 : us ++ (z :: ns) ++ ws = (us ++ [z]) ++ (ns ++ ws) := by simp
  have e4 : us.length + 1 = (us ++ [z]).length := by simp
  rw [e3, show us.length + 1 + ns.length - (us.length + 1) = ns.length by omega, e4, List.drop_left, List.take_left]
def Has (a : Adr) (H : Hp) (S : Option Km440.Desk) (vo : V) (F : Addr → Prop) : Prop := match S with
  | none => vo = .non ∧ ∀ b, ¬ F b
  | some d => ∃ v, vo = .ref v ∧ DeskAt a H v d F ∧ GoodD d
theorem Has.keep {a : Adr} {H H' : Hp} {S : Option Km440.Desk} {vo : V} {F : Addr → Prop} (h : Has a H S vo F) (k : ∀ b o, F b → H b = some o → H' b = some o) : Has a H' S vo F := by
  cases S with
  | none => exact h
  | some d =>
    obtain ⟨v, e, D, g⟩ := h
    exact ⟨v, e, D.keep k, g⟩
theorem big7000 {n : Nat} (h : n ≤ 7100) : n < sizeLine := Nat.lt_of_le_of_lt h (by decide)
/-- where the loop stands -/
structure Loop (a : Adr) (xs : List Km440.Call) (H : Hp) (t : Addr) (H' : Hp) (done rest : List Km440.Call) (S : Option Km440.Desk) (vo : V) (F : Addr → Prop) (out : List Int) : Prop where
  xs_ : xs = done ++ rest
  has : Has a H' S vo F
  same : Same H H'
  new : ∀ b, F b → H b = none
  nt : ¬ F t
  ht : H' t = some (.lst (out.map V.int))
  all : out ++ run S rest = run none xs
  len : out.length ≤ 7 * done.length
  may_ : may S rest = true
theorem Loop.step {a : Adr} {xs : List Km440.Call} {H : Hp} {t : Addr} {H1 H2 : Hp} {done rest : List Km440.Call} {x : Km440.Call} {S : Option Km440.Desk} {vo vo' : V} {F F' : Addr → Prop} {out : List Int} (L : Loop a xs H t H1 done (x :: rest) S vo F out) (t0 : H t = none)
    (has : Has a H2 (stepC S x).1 vo' F') (same : Same H H2) (new : ∀ b, F' b → H b = none) (nt : ¬ F' t) :
    Loop a xs H t (upd (upd H2 t (.lst (out.map V.int ++ [V.int (((stepC S x).2.map V.int).length : Nat)]))) t (.lst ((out.map V.int ++ [V.int (((stepC S x).2.map V.int).length : Nat)]) ++ (stepC S x).2.map V.int))) (done ++ [x]) rest (stepC S x).1 vo' F' (out ++ tell (stepC S x).2) := by
  refine ⟨by rw [L.xs_]; simp, has.keep fun b o f e => ?_, fun b o e => ?_, new, nt, ?_, ?_, ?_, ?_⟩
  · rw [upd_ne (fun z => nt (z ▸ f) : b ≠ t), upd_ne (fun z => nt (z ▸ f) : b ≠ t)]
    exact e
  · rw [upd_ne (ne_of_none e t0), upd_ne (ne_of_none e t0)]
    exact same b o e
  · rw [upd_same]
    congr 2
    unfold tell
    rw [List.map_append, List.map_cons, List.append_assoc, List.length_map]
    rfl
  · rw [← L.all, List.append_assoc]
    rfl
  · rw [List.length_append, List.length_append]
    have h1 := L.len
    have h2 := stepC_len S x
    unfold tell
    rw [List.length_cons, List.length_singleton]
    omega
  · have := L.may_
    unfold may at this
    exact (Bool.and_eq_true .. ▸ this).2
def Pv (a : Adr) (xs : List Km440.Call) (H : Hp) (c t : Addr) (σ : L2.St) (H' : Hp) : Prop := ∃ done rest S vo F out n4 n5 n6 n7, σ = [some (V.ref c), some (V.ref t), some vo, some (V.int (((done.flatMap enc).length : Nat) : Int)), n4, n5, n6, n7] ∧ Loop a xs H t H' done rest S vo F out
def left (n : Nat) (σ : List (Option V)) : Nat := match σ[3]? with
  | some (some (V.int z)) => ((n : Int) - z).toNat
  | _ => 0
section
variable {P : Program} {w : World} {K : PySem.W.Frag} {mg : Str → Option Value} {base : Heap} {a : Adr}
def sp_answers (K : PySem.W.Frag) : Sp := fun vs H Q _ => ∃ c xs, vs = [.ref c] ∧ SqL K H c ((xs.flatMap enc).map V.int) ∧ xs.length ≤ 1000 ∧ may none xs = true ∧ ∀ (H' : Hp) (t : Addr), H' t = some (.lst ((run none xs).map V.int)) → Q (.ref t) H'
theorem stepC_some (d : Km440.Desk) (x : Km440.Call) : stepC (some d) x = (some (actT d x).1, (actT d x).2) := rfl
theorem stepC_start (S : Option Km440.Desk) (n t : Nat) : stepC S (.start n t) = if n = 0 ∨ 24 < n ∨ 100000 < t then (S, [-22]) else (some ⟨Km440.opened n t, [], []⟩, [0]) := by
  cases S with
  | none => rfl
  | some d =>
    have ea : Km440.act d (.start n t) = (if n = 0 ∨ 24 < n ∨ 100000 < t then (d, Km440.only (-22)) else (⟨Km440.opened n t, [], []⟩, Km440.only 0)) := rfl
    unfold stepC
    dsimp only
    rw [ea]
    split <;> rfl
theorem start_is {x : Km440.Call} (h : Km440.isStart x = true) : ∃ n t, x = .start n t := by
  cases x with
  | start n t => exact ⟨n, t, rfl⟩
  | _ => cases h
theorem not_start {x : Km440.Call} {z : Int} {ns : List Int} (he : enc x = z :: ns) (h : Km440.isStart x = false) : (!decide (V.int z = V.int 0)) = true := by
  cases x with
  | start n t => cases h
  | _ => (obtain ⟨rfl, _⟩ := List.cons.inj he; rfl)
theorem may_some {S : Option Km440.Desk} {x : Km440.Call} {r : List Km440.Call} (h : may S (x :: r) = true) (hs : Km440.isStart x = false) : ∃ d, S = some d := by
  cases S with
  | some d => exact ⟨d, rfl⟩
  | none =>
    unfold may at h
    cases x with
    | start n t => cases hs
    | _ => cases h
theorem ok_answers (T : Txt K mg a) : FnOk P w K mg base CX0 9 a.f_answers a.d_answers ["calls"] (sp_answers K) := by
  have G_answer_one := ok_answer_one (P := P) (w := w) (base := base) T
  have G_can_start := ok_can_start (P := P) (w := w) (base := base) T
  have G_Voyage_init := ok_Voyage_init (P := P) (w := w) (base := base) T
  have G_Ship_init := ok_Ship_init (P := P) (w := w) (base := base) T
  refine T.D_answers.F.ok sc_answers (fun vs H Q E h => ?_) (fun cdv A outer st H vs Q E hr h => ?_)
  · obtain ⟨c, xs, rfl, _⟩ := h
    rfl
  · obtain ⟨c, xs, rfl, hc, hn, hm, k⟩ := h
    refine ⟨_, (pss_cons (ps_set (i := 1) sc_answers.nd rfl (Or.inl rfl) (pe_lst pa_nil)) (pss_cons (ps_set (i := 2) sc_answers.nd rfl (Or.inl rfl) pe_non) (pss_cons (ps_set (i := 3) sc_answers.nd rfl (Or.inl rfl) pe_int) (pss_cons (ps_while PassesOwn.never (pt_cmpR op_lt (pv 3) (pe_callB call_len_seq (by rfl) T.x_len PySem.boot_len (pa_cons (pv 0) pa_nil)) (nomark _)) (pss_cons (ps_set (i := 4) sc_answers.nd rfl (Or.inl rfl) (pe_ix ix_list (pv 0) (pv 3) (fun _ _ => rfl))) (pss_cons (ps_set (i := 5) sc_answers.nd rfl (Or.inl rfl) (pe_op op_add (pe_op op_add (pv 3) pe_int) (pe_ix ix_tup (pe_glob (v := .ref _) rfl T.m_HOW_MANY_GIVEN rfl) (pv 4) (fun _ _ => rfl)))) (pss_cons (ps_set (i := 6) sc_answers.nd rfl (Or.inl rfl) (pe_slice sl_list (pv 0) (po_some (pe_op op_add (pv 3) pe_int)) (po_some (pv 5)))) (pss_cons (ps_if (pt_cmpR op_ne (pv 4) (pe_gint T.c_START rfl) (nomark _)) (pss_one (ps_set (i := 7) sc_answers.nd rfl (Or.inl rfl) (pe_call G_answer_one (hr.mono (by decide)) rfl T.D_answer_one.m T.D_answer_one.F.kp T.D_answer_one.B .nil pass0 (pa_cons (pv 2) (pa_cons (pv 4) (pa_cons (pv 6) pa_nil)))))) (pss_one (ps_if (pt_val (pe_call G_can_start (hr.mono (by decide)) rfl T.D_can_start.m T.D_can_start.F.kp T.D_can_start.B .nil pass0 (pa_cons (pe_ix ix_list (pv 6) pe_int (fun _ _ => rfl)) (pa_cons (pe_ix ix_list (pv 6) pe_int (fun _ _ => rfl)) pa_nil)))) (pss_cons (ps_set (i := 2) sc_answers.nd rfl (Or.inl rfl) (pe_make T.C_Voyage.mkr G_Voyage_init (hr.mono (by decide)) rfl T.C_Voyage.m T.D_Voyage_init.B .nil pass0 (pa_cons (pe_make T.C_Ship.mkr G_Ship_init (hr.mono (by decide)) rfl T.C_Ship.m T.D_Ship_init.B .nil pass0 (pa_cons (pe_ix ix_list (pv 6) pe_int (fun _ _ => rfl)) (pa_cons (pe_ix ix_list (pv 6) pe_int (fun _ _ => rfl)) pa_nil))) pa_nil))) (pss_one (ps_set (i := 7) sc_answers.nd rfl (Or.inl rfl) (pe_lst (pa_cons pe_int pa_nil))))) (pss_one (ps_set (i := 7) sc_answers.nd rfl (Or.inl rfl) (pe_lst (pa_cons (pe_gint T.c_WRONG_NUMBER rfl) pa_nil))))))) (pss_cons (ps_expr (pe_bm PySem.F.plainAttrs_list PySem.F.slot_list_append PySem.F.type_list_append mt_append (pv 1) (pa_cons (pe_callB call_len_seq (by rfl) T.x_len PySem.boot_len (pa_cons (pv 7) pa_nil)) pa_nil))) (pss_cons (ps_expr (pe_bm PySem.F.plainAttrs_list PySem.F.slot_list_extend PySem.F.type_list_extend mt_extend (pv 1) (pa_cons (pv 7) pa_nil))) (pss_one (ps_set (i := 3) sc_answers.nd rfl (Or.inl rfl) (pv 5)))))))))) (pss_one (ps_ret (pv 1))))))), ?_⟩
    refine ⟨Nat.zero_le _, fun t t0 => ?_⟩
    refine while_by (Pv a xs H c t) (fun σ _ => left (xs.flatMap enc).length σ)
      ⟨[], xs, none, .non, fun _ => False, [], _, _, _, _, rfl, ⟨rfl, ⟨rfl, fun b f => f⟩, Same.new t0, fun b f => f.elim, fun f => f, upd_same, rfl, Nat.zero_le _, hm⟩⟩ ?_ ?_
    · rintro σ H1 ⟨done, rest, S, vo, F, out, n4, n5, n6, n7, rfl, L⟩
      have hc1 := Same.seq L.same hc
      have ex := L.xs_
      refine ⟨_, rfl, _, rfl, c, _, rfl, .inl hc1, _, _, rfl, rfl, _, rfl, ?_⟩
      have hlx : xs.length = done.length + rest.length := by rw [ex, List.length_append]
      have hol : out.length ≤ 7 * 1000 := Nat.le_trans L.len (by omega)
      match rest, L, hlx with
      | [], L, _ =>
        have ed : xs = done := by rw [L.xs_, List.append_nil]
        have eo : out = run none xs := by
          have := L.all
          rw [← this]
          exact (List.append_nil _).symm
        rw [List.length_map, ed]
        refine ite2 (fun z => ?_) (fun _ => ?_)
        · have z := of_decide_eq_true z
          omega
        · refine ⟨_, rfl, k H1 t ?_⟩
          rw [← eo]
          exact L.ht
      | x :: r, L, hlx =>
        obtain ⟨z, ns, he, hns⟩ := enc_cons x
        have el : xs.flatMap enc = done.flatMap enc ++ (z :: ns) ++ r.flatMap enc := by
          rw [L.xs_, List.flatMap_append, List.flatMap_cons, he, List.append_assoc]
        rw [List.length_map]
        have hpl : (xs.flatMap enc).length = (done.flatMap enc).length + 1 + ns.length + (r.flatMap enc).length := by
          rw [el, List.length_append, List.length_append, List.length_cons]
          omega
        refine ite2 (fun _ => ?_) (fun z => absurd (decide_eq_true (by omega)) z)
        have hat : (((xs.flatMap enc).map V.int))[(done.flatMap enc).length]? = some (V.int z) := by
          rw [List.getElem?_map, el, List.append_assoc, List.getElem?_append_right (Nat.le_refl _), Nat.sub_self]
          rfl
        refine ⟨_, rfl, _, rfl, c, _, _, _, rfl, rfl, hc1, atI_nat hat, ?_⟩
        refine ⟨_, rfl, _, _, rfl, rfl, _, rfl, _, _, _, _, rfl, rfl, T.k_HOW_MANY_GIVEN _, given_at he, _, _, rfl, rfl, ?_⟩
        refine ⟨_, rfl, _, rfl, _, _, rfl, rfl, _, rfl, _, rfl, _, rfl, c, _, rfl, hc1, fun gl hgl => ?_⟩
        rw [el, cut_at]
        rw [← el]
        have smg : Same H1 (upd H1 gl (.lst (ns.map V.int))) := Same.new hgl
        generalize hH2 : upd H1 gl (.lst (ns.map V.int)) = H2 at smg
        have hg2 : H2 gl = some (.lst (ns.map V.int)) := by rw [← hH2]; exact upd_same
        clear hH2
        have ht2 : H2 t = some (.lst (out.map V.int)) := smg _ _ L.ht
        have sm2 : Same H H2 := L.same.trans smg
        have has2 : Has a H2 S vo F := L.has.keep fun b o _ e => smg b o e
        have s1 : (out.map V.int).length < sizeLine := big7000 (by rw [List.length_map]; omega)
        have s2 : (out.map V.int ++ [V.int (((stepC S x).2.map V.int).length : Nat)]).length + ((stepC S x).2.map V.int).length ≤ sizeLine := by
          have := stepC_len S x
          refine Nat.le_of_lt (big7000 ?_)
          rw [List.length_append, List.length_map, List.length_map, List.length_singleton]
          omega
        have fin : ∀ (H3 : Hp) (vo' : V) (F' : Addr → Prop) (m4 m5 m6 m7 : Option V), Has a H3 (stepC S x).1 vo' F' → Same H H3 → (∀ b, F' b → H b = none) → ¬ F' t →
            Pv a xs H c t [some (V.ref c), some (V.ref t), some vo', some (V.int ((((done.flatMap enc).length : Nat) : Int) + 1 + ((ns.length : Nat) : Int))), m4, m5, m6, m7] (upd (upd H3 t (.lst (out.map V.int ++ [V.int (((stepC S x).2.map V.int).length : Nat)]))) t (.lst ((out.map V.int ++ [V.int (((stepC S x).2.map V.int).length : Nat)]) ++ (stepC S x).2.map V.int))) ∧
            left (xs.flatMap enc).length [some (V.ref c), some (V.ref t), some vo', some (V.int ((((done.flatMap enc).length : Nat) : Int) + 1 + ((ns.length : Nat) : Int))), m4, m5, m6, m7] < left (xs.flatMap enc).length [some (V.ref c), some (V.ref t), some vo, some (V.int (((done.flatMap enc).length : Nat) : Int)), n4, n5, n6, n7] := fun H3 vo' F' m4 m5 m6 m7 h1 h2 h3 h4 => by
          refine ⟨⟨done ++ [x], r, (stepC S x).1, vo', F', out ++ tell (stepC S x).2, m4, m5, m6, m7, ?_, L.step t0 h1 h2 h3 h4⟩, ?_⟩
          · rw [List.flatMap_append, List.flatMap_singleton, he, List.length_append, List.length_cons]
            congr 6
            omega
          · show (((xs.flatMap enc).length : Int) - ((((done.flatMap enc).length : Nat) : Int) + 1 + ((ns.length : Nat) : Int))).toNat < (((xs.flatMap enc).length : Int) - (((done.flatMap enc).length : Nat) : Int)).toNat
            omega
        cases hst : Km440.isStart x with
        | false =>
          refine ⟨_, rfl, rfl, _, rfl, ?_⟩
          rw [not_start he hst]
          obtain ⟨d, rfl⟩ := may_some L.may_ hst
          obtain ⟨v, rfl, D, g⟩ := has2
          refine iteT ⟨_, rfl, _, rfl, _, rfl, v, d, F, z, gl, ns, x, rfl, D, g, he, hst, hg2, fun H3 F3 q D3 k3 f3 q0 hq3 => ?_⟩
          have qt : q ≠ t := fun y => by rw [y, ht2] at q0; cases q0
          have ht3 : H3 t = some (.lst (out.map V.int)) := k3 t _ ht2 L.nt
          have nt3 : ¬ F3 t := fun f => by
            rcases f3 t f with y | y
            · exact L.nt y
            · rw [ht2] at y; cases y
          have sm3 : Same H H3 := fun b o e => k3 b o (sm2 b o e) fun f => by rw [L.new b f] at e; cases e
          exact ⟨_, rfl, .inl ⟨rfl, _, SqL.of ht3⟩, _, rfl, q, _, rfl, .inl (SqL.of hq3), t, _, _, rfl, rfl, ht3, s1,
            _, rfl, .inl ⟨rfl, _, SqL.of upd_same⟩, _, rfl, t, q, _, _, rfl, rfl, upd_same, (by rw [upd_ne qt]; exact hq3), s2,
            _, rfl, fin H3 _ F3 _ _ _ _ ⟨v, rfl, D3, g.act x⟩ sm3 (fun b f => (f3 b f).elim (L.new b) fun y => sm2.free y) nt3⟩
        | true =>
          obtain ⟨n, m, rfl⟩ := start_is hst
          obtain ⟨rfl, rfl⟩ := List.cons.inj he
          refine ⟨_, rfl, rfl, _, rfl, iteF ?_⟩
          refine ⟨_, rfl, gl, _, _, _, rfl, rfl, SqL.of hg2, atI_nat (j := 0) rfl, _, rfl, gl, _, _, _, rfl, rfl, SqL.of hg2, atI_nat (j := 1) rfl, n, m, rfl, _, rfl, ?_⟩
          have es := stepC_start S n m
          by_cases hb : n = 0 ∨ 24 < n ∨ 100000 < m
          · rw [decide_eq_true hb]
            rw [if_pos hb] at es
            rw [es] at fin s2
            refine iteF ⟨(by show 1 ≤ sizeLine; decide), fun q hq => ?_⟩
            have qt : q ≠ t := fun y => by rw [y, ht2] at hq; cases hq
            have sm3 : Same H2 (upd H2 q (.lst [V.int (-22)])) := Same.new hq
            exact ⟨_, rfl, .inl ⟨rfl, _, SqL.of (sm3 _ _ ht2)⟩, _, rfl, q, _, rfl, .inl (SqL.of upd_same), t, _, _, rfl, rfl, sm3 _ _ ht2, s1,
              _, rfl, .inl ⟨rfl, _, SqL.of upd_same⟩, _, rfl, t, q, _, _, rfl, rfl, upd_same, (by rw [upd_ne qt]; exact upd_same), s2,
              _, rfl, fin _ _ F _ _ _ _ (has2.keep fun b o _ e => sm3 b o e) (sm2.trans sm3) L.new L.nt⟩
          · rw [decide_eq_false hb]
            rw [if_neg hb] at es
            rw [es] at fin s2
            refine iteT ⟨_, rfl, gl, _, _, _, rfl, rfl, SqL.of hg2, atI_nat (j := 0) rfl, _, rfl, gl, _, _, _, rfl, rfl, SqL.of hg2, atI_nat (j := 1) rfl, fun p dp np ndp nep => ⟨p, dp, n, m, rfl, upd_same, fun H3 l3 S3 k3 f3 => ⟨rfl, ?_⟩⟩⟩
            have sm3 : Same H2 H3 := fun b o e => k3 b o (by rw [upd_ne (ne_of_none e np), upd_ne (ne_of_none e ndp)]; exact e) (ne_of_none e np)
            have fr3 : ∀ b, b ∈ l3.foot p → H2 b = none := fun b m => by
              rcases f3 b m with y | y
              · rw [y]; exact np
              · exact (upd_free (upd_free y).2).2
            refine fun v dv nv ndv nev => ⟨v, dv, p, rfl, upd_same, fun H4 le lr hv hle hlr hne le0 lr0 k4 => ⟨rfl, ?_⟩⟩
            have le1 := (upd_free (upd_free le0).2).2
            have lr1 := (upd_free (upd_free lr0).2).2
            have sm4 : Same H3 H4 := fun b o e => k4 b o (by rw [upd_ne (ne_of_none e nv), upd_ne (ne_of_none e ndv)]; exact e) (ne_of_none e nv)
            have D4 : DeskAt a H4 v ⟨Km440.opened n m, [], []⟩ (fun b => b = v ∨ b = le ∨ b = lr ∨ b ∈ l3.foot p) := by
              refine ⟨dv, le, lr, p, [], [], hv, hle, hlr, hne, ⟨l3, S3.same sm4, fun b m => ⟨.inr (.inr (.inr m)), fun y => S3.fresh nv (y ▸ m), fun y => S3.fresh le1 (y ▸ m), fun y => S3.fresh lr1 (y ▸ m)⟩⟩, fun y hy => (by cases hy), fun y hy => (by cases hy), rfl, rfl, .inl rfl, .inr (.inl rfl), .inr (.inr (.inl rfl)), fun b f => ?_⟩
              rcases f with y | y | y | y
              · rw [y]; exact ⟨_, hv⟩
              · rw [y]; exact ⟨_, hle⟩
              · rw [y]; exact ⟨_, hlr⟩
              · exact (S3.same sm4).foot_some y
            have fr4 : ∀ b, (b = v ∨ b = le ∨ b = lr ∨ b ∈ l3.foot p) → H2 b = none := fun b f => by
              rcases f with y | y | y | y
              · rw [y]; exact sm3.free nv
              · rw [y]; exact sm3.free le1
              · rw [y]; exact sm3.free lr1
              · exact fr3 b y
            refine ⟨(by show 1 ≤ sizeLine; decide), fun q hq => ?_⟩
            have sm5 : Same H4 (upd H4 q (.lst [V.int 0])) := Same.new hq
            have ht4 : H4 t = some (.lst (out.map V.int)) := sm4 _ _ (sm3 _ _ ht2)
            have qt : q ≠ t := fun y => by rw [y, ht4] at hq; cases hq
            exact ⟨_, rfl, .inl ⟨rfl, _, SqL.of (sm5 _ _ ht4)⟩, _, rfl, q, _, rfl, .inl (SqL.of upd_same), t, _, _, rfl, rfl, sm5 _ _ ht4, s1,
              _, rfl, .inl ⟨rfl, _, SqL.of upd_same⟩, _, rfl, t, q, _, _, rfl, rfl, upd_same, (by rw [upd_ne qt]; exact upd_same), s2,
              _, rfl, fin _ _ (fun b => b = v ∨ b = le ∨ b = lr ∨ b ∈ l3.foot p) _ _ _ _ ⟨v, rfl, D4.keep fun b o _ e => sm5 b o e, GoodD.start⟩ (((sm2.trans sm3).trans sm4).trans sm5) (fun b f => sm2.free (fr4 b f)) (fun f => by have := fr4 t f; rw [ht2] at this; cases this)⟩
    · rintro σ H1 Q1 Q2 hq ⟨x, hx, y, hy, p, ys, e0, hs, i, j, e1, e2, b, e3, q⟩
      exact ⟨x, hx, y, hy, p, ys, e0, hs, i, j, e1, e2, b, e3, hq _ _ q⟩
theorem ends (T : Txt K mg a) : ∃ fd : FuncData, (∀ (s : Shared) (us : List Value), us.length = (["calls"] : List Str).length → BindsTo s fd ⟨us, []⟩ ((["calls"] : List Str).zip us)) ∧ ∀ (P : Program) (w : World) (base : Heap), FnOk P w K mg base CX0 9 a.f_answers fd ["calls"] (sp_answers K) := by
  refine ⟨a.d_answers, ?_, fun P w base => ok_answers T⟩
  obtain ⟨oc, od, kV, doc, pm, an, cdv, ct, osl, hfd, lk, hcd⟩ := T.D_answers.F.ex
  rw [hfd]
  exact fun s us hu => match us, hu with | [_], _ => .of_eq rfl
end
end Gw
/-! These names are taken here, so that the head below lays no twins of the heaps' and the text's constants: with them the compiled file is over 64 MiB. They say nothing. -/
def PySem.W.Fast.tw6162691889176490067 : Nat := 0
def PySem.W.Fast.tw1091307374551057905 : Nat := 0
def PySem.W.Fast.tw14613621277577922862 : Nat := 0
def PySem.W.Fast.tw3061358070641716890 : Nat := 0
def PySem.W.Fast.tw4742219701355287319 : Nat := 0
def PySem.W.Fast.tw632469941525810234 : Nat := 0
def PySem.W.Fast.tw10565232518648477399 : Nat := 0
def PySem.W.Fast.tw1975841097078822729 : Nat := 0
def PySem.W.Fast.tw17684851380639478428 : Nat := 0
def PySem.W.Fast.tw14503474578204716923 : Nat := 0
def PySem.W.Fast.tw12285380883480115610 : Nat := 0
def PySem.W.Fast.tw14038385036845597861 : Nat := 0
def PySem.W.Fast.tw10134751250807404546 : Nat := 0
def PySem.W.Fast.tw4378563708926848024 : Nat := 0
def PySem.W.Fast.tw6562534290275050721 : Nat := 0
def PySem.W.Fast.tw6561157600274688210 : Nat := 0
def PySem.W.Fast.tw13756678714441173331 : Nat := 0
def PySem.W.Fast.tw12624313600389714106 : Nat := 0
def PySem.W.Fast.tw2799492642531196223 : Nat := 0
def PySem.W.Fast.tw10128987881932522531 : Nat := 0
def PySem.W.Fast.tw8999920002814843230 : Nat := 0
def PySem.W.Fast.tw1952549848428102145 : Nat := 0
def PySem.W.Fast.tw16660653876441616944 : Nat := 0
def PySem.W.Fast.tw9328858676721242927 : Nat := 0
def PySem.W.Fast.tw2072082842860808075 : Nat := 0
def PySem.W.Fast.tw16053516417699845005 : Nat := 0
def PySem.W.Fast.tw18339906207156566834 : Nat := 0
def PySem.W.Fast.tw5649423273346041155 : Nat := 0
def PySem.W.Fast.tw16743630080489211951 : Nat := 0
def PySem.W.Fast.tw14893319849384133288 : Nat := 0
def PySem.W.Fast.tw3281249791456757825 : Nat := 0
def PySem.W.Fast.tw9905707047331794749 : Nat := 0
def PySem.W.Fast.tw18240131730260750072 : Nat := 0
def PySem.W.Fast.tw12219388627384215856 : Nat := 0
def PySem.W.Fast.tw954388970198175003 : Nat := 0
def PySem.W.Fast.tw2856792715081697604 : Nat := 0
def PySem.W.Fast.tw12304863284032270583 : Nat := 0
def PySem.W.Fast.tw18008409446274651894 : Nat := 0
def PySem.W.Fast.tw7100922431016028796 : Nat := 0
def PySem.W.Fast.tw9380882096509740730 : Nat := 0
def PySem.W.Fast.tw4321163069589754766 : Nat := 0
def PySem.W.Fast.tw4113196645529095939 : Nat := 0
def PySem.W.Fast.tw2391862701795928650 : Nat := 0
def PySem.W.Fast.tw12073916707711124984 : Nat := 0
def PySem.W.Fast.tw16566432575247437801 : Nat := 0
def PySem.W.Fast.tw16530771266031358502 : Nat := 0
def PySem.W.Fast.tw5905045468470529326 : Nat := 0
def PySem.W.Fast.tw14495425872807077098 : Nat := 0
def PySem.W.Fast.tw1254038222772958525 : Nat := 0
def PySem.W.Fast.tw15107668177879725113 : Nat := 0
def PySem.W.Fast.tw1096425741378599054 : Nat := 0
def PySem.W.Fast.tw17779940915345156757 : Nat := 0
def PySem.W.Fast.tw17868115722855948601 : Nat := 0
def PySem.W.Fast.tw12168304247267445253 : Nat := 0
def PySem.W.Fast.tw9300150671711450671 : Nat := 0
def PySem.W.Fast.tw13947176228320190063 : Nat := 0
def PySem.W.Fast.tw4810999262766691051 : Nat := 0
def PySem.W.Fast.tw7809793659649408753 : Nat := 0
def PySem.W.Fast.tw10274889583722993678 : Nat := 0
def PySem.W.Fast.tw11526586008629185264 : Nat := 0
def PySem.W.Fast.tw2260858319612794486 : Nat := 0
def PySem.W.Fast.tw8068610642982691386 : Nat := 0
def PySem.W.Fast.tw2274429096934243674 : Nat := 0
def PySem.W.Fast.tw4513426594032464746 : Nat := 0
def PySem.W.Fast.tw17790468053841326531 : Nat := 0
def PySem.W.Fast.tw8199883564804311226 : Nat := 0
def PySem.W.Fast.tw7754003136667787510 : Nat := 0
def PySem.W.Fast.tw3927425561867895896 : Nat := 0
def PySem.W.Fast.tw18048088170710318489 : Nat := 0
def PySem.W.Fast.tw10775328316985679089 : Nat := 0
def PySem.W.Fast.tw11986814157969509488 : Nat := 0
def PySem.W.Fast.tw7467315881661361239 : Nat := 0
def PySem.W.Fast.tw1842188442372081302 : Nat := 0
def PySem.W.Fast.tw7404847907410940470 : Nat := 0
def PySem.W.Fast.tw1661675962349876737 : Nat := 0
def PySem.W.Fast.tw7295472915950766695 : Nat := 0
def PySem.W.Fast.tw12261417006826748912 : Nat := 0
def PySem.W.Fast.tw3451994157926382345 : Nat := 0
def PySem.W.Fast.tw6252009667438405516 : Nat := 0
def PySem.W.Fast.tw18140817954490299375 : Nat := 0
def PySem.W.Fast.tw4905058930419306867 : Nat := 0
def PySem.W.Fast.tw7739112162146005217 : Nat := 0
def PySem.W.Fast.tw1401463022221419722 : Nat := 0
def PySem.W.Fast.tw9507813766797083136 : Nat := 0
def PySem.W.Fast.tw8531101555279488022 : Nat := 0
def PySem.W.Fast.tw4358997982328364615 : Nat := 0
def PySem.W.Fast.tw11085008961153140869 : Nat := 0
def PySem.W.Fast.tw5427713156156871037 : Nat := 0
def PySem.W.Fast.tw7848135763999763814 : Nat := 0
def PySem.W.Fast.tw10866585924611465683 : Nat := 0
def PySem.W.Fast.tw12162143451233072434 : Nat := 0
def PySem.W.Fast.tw13236864070907057585 : Nat := 0
def PySem.W.Fast.tw1379985695162881810 : Nat := 0
def PySem.W.Fast.tw5590944316648105135 : Nat := 0
def PySem.W.Fast.tw5437994300121831223 : Nat := 0
def PySem.W.Fast.tw8512039370308236442 : Nat := 0
def PySem.W.Fast.tw15055630062002316517 : Nat := 0
def PySem.W.Fast.tw8061394853581952001 : Nat := 0
def PySem.W.Fast.tw15782832542325526300 : Nat := 0
def PySem.W.Fast.tw13652289796504599331 : Nat := 0
def PySem.W.Fast.tw1914988547880650038 : Nat := 0
def PySem.W.Fast.tw3009787164002907703 : Nat := 0
def PySem.W.Fast.tw14076090305593515440 : Nat := 0
def PySem.W.Fast.tw8108358906446291315 : Nat := 0
def PySem.W.Fast.tw7650008911993270266 : Nat := 0
def PySem.W.Fast.tw15707284510849964471 : Nat := 0
def PySem.W.Fast.tw11261083409816683494 : Nat := 0
def PySem.W.Fast.tw1302332364481811923 : Nat := 0
def PySem.W.Fast.tw3108080509359366443 : Nat := 0
def PySem.W.Fast.tw10995187465218303917 : Nat := 0
def PySem.W.Fast.tw3993010935882424398 : Nat := 0
def PySem.W.Fast.tw16180084133231561844 : Nat := 0
def PySem.W.Fast.tw3805309524011767332 : Nat := 0
def PySem.W.Fast.tw16900723878084661315 : Nat := 0
def PySem.W.Fast.tw7538858851755411741 : Nat := 0
def PySem.W.Fast.tw628524468425720184 : Nat := 0
def PySem.W.Fast.tw14688758574836128693 : Nat := 0
def PySem.W.Fast.tw10491003792847157777 : Nat := 0
def PySem.W.Fast.tw4329997614190767889 : Nat := 0
def PySem.W.Fast.tw4810643476045539066 : Nat := 0
def PySem.W.Fast.tw11945364685616064605 : Nat := 0
def PySem.W.Fast.tw1626495920186324779 : Nat := 0
def PySem.W.Fast.tw9158955177329360383 : Nat := 0
def PySem.W.Fast.tw9251444618074156053 : Nat := 0
def PySem.W.Fast.tw6140637377048176734 : Nat := 0
def PySem.W.Fast.tw4132927528239981605 : Nat := 0
def PySem.W.Fast.tw10605998501618794287 : Nat := 0
def PySem.W.Fast.tw2776571671144640774 : Nat := 0
def PySem.W.Fast.tw5494495948842622770 : Nat := 0
def PySem.W.Fast.tw119941165903342564 : Nat := 0
def PySem.W.Fast.tw10649977626184210232 : Nat := 0
def PySem.W.Fast.tw876269559437816154 : Nat := 0
def PySem.W.Fast.tw16047577748312565522 : Nat := 0
def PySem.W.Fast.tw107920248112019351 : Nat := 0
def PySem.W.Fast.tw11272125745159791658 : Nat := 0
def PySem.W.Fast.tw6101127766512846954 : Nat := 0
def PySem.W.Fast.tw14940451786249794929 : Nat := 0
def PySem.W.Fast.tw18368627131421445159 : Nat := 0
def PySem.W.Fast.tw17717185659179955688 : Nat := 0
def PySem.W.Fast.tw4173747042898231804 : Nat := 0
def PySem.W.Fast.tw9995831567045986910 : Nat := 0
def PySem.W.Fast.tw4576646949941140842 : Nat := 0
def PySem.W.Fast.tw13920909926293069754 : Nat := 0
def PySem.W.Fast.tw17209698892604599202 : Nat := 0
def PySem.W.Fast.tw1177385528774224862 : Nat := 0
def PySem.W.Fast.tw4742978505185658005 : Nat := 0
def PySem.W.Fast.tw1406760609816993649 : Nat := 0
def PySem.W.Fast.tw477122563269466181 : Nat := 0
def PySem.W.Fast.tw730269921574894446 : Nat := 0
def PySem.W.Fast.tw6884539217893158542 : Nat := 0
def PySem.W.Fast.tw905029370286860395 : Nat := 0
def PySem.W.Fast.tw10228497696687237876 : Nat := 0
def PySem.W.Fast.tw13345310135332518841 : Nat := 0
def PySem.W.Fast.tw12096036139891353743 : Nat := 0
def PySem.W.Fast.tw18230815217888476543 : Nat := 0
def PySem.W.Fast.tw16825213877977258086 : Nat := 0
def PySem.W.Fast.tw12201654585067311298 : Nat := 0
def PySem.W.Fast.tw7597507160970702094 : Nat := 0
def PySem.W.Fast.tw13099635817447769170 : Nat := 0
def PySem.W.Fast.tw11926983390411785732 : Nat := 0
def PySem.W.Fast.tw13469176507286952909 : Nat := 0
def PySem.W.Fast.tw3464450008845773410 : Nat := 0
def PySem.W.Fast.tw11223162122181526045 : Nat := 0
def PySem.W.Fast.tw8862927195445215911 : Nat := 0
def PySem.W.Fast.tw8868449830648899401 : Nat := 0
def PySem.W.Fast.tw12501876630371649372 : Nat := 0
def PySem.W.Fast.tw4372508418718262117 : Nat := 0
def PySem.W.Fast.tw73521115526301941 : Nat := 0
def PySem.W.Fast.tw8836353773846151282 : Nat := 0
def PySem.W.Fast.tw8319888065189212287 : Nat := 0
def PySem.W.Fast.tw17014536062228937208 : Nat := 0
def PySem.W.Fast.tw8996858161928816175 : Nat := 0
def PySem.W.Fast.tw4501082715384899457 : Nat := 0
def PySem.W.Fast.tw8993606663548268212 : Nat := 0
def PySem.W.Fast.tw16490409621980293489 : Nat := 0
def PySem.W.Fast.tw5153511017043140270 : Nat := 0
def PySem.W.Fast.tw1271922875354603267 : Nat := 0
def PySem.W.Fast.tw1722404032063660017 : Nat := 0
def PySem.W.Fast.tw1559376770555967830 : Nat := 0
def PySem.W.Fast.tw11270664010038659712 : Nat := 0
def PySem.W.Fast.tw8262491030629860887 : Nat := 0
def PySem.W.Fast.tw10948580381859260070 : Nat := 0
def PySem.W.Fast.tw2521764126549138545 : Nat := 0
def PySem.W.Fast.tw11972549106054152310 : Nat := 0
def PySem.W.Fast.tw16695267178482465919 : Nat := 0
def PySem.W.Fast.tw1945936475583303488 : Nat := 0
def PySem.W.Fast.tw4335983809192379587 : Nat := 0
def PySem.W.Fast.tw7388489284685250432 : Nat := 0
def PySem.W.Fast.tw4191115113565110378 : Nat := 0
def PySem.W.Fast.tw15731657390262699332 : Nat := 0
def PySem.W.Fast.tw4165402386476232444 : Nat := 0
def PySem.W.Fast.tw17426803389216194893 : Nat := 0
def PySem.W.Fast.tw9625481137089255473 : Nat := 0
def PySem.W.Fast.tw9809991261399312645 : Nat := 0
def PySem.W.Fast.tw4302951287354342737 : Nat := 0
def PySem.W.Fast.tw17440153815944395049 : Nat := 0
def PySem.W.Fast.tw1925496739182460787 : Nat := 0
def PySem.W.Fast.tw16101459984820198133 : Nat := 0
def PySem.W.Fast.tw696893572150450454 : Nat := 0
def PySem.W.Fast.tw13606796528126676619 : Nat := 0
def PySem.W.Fast.tw4658425316731770632 : Nat := 0
def PySem.W.Fast.tw18347080007049344111 : Nat := 0
def PySem.W.Fast.tw18418416368387361905 : Nat := 0
def PySem.W.Fast.tw15173822362960334996 : Nat := 0
def PySem.W.Fast.tw559272656452145608 : Nat := 0
def PySem.W.Fast.tw6237439925318224496 : Nat := 0
def PySem.W.Fast.tw11953661536341351348 : Nat := 0
def PySem.W.Fast.tw17948388277496450558 : Nat := 0
def PySem.W.Fast.tw13495147697763746316 : Nat := 0
def PySem.W.Fast.tw8502380141916828026 : Nat := 0
def PySem.W.Fast.tw4398747396858125102 : Nat := 0
def PySem.W.Fast.tw12544367724258624448 : Nat := 0
def PySem.W.Fast.tw14212283428771646943 : Nat := 0
def PySem.W.Fast.tw6033481915214427078 : Nat := 0
def PySem.W.Fast.tw13374965513280623551 : Nat := 0
def PySem.W.Fast.tw16668157582929611316 : Nat := 0
def PySem.W.Fast.tw11688242866723982099 : Nat := 0
def PySem.W.Fast.tw2274125076243742117 : Nat := 0
def PySem.W.Fast.tw12901205838313896176 : Nat := 0
def PySem.W.Fast.tw7713238867039231466 : Nat := 0
def PySem.W.Fast.tw4700562670102832665 : Nat := 0
def PySem.W.Fast.tw6664834715688657559 : Nat := 0
def PySem.W.Fast.tw12584296502613740910 : Nat := 0
def PySem.W.Fast.tw5129919174523487854 : Nat := 0
def PySem.W.Fast.tw8592538495162568883 : Nat := 0
def PySem.W.Fast.tw5369351917206754875 : Nat := 0
def PySem.W.Fast.tw11632691049365878301 : Nat := 0
def PySem.W.Fast.tw3725141265962743306 : Nat := 0
def PySem.W.Fast.tw11995828034820391256 : Nat := 0
def PySem.W.Fast.tw10483392458591923614 : Nat := 0
def PySem.W.Fast.tw12908708438024117440 : Nat := 0
def PySem.W.Fast.tw2239313344693564544 : Nat := 0
def PySem.W.Fast.tw6188852983047163523 : Nat := 0
def PySem.W.Fast.tw17773747379018453643 : Nat := 0
def PySem.W.Fast.tw9747112914615705616 : Nat := 0
def PySem.W.Fast.tw9766060802066085395 : Nat := 0
def PySem.W.Fast.tw12668249775616654211 : Nat := 0
def PySem.W.Fast.tw2826770689360954656 : Nat := 0
def PySem.W.Fast.tw10962662306698688455 : Nat := 0
def PySem.W.Fast.tw10308781837512622148 : Nat := 0
def PySem.W.Fast.tw14427481081181987277 : Nat := 0
def PySem.W.Fast.tw17862030442744044257 : Nat := 0
def PySem.W.Fast.tw18145670153516443718 : Nat := 0
def PySem.W.Fast.tw13540657785508972894 : Nat := 0
def PySem.W.Fast.tw11128653238690470416 : Nat := 0
def PySem.W.Fast.tw9513351166546171408 : Nat := 0
def PySem.W.Fast.tw15512809310807689857 : Nat := 0
def PySem.W.Fast.tw17019197327133443249 : Nat := 0
def PySem.W.Fast.tw7699611302519913232 : Nat := 0
def PySem.W.Fast.tw16073535211703268608 : Nat := 0
def PySem.W.Fast.tw15172627241069224880 : Nat := 0
def PySem.W.Fast.tw8538217431835393993 : Nat := 0
def PySem.W.Fast.tw15539163064949004562 : Nat := 0
def PySem.W.Fast.tw4548312867531577102 : Nat := 0
def PySem.W.Fast.tw8930608180820769847 : Nat := 0
def PySem.W.Fast.tw14425780777851435661 : Nat := 0
def PySem.W.Fast.tw14070473587936090152 : Nat := 0
def PySem.W.Fast.tw13248939304474174398 : Nat := 0
def PySem.W.Fast.tw811398715916666153 : Nat := 0
def PySem.W.Fast.tw17637565925352089241 : Nat := 0
def PySem.W.Fast.tw14422433471023882606 : Nat := 0
def PySem.W.Fast.tw5476019664161954588 : Nat := 0
def PySem.W.Fast.tw12887126810532409669 : Nat := 0
def PySem.W.Fast.tw10828527807993587094 : Nat := 0
def PySem.W.Fast.tw4527308567421077763 : Nat := 0
def PySem.W.Fast.tw15269956429854777941 : Nat := 0
def PySem.W.Fast.tw13469641913896832544 : Nat := 0
def PySem.W.Fast.tw320039298861231559 : Nat := 0
def PySem.W.Fast.tw7083536471419058618 : Nat := 0
def PySem.W.Fast.tw7542094862083544430 : Nat := 0
def PySem.W.Fast.tw375919975712504198 : Nat := 0
def PySem.W.Fast.tw17295093853800501004 : Nat := 0
def PySem.W.Fast.tw8975764847930887308 : Nat := 0
def PySem.W.Fast.tw17205092356028132184 : Nat := 0
def PySem.W.Fast.tw10553662411790713862 : Nat := 0
def PySem.W.Fast.tw17645565748172380971 : Nat := 0
def PySem.W.Fast.tw13329161829551973667 : Nat := 0
def PySem.W.Fast.tw5445537146618632072 : Nat := 0
def PySem.W.Fast.tw7273847226866053353 : Nat := 0
def PySem.W.Fast.tw11835478606195727891 : Nat := 0
def PySem.W.Fast.tw16321465931032246422 : Nat := 0
def PySem.W.Fast.tw14953580709916091669 : Nat := 0
def PySem.W.Fast.tw15623259304990839576 : Nat := 0
def PySem.W.Fast.tw8503367901875079649 : Nat := 0
def PySem.W.Fast.tw17331083508147191139 : Nat := 0
def PySem.W.Fast.tw12861612826070948715 : Nat := 0
def PySem.W.Fast.tw1702149519007494065 : Nat := 0
def PySem.W.Fast.tw3896357553681865599 : Nat := 0
def PySem.W.Fast.tw317762893389369931 : Nat := 0
def PySem.W.Fast.tw16576804382379928205 : Nat := 0
def PySem.W.Fast.tw6091898826336140332 : Nat := 0
def PySem.W.Fast.tw8791905702411836416 : Nat := 0
def PySem.W.Fast.tw18024207137235171399 : Nat := 0
def PySem.W.Fast.tw3520510375185022663 : Nat := 0
def PySem.W.Fast.tw5734684934415050892 : Nat := 0
def PySem.W.Fast.tw2494602636164834204 : Nat := 0
def PySem.W.Fast.tw17810589262299319153 : Nat := 0
def PySem.W.Fast.tw16198739641545845710 : Nat := 0
def PySem.W.Fast.tw16843285426469509484 : Nat := 0
def PySem.W.Fast.tw12698172517798961132 : Nat := 0
def PySem.W.Fast.tw10657297600977780800 : Nat := 0
def PySem.W.Fast.tw3477076210785004553 : Nat := 0
def PySem.W.Fast.tw6892416526253738948 : Nat := 0
def PySem.W.Fast.tw8678373829879498801 : Nat := 0
def PySem.W.Fast.tw3549582917073486229 : Nat := 0
def PySem.W.Fast.tw5316195402247521921 : Nat := 0
def PySem.W.Fast.tw8650285163692983615 : Nat := 0
def PySem.W.Fast.tw2188003214255026167 : Nat := 0
def PySem.W.Fast.tw4394974608638282176 : Nat := 0
def PySem.W.Fast.tw15551836613301326236 : Nat := 0
def PySem.W.Fast.tw3638690794186448229 : Nat := 0
def PySem.W.Fast.tw9655560615794849923 : Nat := 0
def PySem.W.Fast.tw5625847090411602925 : Nat := 0
def PySem.W.Fast.tw5220475783677599486 : Nat := 0
def PySem.W.Fast.tw9470101744975663206 : Nat := 0
def PySem.W.Fast.tw5726002645062913843 : Nat := 0
def PySem.W.Fast.tw16162026214381700911 : Nat := 0
def PySem.W.Fast.tw17036547704355788668 : Nat := 0
def PySem.W.Fast.tw13278307911185805255 : Nat := 0
def PySem.W.Fast.tw160351036308456329 : Nat := 0
def PySem.W.Fast.tw14372353421351054623 : Nat := 0
def PySem.W.Fast.tw3625041573028820451 : Nat := 0
def PySem.W.Fast.tw12943946967540999672 : Nat := 0
def PySem.W.Fast.tw14437078530694594462 : Nat := 0
def PySem.W.Fast.tw1978002062157613341 : Nat := 0
def PySem.W.Fast.tw8404078915031077997 : Nat := 0
def PySem.W.Fast.tw7215445691606269878 : Nat := 0
def PySem.W.Fast.tw15352268509750392192 : Nat := 0
def PySem.W.Fast.tw7338666168672326597 : Nat := 0
def PySem.W.Fast.tw10783710869779298022 : Nat := 0
def PySem.W.Fast.tw15767197435127808847 : Nat := 0
def PySem.W.Fast.tw12233360091784431692 : Nat := 0
def PySem.W.Fast.tw15615376298576810566 : Nat := 0
def PySem.W.Fast.tw6363386093095897044 : Nat := 0
def PySem.W.Fast.tw9622868391442385502 : Nat := 0
def PySem.W.Fast.tw15185272876946260370 : Nat := 0
def PySem.W.Fast.tw9307876741090147537 : Nat := 0
def PySem.W.Fast.tw2628390812390102030 : Nat := 0
def PySem.W.Fast.tw13531110968142030913 : Nat := 0
def PySem.W.Fast.tw7697422469831519310 : Nat := 0
def PySem.W.Fast.tw16239152058640123005 : Nat := 0
def PySem.W.Fast.tw14154801131638386581 : Nat := 0
def PySem.W.Fast.tw11042476118281141082 : Nat := 0
def PySem.W.Fast.tw14840102155837924709 : Nat := 0
def PySem.W.Fast.tw46186178165752855 : Nat := 0
def PySem.W.Fast.tw17816977514139467618 : Nat := 0
def PySem.W.Fast.tw15333184243533277063 : Nat := 0
def PySem.W.Fast.tw233028459270831419 : Nat := 0
def PySem.W.Fast.tw11906890287674532540 : Nat := 0
def PySem.W.Fast.tw2429356557588794432 : Nat := 0
def PySem.W.Fast.tw7692496553045611496 : Nat := 0
def PySem.W.Fast.tw2412831366917682012 : Nat := 0
def PySem.W.Fast.tw17861537037850411906 : Nat := 0
def PySem.W.Fast.tw12367903527189910223 : Nat := 0
def PySem.W.Fast.tw15248167132900755701 : Nat := 0
def PySem.W.Fast.tw13702205749176409183 : Nat := 0
def PySem.W.Fast.tw1186216812865429078 : Nat := 0
def PySem.W.Fast.tw14221808254473065280 : Nat := 0
def PySem.W.Fast.tw14681158091560105219 : Nat := 0
def PySem.W.Fast.tw6843563025646085738 : Nat := 0
def PySem.W.Fast.tw17405923623803075298 : Nat := 0
def PySem.W.Fast.tw5574974450649282824 : Nat := 0
def PySem.W.Fast.tw11414990525143308428 : Nat := 0
def PySem.W.Fast.tw15601460146824554227 : Nat := 0
def PySem.W.Fast.tw13901194836490014624 : Nat := 0
def PySem.W.Fast.tw3799864595337209067 : Nat := 0
def PySem.W.Fast.tw15000187027242680867 : Nat := 0
def PySem.W.Fast.tw6139380709430674001 : Nat := 0
def PySem.W.Fast.tw12858069909965375105 : Nat := 0
def PySem.W.Fast.tw5618899755250586988 : Nat := 0
def PySem.W.Fast.tw9095469997490394167 : Nat := 0
def PySem.W.Fast.tw4751392672613821694 : Nat := 0
def PySem.W.Fast.tw17996060138066969788 : Nat := 0
def PySem.W.Fast.tw2373620614635879635 : Nat := 0
def PySem.W.Fast.tw2652809351174018631 : Nat := 0
def PySem.W.Fast.tw8008442202477174748 : Nat := 0
def PySem.W.Fast.tw3018481644624979171 : Nat := 0
def PySem.W.Fast.tw2067981752747620481 : Nat := 0
def PySem.W.Fast.tw1715603801644595812 : Nat := 0
def PySem.W.Fast.tw4362235303765451529 : Nat := 0
def PySem.W.Fast.tw6895872459949202384 : Nat := 0
def PySem.W.Fast.tw8359954663964905237 : Nat := 0
def PySem.W.Fast.tw9544226284962950723 : Nat := 0
def PySem.W.Fast.tw16819570311027264943 : Nat := 0
def PySem.W.Fast.tw9882765702940814556 : Nat := 0
def PySem.W.Fast.tw13797434023597451165 : Nat := 0
def PySem.W.Fast.tw3698678562396274331 : Nat := 0
def PySem.W.Fast.tw10170950165444388220 : Nat := 0
def PySem.W.Fast.tw6283635622085886030 : Nat := 0
def PySem.W.Fast.tw18182882636479912231 : Nat := 0
def PySem.W.Fast.tw15791457926641741568 : Nat := 0
def PySem.W.Fast.tw12841499434251987585 : Nat := 0
def PySem.W.Fast.tw7668070228900496475 : Nat := 0
def PySem.W.Fast.tw7339273189620049637 : Nat := 0
def PySem.W.Fast.tw12819796213546305209 : Nat := 0
def PySem.W.Fast.tw12285595528131600398 : Nat := 0
def PySem.W.Fast.tw11548543746269833594 : Nat := 0
def PySem.W.Fast.tw8794501362712744936 : Nat := 0
def PySem.W.Fast.tw7483049002428931543 : Nat := 0
def PySem.W.Fast.tw6853984771578321753 : Nat := 0
def PySem.W.Fast.tw1645412797417298097 : Nat := 0
def PySem.W.Fast.tw4026912052247781146 : Nat := 0
def PySem.W.Fast.tw18206025651917718763 : Nat := 0
def PySem.W.Fast.tw14602021309831117969 : Nat := 0
def PySem.W.Fast.tw5312411143688068868 : Nat := 0
def PySem.W.Fast.tw8486760036758927942 : Nat := 0
def PySem.W.Fast.tw6950669396169816837 : Nat := 0
def PySem.W.Fast.tw16662257341723520294 : Nat := 0
def PySem.W.Fast.tw1023155990396483540 : Nat := 0
def PySem.W.Fast.tw9170602281358833806 : Nat := 0
def PySem.W.Fast.tw3368250520024685486 : Nat := 0
def PySem.W.Fast.tw1406658420630002011 : Nat := 0
def PySem.W.Fast.tw5454891188317961533 : Nat := 0
def PySem.W.Fast.tw15617082289268054298 : Nat := 0
def PySem.W.Fast.tw8873738763519049843 : Nat := 0
def PySem.W.Fast.tw7595044184383484841 : Nat := 0
def PySem.W.Fast.tw14331606121165957754 : Nat := 0
def PySem.W.Fast.tw13718320944627087145 : Nat := 0
def PySem.W.Fast.tw128877260709698511 : Nat := 0
def PySem.W.Fast.tw11289937755325406586 : Nat := 0
def PySem.W.Fast.tw6890730570203446032 : Nat := 0
def PySem.W.Fast.tw10446773852381255879 : Nat := 0
def PySem.W.Fast.tw10243701247211499823 : Nat := 0
def PySem.W.Fast.tw12493006923301405526 : Nat := 0
def PySem.W.Fast.tw2898706503413172596 : Nat := 0
def PySem.W.Fast.tw13987763054771198096 : Nat := 0
def PySem.W.Fast.tw11768832519902104449 : Nat := 0
def PySem.W.Fast.tw11706045468886082767 : Nat := 0
def PySem.W.Fast.tw11969783992117998567 : Nat := 0
def PySem.W.Fast.tw4609229528183981943 : Nat := 0
def PySem.W.Fast.tw9238170395025824389 : Nat := 0
def PySem.W.Fast.tw12484348938297464143 : Nat := 0
def PySem.W.Fast.tw7851676878539119253 : Nat := 0
def PySem.W.Fast.tw6776706026216536549 : Nat := 0
def PySem.W.Fast.tw12263579029754890373 : Nat := 0
def PySem.W.Fast.tw2958539672931086406 : Nat := 0
def PySem.W.Fast.tw14866943726255914904 : Nat := 0
def PySem.W.Fast.tw7606436071461801821 : Nat := 0
def PySem.W.Fast.tw4788025440195235376 : Nat := 0
def PySem.W.Fast.tw6426698562563648305 : Nat := 0
def PySem.W.Fast.tw13803371619625346882 : Nat := 0
def PySem.W.Fast.tw4852400265828436992 : Nat := 0
def PySem.W.Fast.tw18249867641760834674 : Nat := 0
def PySem.W.Fast.tw8340647699576001364 : Nat := 0
def PySem.W.Fast.tw9312478026473734041 : Nat := 0
def PySem.W.Fast.tw5764499132524030645 : Nat := 0
def PySem.W.Fast.tw15691352066574862690 : Nat := 0
def PySem.W.Fast.tw5347138399983281910 : Nat := 0
def PySem.W.Fast.tw17395600325481333256 : Nat := 0
def PySem.W.Fast.tw7751115084551539305 : Nat := 0
def PySem.W.Fast.tw5789893459239366247 : Nat := 0
def PySem.W.Fast.tw7668361470294552864 : Nat := 0
def PySem.W.Fast.tw14689601402306766654 : Nat := 0
def PySem.W.Fast.tw13430922295353306995 : Nat := 0
def PySem.W.Fast.tw9488336720750925480 : Nat := 0
def PySem.W.Fast.tw13666220503303365983 : Nat := 0
def PySem.W.Fast.tw1018536724819743498 : Nat := 0
def PySem.W.Fast.tw10798465947540057247 : Nat := 0
def PySem.W.Fast.tw12670616579832622435 : Nat := 0
def PySem.W.Fast.tw17413148630826355902 : Nat := 0
def PySem.W.Fast.tw3776280731963797539 : Nat := 0
def PySem.W.Fast.tw6982459304231212026 : Nat := 0
def PySem.W.Fast.tw17766860367792443859 : Nat := 0
def PySem.W.Fast.tw5582002134314624142 : Nat := 0
def PySem.W.Fast.tw5841480272690665014 : Nat := 0
def PySem.W.Fast.tw11565733094919121911 : Nat := 0
def PySem.W.Fast.tw8976655289197773752 : Nat := 0
def PySem.W.Fast.tw11637426089211617533 : Nat := 0
def PySem.W.Fast.tw1974042056639860904 : Nat := 0
def PySem.W.Fast.tw3935854631735294176 : Nat := 0
def PySem.W.Fast.tw10465108212838107194 : Nat := 0
def PySem.W.Fast.tw4235452615227491339 : Nat := 0
def PySem.W.Fast.tw7080014399670503735 : Nat := 0
def PySem.W.Fast.tw5630193178116087789 : Nat := 0
def PySem.W.Fast.tw10112598442638054879 : Nat := 0
def PySem.W.Fast.tw1603805690351622327 : Nat := 0
def PySem.W.Fast.tw5202336852485740965 : Nat := 0
def PySem.W.Fast.tw1211608661723528051 : Nat := 0
open PySem PySem.W PyProof.Rows
set_option maxRecDepth 100000 in
set_option maxHeartbeats 0 in
theorem PySem.Challenge.cw_gangwaycards_s01_answers_holds : PySem.Challenge.rw_gangwaycards_s01_answers.Holds := by
  w_on; k_headS; (case hw => exact ⟨[.list [.int 0, .int 1, .int 0]], by decide +kernel, by decide +kernel⟩)
  k_fillS
  refine L2.walk_specK (r := PySem.Challenge.rw_gangwaycards_s01_answers) (k := 9) (CX := L2.CX0) (ps := ["calls"]) (sp := Gw.sp_answers) (by decide +kernel) rfl rfl ⟨rfl, by decide, by decide⟩ (fun w h Y => PySem.W.kIn_of Y) ?F ?S (fun _ _ _ _ z => z)
  case F =>
    intro w mg fa h Y KX G hmg
    have x_len : mg "len" = none := by
      skip
      refine' Gw.no_mk KX G ?u1
      (case u1 => k_is)
    have x_max : mg "max" = none := by
      skip
      refine' Gw.no_mk KX G ?u2
      (case u2 => k_is)
    have c_MOST_PERSONS : ∃ tk, mg "MOST_PERSONS" = some (.int (24) tk) := by
      skip
      refine' Gw.gi_mk KX G ?u3
      (case u3 => k_is)
    have c_MOST_GATES : ∃ tk, mg "MOST_GATES" = some (.int (3) tk) := by
      skip
      refine' Gw.gi_mk KX G ?u4
      (case u4 => k_is)
    have c_MOST_CARDS : ∃ tk, mg "MOST_CARDS" = some (.int (100000) tk) := by
      skip
      refine' Gw.gi_mk KX G ?u5
      (case u5 => k_is)
    have c_MOST_PASSAGES : ∃ tk, mg "MOST_PASSAGES" = some (.int (100000) tk) := by
      skip
      refine' Gw.gi_mk KX G ?u6
      (case u6 => k_is)
    have c_LAST_MINUTE : ∃ tk, mg "LAST_MINUTE" = some (.int (100000) tk) := by
      skip
      refine' Gw.gi_mk KX G ?u7
      (case u7 => k_is)
    have c_LONGEST_STEP : ∃ tk, mg "LONGEST_STEP" = some (.int (1440) tk) := by
      skip
      refine' Gw.gi_mk KX G ?u8
      (case u8 => k_is)
    have c_MOST_TAKEN_BACK : ∃ tk, mg "MOST_TAKEN_BACK" = some (.int (30) tk) := by
      skip
      refine' Gw.gi_mk KX G ?u9
      (case u9 => k_is)
    have c_NONE_THERE : ∃ tk, mg "NONE_THERE" = some (.int (-2) tk) := by
      skip
      refine' Gw.gi_mk KX G ?u10
      (case u10 => k_is)
    have c_NOBODY_MISSING : ∃ tk, mg "NOBODY_MISSING" = some (.int (-6) tk) := by
      skip
      refine' Gw.gi_mk KX G ?u11
      (case u11 => k_is)
    have c_NOT_AS_THINGS_ARE : ∃ tk, mg "NOT_AS_THINGS_ARE" = some (.int (-16) tk) := by
      skip
      refine' Gw.gi_mk KX G ?u12
      (case u12 => k_is)
    have c_SO_ALREADY : ∃ tk, mg "SO_ALREADY" = some (.int (-17) tk) := by
      skip
      refine' Gw.gi_mk KX G ?u13
      (case u13 => k_is)
    have c_WRONG_NUMBER : ∃ tk, mg "WRONG_NUMBER" = some (.int (-22) tk) := by
      skip
      refine' Gw.gi_mk KX G ?u14
      (case u14 => k_is)
    have c_NO_MORE_OF_THEM : ∃ tk, mg "NO_MORE_OF_THEM" = some (.int (-28) tk) := by
      skip
      refine' Gw.gi_mk KX G ?u15
      (case u15 => k_is)
    have c_MAY_NOT : ∃ tk, mg "MAY_NOT" = some (.int (-33) tk) := by
      skip
      refine' Gw.gi_mk KX G ?u16
      (case u16 => k_is)
    have c_NO_ROOM_ABOARD : ∃ tk, mg "NO_ROOM_ABOARD" = some (.int (-62) tk) := by
      skip
      refine' Gw.gi_mk KX G ?u17
      (case u17 => k_is)
    have c_TOO_LATE : ∃ tk, mg "TOO_LATE" = some (.int (-75) tk) := by
      skip
      refine' Gw.gi_mk KX G ?u18
      (case u18 => k_is)
    have c_ABOARD : ∃ tk, mg "ABOARD" = some (.int (0) tk) := by
      skip
      refine' Gw.gi_mk KX G ?u19
      (case u19 => k_is)
    have c_ASHORE : ∃ tk, mg "ASHORE" = some (.int (1) tk) := by
      skip
      refine' Gw.gi_mk KX G ?u20
      (case u20 => k_is)
    have c_GONE : ∃ tk, mg "GONE" = some (.int (2) tk) := by
      skip
      refine' Gw.gi_mk KX G ?u21
      (case u21 => k_is)
    have c_WENT_OUT : ∃ tk, mg "WENT_OUT" = some (.int (0) tk) := by
      skip
      refine' Gw.gi_mk KX G ?u22
      (case u22 => k_is)
    have c_CAME_IN : ∃ tk, mg "CAME_IN" = some (.int (1) tk) := by
      skip
      refine' Gw.gi_mk KX G ?u23
      (case u23 => k_is)
    have c_SHOWN_IN_VAIN : ∃ tk, mg "SHOWN_IN_VAIN" = some (.int (2) tk) := by
      skip
      refine' Gw.gi_mk KX G ?u24
      (case u24 => k_is)
    have c_START : ∃ tk, mg "START" = some (.int (0) tk) := by
      skip
      refine' Gw.gi_mk KX G ?u25
      (case u25 => k_is)
    obtain ⟨f_copied_gate, d_copied_gate, D_copied_gate⟩ : ∃ f fd, Gw.Df (L2.KOf KX) mg "copied_gate" Gw.s_copied_gate ["gate"] f fd := by
      dsimp only [L2.KOf]
      refine' Gw.df_mk KX G ?u26 ?u27 ?u28 ?u29 (fun _ _ _ _ _ _ us hl => match us, hl with | [_], _ => rfl)
      (case u26 => k_is)
      (case u27 => k_is)
      (case u28 => k_is)
      (case u29 => k_is)
    obtain ⟨f_copied_person, d_copied_person, D_copied_person⟩ : ∃ f fd, Gw.Df (L2.KOf KX) mg "copied_person" Gw.s_copied_person ["person"] f fd := by
      dsimp only [L2.KOf]
      refine' Gw.df_mk KX G ?u30 ?u31 ?u32 ?u33 (fun _ _ _ _ _ _ us hl => match us, hl with | [_], _ => rfl)
      (case u30 => k_is)
      (case u31 => k_is)
      (case u32 => k_is)
      (case u33 => k_is)
    obtain ⟨f_copied_ship, d_copied_ship, D_copied_ship⟩ : ∃ f fd, Gw.Df (L2.KOf KX) mg "copied_ship" Gw.s_copied_ship ["ship"] f fd := by
      dsimp only [L2.KOf]
      refine' Gw.df_mk KX G ?u34 ?u35 ?u36 ?u37 (fun _ _ _ _ _ _ us hl => match us, hl with | [_], _ => rfl)
      (case u34 => k_is)
      (case u35 => k_is)
      (case u36 => k_is)
      (case u37 => k_is)
    obtain ⟨f_find_gate, d_find_gate, D_find_gate⟩ : ∃ f fd, Gw.Df (L2.KOf KX) mg "find_gate" Gw.s_find_gate ["ship", "g"] f fd := by
      dsimp only [L2.KOf]
      refine' Gw.df_mk KX G ?u38 ?u39 ?u40 ?u41 (fun _ _ _ _ _ _ us hl => match us, hl with | [_, _], _ => rfl)
      (case u38 => k_is)
      (case u39 => k_is)
      (case u40 => k_is)
      (case u41 => k_is)
    obtain ⟨f_find_person, d_find_person, D_find_person⟩ : ∃ f fd, Gw.Df (L2.KOf KX) mg "find_person" Gw.s_find_person ["ship", "p"] f fd := by
      dsimp only [L2.KOf]
      refine' Gw.df_mk KX G ?u42 ?u43 ?u44 ?u45 (fun _ _ _ _ _ _ us hl => match us, hl with | [_, _], _ => rfl)
      (case u42 => k_is)
      (case u43 => k_is)
      (case u44 => k_is)
      (case u45 => k_is)
    obtain ⟨f_find_holder, d_find_holder, D_find_holder⟩ : ∃ f fd, Gw.Df (L2.KOf KX) mg "find_holder" Gw.s_find_holder ["ship", "card"] f fd := by
      dsimp only [L2.KOf]
      refine' Gw.df_mk KX G ?u46 ?u47 ?u48 ?u49 (fun _ _ _ _ _ _ us hl => match us, hl with | [_, _], _ => rfl)
      (case u46 => k_is)
      (case u47 => k_is)
      (case u48 => k_is)
      (case u49 => k_is)
    obtain ⟨f_count_open_gates, d_count_open_gates, D_count_open_gates⟩ : ∃ f fd, Gw.Df (L2.KOf KX) mg "count_open_gates" Gw.s_count_open_gates ["ship"] f fd := by
      dsimp only [L2.KOf]
      refine' Gw.df_mk KX G ?u50 ?u51 ?u52 ?u53 (fun _ _ _ _ _ _ us hl => match us, hl with | [_], _ => rfl)
      (case u50 => k_is)
      (case u51 => k_is)
      (case u52 => k_is)
      (case u53 => k_is)
    obtain ⟨f_persons_in, d_persons_in, D_persons_in⟩ : ∃ f fd, Gw.Df (L2.KOf KX) mg "persons_in" Gw.s_persons_in ["ship", "place"] f fd := by
      dsimp only [L2.KOf]
      refine' Gw.df_mk KX G ?u54 ?u55 ?u56 ?u57 (fun _ _ _ _ _ _ us hl => match us, hl with | [_, _], _ => rfl)
      (case u54 => k_is)
      (case u55 => k_is)
      (case u56 => k_is)
      (case u57 => k_is)
    obtain ⟨f_persons_aboard, d_persons_aboard, D_persons_aboard⟩ : ∃ f fd, Gw.Df (L2.KOf KX) mg "persons_aboard" Gw.s_persons_aboard ["ship"] f fd := by
      dsimp only [L2.KOf]
      refine' Gw.df_mk KX G ?u58 ?u59 ?u60 ?u61 (fun _ _ _ _ _ _ us hl => match us, hl with | [_], _ => rfl)
      (case u58 => k_is)
      (case u59 => k_is)
      (case u60 => k_is)
      (case u61 => k_is)
    obtain ⟨f_visitors_aboard, d_visitors_aboard, D_visitors_aboard⟩ : ∃ f fd, Gw.Df (L2.KOf KX) mg "visitors_aboard" Gw.s_visitors_aboard ["ship"] f fd := by
      dsimp only [L2.KOf]
      refine' Gw.df_mk KX G ?u62 ?u63 ?u64 ?u65 (fun _ _ _ _ _ _ us hl => match us, hl with | [_], _ => rfl)
      (case u62 => k_is)
      (case u63 => k_is)
      (case u64 => k_is)
      (case u65 => k_is)
    obtain ⟨f_missing_persons, d_missing_persons, D_missing_persons⟩ : ∃ f fd, Gw.Df (L2.KOf KX) mg "missing_persons" Gw.s_missing_persons ["ship"] f fd := by
      dsimp only [L2.KOf]
      refine' Gw.df_mk KX G ?u66 ?u67 ?u68 ?u69 (fun _ _ _ _ _ _ us hl => match us, hl with | [_], _ => rfl)
      (case u66 => k_is)
      (case u67 => k_is)
      (case u68 => k_is)
      (case u69 => k_is)
    obtain ⟨f_is_full, d_is_full, D_is_full⟩ : ∃ f fd, Gw.Df (L2.KOf KX) mg "is_full" Gw.s_is_full ["ship"] f fd := by
      dsimp only [L2.KOf]
      refine' Gw.df_mk KX G ?u70 ?u71 ?u72 ?u73 (fun _ _ _ _ _ _ us hl => match us, hl with | [_], _ => rfl)
      (case u70 => k_is)
      (case u71 => k_is)
      (case u72 => k_is)
      (case u73 => k_is)
    obtain ⟨f_has_passed, d_has_passed, D_has_passed⟩ : ∃ f fd, Gw.Df (L2.KOf KX) mg "has_passed" Gw.s_has_passed ["ship", "t"] f fd := by
      dsimp only [L2.KOf]
      refine' Gw.df_mk KX G ?u74 ?u75 ?u76 ?u77 (fun _ _ _ _ _ _ us hl => match us, hl with | [_, _], _ => rfl)
      (case u74 => k_is)
      (case u75 => k_is)
      (case u76 => k_is)
      (case u77 => k_is)
    obtain ⟨f_is_guardian_ashore, d_is_guardian_ashore, D_is_guardian_ashore⟩ : ∃ f fd, Gw.Df (L2.KOf KX) mg "is_guardian_ashore" Gw.s_is_guardian_ashore ["ship", "child"] f fd := by
      dsimp only [L2.KOf]
      refine' Gw.df_mk KX G ?u78 ?u79 ?u80 ?u81 (fun _ _ _ _ _ _ us hl => match us, hl with | [_, _], _ => rfl)
      (case u78 => k_is)
      (case u79 => k_is)
      (case u80 => k_is)
      (case u81 => k_is)
    obtain ⟨f_may_go_ashore, d_may_go_ashore, D_may_go_ashore⟩ : ∃ f fd, Gw.Df (L2.KOf KX) mg "may_go_ashore" Gw.s_may_go_ashore ["ship", "person"] f fd := by
      dsimp only [L2.KOf]
      refine' Gw.df_mk KX G ?u82 ?u83 ?u84 ?u85 (fun _ _ _ _ _ _ us hl => match us, hl with | [_, _], _ => rfl)
      (case u82 => k_is)
      (case u83 => k_is)
      (case u84 => k_is)
      (case u85 => k_is)
    obtain ⟨f_children_of, d_children_of, D_children_of⟩ : ∃ f fd, Gw.Df (L2.KOf KX) mg "children_of" Gw.s_children_of ["ship", "person"] f fd := by
      dsimp only [L2.KOf]
      refine' Gw.df_mk KX G ?u86 ?u87 ?u88 ?u89 (fun _ _ _ _ _ _ us hl => match us, hl with | [_, _], _ => rfl)
      (case u86 => k_is)
      (case u87 => k_is)
      (case u88 => k_is)
      (case u89 => k_is)
    obtain ⟨f_overdue_visitors, d_overdue_visitors, D_overdue_visitors⟩ : ∃ f fd, Gw.Df (L2.KOf KX) mg "overdue_visitors" Gw.s_overdue_visitors ["ship"] f fd := by
      dsimp only [L2.KOf]
      refine' Gw.df_mk KX G ?u90 ?u91 ?u92 ?u93 (fun _ _ _ _ _ _ us hl => match us, hl with | [_], _ => rfl)
      (case u90 => k_is)
      (case u91 => k_is)
      (case u92 => k_is)
      (case u93 => k_is)
    obtain ⟨f_as_bits, d_as_bits, D_as_bits⟩ : ∃ f fd, Gw.Df (L2.KOf KX) mg "as_bits" Gw.s_as_bits ["persons"] f fd := by
      dsimp only [L2.KOf]
      refine' Gw.df_mk KX G ?u94 ?u95 ?u96 ?u97 (fun _ _ _ _ _ _ us hl => match us, hl with | [_], _ => rfl)
      (case u94 => k_is)
      (case u95 => k_is)
      (case u96 => k_is)
      (case u97 => k_is)
    obtain ⟨f_give_card, d_give_card, D_give_card⟩ : ∃ f fd, Gw.Df (L2.KOf KX) mg "give_card" Gw.s_give_card ["ship"] f fd := by
      dsimp only [L2.KOf]
      refine' Gw.df_mk KX G ?u98 ?u99 ?u100 ?u101 (fun _ _ _ _ _ _ us hl => match us, hl with | [_], _ => rfl)
      (case u98 => k_is)
      (case u99 => k_is)
      (case u100 => k_is)
      (case u101 => k_is)
    obtain ⟨f_is_no_coming_minute, d_is_no_coming_minute, D_is_no_coming_minute⟩ : ∃ f fd, Gw.Df (L2.KOf KX) mg "is_no_coming_minute" Gw.s_is_no_coming_minute ["ship", "t"] f fd := by
      dsimp only [L2.KOf]
      refine' Gw.df_mk KX G ?u102 ?u103 ?u104 ?u105 (fun _ _ _ _ _ _ us hl => match us, hl with | [_, _], _ => rfl)
      (case u102 => k_is)
      (case u103 => k_is)
      (case u104 => k_is)
      (case u105 => k_is)
    obtain ⟨f_add_gate, d_add_gate, D_add_gate⟩ : ∃ f fd, Gw.Df (L2.KOf KX) mg "add_gate" Gw.s_add_gate ["ship"] f fd := by
      dsimp only [L2.KOf]
      refine' Gw.df_mk KX G ?u106 ?u107 ?u108 ?u109 (fun _ _ _ _ _ _ us hl => match us, hl with | [_], _ => rfl)
      (case u106 => k_is)
      (case u107 => k_is)
      (case u108 => k_is)
      (case u109 => k_is)
    obtain ⟨f_take_aboard, d_take_aboard, D_take_aboard⟩ : ∃ f fd, Gw.Df (L2.KOf KX) mg "take_aboard" Gw.s_take_aboard ["ship", "guardian", "off_by"] f fd := by
      dsimp only [L2.KOf]
      refine' Gw.df_mk KX G ?u110 ?u111 ?u112 ?u113 (fun _ _ _ _ _ _ us hl => match us, hl with | [_, _, _], _ => rfl)
      (case u110 => k_is)
      (case u111 => k_is)
      (case u112 => k_is)
      (case u113 => k_is)
    obtain ⟨f_add_person, d_add_person, D_add_person⟩ : ∃ f fd, Gw.Df (L2.KOf KX) mg "add_person" Gw.s_add_person ["ship"] f fd := by
      dsimp only [L2.KOf]
      refine' Gw.df_mk KX G ?u114 ?u115 ?u116 ?u117 (fun _ _ _ _ _ _ us hl => match us, hl with | [_], _ => rfl)
      (case u114 => k_is)
      (case u115 => k_is)
      (case u116 => k_is)
      (case u117 => k_is)
    obtain ⟨f_add_child, d_add_child, D_add_child⟩ : ∃ f fd, Gw.Df (L2.KOf KX) mg "add_child" Gw.s_add_child ["ship", "p"] f fd := by
      dsimp only [L2.KOf]
      refine' Gw.df_mk KX G ?u118 ?u119 ?u120 ?u121 (fun _ _ _ _ _ _ us hl => match us, hl with | [_, _], _ => rfl)
      (case u118 => k_is)
      (case u119 => k_is)
      (case u120 => k_is)
      (case u121 => k_is)
    obtain ⟨f_add_visitor, d_add_visitor, D_add_visitor⟩ : ∃ f fd, Gw.Df (L2.KOf KX) mg "add_visitor" Gw.s_add_visitor ["ship", "t"] f fd := by
      dsimp only [L2.KOf]
      refine' Gw.df_mk KX G ?u122 ?u123 ?u124 ?u125 (fun _ _ _ _ _ _ us hl => match us, hl with | [_, _], _ => rfl)
      (case u122 => k_is)
      (case u123 => k_is)
      (case u124 => k_is)
      (case u125 => k_is)
    obtain ⟨f_change_card, d_change_card, D_change_card⟩ : ∃ f fd, Gw.Df (L2.KOf KX) mg "change_card" Gw.s_change_card ["ship", "p"] f fd := by
      dsimp only [L2.KOf]
      refine' Gw.df_mk KX G ?u126 ?u127 ?u128 ?u129 (fun _ _ _ _ _ _ us hl => match us, hl with | [_, _], _ => rfl)
      (case u126 => k_is)
      (case u127 => k_is)
      (case u128 => k_is)
      (case u129 => k_is)
    obtain ⟨f_turn_gate, d_turn_gate, D_turn_gate⟩ : ∃ f fd, Gw.Df (L2.KOf KX) mg "turn_gate" Gw.s_turn_gate ["ship", "g", "opened"] f fd := by
      dsimp only [L2.KOf]
      refine' Gw.df_mk KX G ?u130 ?u131 ?u132 ?u133 (fun _ _ _ _ _ _ us hl => match us, hl with | [_, _, _], _ => rfl)
      (case u130 => k_is)
      (case u131 => k_is)
      (case u132 => k_is)
      (case u133 => k_is)
    obtain ⟨f_move, d_move, D_move⟩ : ∃ f fd, Gw.Df (L2.KOf KX) mg "move" Gw.s_move ["ship", "person", "place"] f fd := by
      dsimp only [L2.KOf]
      refine' Gw.df_mk KX G ?u134 ?u135 ?u136 ?u137 (fun _ _ _ _ _ _ us hl => match us, hl with | [_, _, _], _ => rfl)
      (case u134 => k_is)
      (case u135 => k_is)
      (case u136 => k_is)
      (case u137 => k_is)
    obtain ⟨f_come_aboard, d_come_aboard, D_come_aboard⟩ : ∃ f fd, Gw.Df (L2.KOf KX) mg "come_aboard" Gw.s_come_aboard ["ship", "gate", "person"] f fd := by
      dsimp only [L2.KOf]
      refine' Gw.df_mk KX G ?u138 ?u139 ?u140 ?u141 (fun _ _ _ _ _ _ us hl => match us, hl with | [_, _, _], _ => rfl)
      (case u138 => k_is)
      (case u139 => k_is)
      (case u140 => k_is)
      (case u141 => k_is)
    obtain ⟨f_go_ashore, d_go_ashore, D_go_ashore⟩ : ∃ f fd, Gw.Df (L2.KOf KX) mg "go_ashore" Gw.s_go_ashore ["ship", "gate", "person"] f fd := by
      dsimp only [L2.KOf]
      refine' Gw.df_mk KX G ?u142 ?u143 ?u144 ?u145 (fun _ _ _ _ _ _ us hl => match us, hl with | [_, _, _], _ => rfl)
      (case u142 => k_is)
      (case u143 => k_is)
      (case u144 => k_is)
      (case u145 => k_is)
    obtain ⟨f_has_counted_enough, d_has_counted_enough, D_has_counted_enough⟩ : ∃ f fd, Gw.Df (L2.KOf KX) mg "has_counted_enough" Gw.s_has_counted_enough ["ship", "gate"] f fd := by
      dsimp only [L2.KOf]
      refine' Gw.df_mk KX G ?u146 ?u147 ?u148 ?u149 (fun _ _ _ _ _ _ us hl => match us, hl with | [_, _], _ => rfl)
      (case u146 => k_is)
      (case u147 => k_is)
      (case u148 => k_is)
      (case u149 => k_is)
    obtain ⟨f_scan_card, d_scan_card, D_scan_card⟩ : ∃ f fd, Gw.Df (L2.KOf KX) mg "scan_card" Gw.s_scan_card ["ship", "g", "card"] f fd := by
      dsimp only [L2.KOf]
      refine' Gw.df_mk KX G ?u150 ?u151 ?u152 ?u153 (fun _ _ _ _ _ _ us hl => match us, hl with | [_, _, _], _ => rfl)
      (case u150 => k_is)
      (case u151 => k_is)
      (case u152 => k_is)
      (case u153 => k_is)
    obtain ⟨f_leave_for_good, d_leave_for_good, D_leave_for_good⟩ : ∃ f fd, Gw.Df (L2.KOf KX) mg "leave_for_good" Gw.s_leave_for_good ["ship", "p"] f fd := by
      dsimp only [L2.KOf]
      refine' Gw.df_mk KX G ?u154 ?u155 ?u156 ?u157 (fun _ _ _ _ _ _ us hl => match us, hl with | [_, _], _ => rfl)
      (case u154 => k_is)
      (case u155 => k_is)
      (case u156 => k_is)
      (case u157 => k_is)
    obtain ⟨f_let_minutes_pass, d_let_minutes_pass, D_let_minutes_pass⟩ : ∃ f fd, Gw.Df (L2.KOf KX) mg "let_minutes_pass" Gw.s_let_minutes_pass ["ship", "n"] f fd := by
      dsimp only [L2.KOf]
      refine' Gw.df_mk KX G ?u158 ?u159 ?u160 ?u161 (fun _ _ _ _ _ _ us hl => match us, hl with | [_, _], _ => rfl)
      (case u158 => k_is)
      (case u159 => k_is)
      (case u160 => k_is)
      (case u161 => k_is)
    obtain ⟨f_set_sail, d_set_sail, D_set_sail⟩ : ∃ f fd, Gw.Df (L2.KOf KX) mg "set_sail" Gw.s_set_sail ["ship", "t"] f fd := by
      dsimp only [L2.KOf]
      refine' Gw.df_mk KX G ?u162 ?u163 ?u164 ?u165 (fun _ _ _ _ _ _ us hl => match us, hl with | [_, _], _ => rfl)
      (case u162 => k_is)
      (case u163 => k_is)
      (case u164 => k_is)
      (case u165 => k_is)
    obtain ⟨f_give_more_time, d_give_more_time, D_give_more_time⟩ : ∃ f fd, Gw.Df (L2.KOf KX) mg "give_more_time" Gw.s_give_more_time ["ship", "p", "t"] f fd := by
      dsimp only [L2.KOf]
      refine' Gw.df_mk KX G ?u166 ?u167 ?u168 ?u169 (fun _ _ _ _ _ _ us hl => match us, hl with | [_, _, _], _ => rfl)
      (case u166 => k_is)
      (case u167 => k_is)
      (case u168 => k_is)
      (case u169 => k_is)
    obtain ⟨f_one_more_or_zero, d_one_more_or_zero, D_one_more_or_zero⟩ : ∃ f fd, Gw.Df (L2.KOf KX) mg "one_more_or_zero" Gw.s_one_more_or_zero ["number"] f fd := by
      dsimp only [L2.KOf]
      refine' Gw.df_mk KX G ?u170 ?u171 ?u172 ?u173 (fun _ _ _ _ _ _ us hl => match us, hl with | [_], _ => rfl)
      (case u170 => k_is)
      (case u171 => k_is)
      (case u172 => k_is)
      (case u173 => k_is)
    obtain ⟨f_one_if, d_one_if, D_one_if⟩ : ∃ f fd, Gw.Df (L2.KOf KX) mg "one_if" Gw.s_one_if ["truth"] f fd := by
      dsimp only [L2.KOf]
      refine' Gw.df_mk KX G ?u174 ?u175 ?u176 ?u177 (fun _ _ _ _ _ _ us hl => match us, hl with | [_], _ => rfl)
      (case u174 => k_is)
      (case u175 => k_is)
      (case u176 => k_is)
      (case u177 => k_is)
    obtain ⟨f_told_as_bits, d_told_as_bits, D_told_as_bits⟩ : ∃ f fd, Gw.Df (L2.KOf KX) mg "told_as_bits" Gw.s_told_as_bits ["persons"] f fd := by
      dsimp only [L2.KOf]
      refine' Gw.df_mk KX G ?u178 ?u179 ?u180 ?u181 (fun _ _ _ _ _ _ us hl => match us, hl with | [_], _ => rfl)
      (case u178 => k_is)
      (case u179 => k_is)
      (case u180 => k_is)
      (case u181 => k_is)
    obtain ⟨f_who_has, d_who_has, D_who_has⟩ : ∃ f fd, Gw.Df (L2.KOf KX) mg "who_has" Gw.s_who_has ["ship", "card"] f fd := by
      dsimp only [L2.KOf]
      refine' Gw.df_mk KX G ?u182 ?u183 ?u184 ?u185 (fun _ _ _ _ _ _ us hl => match us, hl with | [_, _], _ => rfl)
      (case u182 => k_is)
      (case u183 => k_is)
      (case u184 => k_is)
      (case u185 => k_is)
    obtain ⟨f_where_is, d_where_is, D_where_is⟩ : ∃ f fd, Gw.Df (L2.KOf KX) mg "where_is" Gw.s_where_is ["ship", "p"] f fd := by
      dsimp only [L2.KOf]
      refine' Gw.df_mk KX G ?u186 ?u187 ?u188 ?u189 (fun _ _ _ _ _ _ us hl => match us, hl with | [_, _], _ => rfl)
      (case u186 => k_is)
      (case u187 => k_is)
      (case u188 => k_is)
      (case u189 => k_is)
    obtain ⟨f_count_aboard, d_count_aboard, D_count_aboard⟩ : ∃ f fd, Gw.Df (L2.KOf KX) mg "count_aboard" Gw.s_count_aboard ["ship"] f fd := by
      dsimp only [L2.KOf]
      refine' Gw.df_mk KX G ?u190 ?u191 ?u192 ?u193 (fun _ _ _ _ _ _ us hl => match us, hl with | [_], _ => rfl)
      (case u190 => k_is)
      (case u191 => k_is)
      (case u192 => k_is)
      (case u193 => k_is)
    obtain ⟨f_who_is_missing, d_who_is_missing, D_who_is_missing⟩ : ∃ f fd, Gw.Df (L2.KOf KX) mg "who_is_missing" Gw.s_who_is_missing ["ship"] f fd := by
      dsimp only [L2.KOf]
      refine' Gw.df_mk KX G ?u194 ?u195 ?u196 ?u197 (fun _ _ _ _ _ _ us hl => match us, hl with | [_], _ => rfl)
      (case u194 => k_is)
      (case u195 => k_is)
      (case u196 => k_is)
      (case u197 => k_is)
    obtain ⟨f_which_visitors, d_which_visitors, D_which_visitors⟩ : ∃ f fd, Gw.Df (L2.KOf KX) mg "which_visitors" Gw.s_which_visitors ["ship"] f fd := by
      dsimp only [L2.KOf]
      refine' Gw.df_mk KX G ?u198 ?u199 ?u200 ?u201 (fun _ _ _ _ _ _ us hl => match us, hl with | [_], _ => rfl)
      (case u198 => k_is)
      (case u199 => k_is)
      (case u200 => k_is)
      (case u201 => k_is)
    obtain ⟨f_which_children, d_which_children, D_which_children⟩ : ∃ f fd, Gw.Df (L2.KOf KX) mg "which_children" Gw.s_which_children ["ship", "p"] f fd := by
      dsimp only [L2.KOf]
      refine' Gw.df_mk KX G ?u202 ?u203 ?u204 ?u205 (fun _ _ _ _ _ _ us hl => match us, hl with | [_, _], _ => rfl)
      (case u202 => k_is)
      (case u203 => k_is)
      (case u204 => k_is)
      (case u205 => k_is)
    obtain ⟨f_which_group, d_which_group, D_which_group⟩ : ∃ f fd, Gw.Df (L2.KOf KX) mg "which_group" Gw.s_which_group ["ship", "p"] f fd := by
      dsimp only [L2.KOf]
      refine' Gw.df_mk KX G ?u206 ?u207 ?u208 ?u209 (fun _ _ _ _ _ _ us hl => match us, hl with | [_, _], _ => rfl)
      (case u206 => k_is)
      (case u207 => k_is)
      (case u208 => k_is)
      (case u209 => k_is)
    obtain ⟨f_children_in, d_children_in, D_children_in⟩ : ∃ f fd, Gw.Df (L2.KOf KX) mg "children_in" Gw.s_children_in ["ship", "place"] f fd := by
      dsimp only [L2.KOf]
      refine' Gw.df_mk KX G ?u210 ?u211 ?u212 ?u213 (fun _ _ _ _ _ _ us hl => match us, hl with | [_, _], _ => rfl)
      (case u210 => k_is)
      (case u211 => k_is)
      (case u212 => k_is)
      (case u213 => k_is)
    obtain ⟨f_who_is_alone, d_who_is_alone, D_who_is_alone⟩ : ∃ f fd, Gw.Df (L2.KOf KX) mg "who_is_alone" Gw.s_who_is_alone ["ship"] f fd := by
      dsimp only [L2.KOf]
      refine' Gw.df_mk KX G ?u214 ?u215 ?u216 ?u217 (fun _ _ _ _ _ _ us hl => match us, hl with | [_], _ => rfl)
      (case u214 => k_is)
      (case u215 => k_is)
      (case u216 => k_is)
      (case u217 => k_is)
    obtain ⟨f_who_is_lost, d_who_is_lost, D_who_is_lost⟩ : ∃ f fd, Gw.Df (L2.KOf KX) mg "who_is_lost" Gw.s_who_is_lost ["ship"] f fd := by
      dsimp only [L2.KOf]
      refine' Gw.df_mk KX G ?u218 ?u219 ?u220 ?u221 (fun _ _ _ _ _ _ us hl => match us, hl with | [_], _ => rfl)
      (case u218 => k_is)
      (case u219 => k_is)
      (case u220 => k_is)
      (case u221 => k_is)
    obtain ⟨f_may_they_go, d_may_they_go, D_may_they_go⟩ : ∃ f fd, Gw.Df (L2.KOf KX) mg "may_they_go" Gw.s_may_they_go ["ship", "p"] f fd := by
      dsimp only [L2.KOf]
      refine' Gw.df_mk KX G ?u222 ?u223 ?u224 ?u225 (fun _ _ _ _ _ _ us hl => match us, hl with | [_, _], _ => rfl)
      (case u222 => k_is)
      (case u223 => k_is)
      (case u224 => k_is)
      (case u225 => k_is)
    obtain ⟨f_is_ready, d_is_ready, D_is_ready⟩ : ∃ f fd, Gw.Df (L2.KOf KX) mg "is_ready" Gw.s_is_ready ["ship"] f fd := by
      dsimp only [L2.KOf]
      refine' Gw.df_mk KX G ?u226 ?u227 ?u228 ?u229 (fun _ _ _ _ _ _ us hl => match us, hl with | [_], _ => rfl)
      (case u226 => k_is)
      (case u227 => k_is)
      (case u228 => k_is)
      (case u229 => k_is)
    obtain ⟨f_missing_for_longest, d_missing_for_longest, D_missing_for_longest⟩ : ∃ f fd, Gw.Df (L2.KOf KX) mg "missing_for_longest" Gw.s_missing_for_longest ["ship"] f fd := by
      dsimp only [L2.KOf]
      refine' Gw.df_mk KX G ?u230 ?u231 ?u232 ?u233 (fun _ _ _ _ _ _ us hl => match us, hl with | [_], _ => rfl)
      (case u230 => k_is)
      (case u231 => k_is)
      (case u232 => k_is)
      (case u233 => k_is)
    obtain ⟨f_look_at_gate, d_look_at_gate, D_look_at_gate⟩ : ∃ f fd, Gw.Df (L2.KOf KX) mg "look_at_gate" Gw.s_look_at_gate ["ship", "g"] f fd := by
      dsimp only [L2.KOf]
      refine' Gw.df_mk KX G ?u234 ?u235 ?u236 ?u237 (fun _ _ _ _ _ _ us hl => match us, hl with | [_, _], _ => rfl)
      (case u234 => k_is)
      (case u235 => k_is)
      (case u236 => k_is)
      (case u237 => k_is)
    obtain ⟨f_sum_up, d_sum_up, D_sum_up⟩ : ∃ f fd, Gw.Df (L2.KOf KX) mg "sum_up" Gw.s_sum_up ["ship"] f fd := by
      dsimp only [L2.KOf]
      refine' Gw.df_mk KX G ?u238 ?u239 ?u240 ?u241 (fun _ _ _ _ _ _ us hl => match us, hl with | [_], _ => rfl)
      (case u238 => k_is)
      (case u239 => k_is)
      (case u240 => k_is)
      (case u241 => k_is)
    obtain ⟨f_keep_change, d_keep_change, D_keep_change⟩ : ∃ f fd, Gw.Df (L2.KOf KX) mg "keep_change" Gw.s_keep_change ["voyage", "changed"] f fd := by
      dsimp only [L2.KOf]
      refine' Gw.df_mk KX G ?u242 ?u243 ?u244 ?u245 (fun _ _ _ _ _ _ us hl => match us, hl with | [_, _], _ => rfl)
      (case u242 => k_is)
      (case u243 => k_is)
      (case u244 => k_is)
      (case u245 => k_is)
    obtain ⟨f_take_back, d_take_back, D_take_back⟩ : ∃ f fd, Gw.Df (L2.KOf KX) mg "take_back" Gw.s_take_back ["voyage"] f fd := by
      dsimp only [L2.KOf]
      refine' Gw.df_mk KX G ?u246 ?u247 ?u248 ?u249 (fun _ _ _ _ _ _ us hl => match us, hl with | [_], _ => rfl)
      (case u246 => k_is)
      (case u247 => k_is)
      (case u248 => k_is)
      (case u249 => k_is)
    obtain ⟨f_do_again, d_do_again, D_do_again⟩ : ∃ f fd, Gw.Df (L2.KOf KX) mg "do_again" Gw.s_do_again ["voyage"] f fd := by
      dsimp only [L2.KOf]
      refine' Gw.df_mk KX G ?u250 ?u251 ?u252 ?u253 (fun _ _ _ _ _ _ us hl => match us, hl with | [_], _ => rfl)
      (case u250 => k_is)
      (case u251 => k_is)
      (case u252 => k_is)
      (case u253 => k_is)
    obtain ⟨f_tell_state, d_tell_state, D_tell_state⟩ : ∃ f fd, Gw.Df (L2.KOf KX) mg "tell_state" Gw.s_tell_state ["voyage"] f fd := by
      dsimp only [L2.KOf]
      refine' Gw.df_mk KX G ?u254 ?u255 ?u256 ?u257 (fun _ _ _ _ _ _ us hl => match us, hl with | [_], _ => rfl)
      (case u254 => k_is)
      (case u255 => k_is)
      (case u256 => k_is)
      (case u257 => k_is)
    obtain ⟨f_can_start, d_can_start, D_can_start⟩ : ∃ f fd, Gw.Df (L2.KOf KX) mg "can_start" Gw.s_can_start ["most", "sail"] f fd := by
      dsimp only [L2.KOf]
      refine' Gw.df_mk KX G ?u258 ?u259 ?u260 ?u261 (fun _ _ _ _ _ _ us hl => match us, hl with | [_, _], _ => rfl)
      (case u258 => k_is)
      (case u259 => k_is)
      (case u260 => k_is)
      (case u261 => k_is)
    obtain ⟨f_call_with, d_call_with, D_call_with⟩ : ∃ f fd, Gw.Df (L2.KOf KX) mg "call_with" Gw.s_call_with ["handler", "ship", "given"] f fd := by
      dsimp only [L2.KOf]
      refine' Gw.df_mk KX G ?u262 ?u263 ?u264 ?u265 (fun _ _ _ _ _ _ us hl => match us, hl with | [_, _, _], _ => rfl)
      (case u262 => k_is)
      (case u263 => k_is)
      (case u264 => k_is)
      (case u265 => k_is)
    obtain ⟨f_change, d_change, D_change⟩ : ∃ f fd, Gw.Df (L2.KOf KX) mg "change" Gw.s_change ["voyage", "number", "given"] f fd := by
      dsimp only [L2.KOf]
      refine' Gw.df_mk KX G ?u266 ?u267 ?u268 ?u269 (fun _ _ _ _ _ _ us hl => match us, hl with | [_, _, _], _ => rfl)
      (case u266 => k_is)
      (case u267 => k_is)
      (case u268 => k_is)
      (case u269 => k_is)
    obtain ⟨f_answer_one, d_answer_one, D_answer_one⟩ : ∃ f fd, Gw.Df (L2.KOf KX) mg "answer_one" Gw.s_answer_one ["voyage", "number", "given"] f fd := by
      dsimp only [L2.KOf]
      refine' Gw.df_mk KX G ?u270 ?u271 ?u272 ?u273 (fun _ _ _ _ _ _ us hl => match us, hl with | [_, _, _], _ => rfl)
      (case u270 => k_is)
      (case u271 => k_is)
      (case u272 => k_is)
      (case u273 => k_is)
    obtain ⟨f_answers, d_answers, D_answers⟩ : ∃ f fd, Gw.Df (L2.KOf KX) mg "answers" Gw.s_answers ["calls"] f fd := by
      dsimp only [L2.KOf]
      refine' Gw.df_mk KX G ?u274 ?u275 ?u276 ?u277 (fun _ _ _ _ _ _ us hl => match us, hl with | [_], _ => rfl)
      (case u274 => k_is)
      (case u275 => k_is)
      (case u276 => k_is)
      (case u277 => k_is)
    obtain ⟨C_Gate, f_Gate_init, d_Gate_init, C_Gate', D_Gate_init, n_Gate_opened, n_Gate_went_out, n_Gate_came_in⟩ : ∃ C f fd, Gw.Cf (L2.KOf KX) mg "Gate" C f ∧ Gw.Dm (L2.KOf KX) "__init__" "Gate.__init__" Gw.s_Gate_init ["self"] f fd ∧ L2.NoAttr (L2.KOf KX) C "opened" ∧ L2.NoAttr (L2.KOf KX) C "went_out" ∧ L2.NoAttr (L2.KOf KX) C "came_in" := by
      dsimp only [L2.KOf]
      refine' Gw.mk_Gate KX G ?u278 ?u279 ?u280 ?u281 ?u282 ?u283 ?u284 ?u285 ?u286 ?u287 ?u288 ?u289 ?u290 ?u291 ?u292
      (case u278 => k_is)
      (case u279 => k_is)
      (case u280 => k_is)
      (case u281 => k_is)
      (case u282 => k_is)
      (case u283 => k_is)
      (case u284 => k_is)
      (case u285 => k_is)
      (case u286 => k_is)
      (case u287 => k_is)
      (case u288 => k_is)
      (case u289 => k_is)
      (case u290 => k_is)
      (case u291 => k_is)
      (case u292 => k_is)
    obtain ⟨C_Person, f_Person_init, d_Person_init, C_Person', D_Person_init, n_Person_number, n_Person_card, n_Person_place, n_Person_since, n_Person_guardian, n_Person_off_by⟩ : ∃ C f fd, Gw.Cf (L2.KOf KX) mg "Person" C f ∧ Gw.Dm (L2.KOf KX) "__init__" "Person.__init__" Gw.s_Person_init ["self", "number", "card", "since", "guardian", "off_by"] f fd ∧ L2.NoAttr (L2.KOf KX) C "number" ∧ L2.NoAttr (L2.KOf KX) C "card" ∧ L2.NoAttr (L2.KOf KX) C "place" ∧ L2.NoAttr (L2.KOf KX) C "since" ∧ L2.NoAttr (L2.KOf KX) C "guardian" ∧ L2.NoAttr (L2.KOf KX) C "off_by" := by
      dsimp only [L2.KOf]
      refine' Gw.mk_Person KX G ?u293 ?u294 ?u295 ?u296 ?u297 ?u298 ?u299 ?u300 ?u301 ?u302 ?u303 ?u304 ?u305 ?u306 ?u307 ?u308 ?u309 ?u310
      (case u293 => k_is)
      (case u294 => k_is)
      (case u295 => k_is)
      (case u296 => k_is)
      (case u297 => k_is)
      (case u298 => k_is)
      (case u299 => k_is)
      (case u300 => k_is)
      (case u301 => k_is)
      (case u302 => k_is)
      (case u303 => k_is)
      (case u304 => k_is)
      (case u305 => k_is)
      (case u306 => k_is)
      (case u307 => k_is)
      (case u308 => k_is)
      (case u309 => k_is)
      (case u310 => k_is)
    obtain ⟨C_Ship, f_Ship_init, d_Ship_init, C_Ship', D_Ship_init, n_Ship_most, n_Ship_sail, n_Ship_minute, n_Ship_gates, n_Ship_persons, n_Ship_cards_given, n_Ship_cards_shown_in_vain⟩ : ∃ C f fd, Gw.Cf (L2.KOf KX) mg "Ship" C f ∧ Gw.Dm (L2.KOf KX) "__init__" "Ship.__init__" Gw.s_Ship_init ["self", "most", "sail"] f fd ∧ L2.NoAttr (L2.KOf KX) C "most" ∧ L2.NoAttr (L2.KOf KX) C "sail" ∧ L2.NoAttr (L2.KOf KX) C "minute" ∧ L2.NoAttr (L2.KOf KX) C "gates" ∧ L2.NoAttr (L2.KOf KX) C "persons" ∧ L2.NoAttr (L2.KOf KX) C "cards_given" ∧ L2.NoAttr (L2.KOf KX) C "cards_shown_in_vain" := by
      dsimp only [L2.KOf]
      refine' Gw.mk_Ship KX G ?u311 ?u312 ?u313 ?u314 ?u315 ?u316 ?u317 ?u318 ?u319 ?u320 ?u321 ?u322 ?u323 ?u324 ?u325 ?u326 ?u327 ?u328 ?u329
      (case u311 => k_is)
      (case u312 => k_is)
      (case u313 => k_is)
      (case u314 => k_is)
      (case u315 => k_is)
      (case u316 => k_is)
      (case u317 => k_is)
      (case u318 => k_is)
      (case u319 => k_is)
      (case u320 => k_is)
      (case u321 => k_is)
      (case u322 => k_is)
      (case u323 => k_is)
      (case u324 => k_is)
      (case u325 => k_is)
      (case u326 => k_is)
      (case u327 => k_is)
      (case u328 => k_is)
      (case u329 => k_is)
    obtain ⟨C_Voyage, f_Voyage_init, d_Voyage_init, C_Voyage', D_Voyage_init, n_Voyage_ship, n_Voyage_earlier, n_Voyage_later⟩ : ∃ C f fd, Gw.Cf (L2.KOf KX) mg "Voyage" C f ∧ Gw.Dm (L2.KOf KX) "__init__" "Voyage.__init__" Gw.s_Voyage_init ["self", "ship"] f fd ∧ L2.NoAttr (L2.KOf KX) C "ship" ∧ L2.NoAttr (L2.KOf KX) C "earlier" ∧ L2.NoAttr (L2.KOf KX) C "later" := by
      dsimp only [L2.KOf]
      refine' Gw.mk_Voyage KX G ?u330 ?u331 ?u332 ?u333 ?u334 ?u335 ?u336 ?u337 ?u338 ?u339 ?u340 ?u341 ?u342 ?u343 ?u344
      (case u330 => k_is)
      (case u331 => k_is)
      (case u332 => k_is)
      (case u333 => k_is)
      (case u334 => k_is)
      (case u335 => k_is)
      (case u336 => k_is)
      (case u337 => k_is)
      (case u338 => k_is)
      (case u339 => k_is)
      (case u340 => k_is)
      (case u341 => k_is)
      (case u342 => k_is)
      (case u343 => k_is)
      (case u344 => k_is)
    obtain ⟨a_CHANGES, m_CHANGES, k_CHANGES⟩ : ∃ f, mg "CHANGES" = some (.ref f) ∧ ∀ f0 f1 f2 f3 f4 f5 f6 f7 f8 f9 f10, mg "add_gate" = some (.ref f0) → mg "add_person" = some (.ref f1) → mg "add_child" = some (.ref f2) → mg "add_visitor" = some (.ref f3) → mg "change_card" = some (.ref f4) → mg "turn_gate" = some (.ref f5) → mg "scan_card" = some (.ref f6) → mg "leave_for_good" = some (.ref f7) → mg "let_minutes_pass" = some (.ref f8) → mg "set_sail" = some (.ref f9) → mg "give_more_time" = some (.ref f10) → L2.KDict (L2.KOf KX) f [(1, f0), (2, f1), (3, f2), (4, f3), (5, f4), (6, f5), (7, f6), (8, f7), (9, f8), (10, f9), (11, f10)] := by
      dsimp only [L2.KOf]
      refine' Gw.mk_CHANGES KX G ?u345 ?u346 ?u347 ?u348 ?u349 ?u350 ?u351 ?u352 ?u353 ?u354 ?u355 ?u356 ?u357 ?u358 ?u359 ?u360 ?u361 ?u362 ?u363 ?u364 ?u365 ?u366 ?u367 ?u368 ?u369
      (case u345 => k_is)
      (case u346 => k_is)
      (case u347 => decide)
      (case u348 => rfl)
      (case u349 => k_is)
      (case u350 => rfl)
      (case u351 => k_is)
      (case u352 => rfl)
      (case u353 => k_is)
      (case u354 => rfl)
      (case u355 => k_is)
      (case u356 => rfl)
      (case u357 => k_is)
      (case u358 => rfl)
      (case u359 => k_is)
      (case u360 => rfl)
      (case u361 => k_is)
      (case u362 => rfl)
      (case u363 => k_is)
      (case u364 => rfl)
      (case u365 => k_is)
      (case u366 => rfl)
      (case u367 => k_is)
      (case u368 => rfl)
      (case u369 => k_is)
    obtain ⟨a_QUESTIONS, m_QUESTIONS, k_QUESTIONS⟩ : ∃ f, mg "QUESTIONS" = some (.ref f) ∧ ∀ f0 f1 f2 f3 f4 f5 f6 f7 f8 f9 f10 f11 f12 f13, mg "who_has" = some (.ref f0) → mg "where_is" = some (.ref f1) → mg "count_aboard" = some (.ref f2) → mg "who_is_missing" = some (.ref f3) → mg "which_visitors" = some (.ref f4) → mg "which_children" = some (.ref f5) → mg "which_group" = some (.ref f6) → mg "who_is_alone" = some (.ref f7) → mg "who_is_lost" = some (.ref f8) → mg "may_they_go" = some (.ref f9) → mg "is_ready" = some (.ref f10) → mg "missing_for_longest" = some (.ref f11) → mg "look_at_gate" = some (.ref f12) → mg "sum_up" = some (.ref f13) → L2.KDict (L2.KOf KX) f [(12, f0), (13, f1), (14, f2), (15, f3), (16, f4), (17, f5), (18, f6), (19, f7), (20, f8), (21, f9), (22, f10), (23, f11), (24, f12), (25, f13)] := by
      dsimp only [L2.KOf]
      refine' Gw.mk_QUESTIONS KX G ?u370 ?u371 ?u372 ?u373 ?u374 ?u375 ?u376 ?u377 ?u378 ?u379 ?u380 ?u381 ?u382 ?u383 ?u384 ?u385 ?u386 ?u387 ?u388 ?u389 ?u390 ?u391 ?u392 ?u393 ?u394 ?u395 ?u396 ?u397 ?u398 ?u399 ?u400
      (case u370 => k_is)
      (case u371 => k_is)
      (case u372 => decide)
      (case u373 => rfl)
      (case u374 => k_is)
      (case u375 => rfl)
      (case u376 => k_is)
      (case u377 => rfl)
      (case u378 => k_is)
      (case u379 => rfl)
      (case u380 => k_is)
      (case u381 => rfl)
      (case u382 => k_is)
      (case u383 => rfl)
      (case u384 => k_is)
      (case u385 => rfl)
      (case u386 => k_is)
      (case u387 => rfl)
      (case u388 => k_is)
      (case u389 => rfl)
      (case u390 => k_is)
      (case u391 => rfl)
      (case u392 => k_is)
      (case u393 => rfl)
      (case u394 => k_is)
      (case u395 => rfl)
      (case u396 => k_is)
      (case u397 => rfl)
      (case u398 => k_is)
      (case u399 => rfl)
      (case u400 => k_is)
    obtain ⟨a_VOYAGE_CALLS, m_VOYAGE_CALLS, k_VOYAGE_CALLS⟩ : ∃ f, mg "VOYAGE_CALLS" = some (.ref f) ∧ ∀ f0 f1 f2, mg "take_back" = some (.ref f0) → mg "do_again" = some (.ref f1) → mg "tell_state" = some (.ref f2) → L2.KDict (L2.KOf KX) f [(26, f0), (27, f1), (28, f2)] := by
      dsimp only [L2.KOf]
      refine' Gw.mk_VOYAGE_CALLS KX G ?u401 ?u402 ?u403 ?u404 ?u405 ?u406 ?u407 ?u408 ?u409
      (case u401 => k_is)
      (case u402 => k_is)
      (case u403 => decide)
      (case u404 => rfl)
      (case u405 => k_is)
      (case u406 => rfl)
      (case u407 => k_is)
      (case u408 => rfl)
      (case u409 => k_is)
    obtain ⟨a_HOW_MANY_GIVEN, m_HOW_MANY_GIVEN, k_HOW_MANY_GIVEN⟩ : ∃ f, mg "HOW_MANY_GIVEN" = some (.ref f) ∧ ∀ H, L2.SqT (L2.KOf KX) H f [.int 2, .int 0, .int 0, .int 1, .int 1, .int 1, .int 2, .int 2, .int 1, .int 1, .int 1, .int 2, .int 1, .int 1, .int 0, .int 0, .int 0, .int 1, .int 1, .int 0, .int 0, .int 1, .int 0, .int 0, .int 1, .int 0, .int 0, .int 0, .int 0] := by
      dsimp only [L2.KOf]
      refine' Gw.mk_HOW_MANY_GIVEN KX G ?u410 ?u411
      (case u410 => k_is)
      (case u411 => k_is)
    have T : Gw.Txt (L2.KOf KX) mg ⟨f_Gate_init, d_Gate_init, f_Person_init, d_Person_init, f_Ship_init, d_Ship_init, f_copied_gate, d_copied_gate, f_copied_person, d_copied_person, f_copied_ship, d_copied_ship, f_find_gate, d_find_gate, f_find_person, d_find_person, f_find_holder, d_find_holder, f_count_open_gates, d_count_open_gates, f_persons_in, d_persons_in, f_persons_aboard, d_persons_aboard, f_visitors_aboard, d_visitors_aboard, f_missing_persons, d_missing_persons, f_is_full, d_is_full, f_has_passed, d_has_passed, f_is_guardian_ashore, d_is_guardian_ashore, f_may_go_ashore, d_may_go_ashore, f_children_of, d_children_of, f_overdue_visitors, d_overdue_visitors, f_as_bits, d_as_bits, f_give_card, d_give_card, f_is_no_coming_minute, d_is_no_coming_minute, f_add_gate, d_add_gate, f_take_aboard, d_take_aboard, f_add_person, d_add_person, f_add_child, d_add_child, f_add_visitor, d_add_visitor, f_change_card, d_change_card, f_turn_gate, d_turn_gate, f_move, d_move, f_come_aboard, d_come_aboard, f_go_ashore, d_go_ashore, f_has_counted_enough, d_has_counted_enough, f_scan_card, d_scan_card, f_leave_for_good, d_leave_for_good, f_let_minutes_pass, d_let_minutes_pass, f_set_sail, d_set_sail, f_give_more_time, d_give_more_time, f_one_more_or_zero, d_one_more_or_zero, f_one_if, d_one_if, f_told_as_bits, d_told_as_bits, f_who_has, d_who_has, f_where_is, d_where_is, f_count_aboard, d_count_aboard, f_who_is_missing, d_who_is_missing, f_which_visitors, d_which_visitors, f_which_children, d_which_children, f_which_group, d_which_group, f_children_in, d_children_in, f_who_is_alone, d_who_is_alone, f_who_is_lost, d_who_is_lost, f_may_they_go, d_may_they_go, f_is_ready, d_is_ready, f_missing_for_longest, d_missing_for_longest, f_look_at_gate, d_look_at_gate, f_sum_up, d_sum_up, f_Voyage_init, d_Voyage_init, f_keep_change, d_keep_change, f_take_back, d_take_back, f_do_again, d_do_again, f_tell_state, d_tell_state, f_can_start, d_can_start, f_call_with, d_call_with, f_change, d_change, f_answer_one, d_answer_one, f_answers, d_answers, C_Gate, C_Person, C_Ship, C_Voyage, a_CHANGES, a_QUESTIONS, a_VOYAGE_CALLS, a_HOW_MANY_GIVEN⟩ := ⟨x_len, x_max, c_MOST_PERSONS, c_MOST_GATES, c_MOST_CARDS, c_MOST_PASSAGES, c_LAST_MINUTE, c_LONGEST_STEP, c_MOST_TAKEN_BACK, c_NONE_THERE, c_NOBODY_MISSING, c_NOT_AS_THINGS_ARE, c_SO_ALREADY, c_WRONG_NUMBER, c_NO_MORE_OF_THEM, c_MAY_NOT, c_NO_ROOM_ABOARD, c_TOO_LATE, c_ABOARD, c_ASHORE, c_GONE, c_WENT_OUT, c_CAME_IN, c_SHOWN_IN_VAIN, c_START, m_CHANGES, (k_CHANGES _ _ _ _ _ _ _ _ _ _ _  D_add_gate.m D_add_person.m D_add_child.m D_add_visitor.m D_change_card.m D_turn_gate.m D_scan_card.m D_leave_for_good.m D_let_minutes_pass.m D_set_sail.m D_give_more_time.m), m_QUESTIONS, (k_QUESTIONS _ _ _ _ _ _ _ _ _ _ _ _ _ _  D_who_has.m D_where_is.m D_count_aboard.m D_who_is_missing.m D_which_visitors.m D_which_children.m D_which_group.m D_who_is_alone.m D_who_is_lost.m D_may_they_go.m D_is_ready.m D_missing_for_longest.m D_look_at_gate.m D_sum_up.m), m_VOYAGE_CALLS, (k_VOYAGE_CALLS _ _ _  D_take_back.m D_do_again.m D_tell_state.m), m_HOW_MANY_GIVEN, k_HOW_MANY_GIVEN, C_Gate', n_Gate_opened, n_Gate_went_out, n_Gate_came_in, C_Person', n_Person_number, n_Person_card, n_Person_place, n_Person_since, n_Person_guardian, n_Person_off_by, C_Ship', n_Ship_most, n_Ship_sail, n_Ship_minute, n_Ship_gates, n_Ship_persons, n_Ship_cards_given, n_Ship_cards_shown_in_vain, C_Voyage', n_Voyage_ship, n_Voyage_earlier, n_Voyage_later, D_Gate_init, D_Person_init, D_Ship_init, D_copied_gate, D_copied_person, D_copied_ship, D_find_gate, D_find_person, D_find_holder, D_count_open_gates, D_persons_in, D_persons_aboard, D_visitors_aboard, D_missing_persons, D_is_full, D_has_passed, D_is_guardian_ashore, D_may_go_ashore, D_children_of, D_overdue_visitors, D_as_bits, D_give_card, D_is_no_coming_minute, D_add_gate, D_take_aboard, D_add_person, D_add_child, D_add_visitor, D_change_card, D_turn_gate, D_move, D_come_aboard, D_go_ashore, D_has_counted_enough, D_scan_card, D_leave_for_good, D_let_minutes_pass, D_set_sail, D_give_more_time, D_one_more_or_zero, D_one_if, D_told_as_bits, D_who_has, D_where_is, D_count_aboard, D_who_is_missing, D_which_visitors, D_which_children, D_which_group, D_children_in, D_who_is_alone, D_who_is_lost, D_may_they_go, D_is_ready, D_missing_for_longest, D_look_at_gate, D_sum_up, D_Voyage_init, D_keep_change, D_take_back, D_do_again, D_tell_state, D_can_start, D_call_with, D_change, D_answer_one, D_answers⟩
    have e0 := hmg.symm.trans D_answers.m
    cases e0
    obtain ⟨fd, hb, hf⟩ := Gw.ends T
    exact ⟨fd, hb, fun base _ _ => hf _ _ base⟩
  case S =>
    intro K H xs a hO hwi hask hx
    cases hx with
    | cons h1 h2 =>
      cases h2
      cases h1 with
      | lst hs ha =>
        have e := L2.ints_dw a.1 _ ha
        subst e
        obtain ⟨cs, el, hn, hm, ea⟩ := Gw.asked_calls (l := a.1) hask
        refine ⟨_, cs, rfl, (by rw [← el]; exact hs), hn, hm, fun H' t ht => ?_⟩
        rw [← ea] at ht
        exact .lst (L2.SqL.of ht) (L2.dw_ints _)

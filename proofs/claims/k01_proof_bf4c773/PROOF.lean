import PyProof.Rows.All
import Wide.All
import OpenK.AllK
import Wide.FinOn
import PySem.Challenge.RW_beadfit_k01_first_fault
import Lean
import PyProof.EqAt
import PyProof.EqKinds
import PyProof.TupleCall
import PySem.SetOps
import PyProof.SetKind
import PyProof.DictStraight
import PyProof.SetRoads
import PyProof.DictWalks
import PyProof.DictIter
import PyProof.Walks
import PyProof.Rows.SetFrom
import KE.KDictSum
import PyProof.Rows.SortWalk
import PyProof.NeKinds
import PyProof.Rows.Range3
import KE.KNestM
import OpenK.KRaise
import PyProof.Rows.CatchOwn
import PyProof.StrLawsRepr
import PyProof.FString
import KE.KTryMore
import PyProof.Rows.RuleN_isinstance
import PyProof.StrOps2
import PyProof.MeetsStr
import PyProof.StrLawsIn
set_option Elab.async false
set_option linter.all false
set_option maxRecDepth 100000
namespace L2
open PySem PySem.Spec PyProof.Rows

/-- a key: an int or a str -/
abbrev Key := Sum Int Str
def keyIs : Key → Value → Bool
  | .inl k, v => Value.isInt k v
  | .inr x, v => Value.isStrOf x v
def keyH (w : World) : Key → Int
  | .inl k => hashInt k
  | .inr x => hashStr w x
theorem keyIs_shape : ∀ {k : Key} {v : Value}, keyIs k v = true → (∃ i t, k = Sum.inl i ∧ v = Value.int i t) ∨ (∃ x t, k = Sum.inr x ∧ v = Value.str x t)
  | .inl i, v, h => by
    obtain ⟨t, e⟩ := Value.isInt_shape (k := i) (v := v) h
    exact .inl ⟨i, t, rfl, e⟩
  | .inr x, v, h => by
    obtain ⟨t, e⟩ := Value.isStrOf_shape (x := x) (v := v) h
    exact .inr ⟨x, t, rfl, e⟩
theorem keyIs_int (i : Int) (t : Tok) : keyIs (.inl i) (.int i t) = true := by simp [keyIs, Value.isInt]
theorem keyIs_str (x : Str) (t : Tok) : keyIs (.inr x) (.str x t) = true := by simp [keyIs, Value.isStrOf]
theorem key_ll (a b : Int) : decide ((Sum.inl a : Key) = Sum.inl b) = (a == b) := by
  by_cases e : a = b
  · subst e; simp
  · have h : ¬ (Sum.inl a : Key) = Sum.inl b := fun q => e (Sum.inl.inj q)
    rw [decide_eq_false h]
    exact (beq_eq_false_iff_ne.mpr e).symm
theorem key_rr (a b : Str) : decide ((Sum.inr a : Key) = Sum.inr b) = decide (a = b) := by
  by_cases e : a = b
  · subst e; simp
  · have h : ¬ (Sum.inr a : Key) = Sum.inr b := fun q => e (Sum.inr.inj q)
    rw [decide_eq_false h, decide_eq_false e]
theorem key_lr (a : Int) (b : Str) : decide ((Sum.inl a : Key) = Sum.inr b) = false := decide_eq_false (fun q => nomatch q)
theorem key_rl (a : Str) (b : Int) : decide ((Sum.inr a : Key) = Sum.inl b) = false := decide_eq_false (fun q => nomatch q)

def mixKind (prog : Program) (w : World) : PySem.KeyKind prog w Key where
  is := keyIs
  hash := keyH w
  inj := fun v a b ha hb => by
    rcases keyIs_shape ha with ⟨i, t, rfl, rfl⟩ | ⟨x, t, rfl, rfl⟩
    · rcases keyIs_shape hb with ⟨j, u, rfl, e⟩ | ⟨y, u, rfl, e⟩
      · injection e with e1 _; rw [e1]
      · exact nomatch e
    · rcases keyIs_shape hb with ⟨j, u, rfl, e⟩ | ⟨y, u, rfl, e⟩
      · exact nomatch e
      · injection e with e1 _; rw [e1]
  byValue := fun k v h => by
    rcases keyIs_shape h with ⟨i, t, rfl, rfl⟩ | ⟨x, t, rfl, rfl⟩ <;> rfl
  pyHash := fun hv h => by
    rcases keyIs_shape hv with ⟨i, t, rfl, rfl⟩ | ⟨x, t, rfl, rfl⟩
    · exact wpAny_pyHash_int h
    · exact wpAny_pyHash_str h
  eqBool := fun hu hv h => by
    rcases keyIs_shape hu with ⟨i, t, rfl, rfl⟩ | ⟨x, t, rfl, rfl⟩
    · rcases keyIs_shape hv with ⟨j, u, rfl, rfl⟩ | ⟨y, u, rfl, rfl⟩
      · rw [key_ll] at h; exact wpAny_eqBool_int h
      · rw [key_lr] at h; exact SeqAt.EqAt.int_str i t y u _ _ _ _ h
    · rcases keyIs_shape hv with ⟨j, u, rfl, rfl⟩ | ⟨y, u, rfl, rfl⟩
      · rw [key_rl] at h; exact SeqAt.EqAt.str_int x t j u _ _ _ _ h
      · rw [key_rr] at h; exact wpAny_eqBool_str h
  «strs» := fun k x t v h => by
    rcases keyIs_shape h with ⟨i, u, rfl, e⟩ | ⟨y, u, rfl, e⟩
    · exact nomatch e
    · injection e with e1 _
      subst e1
      cases v <;> rfl

theorem mixKind_is (prog : Program) (w : World) (k : Key) (v : Value) : (mixKind prog w).is k v = keyIs k v := rfl
theorem mixKind_int (prog : Program) (w : World) (i : Int) (t : Tok) : (mixKind prog w).is (.inl i) (.int i t) = true := keyIs_int i t
theorem mixKind_str (prog : Program) (w : World) (x : Str) (t : Tok) : (mixKind prog w).is (.inr x) (.str x t) = true := keyIs_str x t
end L2

namespace L2
open PySem PySem.Spec PyProof.Rows

/-- a value, without the heap -/
inductive V where
  | non | bl (b : Bool) | int (i : Int) | str (x : Str) | byt (b : Array UInt8) | flt (b : UInt64) | ref (a : Addr) | ty (n : String)
  deriving DecidableEq

def RelV : V → Value → Prop
  | .non, u => u = Value.none
  | .bl b, u => u = Value.bool b
  | .int i, u => ∃ t, u = Value.int i t
  | .str x, u => ∃ t, u = Value.str x t
  | .byt b, u => ∃ t, u = Value.bytes b t
  | .flt b, u => ∃ t, u = Value.float b t
  | .ref a, u => u = Value.ref a
  | .ty n, u => u = Value.type n

abbrev Vals : List V → List Value → Prop := Paired RelV
theorem Vals.length {xs : List V} {us : List Value} (r : Vals xs us) : xs.length = us.length := Paired.length r
theorem Vals.get : ∀ {xs : List V} {us : List Value} {i : Nat} {x : V}, Vals xs us → xs[i]? = some x → ∃ u, us[i]? = some u ∧ RelV x u
  | _, _, _, _, .nil, e => by simp at e
  | _, _, 0, _, .cons r _, e => by simp at e; subst e; exact ⟨_, rfl, r⟩
  | _, _, i + 1, x, .cons _ t, e => by
    obtain ⟨u, h1, h2⟩ := Vals.get (i := i) (x := x) t (by simpa using e)
    exact ⟨u, by simpa using h1, h2⟩
theorem Vals.set {x : V} {u : Value} (r : RelV x u) : ∀ {xs : List V} {us : List Value} (i : Nat), Vals xs us → Vals (xs.set i x) (us.set i u)
  | _, _, _, .nil => .nil
  | _, _, 0, .cons _ t => .cons r t
  | _, _, i + 1, .cons q t => .cons q (Vals.set r i t)
theorem Vals.append : ∀ {xs ys : List V} {us ws : List Value}, Vals xs us → Vals ys ws → Vals (xs ++ ys) (us ++ ws)
  | _, _, _, _, .nil, s => s
  | _, _, _, _, .cons r t, s => .cons r (Vals.append t s)
theorem Vals.take : ∀ {xs : List V} {us : List Value} (n : Nat), Vals xs us → Vals (xs.take n) (us.take n)
  | _, _, 0, _ => .nil
  | _, _, _ + 1, .nil => .nil
  | _, _, n + 1, .cons r t => .cons r (Vals.take n t)
theorem Vals.drop : ∀ {xs : List V} {us : List Value} (n : Nat), Vals xs us → Vals (xs.drop n) (us.drop n)
  | _, _, 0, r => r
  | _, _, _ + 1, .nil => .nil
  | _, _, n + 1, .cons _ t => Vals.drop n t
theorem Vals.none_of : ∀ {xs : List V} {us : List Value} {i : Nat}, Vals xs us → xs[i]? = none → us[i]? = none := fun {xs us i} r e => by
  have h1 := r.length
  have h2 : xs.length ≤ i := List.getElem?_eq_none_iff.mp e
  exact List.getElem?_eq_none_iff.mpr (by omega)

def RelO : Option V → Option Value → Prop
  | some v, some u => RelV v u
  | none, none => True
  | _, _ => False
def KV {κ : Type} : List (κ × V) → List (κ × Value) → Prop := Paired fun (p : κ × V) (q : κ × Value) => p.1 = q.1 ∧ RelV p.2 q.2

/-- a key of a dict (00_mix): an int or a text -/
def kV : Key → V
  | .inl i => .int i
  | .inr x => .str x

/-- what stands at a tracked address -/
inductive HO where
  /-- a list -/
  | lst (xs : List V)
  /-- a tuple (never changes) -/
  | tup (xs : List V)
  /-- a dict whose keys are ints and texts; one whose keys are tuples of ints and texts (the empty one is both) -/
  | dK (kvs : List (Key × V)) | dT (kvs : List (List Key × V))
  /-- a set of ints: its members, its size -/
  | set (S : Int → Bool) (n : Nat)
  /-- an instance of the class at C, its dict at dx, its attributes -/
  | ins (C dx : Addr) (fs : List (Str × V))
  /-- the dict of the instance at x -/
  | own (x : Addr)
  /-- the dict of an exception -/
  | xd (fs : List (Str × V))
  /-- a bound method, f of x -/
  | met (f x : Addr)
  /-- a range object lo, lo + 1, .. below hi -/
  | rng (lo hi : Int)
  /-- a thing that is known to the object (the script; a dict while a loop walks it): read, never written while it is so -/
  | frz (o : Obj) (u : HO)
  /-- a code object's table -/
  | tbl (ps : Array Value)
  /-- any other thing, by what is true of its one object (a def of one's own: SetO a S n := HO.ext fun h => ..) -/
  | ext (φ : Heap → Prop)

abbrev Hp := Addr → Option HO
def upd (H : Hp) (a : Addr) (o : HO) : Hp := fun b => if b = a then some o else H b
theorem upd_same {H : Hp} {a : Addr} {o : HO} : upd H a o a = some o := by unfold upd; rw [if_pos rfl]
theorem upd_ne {H : Hp} {a b : Addr} {o : HO} (h : b ≠ a) : upd H a o b = H b := by unfold upd; rw [if_neg h]
theorem upd_upd {H : Hp} {a : Addr} {o u : HO} : upd (upd H a o) a u = upd H a u := by
  funext b; unfold upd; split <;> rfl
/-- two objects of different content stand apart -/
theorem ne_of {H : Hp} {a b : Addr} {o u : HO} (h : H a = some o) (h' : H b = some u) (d : o ≠ u) : a ≠ b := by
  intro e; subst e; rw [h] at h'; exact d (Option.some.inj h')
theorem ne_of_none {H : Hp} {a b : Addr} {o : HO} (h : H a = some o) (h' : H b = none) : a ≠ b := by
  intro e; subst e; rw [h] at h'; cases h'

section
variable (P : Program) (w : World)
def ObjOk (H : Hp) (h : Heap) (a : Addr) : HO → Prop
  | .lst xs => xs.length ≤ sizeLine ∧ ∃ (its : List Value) (n : Nat), Vals xs its ∧ h.get? a = some { cls := .type "list", data := .seq its.toArray n }
  | .tup xs => xs.length ≤ sizeLine ∧ ∃ its : List Value, Vals xs its ∧ IsTup h a its.toArray
  | .dK kvs => kvs.length ≤ sizeLine ∧ (a == sysModules) = false ∧ ∃ vs, KV kvs vs ∧ h.DictOf (mixKind P w) a vs
  | .dT kvs => kvs.length ≤ sizeLine ∧ (a == sysModules) = false ∧ ∃ xs : List (List Key × Addr × Value),
      Paired (fun (p : List Key × V) (q : List Key × Addr × Value) => p.1 = q.1 ∧ H q.2.1 = some (.tup (p.1.map kV)) ∧ RelV p.2 q.2.2) kvs xs ∧
      ∃ o es ep, h.get? a = some o ∧ o.ExactDict ∧ o.data = .dict es ep ∧ es.toList = xs.map (entryOfKey (tupleKind (mixKind P w))) ∧ (xs.map (·.1)).Nodup
  | .set S n => h.SetOf (intKind P w) a S n
  | .ins C dx fs => H dx = some (.own a) ∧ fs.length ≤ 1000 ∧ dx ≠ a ∧ h.get? a = some (PySem.W.instObj C dx) ∧
      ∃ mA, h.Ns1 dx mA ∧ (∀ f, RelO (fs.lookup f) (mA f)) ∧ PySem.Within mA (fs.map (·.1))
  | .own _ => ∃ o, h.get? a = some o
  | .xd fs => ∃ mA, h.Ns1 a mA ∧ ∀ f, RelO (fs.lookup f) (mA f)
  | .rng lo hi => ∃ t u v, h.get? a = some { cls := .type "range", data := .fields #[.int lo t, .int hi u, .int 1 v] }
  | .frz o u => h.get? a = some o ∧ ObjOk H h a u
  | .tbl ps => h.get? a = some { cls := .none, data := .fields ps }
  | .met f x => h.get? a = some (PySem.W.methodObj (.ref f) (.ref x))
  | .ext φ => φ h ∧ (∃ o, h.get? a = some o) ∧ ∀ h1 h2 : Heap, φ h1 → (∀ o, h1.get? a = some o → h2.get? a = some o) → φ h2
/-- the abstract heap is held -/
def HOk (H : Hp) (h : Heap) : Prop := ∀ a o, H a = some o → ObjOk P w H h a o
end

section
variable {P : Program} {w : World} {H H' : Hp} {h h' : Heap} {a : Addr} {o : HO}
theorem ObjOk.lt (x : ObjOk P w H h a o) : a < h.objs.size := by
  cases o with
  | lst xs => obtain ⟨_, _, _, _, e⟩ := x; exact Heap.lt_size e
  | tup xs => obtain ⟨_, _, _, p⟩ := x; exact p.lt
  | dK kvs => obtain ⟨_, _, _, _, o, _, _, e, _⟩ := x; exact Heap.lt_size e
  | dT kvs => obtain ⟨_, _, _, _, o, _, _, e, _⟩ := x; exact Heap.lt_size e
  | set S n => obtain ⟨o, _, _, _, e, _⟩ := x; exact Heap.lt_size e
  | ins C dx fs => obtain ⟨_, _, _, e, _⟩ := x; exact Heap.lt_size e
  | own y => obtain ⟨_, e⟩ := x; exact Heap.lt_size e
  | xd fs => obtain ⟨_, ⟨_, _, _, e, _⟩, _⟩ := x; exact Heap.lt_size e
  | rng lo hi => obtain ⟨_, _, _, e⟩ := x; exact Heap.lt_size e
  | frz ob u => obtain ⟨e, _⟩ := x; exact Heap.lt_size e
  | tbl ps => exact Heap.lt_size (show h.get? a = some _ from x)
  | met f y => exact Heap.lt_size (show h.get? a = some _ from x)
  | ext φ => obtain ⟨_, ⟨_, e⟩, _⟩ := x; exact Heap.lt_size e
theorem Paired.mapP {α β : Type} {F G : α → β → Prop} : ∀ {l₁ : List α} {l₂ : List β}, Paired F l₁ l₂ → (∀ a b, F a b → G a b) → Paired G l₁ l₂
  | _, _, .nil, _ => .nil
  | _, _, .cons r t, f => .cons (f _ _ r) (Paired.mapP t f)
theorem Paired.imp' {α β : Type} {F G : α → β → Prop} (f : ∀ a b, F a b → G a b) {l₁ : List α} {l₂ : List β} (r : Paired F l₁ l₂) : Paired G l₁ l₂ := Paired.mapP r f
/-- what an object's description leans on: its own object, its own dict, the tuples -/
theorem ObjOk.stay (x : ObjOk P w H h a o) (k : ∀ b u, (b = a ∨ H b = some (.own a)) → h.get? b = some u → h'.get? b = some u)
    (ho : ∀ b, H b = some (.own a) → H' b = some (.own a)) (ht : ∀ b xs, H b = some (.tup xs) → H' b = some (.tup xs)) : ObjOk P w H' h' a o := by
  induction o with
  | lst xs => obtain ⟨z, its, n, r, e⟩ := x; exact ⟨z, its, n, r, k _ _ (.inl rfl) e⟩
  | tup xs => obtain ⟨z, its, r, ob, e, c⟩ := x; exact ⟨z, its, r, ob, k _ _ (.inl rfl) e, c⟩
  | dK kvs => obtain ⟨z, y, vs, r, ob, es, ep, e, c⟩ := x; exact ⟨z, y, vs, r, ob, es, ep, k _ _ (.inl rfl) e, c⟩
  | dT kvs =>
    obtain ⟨z, y, xs, r, ob, es, ep, e, c⟩ := x
    exact ⟨z, y, xs, Paired.mapP r fun p q z => ⟨z.1, ht _ _ z.2.1, z.2.2⟩, ob, es, ep, k _ _ (.inl rfl) e, c⟩
  | set S n => obtain ⟨ob, es, ep, t, e, c⟩ := x; exact ⟨ob, es, ep, t, k _ _ (.inl rfl) e, c⟩
  | ins C dx fs =>
    obtain ⟨d, z, ne, e, mA, ⟨od, es, ep, e2, c⟩, r⟩ := x
    exact ⟨ho _ d, z, ne, k _ _ (.inl rfl) e, mA, ⟨od, es, ep, k _ _ (.inr d) e2, c⟩, r⟩
  | own y => obtain ⟨ob, e⟩ := x; exact ⟨ob, k _ _ (.inl rfl) e⟩
  | xd fs => obtain ⟨mA, ⟨od, es, ep, e, c⟩, r⟩ := x; exact ⟨mA, ⟨od, es, ep, k _ _ (.inl rfl) e, c⟩, r⟩
  | rng lo hi => obtain ⟨t, u, v, e⟩ := x; exact ⟨t, u, v, k _ _ (.inl rfl) e⟩
  | frz ob u ih => obtain ⟨e, q⟩ := x; exact ⟨k _ _ (.inl rfl) e, ih q⟩
  | tbl ps =>
    have e : h.get? a = some { cls := .none, data := .fields ps } := x
    show h'.get? a = some { cls := .none, data := .fields ps }
    exact k a _ (.inl rfl) e
  | met f y =>
    have e : h.get? a = some (PySem.W.methodObj (.ref f) (.ref y)) := x
    show h'.get? a = some (PySem.W.methodObj (.ref f) (.ref y))
    exact k a _ (.inl rfl) e
  | ext φ => obtain ⟨p, ⟨o, e⟩, st⟩ := x; exact ⟨st _ _ p fun o q => k _ _ (.inl rfl) q, ⟨o, k _ _ (.inl rfl) e⟩, st⟩
theorem HOk.lt (x : HOk P w H h) (e : H a = some o) : a < h.objs.size := (x a o e).lt
theorem HOk.fresh (x : HOk P w H h) (e : h.objs.size ≤ a) : H a = none := by
  cases q : H a with
  | none => rfl
  | some u => exact absurd (Nat.lt_of_lt_of_le (x.lt q) e) (Nat.lt_irrefl _)
/-- every object of the heap is kept -/
theorem HOk.kept (x : HOk P w H h) (k : ∀ b u, h.get? b = some u → h'.get? b = some u) : HOk P w H h' := fun a o e =>
  (x a o e).stay (fun b u _ q => k b u q) (fun _ q => q) fun _ _ q => q
/-- a new object is laid and tracked -/
theorem HOk.laid (x : HOk P w H h) (k : ∀ b u, h.get? b = some u → h'.get? b = some u) (hp : h.objs.size ≤ a) (new : ObjOk P w (upd H a o) h' a o) : HOk P w (upd H a o) h' := fun b u e => by
  have hn := x.fresh hp
  by_cases hb : b = a
  · subst hb; rw [upd_same] at e; cases e; exact new
  · rw [upd_ne hb] at e
    exact (x b u e).stay (fun c v _ q => k c v q) (fun c q => by rw [upd_ne (ne_of_none q hn)]; exact q) fun c xs q => by rw [upd_ne (ne_of_none q hn)]; exact q
end

/-- what may be read as u: it is u, or a known u -/
def Rd (H : Hp) (a : Addr) (u : HO) : Prop := H a = some u ∨ ∃ o, H a = some (.frz o u)
theorem Rd.of {H : Hp} {a : Addr} {u : HO} (h : H a = some u) : Rd H a u := .inl h
theorem Rd.ok {P : Program} {w : World} {H : Hp} {h : Heap} {a : Addr} {u : HO} (r : Rd H a u) (x : HOk P w H h) : ObjOk P w H h a u := by
  rcases r with r | ⟨o, r⟩
  · exact x a u r
  · obtain ⟨_, q⟩ := x a _ r
    exact q
/-- what may be written -/
def Mut : Option HO → Prop
  | some (.lst _) => True
  | some (.dK _) => True
  | some (.dT _) => True
  | some (.set _ _) => True
  | some (.ins _ _ _) => True
  | some (.ext _) => True
  | _ => False
section
variable {P : Program} {w : World} {H : Hp} {h h' : Heap} {x e : Addr} {o' : HO}
/-- the object at e is changed: x itself, or the dict of the instance x -/
theorem HOk.write (ok : HOk P w H h) (mu : Mut (H x)) (he : e = x ∨ H e = some (.own x)) (k : ∀ b u, b ≠ e → h.get? b = some u → h'.get? b = some u) (heo : ∃ u, h'.get? e = some u)
    (new : ObjOk P w (upd H x o') h' x o') : HOk P w (upd H x o') h' := fun b u q => by
  have nown : ∀ c y, H c = some (.own y) → c ≠ x := fun c y r z => by subst z; rw [r] at mu; exact mu
  have ntup : ∀ c xs, H c = some (.tup xs) → c ≠ x := fun c xs r z => by subst z; rw [r] at mu; exact mu
  by_cases hb : b = x
  · subst hb; rw [upd_same] at q; cases q; exact new
  · rw [upd_ne hb] at q
    by_cases hbe : b = e
    · have q' : H b = some (.own x) := by
        rcases he with z | z
        · exact absurd (hbe.trans z) hb
        · rw [hbe]; exact z
      rw [q] at q'; cases q'
      obtain ⟨v, hv⟩ := heo
      exact ⟨v, by rw [hbe]; exact hv⟩
    · refine (ok b u q).stay (fun c v hc r => k c v ?_ r) (fun c r => by rw [upd_ne (nown c b r)]; exact r) fun c xs r => by rw [upd_ne (ntup c xs r)]; exact r
      rcases hc with rfl | hc
      · exact hbe
      · rintro rfl
        rcases he with z | z
        · exact nown c b hc z
        · rw [hc] at z; cases z; exact hb rfl
end

/-! ### kept unless tracked; of the frames at fs (the callers') the slots may change (an exception that passes writes there); of the records at ex (iterators) nothing is said -/
structure Un (fs ex : List Addr) (H H' : Hp) (h h' : Heap) : Prop where
  keep : ∀ b o, h.get? b = some o → H b = none → b ∉ fs → b ∉ ex → h'.get? b = some o
  slot : ∀ b o, h.get? b = some o → H b = none → b ∈ fs → b ∉ ex → ∃ sl, h'.get? b = some { o with slots := sl }
  free : ∀ b o, h.get? b = some o → H b = none → b ∉ ex → H' b = none
  there : ∀ b o, h.get? b = some o → b ∉ ex → ∃ o', h'.get? b = some o'
  tups : ∀ b xs, H b = some (.tup xs) → H' b = some (.tup xs)
  frzs : ∀ b o u, H b = some (.frz o u) → H' b = some (.frz o u)
  tbls : ∀ b ps, H b = some (.tbl ps) → ∃ more, H' b = some (.tbl (ps ++ more))
section
variable {fs fs' ex ex' : List Addr} {H H1 H2 : Hp} {h h1 h2 h' : Heap} {a x e : Addr} {o : HO}
theorem Un.any (u : Un fs ex H H1 h h1) {b : Addr} {ob : Obj} (q : h.get? b = some ob) (n : H b = none) (hx : b ∉ ex) : ∃ sl, h1.get? b = some { ob with slots := sl } := by
  by_cases hb : b ∈ fs
  · exact u.slot b ob q n hb hx
  · exact ⟨ob.slots, u.keep b ob q n hb hx⟩
theorem Un.trans (a : Un fs ex H H1 h h1) (b : Un fs ex H1 H2 h1 h2) : Un fs ex H H2 h h2 where
  keep := fun c ob q n hc hx => b.keep c ob (a.keep c ob q n hc hx) (a.free c ob q n hx) hc hx
  slot := fun c ob q n hc hx => by
    obtain ⟨sl, e1⟩ := a.slot c ob q n hc hx
    obtain ⟨sl', e2⟩ := b.slot c _ e1 (a.free c ob q n hx) hc hx
    exact ⟨sl', e2⟩
  free := fun c ob q n hx => by
    obtain ⟨o', e1⟩ := a.there c ob q hx
    exact b.free c o' e1 (a.free c ob q n hx) hx
  there := fun c ob q hx => by
    obtain ⟨o', e1⟩ := a.there c ob q hx
    exact b.there c o' e1 hx
  tups := fun c xs q => b.tups c xs (a.tups c xs q)
  frzs := fun c ob xs q => b.frzs c ob xs (a.frzs c ob xs q)
  tbls := fun c ps q => by
    obtain ⟨m1, e1⟩ := a.tbls c ps q
    obtain ⟨m2, e2⟩ := b.tbls c _ e1
    exact ⟨m1 ++ m2, by rw [e2, Array.append_assoc]⟩
theorem Un.kept (k : ∀ b u, h.get? b = some u → h'.get? b = some u) : Un fs ex H H h h' :=
  ⟨fun b ob q _ _ _ => k b ob q, fun b ob q _ _ _ => ⟨ob.slots, k b ob q⟩, fun _ _ _ n _ => n, fun b ob q _ => ⟨ob, k b ob q⟩, fun _ _ q => q, fun _ _ _ q => q, fun _ ps q => ⟨#[], by rw [q]; simp⟩⟩
theorem Un.refl : Un fs ex H H h h := Un.kept fun _ _ q => q
theorem Un.laid (k : ∀ b u, h.get? b = some u → h'.get? b = some u) (hp : h.objs.size ≤ a) (hn : H a = none) : Un fs ex H (upd H a o) h h' where
  keep := fun b u q _ _ _ => k b u q
  slot := fun b u q _ _ _ => ⟨u.slots, k b u q⟩
  free := fun b u q n _ => by rw [upd_ne (Nat.ne_of_lt (Nat.lt_of_lt_of_le (Heap.lt_size q) hp))]; exact n
  there := fun b u q _ => ⟨u, k b u q⟩
  tups := fun b xs q => by rw [upd_ne (ne_of_none q hn)]; exact q
  frzs := fun b u xs q => by rw [upd_ne (ne_of_none q hn)]; exact q
  tbls := fun b ps q => ⟨#[], by rw [upd_ne (ne_of_none q hn), q]; simp⟩
theorem Un.write (mu : Mut (H x)) (he : e = x ∨ H e = some (.own x)) (k : ∀ b u, b ≠ e → h.get? b = some u → h'.get? b = some u) (heo : ∃ u, h'.get? e = some u) : Un fs ex H (upd H x o) h h' := by
  have hx : ∀ b, H b = none → b ≠ x := fun b n z => by subst z; rw [n] at mu; exact mu
  have hb : ∀ b, H b = none → b ≠ e := fun b n z => by
    subst z
    rcases he with r | r
    · exact hx b n r
    · rw [n] at r; cases r
  have hm : ∀ b u, H b = some u → ¬ Mut (some u) → b ≠ x := fun b u q nm z => by subst z; rw [q] at mu; exact nm mu
  refine ⟨fun b u q n _ _ => k b u (hb b n) q, fun b u q n _ _ => ⟨u.slots, k b u (hb b n) q⟩, fun b u q n _ => by rw [upd_ne (hx b n)]; exact n, fun b u q _ => ?_,
    fun b xs q => by rw [upd_ne (hm b _ q fun z => z)]; exact q, fun b u xs q => by rw [upd_ne (hm b _ q fun z => z)]; exact q, fun b ps q => ⟨#[], by rw [upd_ne (hm b _ q fun z => z), q]; simp⟩⟩
  by_cases hbe : b = e
  · subst hbe; exact heo
  · exact ⟨u, k b u hbe q⟩
theorem Un.mono (u : Un fs ex H H1 h h1) (hs : ∀ b ∈ fs, b ∈ fs') (hx : ∀ b ∈ ex, b ∈ ex') : Un fs' ex' H H1 h h1 :=
  ⟨fun b ob q n hb he => u.keep b ob q n (fun z => hb (hs b z)) fun z => he (hx b z), fun _ _ q n _ he => u.any q n fun z => he (hx _ z), fun b ob q n he => u.free b ob q n fun z => he (hx b z), fun b ob q he => u.there b ob q fun z => he (hx b z), u.tups, u.frzs, u.tbls⟩
end

/-! ### the heap without what is tracked -/
def trk (h : Heap) (H : Hp) : List Addr := (List.range h.objs.size).filter fun a => (H a).isSome
def hidT (h : Heap) (H : Hp) : Heap := PySem.W.hideAll h (trk h H)
theorem hidT_size (h : Heap) (H : Hp) : (hidT h H).objs.size = h.objs.size := PySem.W.hideAll_size _ _
theorem hidT_get {h : Heap} {H : Hp} {b : Addr} {o : Obj} (e : h.get? b = some o) (n : H b = none) : (hidT h H).get? b = some o :=
  PySem.W.hideAll_get _ e fun hm => by
    have q : (H b).isSome = true := (List.mem_filter.mp hm).2
    rw [n] at q; simp at q
theorem of_hidT {h : Heap} {H : Hp} {b : Addr} {o : Obj} (e : (hidT h H).get? b = some o) : h.get? b = some o ∧ H b = none := by
  have e' : h.get? b = some o := PySem.W.of_hideAll (trk h H) e
  refine ⟨e', ?_⟩
  cases q : H b with
  | none => rfl
  | some x =>
    have hm : b ∈ trk h H := List.mem_filter.mpr ⟨List.mem_range.mpr (Heap.lt_size e'), by simp [q]⟩
    have z : (hidT h H).get? b = none := PySem.W.hideAll_none (trk h H) hm
    rw [z] at e; cases e

/-! ### OpenK's ledger, filled with every new object but one -/
def allNews (g h : Heap) (L : Addr) : List (Addr × Obj) := (List.range h.objs.size).filterMap fun a => if a = L ∨ (g.get? a).isSome = true then none else (h.get? a).map fun o => (a, o)
theorem mem_allNews {g h : Heap} {L a : Addr} {o : Obj} (h1 : a ≠ L) (h2 : g.get? a = none) (h3 : h.get? a = some o) : (a, o) ∈ allNews g h L :=
  List.mem_filterMap.mpr ⟨a, List.mem_range.mpr (Heap.lt_size h3), by simp [h1, h2, h3]⟩
theorem of_mem_allNews {g h : Heap} {L : Addr} {p : Addr × Obj} (hp : p ∈ allNews g h L) : p.1 ≠ L ∧ g.get? p.1 = none ∧ h.get? p.1 = some p.2 := by
  obtain ⟨b, _, e⟩ := List.mem_filterMap.mp hp
  split at e
  · cases e
  · rename_i hn
    cases q : h.get? b with
    | none => rw [q] at e; simp at e
    | some u =>
      rw [q] at e
      simp only [Option.map_some, Option.some.injEq] at e
      subst e
      refine ⟨fun z => hn (.inl z), ?_, q⟩
      show g.get? b = none
      cases r : g.get? b with
      | none => rfl
      | some v => exact (hn (.inr (by simp [r]))).elim
def rest (g h : Heap) (L d : Addr) : List (Addr × Obj) := (allNews g h L).filter fun p => decide (p.1 ≠ d)
theorem rest_ne {g h : Heap} {L d : Addr} : ∀ p ∈ rest g h L d, p.1 ≠ d := fun p hp => of_decide_eq_true (List.mem_filter.mp hp).2
theorem mem_rest {g h : Heap} {L d a : Addr} {o : Obj} (h1 : a ≠ L) (h2 : g.get? a = none) (h3 : h.get? a = some o) (h4 : a ≠ d) : (a, o) ∈ rest g h L d :=
  List.mem_filter.mpr ⟨mem_allNews h1 h2 h3, decide_eq_true h4⟩
theorem news_all {g h : Heap} {L : Addr} : News g L h (allNews g h L) := fun p hp => let ⟨a, b, c⟩ := of_mem_allNews hp; ⟨c, a, b⟩
theorem news_at {g h : Heap} {L d : Addr} {o : Obj} (h1 : d ≠ L) (h2 : g.get? d = none) (h3 : h.get? d = some o) : News g L h ((d, o) :: rest g h L d) := fun p hp => by
  rcases List.mem_cons.mp hp with rfl | hp
  · exact ⟨h3, h1, h2⟩
  · exact news_all p (List.mem_filter.mp hp).1
/-- behind a rule that changed d alone: all else but the frame is kept -/
theorem kept_of_news {g h h' : Heap} {L d : Addr} {m : Str → Option Value} (k : ∀ b o, g.get? b = some o → h.get? b = some o) (F : Fr g L h' m) (N : News g L h' (rest g h L d)) :
    ∀ b o, b ≠ L → b ≠ d → h.get? b = some o → h'.get? b = some o := fun b o h1 h2 e => by
  cases q : g.get? b with
  | some u =>
    have := k b u q
    rw [e] at this; cases this
    exact F.keep b _ q
  | none => exact (N (b, o) (mem_rest h1 q e h2)).1
end L2

namespace L2
open PySem PySem.Spec PyProof.Rows

/-- the module's facts, over the base: the heap at the law's entry without what is tracked there -/
structure Mod (K : PySem.W.Frag) (mg : Str → Option Value) (base : Heap) : Prop where
  kin : K.In base
  glob : base.Ns mainGlobals mg
  blt : ∃ mb, base.Ns builtinsNs mb ∧ ∀ x : Str, x ≠ "__name__" → mb x = bootBuiltins x
  nolimit : base.NoLimit

/-- the context: a def's body (or a comprehension's block) running. base: fixed through the whole law; s₀, H₀: the entry; outer: the frames whose slots others may change (a def's callers); stack: all frames that run;
   ex: iterators that were made ahead of the entry and are walked here (a comprehension's); fn: the names whose cells were made at the entry (a def: all; a comprehension's block: its own); calm: not within an except suite; pn: pins that every state bears; xe: what is wanted of an exception that leaves the code -/
structure Cx where
  prog : Program
  w : World
  K : PySem.W.Frag
  mg : Str → Option Value
  base : Heap
  A : Around
  N : List Str
  s₀ : Shared
  H₀ : Hp
  env : Env
  outer : List Env
  stack : List Env
  ex : List Addr
  fn : Str → Bool
  calm : Bool
  pn : List (Addr × Obj)
  xe : Value → Shared → Prop
/-- the callers' frames -/
def frs (l : List Env) : List Addr := l.filterMap (·.frame)
abbrev Cx.fs (X : Cx) : List Addr := frs X.outer

def Vis (sc : Scope) (x : Str) : Prop := sc.names.lookup x = some .local ∨ sc.names.lookup x = some .cell ∨ sc.names.lookup x = some .free
def Loc (sc : Scope) (x : Str) : Prop := sc.names.lookup x = some .local ∨ sc.names.lookup x = some .cell
def Look (env : Env) (h : Heap) (m : Str → Option Value) (x : Str) (u : Value) : Prop :=
  (env.kindOf x = some .local ∧ m x = some u) ∨ ((env.kindOf x = some .cell ∨ env.kindOf x = some .free) ∧ ∃ c, env.cells.lookup x = some c ∧ h.IsCell c (some u))

structure Cx.Ok (X : Cx) : Prop where
  mod : Mod X.K X.mg X.base
  kind : X.env.scope.kind = .function
  glob : X.env.globals = mainGlobals
  blt : X.env.builtins = builtinsNs
  above : X.s₀.heap.objs.size ≤ X.env.locals
  inj : ∀ x y c, X.env.cells.lookup x = some c → X.env.cells.lookup y = some c → x = y
  has : ∀ x, (X.env.kindOf x = some .cell ∨ X.env.kindOf x = some .free) → ∃ c, X.env.cells.lookup x = some c
  cab : ∀ x c, X.fn x = true → X.env.cells.lookup x = some c → X.s₀.heap.objs.size ≤ c
  hd : X.calm = true → X.A.handled = none
  frames : X.A.frames = some X.stack
  stk : X.stack = X.outer ∨ (X.stack = X.env :: X.outer ∧ X.env.frame = some X.env.locals)
  exf : ∀ b ∈ X.ex, b ≠ X.env.locals ∧ ∀ x c, X.env.cells.lookup x = some c → c ≠ b
  bs : ∀ b o, X.base.get? b = some o → X.s₀.heap.get? b = some o ∧ X.H₀ b = none
  bsz : X.base.objs.size ≤ X.s₀.heap.objs.size
  noex : ∀ b o, X.base.get? b = some o → b ∉ X.ex
  exfs : ∀ b ∈ X.ex, b ∉ X.fs
  funs : X.s₀.heap.FunFrames X.base X.outer
  frf : ∀ b ∈ X.fs, X.H₀ b = none

structure Inv (X : Cx) (pins : List (Addr × Obj)) (σ : List (Option V)) (H : Hp) (s : Shared) : Prop where
  ok : X.Ok
  os : s.os = X.s₀.os
  bare : AllBare s.gens
  base : Un X.fs X.ex X.H₀ H X.s₀.heap s.heap
  loc : ∃ m, s.heap.Ns X.env.locals m ∧ ∀ (i : Nat) (x : Str) (v : V), X.N[i]? = some x → σ[i]? = some (some v) → Vis X.env.scope x → ∃ u, RelV v u ∧ Look X.env s.heap m x u
  cell : ∀ x c, X.env.cells.lookup x = some c → ∃ v, s.heap.IsCell c v
  free : H X.env.locals = none
  freeC : ∀ x c, X.env.cells.lookup x = some c → H c = none
  pin : ∀ p ∈ X.pn ++ pins, s.heap.get? p.1 = some p.2 ∧ H p.1 = none ∧ p.1 ≠ X.env.locals ∧ p.1 ∉ X.fs ∧ ∀ v, p.2.data ≠ .cell v
  hok : HOk X.prog X.w H s.heap
  len : σ.length = X.N.length

section
variable {X : Cx} {pins : List (Addr × Obj)} {σ : List (Option V)} {H H' : Hp} {s : Shared} {h' : Heap}

theorem Cx.Ok.nofr (ok : X.Ok) {b : Addr} {o : Obj} (e : X.base.get? b = some o) : b ∉ X.fs := fun hb => by
  have := (ok.funs.mem hb).1
  rw [e] at this; cases this
theorem Inv.bs (I : Inv X pins σ H s) : ∀ b o, X.base.get? b = some o → s.heap.get? b = some o ∧ H b = none := fun b o e =>
  ⟨I.base.keep b o (I.ok.bs b o e).1 (I.ok.bs b o e).2 (I.ok.nofr e) (I.ok.noex b o e), I.base.free b o (I.ok.bs b o e).1 (I.ok.bs b o e).2 (I.ok.noex b o e)⟩
theorem Inv.bk (I : Inv X pins σ H s) : ∀ b o, X.base.get? b = some o → s.heap.get? b = some o := fun b o e => (I.bs b o e).1
theorem Inv.mod (I : Inv X pins σ H s) : Mod X.K X.mg X.base := I.ok.mod
theorem Inv.kIn (I : Inv X pins σ H s) : X.K.In s.heap := I.ok.mod.kin.keeps I.bk
theorem Inv.nolimit (I : Inv X pins σ H s) : s.heap.NoLimit := I.ok.mod.nolimit.keeps I.bk
/-- the frame over the base: for OpenK's rules (K.In X.base is I.mod.kin) -/
theorem Inv.fr (I : Inv X pins σ H s) : ∃ m, Fr X.base X.env.locals s.heap m :=
  let ⟨m, hn, _⟩ := I.loc
  ⟨m, hn, I.bk, Nat.le_trans I.ok.bsz I.ok.above⟩
theorem Inv.lt (I : Inv X pins σ H s) : X.env.locals < s.heap.objs.size := let ⟨_, hn, _⟩ := I.loc; hn.lt
theorem Inv.sz (I : Inv X pins σ H s) : X.s₀.heap.objs.size ≤ s.heap.objs.size := Nat.le_trans I.ok.above (Nat.le_of_lt I.lt)
theorem Inv.nofs (I : Inv X pins σ H s) {a : Addr} (h : s.heap.objs.size ≤ a) : a ∉ X.fs := fun hb => by
  obtain ⟨_, o, ho, _⟩ := I.ok.funs.mem hb
  exact absurd (Nat.lt_of_lt_of_le (Heap.lt_size ho) (Nat.le_trans I.sz h)) (Nat.lt_irrefl _)
theorem Inv.cne (I : Inv X pins σ H s) : ∀ x c, X.env.cells.lookup x = some c → c ≠ X.env.locals := fun x c e z => by
  obtain ⟨v, o, ho, hd⟩ := I.cell x c e
  obtain ⟨m, ⟨o', es, ep, ho', hd', _⟩, _⟩ := I.loc
  rw [z, ho'] at ho; cases ho; rw [hd'] at hd; cases hd
theorem Inv.funs (I : Inv X pins σ H s) : s.heap.FunFrames X.base X.outer := by
  have all : ∀ (l : List Env), (∀ b ∈ frs l, b ∈ X.fs) → X.s₀.heap.FunFrames X.base l → s.heap.FunFrames X.base l := by
    intro l
    induction l with
    | nil => intro _ _; trivial
    | cons env r ih =>
      intro hs hl
      obtain ⟨hk, ⟨L, o, hf, hn, ho, hd⟩, hr⟩ := hl
      have hL : L ∈ X.fs := hs L (by unfold frs; rw [List.filterMap_cons, hf]; exact List.mem_cons_self)
      obtain ⟨sl, e⟩ := I.base.slot L o ho (I.ok.frf L hL) hL fun z => I.ok.exfs L z hL
      exact ⟨hk, ⟨L, _, hf, hn, e, hd⟩, ih (fun b hb => hs b (by unfold frs; rw [List.filterMap_cons, hf]; exact List.mem_cons_of_mem _ hb)) hr⟩
  exact all X.outer (fun _ hb => hb) I.ok.funs

/-- the frames that run, for a call -/
theorem Inv.stack (I : Inv X pins σ H s) : s.heap.FunFrames X.base X.stack := by
  rcases I.ok.stk with e | ⟨e, hf⟩
  · rw [e]; exact I.funs
  · rw [e]
    obtain ⟨m, hn, _⟩ := I.loc
    refine .cons (by rw [I.ok.kind]; decide) hf hn ?_ I.funs
    exact Heap.get?_none_of_le (Nat.le_trans I.ok.bsz I.ok.above)
theorem Inv.stkSub (I : Inv X pins σ H s) : ∀ b ∈ frs X.stack, b ∈ X.env.locals :: X.fs := fun b hb => by
  rcases I.ok.stk with e | ⟨e, hf⟩
  · rw [e] at hb; exact List.mem_cons_of_mem _ hb
  · rw [e] at hb
    unfold frs at hb
    rw [List.filterMap_cons, hf] at hb
    exact hb
theorem Inv.stkFree (I : Inv X pins σ H s) : ∀ b ∈ frs X.stack, H b = none := fun b hb => by
  rcases List.mem_cons.mp (I.stkSub b hb) with e | hb
  · rw [e]; exact I.free
  · obtain ⟨_, o, ho, _⟩ := I.ok.funs.mem hb
    exact I.base.free b o ho (I.ok.frf b hb) fun z => I.ok.exfs b z hb

/-- THE STEP: the untracked objects but the frame and the records at ch are kept (the callers' frames up to slots), the frame's map is kept, the new abstract heap is held -/
theorem Inv.step {g' : Array GenState} {t' : Nat} {d' : Drawn} {ch : List Addr} (I : Inv X pins σ H s)
    (hch : ∀ b ∈ ch, (b ∈ X.ex ∨ X.s₀.heap.objs.size ≤ b) ∧ b ≠ X.env.locals ∧ (∀ x c, X.env.cells.lookup x = some c → c ≠ b) ∧ ∀ p ∈ X.pn ++ pins, p.1 ≠ b)
    (keep : ∀ b o, b ≠ X.env.locals → b ∉ X.fs → b ∉ ch → s.heap.get? b = some o → H b = none → h'.get? b = some o)
    (slot : ∀ b o, b ≠ X.env.locals → b ∈ X.fs → b ∉ ch → s.heap.get? b = some o → H b = none → ∃ sl, h'.get? b = some { o with slots := sl }) (free : ∀ b o, b ∉ ch → s.heap.get? b = some o → H b = none → H' b = none)
    (there : ∀ b o, b ∉ ch → s.heap.get? b = some o → ∃ o', h'.get? b = some o')
    (tups : ∀ b xs, H b = some (.tup xs) → H' b = some (.tup xs)) (frzs : ∀ b o u, H b = some (.frz o u) → H' b = some (.frz o u)) (tbls : ∀ b ps, H b = some (.tbl ps) → ∃ more, H' b = some (.tbl (ps ++ more)))
    (ns : ∀ m, s.heap.Ns X.env.locals m → h'.Ns X.env.locals m) (hok : HOk X.prog X.w H' h') (hg : AllBare g') :
    Inv X pins σ H' { s with heap := h', gens := g', drawn := d', toks := t' } := by
  have neL : ∀ b o, X.s₀.heap.get? b = some o → b ≠ X.env.locals := fun b o e => Nat.ne_of_lt (Nat.lt_of_lt_of_le (Heap.lt_size e) I.ok.above)
  have neC : ∀ b o, X.s₀.heap.get? b = some o → b ∉ X.ex → b ∉ ch := fun b o e hx hb => by
    rcases (hch b hb).1 with z | z
    · exact hx z
    · exact absurd (Nat.lt_of_lt_of_le (Heap.lt_size e) z) (Nat.lt_irrefl _)
  have cellK : ∀ x c, X.env.cells.lookup x = some c → ∀ v, s.heap.IsCell c v → h'.IsCell c v := fun x c e v ⟨o, ho, hd⟩ => by
    have nch : c ∉ ch := fun z => (hch c z).2.2.1 x c e rfl
    by_cases hc : c ∈ X.fs
    · obtain ⟨sl, q⟩ := slot c o (I.cne x c e) hc nch ho (I.freeC x c e)
      exact ⟨_, q, hd⟩
    · exact ⟨o, keep c o (I.cne x c e) hc nch ho (I.freeC x c e), hd⟩
  refine ⟨I.ok, I.os, hg, ⟨fun b o e n hb hx => ?_, fun b o e n hb hx => ?_, fun b o e n hx => ?_, fun b o e hx => ?_, fun b xs e => tups b xs (I.base.tups b xs e), fun b o xs e => frzs b o xs (I.base.frzs b o xs e), fun b ps e => ?_⟩, ?_, fun x c e => ?_, ?_, fun x c e => ?_, fun p hp => ?_, hok, I.len⟩
  · exact keep b o (neL b o e) hb (neC b o e hx) (I.base.keep b o e n hb hx) (I.base.free b o e n hx)
  · obtain ⟨sl, e1⟩ := I.base.slot b o e n hb hx
    obtain ⟨sl', e2⟩ := slot b _ (neL b o e) hb (neC b o e hx) e1 (I.base.free b o e n hx)
    exact ⟨sl', e2⟩
  · obtain ⟨o', e1⟩ := I.base.there b o e hx
    exact free b o' (neC b o e hx) e1 (I.base.free b o e n hx)
  · obtain ⟨o', e1⟩ := I.base.there b o e hx
    exact there b o' (neC b o e hx) e1
  · obtain ⟨m1, e1⟩ := I.base.tbls b ps e
    obtain ⟨m2, e2⟩ := tbls b _ e1
    exact ⟨m1 ++ m2, by rw [e2, Array.append_assoc]⟩
  · obtain ⟨m, hn, hl⟩ := I.loc
    refine ⟨m, ns m hn, fun i x v e1 e2 e3 => ?_⟩
    obtain ⟨u, r, l⟩ := hl i x v e1 e2 e3
    refine ⟨u, r, ?_⟩
    rcases l with l | ⟨k, c, e, z⟩
    · exact .inl l
    · exact .inr ⟨k, c, e, cellK x c e _ z⟩
  · obtain ⟨v, z⟩ := I.cell x c e
    exact ⟨v, cellK x c e v z⟩
  · obtain ⟨m, ⟨o, _, _, ho, _⟩, _⟩ := I.loc
    exact free _ o (fun z => (hch _ z).2.1 rfl) ho I.free
  · obtain ⟨v, o, ho, hd⟩ := I.cell x c e
    exact free c o (fun z => (hch c z).2.2.1 x c e rfl) ho (I.freeC x c e)
  · obtain ⟨e, n, ne, nf, d⟩ := I.pin p hp
    have nch : p.1 ∉ ch := fun z => (hch p.1 z).2.2.2 p hp rfl
    exact ⟨keep p.1 p.2 ne nf nch e n, free p.1 p.2 nch e n, ne, nf, d⟩
/-- .. where the frame's own object is kept too -/
theorem Inv.un {t' : Nat} (I : Inv X pins σ H s) (u : Un X.fs [] H H' s.heap h') (hok : HOk X.prog X.w H' h') : Inv X pins σ H' { s with heap := h', toks := t' } := by
  obtain ⟨m, ⟨o, es, ep, ho, r⟩, _⟩ := id I.loc
  obtain ⟨sl, hL⟩ := u.any ho I.free (by simp)
  exact I.step (g' := s.gens) (d' := s.drawn) (ch := []) (fun _ z => nomatch z) (fun b o _ hb _ e n => u.keep b o e n hb (by simp)) (fun b o _ hb _ e n => u.slot b o e n hb (by simp)) (fun b o _ e n => u.free b o e n (by simp)) (fun b o _ e => u.there b o e (by simp)) u.tups u.frzs u.tbls (fun m' hm => by
    obtain ⟨o', es', ep', ho', r'⟩ := hm
    rw [ho] at ho'; cases ho'
    exact ⟨_, es', ep', hL, r'⟩) hok I.bare
/-- behind a call (or a comprehension's block): the slots of this frame may have changed too, the records at ch may have turned -/
theorem Inv.call {g' : Array GenState} {t' : Nat} {d' : Drawn} {ch : List Addr} (I : Inv X pins σ H s) (u : Un (frs X.stack) ch H H' s.heap h') (hok : HOk X.prog X.w H' h') (hg : AllBare g')
    (hch : ∀ b ∈ ch, (b ∈ X.ex ∨ X.s₀.heap.objs.size ≤ b) ∧ b ≠ X.env.locals ∧ (∀ x c, X.env.cells.lookup x = some c → c ≠ b) ∧ ∀ p ∈ X.pn ++ pins, p.1 ≠ b) :
    Inv X pins σ H' { s with heap := h', gens := g', drawn := d', toks := t' } := by
  obtain ⟨m, ⟨o, es, ep, ho, r⟩, _⟩ := id I.loc
  obtain ⟨sl, hL⟩ := u.any ho I.free fun z => (hch _ z).2.1 rfl
  exact I.step (ch := ch) hch (fun b o hL hb hc e n => u.keep b o e n (fun z => (List.mem_cons.mp (I.stkSub b z)).elim hL hb) hc) (fun b o _ _ hc e n => u.any e n hc) (fun b o hc e n => u.free b o e n hc) (fun b o hc e => u.there b o e hc) u.tups u.frzs u.tbls (fun m' hm => by
    obtain ⟨o', es', ep', ho', r'⟩ := hm
    rw [ho] at ho'; cases ho'
    exact ⟨_, es', ep', hL, r'⟩) hok hg
/-- an untracked record of ours (an iterator) has turned -/
theorem Inv.turned {t' : Nat} {it : Addr} (I : Inv X pins σ H s) (k : ∀ b o, b ≠ it → s.heap.get? b = some o → h'.get? b = some o) (hn : H it = none) (hL : it ≠ X.env.locals)
    (h1 : it ∈ X.ex ∨ X.s₀.heap.objs.size ≤ it) (h2 : ∀ x c, X.env.cells.lookup x = some c → c ≠ it) (h3 : ∀ p ∈ X.pn ++ pins, p.1 ≠ it) : Inv X pins σ H { s with heap := h', toks := t' } := by
  have nit : ∀ b u, H b = some u → b ≠ it := fun b u e z => by rw [z, hn] at e; cases e
  refine I.step (g' := s.gens) (d' := s.drawn) (ch := [it]) (fun b hb => ?_) (fun b o _ _ hc e _ => k b o (fun z => hc (by simp [z])) e) (fun b o _ _ hc e _ => ⟨o.slots, k b o (fun z => hc (by simp [z])) e⟩) (fun _ _ _ _ n => n)
    (fun b o hc e => ⟨o, k b o (fun z => hc (by simp [z])) e⟩) (fun _ _ e => e) (fun _ _ _ e => e) (fun b ps e => ⟨#[], by rw [e]; simp⟩) (fun m hm => ?_) (fun b u e => ?_) I.bare
  · have e : b = it := by simpa using hb
    subst e
    exact ⟨h1, hL, h2, h3⟩
  · obtain ⟨o, es, ep, ho, r⟩ := hm
    exact ⟨o, es, ep, k _ o (Ne.symm hL) ho, r⟩
  · refine (I.hok b u e).stay (fun c v hc q => k c v ?_ q) (fun _ q => q) fun _ _ q => q
    rcases hc with z | z
    · rw [z]; exact nit b u e
    · exact nit c _ z
theorem Inv.tok (I : Inv X pins σ H s) (t : Nat) : Inv X pins σ H { s with toks := t } := I.un (h' := s.heap) (t' := t) Un.refl I.hok
/-- all objects kept -/
theorem Inv.kept {t' : Nat} (I : Inv X pins σ H s) (k : ∀ b u, s.heap.get? b = some u → h'.get? b = some u) : Inv X pins σ H { s with heap := h', toks := t' } := I.un (Un.kept k) (I.hok.kept k)
/-- a new object laid and tracked -/
theorem Inv.laid {a : Addr} {o : HO} {t' : Nat} (I : Inv X pins σ H s) (k : ∀ b u, s.heap.get? b = some u → h'.get? b = some u) (hp : s.heap.objs.size ≤ a) (new : ObjOk X.prog X.w (upd H a o) h' a o) :
    Inv X pins σ (upd H a o) { s with heap := h', toks := t' } := I.un (Un.laid k hp (I.hok.fresh hp)) (I.hok.laid k hp new)
/-- an object written -/
theorem Inv.write {x e : Addr} {o : HO} {t' : Nat} (I : Inv X pins σ H s) (mu : Mut (H x)) (he : e = x ∨ H e = some (.own x)) (k : ∀ b u, b ≠ e → s.heap.get? b = some u → h'.get? b = some u) (heo : ∃ u, h'.get? e = some u)
    (new : ObjOk X.prog X.w (upd H x o) h' x o) : Inv X pins σ (upd H x o) { s with heap := h', toks := t' } := I.un (Un.write mu he k heo) (I.hok.write mu he k heo new)
/-- forgetting slots, pins -/
theorem Inv.weak {σ' : List (Option V)} (I : Inv X pins σ H s) (hl : σ'.length = σ.length) (w : ∀ (i : Nat) v, σ'[i]? = some (some v) → σ[i]? = some (some v)) : Inv X pins σ' H s :=
  ⟨I.ok, I.os, I.bare, I.base, let ⟨m, hn, hl'⟩ := I.loc; ⟨m, hn, fun i x v e1 e2 e3 => hl' i x v e1 (w i v e2) e3⟩, I.cell, I.free, I.freeC, I.pin, I.hok, hl.trans I.len⟩
theorem Inv.pins_of {pins' : List (Addr × Obj)} (I : Inv X pins σ H s) (h : ∀ p ∈ pins', s.heap.get? p.1 = some p.2 ∧ H p.1 = none ∧ p.1 ≠ X.env.locals ∧ p.1 ∉ X.fs ∧ ∀ v, p.2.data ≠ .cell v) : Inv X pins' σ H s :=
  ⟨I.ok, I.os, I.bare, I.base, I.loc, I.cell, I.free, I.freeC, fun p hp => (List.mem_append.mp hp).elim (fun z => I.pin p (List.mem_append_left _ z)) (h p), I.hok, I.len⟩

theorem nodup_ix {N : List Str} (hN : N.Nodup) {i j : Nat} {x : Str} (a : N[i]? = some x) (b : N[j]? = some x) : i = j := by
  obtain ⟨h1, e1⟩ := List.getElem?_eq_some_iff.mp a
  obtain ⟨h2, e2⟩ := List.getElem?_eq_some_iff.mp b
  exact (List.getElem_inj hN).mp (e1.trans e2.symm)

/-- a name is stored; what changed -/
theorem store_ok2 {M : Model} {A : Around} {E : Value → Shared → Prop} {i : Nat} {x : Str} {v : V} {u : Value} {Q : Unit → Shared → Prop} (I : Inv X pins σ H s) (hN : X.N.Nodup) (hi : X.N[i]? = some x) (hx : Loc X.env.scope x) (r : RelV v u)
    (h : ∀ s', Inv X pins (σ.set i (some v)) H s' → (∃ a, Heap.SameBut a s.heap s'.heap ∧ (a = X.env.locals ∨ X.env.cells.lookup x = some a)) → Q () s') (hf : X.fn x = true ∨ X.env.scope.names.lookup x = some .local := by first | exact .inl rfl | exact .inr rfl | assumption) : wpAny M A (storeName X.env x u) Q E s := by
  obtain ⟨m, hn, hl⟩ := id I.loc
  have hcls : (X.env.scope.kind == .class || (X.env.scope.kind == .module && X.env.locals != X.env.globals)) = false := by rw [I.ok.kind]; rfl
  have hiσ : i < σ.length := by rw [I.len]; exact (List.getElem?_eq_some_iff.mp hi).1
  have cne := I.cne
  have tracked : ∀ {a : Addr} {h' : Heap}, (∃ o, s.heap.get? a = some o ∧ H a = none) → Heap.SameBut a s.heap h' → HOk X.prog X.w H h' := fun {a h'} ha hs b ob e => by
    obtain ⟨_, _, hfree⟩ := ha
    refine (I.hok b ob e).stay (fun c w' hc q => (hs.2 c ?_).trans q) (fun _ q => q) fun _ _ q => q
    rintro rfl
    rcases hc with rfl | hc
    · rw [hfree] at e; cases e
    · rw [hfree] at hc; cases hc
  rcases hx with hk | hk
  · refine wpAny_storeName_local hk hn (fun h' hn' hs => ?_) hcls
    obtain ⟨oL, _, _, hoL, _⟩ := id hn
    refine h _ ⟨I.ok, I.os, I.bare, ⟨fun b o e n hb hx => ?_, fun b o e n hb hx => ?_, I.base.free, fun b o e hx => ?_, I.base.tups, I.base.frzs, I.base.tbls⟩, ⟨_, hn', fun j y v' e1 e2 e3 => ?_⟩, fun y c e => ?_, I.free, I.freeC, fun p hp => ?_, tracked ⟨oL, hoL, I.free⟩ hs, by simpa using I.len⟩ ⟨_, hs, .inl rfl⟩
    · exact (hs.2 b (Nat.ne_of_lt (Nat.lt_of_lt_of_le (Heap.lt_size e) I.ok.above))).trans (I.base.keep b o e n hb hx)
    · obtain ⟨sl, e1⟩ := I.base.slot b o e n hb hx
      exact ⟨sl, (hs.2 b (Nat.ne_of_lt (Nat.lt_of_lt_of_le (Heap.lt_size e) I.ok.above))).trans e1⟩
    · obtain ⟨o', e1⟩ := I.base.there b o e hx
      exact ⟨o', (hs.2 b (Nat.ne_of_lt (Nat.lt_of_lt_of_le (Heap.lt_size e) I.ok.above))).trans e1⟩
    · by_cases hj : j = i
      · subst hj
        rw [hi] at e1; cases e1
        rw [List.getElem?_set_self hiσ] at e2
        cases e2
        exact ⟨u, r, .inl ⟨hk, by simp⟩⟩
      · rw [List.getElem?_set_ne (Ne.symm hj)] at e2
        obtain ⟨u', r', q⟩ := hl j y v' e1 e2 e3
        refine ⟨u', r', ?_⟩
        rcases q with ⟨k, e⟩ | ⟨k, c, e, z⟩
        · refine .inl ⟨k, ?_⟩
          have : y ≠ x := fun e => hj (nodup_ix hN e1 (e ▸ hi))
          simp [this, e]
        · exact .inr ⟨k, c, e, z.sameBut hs (cne y c e)⟩
    · obtain ⟨w', z⟩ := I.cell y c e
      exact ⟨w', z.sameBut hs (cne y c e)⟩
    · obtain ⟨e, n, ne, nf, d⟩ := I.pin p hp
      exact ⟨(hs.2 p.1 ne).trans e, n, ne, nf, d⟩
  · have hfn : X.fn x = true := by
      rcases hf with z | z
      · exact z
      · rw [z] at hk; cases hk
    obtain ⟨c, hc⟩ := I.ok.has x (.inl hk)
    obtain ⟨w', z⟩ := I.cell x c hc
    refine wpAny_storeName_cell I.ok.kind hk hc z (fun h' hc' hs => ?_)
    obtain ⟨oc, hoc, hocd⟩ := id z
    refine h { s with heap := h' } ⟨I.ok, I.os, I.bare, ⟨fun b o e n hb hx => ?_, fun b o e n hb hx => ?_, I.base.free, fun b o e hx => ?_, I.base.tups, I.base.frzs, I.base.tbls⟩, ⟨m, hn.sameBut hs (Ne.symm (cne x c hc)), fun j y v' e1 e2 e3 => ?_⟩, fun y c' e => ?_, I.free, I.freeC, fun p hp => ?_, tracked ⟨oc, hoc, I.freeC x c hc⟩ hs, by simpa using I.len⟩ ⟨c, hs, .inr hc⟩
    · exact (hs.2 b (Nat.ne_of_lt (Nat.lt_of_lt_of_le (Heap.lt_size e) (I.ok.cab x c hfn hc)))).trans (I.base.keep b o e n hb hx)
    · obtain ⟨sl, e1⟩ := I.base.slot b o e n hb hx
      exact ⟨sl, (hs.2 b (Nat.ne_of_lt (Nat.lt_of_lt_of_le (Heap.lt_size e) (I.ok.cab x c hfn hc)))).trans e1⟩
    · obtain ⟨o', e1⟩ := I.base.there b o e hx
      exact ⟨o', (hs.2 b (Nat.ne_of_lt (Nat.lt_of_lt_of_le (Heap.lt_size e) (I.ok.cab x c hfn hc)))).trans e1⟩
    · by_cases hj : j = i
      · subst hj
        rw [hi] at e1; cases e1
        rw [List.getElem?_set_self hiσ] at e2
        cases e2
        exact ⟨u, r, .inr ⟨.inl hk, c, hc, hc'⟩⟩
      · rw [List.getElem?_set_ne (Ne.symm hj)] at e2
        obtain ⟨u', r', q⟩ := hl j y v' e1 e2 e3
        refine ⟨u', r', ?_⟩
        rcases q with q | ⟨k, c', e, z'⟩
        · exact .inl q
        · refine .inr ⟨k, c', e, z'.sameBut hs ?_⟩
          rintro rfl
          exact hj (nodup_ix hN e1 (I.ok.inj _ _ _ e hc ▸ hi))
    · by_cases hcc : c' = c
      · subst hcc; exact ⟨_, hc'⟩
      · obtain ⟨w2, z2⟩ := I.cell y c' e
        exact ⟨w2, z2.sameBut hs hcc⟩
    · obtain ⟨e, n, ne, nf, d⟩ := I.pin p hp
      refine ⟨(hs.2 p.1 ?_).trans e, n, ne, nf, d⟩
      intro q
      rw [q, hoc] at e
      have q' : oc = p.2 := Option.some.inj e
      exact d w' (by rw [← q']; exact hocd)
theorem store_ok {M : Model} {A : Around} {E : Value → Shared → Prop} {i : Nat} {x : Str} {v : V} {u : Value} {Q : Unit → Shared → Prop} (I : Inv X pins σ H s) (hN : X.N.Nodup) (hi : X.N[i]? = some x) (hx : Loc X.env.scope x) (r : RelV v u)
    (h : ∀ s', Inv X pins (σ.set i (some v)) H s' → Q () s') (hf : X.fn x = true ∨ X.env.scope.names.lookup x = some .local := by first | exact .inl rfl | exact .inr rfl | assumption) : wpAny M A (storeName X.env x u) Q E s :=
  store_ok2 I hN hi hx r (fun s' I' _ => h s' I') hf
/-- behind a call or a block, the state as it is -/
theorem Inv.call' {s' : Shared} {ch : List Addr} (I : Inv X pins σ H s) (ho : s'.os = s.os) (u : Un (frs X.stack) ch H H' s.heap s'.heap) (hok : HOk X.prog X.w H' s'.heap) (hg : AllBare s'.gens)
    (hch : ∀ b ∈ ch, (b ∈ X.ex ∨ X.s₀.heap.objs.size ≤ b) ∧ b ≠ X.env.locals ∧ (∀ x c, X.env.cells.lookup x = some c → c ≠ b) ∧ ∀ p ∈ X.pn ++ pins, p.1 ≠ b) : Inv X pins σ H' s' := by
  obtain ⟨h', g', d', t', o'⟩ := s'
  have e : o' = s.os := ho
  subst e
  exact I.call (g' := g') (t' := t') (d' := d') u hok hg hch
end

/-! ### the judgements -/
/-- an exception: its class, its own dict's address (where it has one), the abstract heap behind it -/
abbrev XK := Value → Option Addr → Hp → Prop
abbrev St := List (Option V)
abbrev VK := V → Hp → Prop
/-- an expression's reading; a test's; an argument list's -/
abbrev TE := St → Hp → VK → Prop
abbrev TT := St → Hp → (Bool → Hp → Prop) → Prop
abbrev TA := St → Hp → (List V → Hp → Prop) → Prop
/-- what is wanted behind a statement -/
structure Ends where
  nx : St → Hp → Prop
  rt : VK
  bk : St → Hp → Prop := fun _ _ => False
  ct : St → Hp → Prop := fun _ _ => False
abbrev TS := Ends → St → Hp → Prop

def EP (X : Cx) (pins : List (Addr × Obj)) (σ : St) (Q : VK) (u : Value) (s' : Shared) : Prop := ∃ v H', Inv X pins σ H' s' ∧ RelV v u ∧ Q v H'
def TP (X : Cx) (pins : List (Addr × Obj)) (σ : St) (Q : Bool → Hp → Prop) (b : Bool) (s' : Shared) : Prop := ∃ H', Inv X pins σ H' s' ∧ Q b H'
def AP (X : Cx) (pins : List (Addr × Obj)) (σ : St) (Q : List V → Hp → Prop) (us : List Value) (s' : Shared) : Prop := ∃ vs H', Inv X pins σ H' s' ∧ Vals vs us ∧ Q vs H'
def SP (X : Cx) (pins : List (Addr × Obj)) (D : Ends) (f : Flow) (s' : Shared) : Prop :=
  match f with
  | .next => ∃ σ' H', Inv X pins σ' H' s' ∧ D.nx σ' H'
  | .brk => ∃ σ' H', Inv X pins σ' H' s' ∧ D.bk σ' H'
  | .cont => ∃ σ' H', Inv X pins σ' H' s' ∧ D.ct σ' H'
  | .ret u => ∃ v σ' H', Inv X pins σ' H' s' ∧ RelV v u ∧ D.rt v H'

def PE (X : Cx) (e : Expr) (t : TE) : Prop :=
  ∀ (pins : List (Addr × Obj)) (s : Shared) (σ : St) (H : Hp) (Q : VK), Inv X pins σ H s → t σ H Q → wpAny (model X.prog X.w) X.A (eval e X.env) (EP X pins σ Q) X.xe s
def PT (X : Cx) (e : Expr) (t : TT) : Prop :=
  ∀ (pins : List (Addr × Obj)) (s : Shared) (σ : St) (H : Hp) (Q : Bool → Hp → Prop), Inv X pins σ H s → t σ H Q → wpAny (model X.prog X.w) X.A (isTrue e X.env (eval e X.env)) (TP X pins σ Q) X.xe s
/-- a test whatever its 'whole' is (and, or) -/
def PW (X : Cx) (e : Expr) (t : TT) : Prop :=
  ∀ (whole : Sem Value) (pins : List (Addr × Obj)) (s : Shared) (σ : St) (H : Hp) (Q : Bool → Hp → Prop), Inv X pins σ H s → t σ H Q → wpAny (model X.prog X.w) X.A (isTrue e X.env whole) (TP X pins σ Q) X.xe s
theorem PW.pt {X : Cx} {e : Expr} {t : TT} (h : PW X e t) : PT X e t := h _
/-- an argument list (no star), from the left -/
def PA (X : Cx) (es : List Expr) (t : TA) : Prop :=
  ∀ (pos : Pos) (pins : List (Addr × Obj)) (s : Shared) (σ : St) (H : Hp) (Q : List V → Hp → Prop), Inv X pins σ H s → t σ H Q → wpAny (model X.prog X.w) X.A (spliced (backTo pos (starEach es X.env))) (AP X pins σ Q) X.xe s
def PS (X : Cx) (st : Stmt) (t : TS) : Prop :=
  ∀ (pins : List (Addr × Obj)) (s : Shared) (σ : St) (H : Hp) (D : Ends), Inv X pins σ H s → t D σ H → wpAny (model X.prog X.w) X.A (exec st X.env) (SP X pins D) X.xe s
def PSs (X : Cx) (st : List Stmt) (t : TS) : Prop :=
  ∀ (pins : List (Addr × Obj)) (s : Shared) (σ : St) (H : Hp) (D : Ends), Inv X pins σ H s → t D σ H → wpAny (model X.prog X.w) X.A (execs st X.env) (SP X pins D) X.xe s
/-- weaken the end -/
theorem thn {α : Type} {t : Sem α} {Q Q' : α → Shared → Prop} {M : Model} {A : Around} {E : Value → Shared → Prop} {s : Shared} (h : wpAny M A t Q E s) (hQ : ∀ a s, Q a s → Q' a s) : wpAny M A t Q' E s := wpAny_mono h hQ fun _ _ x => x
end L2

namespace L2
open PySem PySem.Spec PyProof.Rows
section
variable {X : Cx}

/-- two expressions in a row -/
theorem bin {a b : Expr} {ta tb : TE} (ha : PE X a ta) (hb : PE X b tb) {pins : List (Addr × Obj)} {s : Shared} {σ : St} {H : Hp} {R : V → V → Hp → Prop} (I : Inv X pins σ H s) (h : ta σ H fun x H1 => tb σ H1 fun y H2 => R x y H2)
    {α : Type} {Q : α → Shared → Prop} {f : Value → Value → Sem α}
    (hf : ∀ v u s2 x y H2, Inv X pins σ H2 s2 → RelV x v → RelV y u → R x y H2 → wpAny (model X.prog X.w) X.A (f v u) Q X.xe s2) :
    wpAny (model X.prog X.w) X.A (eval a X.env) (fun v s₁ => wpAny (model X.prog X.w) X.A (eval b X.env) (fun u s₂ => wpAny (model X.prog X.w) X.A (f v u) Q X.xe s₂) X.xe s₁) X.xe s := by
  refine thn (ha pins s σ H _ I h) fun v s1 ⟨x, H1, I1, r1, q1⟩ => ?_
  refine thn (hb pins s1 σ H1 _ I1 q1) fun u s2 ⟨y, H2, I2, r2, q2⟩ => ?_
  exact hf v u s2 x y H2 I2 r1 r2 q2

/-! ### names and constants -/
def tVar (i : Nat) : TE := fun σ H Q => ∃ v, σ[i]? = some (some v) ∧ Q v H
def tC (v : V) : TE := fun _ H Q => Q v H
theorem pe_var {i : Nat} {x : Str} {pos : Pos} (hN : X.N[i]? = some x) (hv : Vis X.env.scope x) (hd : (x == ("__debug__" : Str)) = false := by decide) (hcd : (x == ("__classdict__" : Str)) = false := by decide) : PE X (.Name x pos) (tVar i) := by
  intro pins s σ H Q I h
  obtain ⟨v, e, h⟩ := h
  obtain ⟨m, hn, hl⟩ := I.loc
  obtain ⟨u, r, l⟩ := hl i x v hN e hv
  have fin : EP X pins σ Q u s := ⟨v, H, I, r, h⟩
  rcases l with ⟨hk, hm⟩ | ⟨hk, c, hc, hcell⟩
  · exact wpAny_Name (wpAny_loadName_local I.ok.kind hk hn hm fin) hd
  · rcases hk with hk | hk
    · exact wpAny_Name (wpAny_loadName_cell I.ok.kind hk hc hcell fin) hd
    · exact wpAny_Name (wpAny_loadName_free I.ok.kind hk hc hcell fin hcd) hd
theorem pe_int {i j pos} : PE X (.Constant (.int i) j pos) (tC (.int i)) := fun _ _ _ H _ I h => wpAny_Constant_int ⟨.int i, H, I.tok _, ⟨_, rfl⟩, h⟩
theorem pe_bl {b j pos} : PE X (.Constant (.bool b) j pos) (tC (.bl b)) := fun _ _ _ H _ I h => Constant_bool ⟨.bl b, H, I, rfl, h⟩
theorem pe_non {j pos} : PE X (.Constant .none j pos) (tC .non) := fun _ _ _ H _ I h => Constant_none ⟨.non, H, I, rfl, h⟩
theorem pe_str {x j pos} : PE X (.Constant (.str x) j pos) (tC (.str x)) := fun _ _ _ H _ I h => Calls.Constant_str ⟨.str x, H, I.tok _, ⟨_, rfl⟩, h⟩

/-- a global name of the def -/
def Gl (X : Cx) (x : Str) : Prop := X.env.kindOf x = some .globalImplicit
theorem ld_glob {E : Value → Shared → Prop} {pins : List (Addr × Obj)} {s : Shared} {σ : St} {H : Hp} {x : Str} {u : Value} {pos : Pos} {Q : Value → Shared → Prop} (I : Inv X pins σ H s) (hg : Gl X x) (hm : X.mg x = some u) (h : Q u s)
    (hd : (x == ("__debug__" : Str)) = false := by decide) : wpAny (model X.prog X.w) X.A (eval (.Name x pos) X.env) Q E s :=
  Calls.Name_function_global I.ok.kind hg (Calls.loadGlobal_global (by rw [I.ok.glob]; exact I.mod.glob.keeps I.bk) hm h) hd
theorem ld_blt {E : Value → Shared → Prop} {pins : List (Addr × Obj)} {s : Shared} {σ : St} {H : Hp} {x : Str} {u : Value} {pos : Pos} {Q : Value → Shared → Prop} (I : Inv X pins σ H s) (hg : Gl X x) (hm : X.mg x = none) (hv : bootBuiltins x = some u) (h : Q u s)
    (hn : x ≠ "__name__" := by decide) (hd : (x == ("__debug__" : Str)) = false := by decide) : wpAny (model X.prog X.w) X.A (eval (.Name x pos) X.env) Q E s := by
  obtain ⟨mb, h1, h2⟩ := I.mod.blt
  exact Calls.Name_function_global I.ok.kind hg (Calls.loadGlobal_builtin (by rw [I.ok.glob]; exact I.mod.glob.keeps I.bk) hm (by rw [I.ok.blt]; exact h1.keeps I.bk) ((h2 x hn).trans hv) h) hd
/-- a module's constant, a class, a function, as a value -/
theorem pe_glob {x : Str} {v : V} {u : Value} {pos : Pos} (hg : Gl X x) (hm : X.mg x = some u) (r : RelV v u) (hd : (x == ("__debug__" : Str)) = false := by decide) : PE X (.Name x pos) (tC v) :=
  fun _ _ _ H _ I h => ld_glob I hg hm ⟨v, H, I, r, h⟩ hd
theorem pe_bltn {x : Str} {v : V} {u : Value} {pos : Pos} (hg : Gl X x) (hm : X.mg x = none) (hv : bootBuiltins x = some u) (r : RelV v u) (hn : x ≠ "__name__" := by decide) (hd : (x == ("__debug__" : Str)) = false := by decide) : PE X (.Name x pos) (tC v) :=
  fun _ _ _ H _ I h => ld_blt I hg hm hv ⟨v, H, I, r, h⟩ hn hd

/-! ### arithmetic -/
/-- two ints -/
def t2I (ta tb : TE) (k : Int → Int → Hp → Prop) : St → Hp → Prop := fun σ H => ta σ H fun x H1 => tb σ H1 fun y H2 => ∃ i j, x = .int i ∧ y = .int j ∧ k i j H2
def tAdd (ta tb : TE) : TE := fun σ H Q => t2I ta tb (fun i j H2 => Q (.int (i + j)) H2) σ H
def tSub (ta tb : TE) : TE := fun σ H Q => t2I ta tb (fun i j H2 => Q (.int (i - j)) H2) σ H
/-- the left factor below 2^64 -/
def tMul (ta tb : TE) : TE := fun σ H Q => t2I ta tb (fun i j H2 => (-(2 ^ 64) < i ∧ i < 2 ^ 64) ∧ Q (.int (i * j)) H2) σ H
variable {a b : Expr} {ta tb : TE} {pos : Pos}
theorem pe_add (ha : PE X a ta) (hb : PE X b tb) : PE X (.BinOp a .Add b pos) (tAdd ta tb) := by
  intro pins s σ H Q I h
  refine wpAny_BinOp (bin ha hb I h fun v u s2 x y H2 I2 rx ry q => ?_)
  obtain ⟨i, j, rfl, rfl, q⟩ := q
  obtain ⟨t, rfl⟩ := rx
  obtain ⟨t', rfl⟩ := ry
  exact add_int ⟨.int _, H2, I2.tok _, ⟨_, rfl⟩, q⟩
theorem pe_sub (ha : PE X a ta) (hb : PE X b tb) : PE X (.BinOp a .Sub b pos) (tSub ta tb) := by
  intro pins s σ H Q I h
  refine wpAny_BinOp (bin ha hb I h fun v u s2 x y H2 I2 rx ry q => ?_)
  obtain ⟨i, j, rfl, rfl, q⟩ := q
  obtain ⟨t, rfl⟩ := rx
  obtain ⟨t', rfl⟩ := ry
  exact sub_int ⟨.int _, H2, I2.tok _, ⟨_, rfl⟩, q⟩
theorem pe_mul (ha : PE X a ta) (hb : PE X b tb) : PE X (.BinOp a .Mult b pos) (tMul ta tb) := by
  intro pins s σ H Q I h
  refine wpAny_BinOp (bin ha hb I h fun v u s2 x y H2 I2 rx ry q => ?_)
  obtain ⟨i, j, rfl, rfl, ⟨q1, q2⟩, q⟩ := q
  obtain ⟨t, rfl⟩ := rx
  obtain ⟨t', rfl⟩ := ry
  exact mul_int ⟨.int _, H2, I2.tok _, ⟨_, rfl⟩, q⟩ (.of_left (intBits_le_64 q1 q2))

/-! ### comparisons -/
def PC (X : Cx) (op : CmpOp) (a b : Expr) (t : TE) : Prop :=
  ∀ (pins : List (Addr × Obj)) (s : Shared) (σ : St) (H : Hp) (Q : VK), Inv X pins σ H s → t σ H Q →
    wpAny (model X.prog X.w) X.A (eval a X.env) (fun v s₁ => wpAny (model X.prog X.w) X.A (eval b X.env) (fun u s₂ => wpAny (model X.prog X.w) X.A (compareOp op v u) (EP X pins σ Q) X.xe s₂) X.xe s₁) X.xe s
theorem nobehind (b : Expr) {op : CmpOp} (h : op ≠ .In) (h2 : op ≠ .NotIn) : behindInMarks op b = false := by
  have e1 : (op == CmpOp.In) = false := by cases op <;> first | rfl | exact absurd rfl h
  have e2 : (op == CmpOp.NotIn) = false := by cases op <;> first | rfl | exact absurd rfl h2
  cases b <;> simp [behindInMarks, e1, e2]
def tCmp (p : Int → Int → Bool) (ta tb : TE) : TE := fun σ H Q => t2I ta tb (fun i j H2 => Q (.bl (p i j)) H2) σ H
abbrev tLt : TE → TE → TE := tCmp fun i j => decide (i < j)
abbrev tLe : TE → TE → TE := tCmp fun i j => decide (i ≤ j)
abbrev tGt : TE → TE → TE := tCmp fun i j => decide (j < i)
abbrev tGe : TE → TE → TE := tCmp fun i j => decide (j ≤ i)
abbrev tEqI : TE → TE → TE := tCmp fun i j => decide (i = j)
abbrev tNeI : TE → TE → TE := tCmp fun i j => !decide (i = j)
/-- a comparison of two ints, by its rule -/
theorem pc_int {op : CmpOp} {p : Int → Int → Bool} (ha : PE X a ta) (hb : PE X b tb)
    (rule : ∀ (i j : Int) (t u : Tok) (Q : Value → Shared → Prop) (s : Shared), Q (.bool (p i j)) s → wpAny (model X.prog X.w) X.A (compareOp op (.int i t) (.int j u)) Q X.xe s) : PC X op a b (tCmp p ta tb) := by
  intro pins s σ H Q I h
  refine bin ha hb I h fun v u s2 x y H2 I2 rx ry q => ?_
  obtain ⟨i, j, rfl, rfl, q⟩ := q
  obtain ⟨t, rfl⟩ := rx
  obtain ⟨t', rfl⟩ := ry
  exact rule i j t t' _ s2 ⟨.bl _, H2, I2, rfl, q⟩
theorem pc_lt (ha : PE X a ta) (hb : PE X b tb) : PC X .Lt a b (tLt ta tb) := pc_int ha hb fun _ _ _ _ _ _ h => lt_int h
theorem pc_le (ha : PE X a ta) (hb : PE X b tb) : PC X .LtE a b (tLe ta tb) := pc_int ha hb fun _ _ _ _ _ _ h => le_int h
theorem pc_gt (ha : PE X a ta) (hb : PE X b tb) : PC X .Gt a b (tGt ta tb) := pc_int ha hb fun _ _ _ _ _ _ h => gt_int h
theorem pc_ge (ha : PE X a ta) (hb : PE X b tb) : PC X .GtE a b (tGe ta tb) := pc_int ha hb fun _ _ _ _ _ _ h => ge_int h
theorem pc_eqI (ha : PE X a ta) (hb : PE X b tb) : PC X .Eq a b (tEqI ta tb) := pc_int ha hb fun _ _ _ _ _ _ h => eq_int (by rw [Bool.beq_eq_decide_eq]; exact h)
theorem pc_neI (ha : PE X a ta) (hb : PE X b tb) : PC X .NotEq a b (tNeI ta tb) := pc_int ha hb fun _ _ _ _ _ _ h => ne_int (by rw [bne, Bool.beq_eq_decide_eq]; exact h)
/-- is None -/
def tIsN (ta : TE) : TE := fun σ H Q => ta σ H fun x H1 => Q (.bl (decide (x = .non))) H1
def tNotN (ta : TE) : TE := fun σ H Q => ta σ H fun x H1 => Q (.bl (!decide (x = .non))) H1
theorem RelV.none_iff {x : V} {v : Value} (r : RelV x v) : (v == Value.none) = decide (x = .non) := by
  cases x with
  | non => cases r; rfl
  | bl _ => cases r; rfl
  | int _ => obtain ⟨t, rfl⟩ := r; rfl
  | str _ => obtain ⟨t, rfl⟩ := r; rfl
  | byt _ => obtain ⟨t, rfl⟩ := r; rfl
  | flt _ => obtain ⟨t, rfl⟩ := r; rfl
  | ref _ => cases r; rfl
  | ty _ => cases r; rfl
theorem pc_isN {j pos'} (ha : PE X a ta) : PC X .Is a (.Constant .none j pos') (tIsN ta) := by
  intro pins s σ H Q I h
  refine thn (ha pins s σ H _ I h) fun v s1 ⟨x, H1, I1, r1, q1⟩ => ?_
  exact Constant_none (is_none_gen ⟨.bl _, H1, I1, by rw [r1.none_iff]; rfl, q1⟩)
theorem pc_notN {j pos'} (ha : PE X a ta) : PC X .IsNot a (.Constant .none j pos') (tNotN ta) := by
  intro pins s σ H Q I h
  refine thn (ha pins s σ H _ I h) fun v s1 ⟨x, H1, I1, r1, q1⟩ => ?_
  exact Constant_none (isnot_none_gen ⟨.bl _, H1, I1, by rw [r1.none_iff]; rfl, q1⟩)
/-- a comparison as a value, as a test -/
def tB (t : TE) : TT := fun σ H Q => t σ H fun x H1 => ∃ c, x = .bl c ∧ Q c H1
theorem pe_cmp {op : CmpOp} {t : TE} (h : PC X op a b t) (h1 : behindInMarks op b = false := by first | exact nobehind _ (by decide) (by decide) | rfl) : PE X (.Compare a [op] [b] pos) t := fun pins s σ H Q I hw => wpAny_Compare1 (h pins s σ H Q I hw) h1
theorem pt_cmp {op : CmpOp} {t : TE} (h : PC X op a b t) (h1 : behindInMarks op b = false := by first | exact nobehind _ (by decide) (by decide) | rfl) : PT X (.Compare a [op] [b] pos) (tB t) := by
  intro pins s σ H Q I hw
  refine wpAny_isTrue_Compare1 (thn (h pins s σ H _ I hw) fun v s1 h1 => thn h1 fun u s2 h2 => thn h2 fun c s3 ⟨x, H1, I1, r1, q1⟩ => ?_) h1
  obtain ⟨d, rfl, q⟩ := q1
  cases r1
  exact wpAny_truthy_bool ⟨H1, I1, q⟩
/-- an expression whose value is a bool, as a test -/
theorem pt_val {e : Expr} {t : TE} (h : PE X e t) (he : ∀ whole, isTrue e X.env whole = (do let v ← whole; standAt e.pos; holding [v] (truthy v)) := by intro _; rfl) : PT X e (tB t) := by
  intro pins s σ H Q I hw
  refine isTrue_plain (thn (h pins s σ H _ I hw) fun v s1 ⟨x, H1, I1, r1, q1⟩ => ?_) (he _)
  obtain ⟨d, rfl, q⟩ := q1
  cases r1
  exact wpAny_truthy_bool ⟨H1, I1, q⟩

/-! ### and, or, not -/
variable {tA tB' : TT} {rest : List Expr}
def tAnd (t u : TT) : TT := fun σ H Q => t σ H fun c H1 => if c = true then u σ H1 Q else Q false H1
def tOr (t u : TT) : TT := fun σ H Q => t σ H fun c H1 => if c = true then Q true H1 else u σ H1 Q
def tNot (t : TT) : TT := fun σ H Q => t σ H fun c H1 => Q (!c) H1
theorem pw_and1 (ha : PT X a tA) : PW X (.BoolOp .And [a] pos) tA := by
  intro wh pins s σ H Q I h
  refine isTrue_and (thn (ha pins s σ H Q I h) fun c s1 e => ?_)
  cases c with
  | true => exact isTrue_and_nil e
  | false => exact e
theorem pw_or1 (ha : PT X a tA) : PW X (.BoolOp .Or [a] pos) tA := by
  intro wh pins s σ H Q I h
  refine isTrue_or (thn (ha pins s σ H Q I h) fun c s1 e => ?_)
  cases c with
  | false => exact isTrue_or_nil e
  | true => exact e
theorem pw_and (ha : PT X a tA) (hb : PW X (.BoolOp .And (b :: rest) pos) tB') : PW X (.BoolOp .And (a :: b :: rest) pos) (tAnd tA tB') := by
  intro wh pins s σ H Q I h
  refine isTrue_and (thn (ha pins s σ H _ I h) fun c s1 ⟨H1, I1, q1⟩ => ?_)
  cases c with
  | true => exact hb wh pins s1 σ H1 Q I1 q1
  | false => exact ⟨H1, I1, q1⟩
theorem pw_or (ha : PT X a tA) (hb : PW X (.BoolOp .Or (b :: rest) pos) tB') : PW X (.BoolOp .Or (a :: b :: rest) pos) (tOr tA tB') := by
  intro wh pins s σ H Q I h
  refine isTrue_or (thn (ha pins s σ H _ I h) fun c s1 ⟨H1, I1, q1⟩ => ?_)
  cases c with
  | true => exact ⟨H1, I1, q1⟩
  | false => exact hb wh pins s1 σ H1 Q I1 q1
theorem pt_not (ha : PT X a tA) : PT X (.UnaryOp .Not a pos) (tNot tA) := by
  intro pins s σ H Q I h
  exact isTrue_not (ha pins s σ H (fun c H1 => Q (!c) H1) I h)
/-- .. as values (bools) -/
def tAndV (ta tb : TE) : TE := fun σ H Q => ta σ H fun x H1 => ∃ c, x = .bl c ∧ if c = true then tb σ H1 Q else Q (.bl false) H1
def tOrV (ta tb : TE) : TE := fun σ H Q => ta σ H fun x H1 => ∃ c, x = .bl c ∧ if c = true then Q (.bl true) H1 else tb σ H1 Q
def tNotV (ta : TE) : TE := fun σ H Q => ta σ H fun x H1 => ∃ c, x = .bl c ∧ Q (.bl (!c)) H1
theorem pe_one {op} {t : TE} (h : PE X a t) : PE X (.BoolOp op [a] pos) t := fun pins s σ H Q I hw => BoolOp_one (h pins s σ H Q I hw)
theorem pe_and (ha : PE X a ta) (hb : PE X (.BoolOp .And (b :: rest) pos) tb) : PE X (.BoolOp .And (a :: b :: rest) pos) (tAndV ta tb) := by
  intro pins s σ H Q I h
  refine BoolOp_and (thn (ha pins s σ H _ I h) fun v s1 ⟨x, H1, I1, r1, q1⟩ => ?_)
  obtain ⟨c, rfl, q1⟩ := q1
  cases r1
  refine wpAny_truthy_bool ?_
  cases c with
  | true => exact hb pins s1 σ H1 Q I1 q1
  | false => exact ⟨.bl false, H1, I1, rfl, q1⟩
theorem pe_or (ha : PE X a ta) (hb : PE X (.BoolOp .Or (b :: rest) pos) tb) : PE X (.BoolOp .Or (a :: b :: rest) pos) (tOrV ta tb) := by
  intro pins s σ H Q I h
  refine BoolOp_or (thn (ha pins s σ H _ I h) fun v s1 ⟨x, H1, I1, r1, q1⟩ => ?_)
  obtain ⟨c, rfl, q1⟩ := q1
  cases r1
  refine wpAny_truthy_bool ?_
  cases c with
  | false => exact hb pins s1 σ H1 Q I1 q1
  | true => exact ⟨.bl true, H1, I1, rfl, q1⟩
theorem pe_not (ha : PE X a ta) : PE X (.UnaryOp .Not a pos) (tNotV ta) := by
  intro pins s σ H Q I h
  refine UnaryOp_ (thn (ha pins s σ H _ I h) fun v s1 ⟨x, H1, I1, r1, q1⟩ => ?_)
  obtain ⟨c, rfl, q1⟩ := q1
  cases r1
  exact not_of (wpAny_truthy_bool ⟨.bl (!c), H1, I1, rfl, q1⟩)
/-- a if t else b -/
def tIf (t : TT) (ta tb : TE) : TE := fun σ H Q => t σ H fun c H1 => if c = true then ta σ H1 Q else tb σ H1 Q
theorem pe_ifExp {c : Expr} (hc : PT X c tA) (ha : PE X a ta) (hb : PE X b tb) : PE X (.IfExp c a b pos) (tIf tA ta tb) := by
  intro pins s σ H Q I h
  refine wpAny_IfExp (thn (hc pins s σ H _ I h) fun d s1 ⟨H1, I1, q1⟩ => ?_)
  cases d with
  | true => exact ha pins s1 σ H1 Q I1 q1
  | false => exact hb pins s1 σ H1 Q I1 q1
end
end L2

namespace L2
open PySem PySem.Spec PyProof.Rows

/-! ### a list, a tuple that is read: tracked, frozen, or an object of the module -/
def SqL (K : PySem.W.Frag) (H : Hp) (a : Addr) (xs : List V) : Prop :=
  Rd H a (.lst xs) ∨
    ∃ (o : Obj) (its : Array Value) (n : Nat), K.lookup a = some o ∧ o.cls = .type "list" ∧ o.dict = none ∧ o.data = .seq its n ∧ its.size ≤ sizeLine ∧ Vals xs its.toList
def SqT (K : PySem.W.Frag) (H : Hp) (a : Addr) (xs : List V) : Prop :=
  Rd H a (.tup xs) ∨
    ∃ (o : Obj) (its : Array Value) (n : Nat), K.lookup a = some o ∧ o.cls = .type "tuple" ∧ o.data = .seq its n ∧ its.size ≤ sizeLine ∧ Vals xs its.toList
def absV : Value → Option V
  | .none => some .non
  | .bool b => some (.bl b)
  | .int i _ => some (.int i)
  | .str x _ => some (.str x)
  | .bytes b _ => some (.byt b)
  | .float b _ => some (.flt b)
  | .ref a => some (.ref a)
  | .type n => some (.ty n)
  | _ => none
theorem RelV.abs {x : V} {u : Value} (r : RelV x u) : absV u = some x := by
  cases x with
  | non => cases r; rfl
  | bl _ => cases r; rfl
  | int _ => obtain ⟨t, rfl⟩ := r; rfl
  | str _ => obtain ⟨t, rfl⟩ := r; rfl
  | byt _ => obtain ⟨t, rfl⟩ := r; rfl
  | flt _ => obtain ⟨t, rfl⟩ := r; rfl
  | ref _ => cases r; rfl
  | ty _ => cases r; rfl
theorem RelV.inj {x y : V} {u : Value} (r : RelV x u) (q : RelV y u) : x = y := Option.some.inj (r.abs.symm.trans q.abs)
theorem Vals.inj : ∀ {xs ys : List V} {us : List Value}, Vals xs us → Vals ys us → xs = ys
  | _, _, _, .nil, .nil => rfl
  | _, _, _, .cons r t, .cons r' t' => by rw [r.inj r', Vals.inj t t']
section
variable {X : Cx} {pins : List (Addr × Obj)} {σ : St} {H : Hp} {s : Shared} {a : Addr} {xs ys : List V}
theorem SqL.of {K : PySem.W.Frag} (h : H a = some (.lst xs)) : SqL K H a xs := .inl (.inl h)
theorem SqT.of {K : PySem.W.Frag} (h : H a = some (.tup xs)) : SqT K H a xs := .inl (.inl h)
theorem Inv.list (I : Inv X pins σ H s) (h : SqL X.K H a xs) : ∃ its : List Value, Vals xs its ∧ PlainL s.heap a its.toArray ∧ xs.length ≤ sizeLine := by
  rcases h with h | ⟨o, its, n, hk, hc, hd, hs, hz, r⟩
  · obtain ⟨z, its, n, r, e⟩ := h.ok I.hok
    exact ⟨its, r, ⟨_, n, e, rfl, rfl, rfl⟩, z⟩
  · refine ⟨its.toList, r, ⟨o, n, I.kIn a o hk, hc, hd, by simpa using hs⟩, ?_⟩
    have e := r.length
    simp only [Array.length_toList] at e
    omega
theorem Inv.tuple (I : Inv X pins σ H s) (h : SqT X.K H a xs) : ∃ its : List Value, Vals xs its ∧ IsTup s.heap a its.toArray ∧ xs.length ≤ sizeLine := by
  rcases h with h | ⟨o, its, n, hk, hc, hs, hz, r⟩
  · obtain ⟨z, its, r, p⟩ := h.ok I.hok
    exact ⟨its, r, p, z⟩
  · refine ⟨its.toList, r, ⟨o, I.kIn a o hk, hc, n, by simpa using hs⟩, ?_⟩
    have e := r.length
    simp only [Array.length_toList] at e
    omega
theorem Inv.list_inj (I : Inv X pins σ H s) (h : SqL X.K H a xs) (h' : SqL X.K H a ys) : xs = ys := by
  obtain ⟨its, r, ⟨o, n, e, _, _, d⟩, _⟩ := I.list h
  obtain ⟨its', r', ⟨o', n', e', _, _, d'⟩, _⟩ := I.list h'
  rw [e] at e'; cases e'
  rw [d] at d'
  injection d' with d1 _
  have : its = its' := by simpa using congrArg Array.toList d1
  subst this
  exact r.inj r'
theorem Inv.tuple_inj (I : Inv X pins σ H s) (h : SqT X.K H a xs) (h' : SqT X.K H a ys) : xs = ys := by
  obtain ⟨its, r, ⟨o, e, _, n, d⟩, _⟩ := I.tuple h
  obtain ⟨its', r', ⟨o', e', _, n', d'⟩, _⟩ := I.tuple h'
  rw [e] at e'; cases e'
  rw [d] at d'
  injection d' with d1 _
  have : its = its' := by simpa using congrArg Array.toList d1
  subst this
  exact r.inj r'
end

/-! ### another wish about exceptions -/
abbrev Cx.wish (X : Cx) (E : Value → Shared → Prop) : Cx := { X with xe := E }
/-- no exception leaves -/
abbrev Cx.nox (X : Cx) : Cx := X.wish fun _ _ => False
theorem Cx.Ok.wish {X : Cx} (ok : X.Ok) (E : Value → Shared → Prop) : (X.wish E).Ok :=
  ⟨ok.mod, ok.kind, ok.glob, ok.blt, ok.above, ok.inj, ok.has, ok.cab, ok.hd, ok.frames, ok.stk, ok.exf, ok.bs, ok.bsz, ok.noex, ok.exfs, ok.funs, ok.frf⟩
theorem Cx.Ok.unwish {X : Cx} {E : Value → Shared → Prop} (ok : (X.wish E).Ok) : X.Ok :=
  ⟨ok.mod, ok.kind, ok.glob, ok.blt, ok.above, ok.inj, ok.has, ok.cab, ok.hd, ok.frames, ok.stk, ok.exf, ok.bs, ok.bsz, ok.noex, ok.exfs, ok.funs, ok.frf⟩
section
variable {X : Cx} {pins : List (Addr × Obj)} {σ : St} {H : Hp} {s : Shared} {E : Value → Shared → Prop}
theorem Inv.wish (I : Inv X pins σ H s) (E : Value → Shared → Prop) : Inv (X.wish E) pins σ H s := ⟨I.ok.wish E, I.os, I.bare, I.base, I.loc, I.cell, I.free, I.freeC, I.pin, I.hok, I.len⟩
theorem Inv.unwish (I : Inv (X.wish E) pins σ H s) : Inv X pins σ H s := ⟨I.ok.unwish, I.os, I.bare, I.base, I.loc, I.cell, I.free, I.freeC, I.pin, I.hok, I.len⟩
theorem SP.unwish {D : Ends} {f : Flow} {s' : Shared} (h : SP (X.wish E) pins D f s') : SP X pins D f s' := by
  cases f with
  | next => obtain ⟨σ', H', I, q⟩ := h; exact ⟨σ', H', I.unwish, q⟩
  | brk => obtain ⟨σ', H', I, q⟩ := h; exact ⟨σ', H', I.unwish, q⟩
  | cont => obtain ⟨σ', H', I, q⟩ := h; exact ⟨σ', H', I.unwish, q⟩
  | ret u => obtain ⟨v, σ', H', I, r, q⟩ := h; exact ⟨v, σ', H', I.unwish, r, q⟩
theorem PE.nox {e : Expr} {t : TE} (h : PE X.nox e t) : PE X e t := fun pins s σ H Q I hw =>
  wpAny_mono (h pins s σ H Q (I.wish _) hw) (fun _ _ ⟨v, H', I', r, q⟩ => ⟨v, H', I'.unwish, r, q⟩) fun _ _ z => False.elim z
theorem PT.nox {e : Expr} {t : TT} (h : PT X.nox e t) : PT X e t := fun pins s σ H Q I hw =>
  wpAny_mono (h pins s σ H Q (I.wish _) hw) (fun _ _ ⟨H', I', q⟩ => ⟨H', I'.unwish, q⟩) fun _ _ z => False.elim z
theorem PSs.nox {st : List Stmt} {t : TS} (h : PSs X.nox st t) : PSs X st t := fun pins s σ H D I hw =>
  wpAny_mono (h pins s σ H D (I.wish _) hw) (fun _ _ q => q.unwish) fun _ _ z => False.elim z
end

/-! ### blocks and small statements -/
section
variable {X : Cx} {st : Stmt} {rest : List Stmt} {t u : TS} {e : Expr} {te : TE} {pos : Pos}
def tNext : TS := fun D σ H => D.nx σ H
def tSeq (t u : TS) : TS := fun D σ H => t { D with nx := u D } σ H
theorem pss_nil : PSs X [] tNext := fun _ _ σ H _ I h => wpAny_execs_nil ⟨σ, H, I, h⟩
theorem pss_cons (h1 : PS X st t) (h2 : PSs X rest u) : PSs X (st :: rest) (tSeq t u) := by
  intro pins s σ H D I h
  refine wpAny_execs_cons (thn (h1 pins s σ H { D with nx := u D } I h) fun f s1 q => ?_)
  cases f with
  | next =>
    obtain ⟨σ', H', I', q⟩ := q
    exact h2 pins s1 σ' H' D I' q
  | ret v => exact q
  | brk => exact q
  | cont => exact q
theorem pss_one (h1 : PS X st t) : PSs X [st] t := by
  intro pins s σ H D I h
  refine wpAny_execs_cons (thn (h1 pins s σ H D I h) fun f s1 q => ?_)
  cases f with
  | next => exact wpAny_execs_nil q
  | ret v => exact q
  | brk => exact q
  | cont => exact q
def tBreak : TS := fun D σ H => D.bk σ H
def tCont : TS := fun D σ H => D.ct σ H
theorem ps_pass : PS X (.Pass pos) tNext := fun _ _ σ H _ I h => wpAny_Pass ⟨σ, H, I, h⟩
theorem ps_break : PS X (.Break pos) tBreak := fun _ _ σ H _ I h => wpAny_Break ⟨σ, H, I, h⟩
theorem ps_continue : PS X (.Continue pos) tCont := fun _ _ σ H _ I h => wpAny_Continue ⟨σ, H, I, h⟩
/-- in a def's body nothing is shown -/
theorem Inv.quiet {pins : List (Addr × Obj)} {σ : St} {H : Hp} {s : Shared} (I : Inv X pins σ H s) : interactive X.env = false := by simp [interactive, I.ok.kind]
/-- a docstring -/
theorem ps_doc {x j pos pos'} : PS X (.Expr (.Constant (.str x) j pos) pos') tNext := fun _ s σ H _ I h => wpAny_Expr (Calls.Constant_str (show SP X _ _ .next { s with toks := s.toks + 1 } from ⟨σ, H, I.tok _, h⟩)) I.quiet
/-- an expression whose value is dropped -/
def tDrop (te : TE) : TS := fun D σ H => te σ H fun _ H1 => D.nx σ H1
theorem ps_expr (he : PE X e te) (hs : swapsWith e none pos.line X.env = pure false := by rfl) : PS X (.Expr e pos) (tDrop te) := by
  intro pins s σ H D I h
  exact wpAny_Expr_any (thn (he pins s σ H _ I h) fun v s1 ⟨x, H1, I1, r1, q1⟩ => ⟨σ, H1, I1, q1⟩) I.quiet hs
def tRet (te : TE) : TS := fun D σ H => te σ H D.rt
theorem ps_ret (he : PE X e te) : PS X (.Return (some e) pos) (tRet te) := by
  intro pins s σ H D I h
  exact wpAny_Return_some (thn (he pins s σ H _ I h) fun v s1 ⟨x, H1, I1, r1, q1⟩ => ⟨x, σ, H1, I1, r1, q1⟩)
def tRetN : TS := fun D _ H => D.rt .non H
theorem ps_retN : PS X (.Return none pos) tRetN := fun _ _ σ H _ I h => wpAny_Return_none ⟨.non, σ, H, I, rfl, h⟩
def tIfS (c : TT) (t u : TS) : TS := fun D σ H => c σ H fun b H1 => if b = true then t D σ H1 else u D σ H1
theorem ps_if {c : Expr} {a b : List Stmt} {tc : TT} (hc : PT X c tc) (ha : PSs X a t) (hb : PSs X b u) : PS X (.If c a b pos) (tIfS tc t u) := by
  intro pins s σ H D I h
  refine wpAny_If (thn (hc pins s σ H _ I h) fun d s1 ⟨H1, I1, q1⟩ => ?_)
  cases d with
  | true => exact ha pins s1 σ H1 D I1 q1
  | false => exact hb pins s1 σ H1 D I1 q1
/-- code that the proof never comes to -/
def tNever : TS := fun _ _ _ => False
theorem ps_never : PS X st tNever := fun _ _ _ _ _ _ h => h.elim
theorem pss_never {sts : List Stmt} : PSs X sts tNever := fun _ _ _ _ _ _ h => h.elim
end

/-! ### targets -/
abbrev TG := V → St → Hp → (St → Hp → Prop) → Prop
abbrev TGs := List V → St → Hp → (St → Hp → Prop) → Prop
def PG (X : Cx) (target : Expr) (t : TG) : Prop :=
  ∀ (pins : List (Addr × Obj)) (s : Shared) (σ : St) (H : Hp) (v : V) (u : Value) (Q : St → Hp → Prop), Inv X pins σ H s → RelV v u → t v σ H Q →
    wpAny (model X.prog X.w) X.A (assign target X.env u) (fun _ s' => ∃ σ' H', Inv X pins σ' H' s' ∧ Q σ' H') X.xe s
/-- several targets, one after another -/
def PGs (X : Cx) (ts : List Expr) (t : TGs) : Prop :=
  ∀ (pins : List (Addr × Obj)) (s : Shared) (σ : St) (H : Hp) (vs : List V) (us : List Value) (Q : St → Hp → Prop), Inv X pins σ H s → Vals vs us → t vs σ H Q →
    wpAny (model X.prog X.w) X.A (assignInOrder ((assignEach ts X.env).map (·.2)) us) (fun _ s' => ∃ σ' H', Inv X pins σ' H' s' ∧ Q σ' H') X.xe s
/-- o[i] = v, by values -/
abbrev TSet := V → V → V → Hp → (Hp → Prop) → Prop
def PSet (X : Cx) (t : TSet) : Prop :=
  ∀ (pins : List (Addr × Obj)) (s : Shared) (σ : St) (H : Hp) (o i v : V) (ov iv u : Value) (Q : Hp → Prop), Inv X pins σ H s → RelV o ov → RelV i iv → RelV v u → t o i v H Q →
    wpAny (model X.prog X.w) X.A (setItem ov iv u) (fun _ s' => ∃ H', Inv X pins σ H' s' ∧ Q H') X.xe s
/-- a op= b, by values -/
abbrev TIp := V → V → Hp → VK → Prop
def PIp (X : Cx) (op : Operator) (t : TIp) : Prop :=
  ∀ (pins : List (Addr × Obj)) (s : Shared) (σ : St) (H : Hp) (x y : V) (v u : Value) (Q : VK), Inv X pins σ H s → RelV x v → RelV y u → t x y H Q →
    wpAny (model X.prog X.w) X.A (inplaceOp op v u) (EP X pins σ Q) X.xe s
section
variable {X : Cx} {pos : Pos}
def gName (i : Nat) : TG := fun v σ H Q => Q (σ.set i (some v)) H
theorem pg_name {i : Nat} {x : Str} (hN : X.N.Nodup) (hi : X.N[i]? = some x) (hx : Loc X.env.scope x) (hf : X.fn x = true ∨ X.env.scope.names.lookup x = some .local := by first | exact .inl rfl | exact .inr rfl | assumption) : PG X (.Name x pos) (gName i) := by
  intro pins s σ H v u Q I r h
  exact wpAny_assign_Name (store_ok I hN hi hx r (fun s' I' => ⟨_, H, I', h⟩) hf)
def gNil : TGs := fun vs σ H Q => vs = [] ∧ Q σ H
def gCons (t : TG) (u : TGs) : TGs := fun vs σ H Q => ∃ v r, vs = v :: r ∧ t v σ H fun σ' H' => u r σ' H' Q
theorem pgs_nil : PGs X [] gNil := by
  intro pins s σ H vs us Q I r h
  obtain ⟨e, h⟩ := h
  subst e
  cases r
  exact assignInOrder_nil ⟨σ, H, I, h⟩
theorem pgs_cons {e : Expr} {es : List Expr} {t : TG} {u : TGs} (h1 : PG X e t) (h2 : PGs X es u)
    (hs : (assignEach (e :: es) X.env).map (·.2) = assign e X.env :: (assignEach es X.env).map (·.2) := by rfl) : PGs X (e :: es) (gCons t u) := by
  intro pins s σ H vs us Q I r h
  obtain ⟨v, vr, e1, h⟩ := h
  subst e1
  cases r with
  | cons r rr =>
    rw [hs]
    refine assignInOrder_cons (thn (h1 pins s σ H _ _ _ I r h) fun _ s1 ⟨σ1, H1, I1, q1⟩ => ?_)
    exact h2 pins s1 σ1 H1 _ _ Q I1 rr q1
/-- (a, b, ..) = a tuple of that length -/
def gTup (K : PySem.W.Frag) (n : Nat) (t : TGs) : TG := fun v σ H Q => ∃ a xs, v = .ref a ∧ SqT K H a xs ∧ xs.length = n ∧ t xs σ H Q
theorem pg_tup {es : List Expr} {k : Nat} {t : TGs} {n : Nat} (hc : X.calm = true) (h : PGs X es t)
    (hn : (assignEach es X.env).length = n := by rfl) (hst : (assignEach es X.env).findIdx? (·.1) = none := by rfl) : PG X (.Tuple es k pos) (gTup X.K n t) := by
  intro pins s σ H v u Q I r hw
  obtain ⟨a, xs, e1, hq, hl, hw⟩ := hw
  subst e1
  cases r
  obtain ⟨its, rv, ht, hz⟩ := I.tuple hq
  refine assign_Tuple_tuple (I.ok.hd hc) ht (by simp [hn, ← hl, rv.length]) hst fun h' hx => ?_
  have I1 : Inv X pins σ H { s with heap := h' } := I.kept (t' := s.toks) fun b o e => hx b o (Nat.ne_of_lt (Heap.lt_size e)) e
  exact h pins _ σ H xs _ Q I1 (by simpa using rv) hw
/-- o[i] = .. -/
def gSub (to ti : TE) (t : TSet) : TG := fun v σ H Q => to σ H fun o H1 => ti σ H1 fun i H2 => t o i v H2 fun H3 => Q σ H3
theorem pg_sub {o i : Expr} {to ti : TE} {t : TSet} (ho : PE X o to) (hi : PE X i ti) (hs : PSet X t)
    (ha : ∀ v, assign (.Subscript o i pos) X.env v = (do
      let ov ← holding [v] (eval o X.env)
      let iv ← holding [v, ov] (eval i X.env)
      standAt pos
      holding [v, ov, iv] (setItem ov iv v)
      release [v, ov, iv] []) := by intro _; rfl) : PG X (.Subscript o i pos) (gSub to ti t) := by
  intro pins s σ H v u Q I r h
  rw [ha]
  refine wpAny_bind (wpAny_holding (thn (ho pins s σ H _ I h) fun ov s1 ⟨x, H1, I1, r1, q1⟩ => ?_))
  refine wpAny_bind (wpAny_holding (thn (hi pins s1 σ H1 _ I1 q1) fun iv s2 ⟨y, H2, I2, r2, q2⟩ => ?_))
  refine wpAny_bind (wpAny_standAt (wpAny_bind (wpAny_holding (thn (hs pins s2 σ H2 x y v ov iv u _ I2 r1 r2 r q2) fun _ s3 ⟨H3, I3, q3⟩ => ?_))))
  exact wpAny_release ⟨σ, H3, I3, q3⟩
/-- target = value -/
def tAsg (te : TE) (g : TG) : TS := fun D σ H => te σ H fun x H1 => g x σ H1 D.nx
theorem ps_asg {tg e : Expr} {te : TE} {g : TG} (he : PE X e te) (hg : PG X tg g) (hs : swapsWithSole [tg] e pos.line X.env = pure false := by rfl) (hw : swappedStores [tg] e X.env = pure none := by rfl)
    (h1 : (assignEach [tg] X.env).map (·.2) = [assign tg X.env] := by rfl) : PS X (.Assign [tg] e pos) (tAsg te g) := by
  intro pins s σ H D I h
  refine wpAny_Assign_stores (thn (he pins s σ H _ I h) fun v s1 ⟨x, H1, I1, r1, q1⟩ => ?_) hs hw
  rw [h1]
  exact thn (hg pins s1 σ H1 x v _ I1 r1 q1) fun _ s2 q => q
/-- name = value -/
theorem ps_set {i : Nat} {x : Str} {e : Expr} {te : TE} {pos' : Pos} (hN : X.N.Nodup) (hi : X.N[i]? = some x) (hx : Loc X.env.scope x) (he : PE X e te) (hs : swapsWith e (some (.Name x pos')) pos.line X.env = pure false := by rfl) (hf : X.fn x = true ∨ X.env.scope.names.lookup x = some .local := by first | exact .inl rfl | exact .inr rfl | assumption) :
    PS X (.Assign [.Name x pos'] e pos) (tAsg te (gName i)) := by
  intro pins s σ H D I h
  refine wpAny_Assign_Name (thn (he pins s σ H _ I h) fun v s1 ⟨y, H1, I1, r1, q1⟩ => ?_) hs
  exact store_ok I1 hN hi hx r1 (fun s2 I2 => ⟨_, H1, I2, q1⟩) hf
/-- a, b = x, y with plain local names: stored from the right; the pair itself is not tracked (the opening rows as in PyProof/Rows/TupAssign.lean:23) -/
def tPar (i j : Nat) (ta : TA) : TS := fun D σ H => ta σ H fun vs H1 => ∃ v w, vs = [v, w] ∧ D.nx ((σ.set i (some v)).set j (some w)) H1
theorem ps_par {i j : Nat} {x y : Str} {a b : Expr} {ta : TA} {px py pt : Pos} {kt k2 pt2} (hc : X.calm = true) (hN : X.N.Nodup) (hi : X.N[i]? = some x) (hj : X.N[j]? = some y) (hij : i ≠ j)
    (hx : X.env.scope.names.lookup x = some .local) (hy : X.env.scope.names.lookup y = some .local) (ha : PA X [a, b] ta)
    (hw : swappedStores [.Tuple [.Name x px, .Name y py] kt pt] (.Tuple [a, b] k2 pt2) X.env = pure (some [x, y]))
    (hs : swapsWithSole [.Tuple [.Name x px, .Name y py] kt pt] (.Tuple [a, b] k2 pt2) pos.line X.env = pure false := by rfl) :
    PS X (.Assign [.Tuple [.Name x px, .Name y py] kt pt] (.Tuple [a, b] k2 pt2) pos) (tPar i j ta) := by
  intro pins s σ H D I h
  rw [exec_Assign_arm]
  refine wpAny_bind (wpAny_standAt ?_)
  rw [hs]
  refine wpAny_bind (wpAny_pure ?_)
  rw [if_neg (by decide)]
  refine wpAny_bind (Tuple_ (thn (ha _ pins s σ H _ I h) fun us s1 ⟨vs, H1, I1, r1, q1⟩ => ?_))
  obtain ⟨v, w, e1, q1⟩ := q1
  subst e1
  obtain ⟨u1, u2, rfl, rv, rw'⟩ : ∃ u1 u2, us = [u1, u2] ∧ RelV v u1 ∧ RelV w u2 := by
    cases r1 with
    | cons p q =>
      cases q with
      | cons p' q' =>
        cases q'
        exact ⟨_, _, rfl, p, p'⟩
  refine wpAny_newObj_type ?_ (by show 2 ≤ sizeLine; decide)
  have I2 : Inv X pins σ H1 { s1 with heap := s1.heap.push { cls := .type "tuple", data := .seq [u1, u2].toArray } } := I1.kept (t' := s1.toks) fun b o e => Heap.get?_push_of_some _ e
  rw [hw]
  refine wpAny_bind (wpAny_pure ?_)
  show wpAny (model X.prog X.w) X.A (do rule "assign.swapped-stores"; let items ← unpackItems (.ref s1.heap.objs.size) 2 none; assignInOrder [fun v => bindName X.env y v, fun v => bindName X.env x v] items.reverse; pure Flow.next) _ _ _
  refine wpAny_bind (wpAny_rule (wpAny_bind (unpackItems_tuple (items := #[u1, u2]) (I.ok.hd hc) (IsTup.new s1.heap _) fun h' hx' => ?_)))
  have I3 := I2.kept (h' := h') (t' := s1.toks) fun b o e => hx' b o (Nat.ne_of_lt (Heap.lt_size e)) e
  show wpAny _ _ (assignInOrder [fun v => bindName X.env y v, fun v => bindName X.env x v] [u2, u1] >>= fun _ => pure Flow.next) _ _ _
  refine wpAny_bind (assignInOrder_cons (wpAny_bindName (store_ok I3 hN hj (.inl hy) rw' (fun s2 I4 => ?_) (.inr hy))))
  refine assignInOrder_cons (wpAny_bindName (store_ok I4 hN hi (.inl hx) rv (fun s3 I5 => assignInOrder_nil (wpAny_pure ?_)) (.inr hx)))
  rw [List.set_comm _ _ (Ne.symm hij)] at I5
  exact ⟨_, H1, I5, q1⟩
/-- name op= e -/
def tAug (i : Nat) (te : TE) (ti : TIp) : TS := fun D σ H => ∃ x, σ[i]? = some (some x) ∧ te σ H fun y H1 => ti x y H1 fun z H2 => D.nx (σ.set i (some z)) H2
theorem ps_aug {i : Nat} {x : Str} {e : Expr} {te : TE} {op : Operator} {ti : TIp} {pos' : Pos} (hN : X.N.Nodup) (hi : X.N[i]? = some x) (hx : Loc X.env.scope x) (he : PE X e te) (ho : PIp X op ti) (hf : X.fn x = true ∨ X.env.scope.names.lookup x = some .local := by first | exact .inl rfl | exact .inr rfl | assumption) :
    PS X (.AugAssign (.Name x pos') op e pos) (tAug i te ti) := by
  intro pins s σ H D I h
  obtain ⟨v, e1, h⟩ := h
  obtain ⟨m, hn, hl⟩ := I.loc
  have vis : Vis X.env.scope x := by rcases hx with k | k; exact .inl k; exact .inr (.inl k)
  obtain ⟨u, r, l⟩ := hl i x v hi e1 vis
  refine wpAny_AugAssign_Name ?_
  have go : wpAny (model X.prog X.w) X.A (eval e X.env) (fun w s₂ => wpAny (model X.prog X.w) X.A (inplaceOp op u w) (fun r s₃ => wpAny (model X.prog X.w) X.A (storeName X.env x r) (fun _ => SP X pins D .next) X.xe s₃) X.xe s₂) X.xe s := by
    refine thn (he pins s σ H _ I h) fun w s1 ⟨y, H1, I1, r1, q1⟩ => ?_
    refine thn (ho pins s1 σ H1 v y u w _ I1 r r1 q1) fun z s2 ⟨zv, H2, I2, r2, q2⟩ => ?_
    exact store_ok I2 hN hi hx r2 (fun s3 I3 => ⟨_, H2, I3, q2⟩) hf
  rcases l with ⟨hk, hm⟩ | ⟨hk, c, hc, hcell⟩
  · exact wpAny_loadName_local I.ok.kind hk hn hm go
  · rcases hk with hk | hk
    · exact wpAny_loadName_cell I.ok.kind hk hc hcell go
    · rcases hx with k | k
      · have : X.env.scope.names.lookup x = some .free := hk
        rw [k] at this; cases this
      · have : X.env.scope.names.lookup x = some .free := hk
        rw [k] at this; cases this
/-- o[i] op= e -/
def tAugS (to ti te : TE) (tget : V → V → Hp → VK → Prop) (tip : TIp) (tset : TSet) : TS := fun D σ H => to σ H fun o H1 => ti σ H1 fun i H2 => tget o i H2 fun x H3 => te σ H3 fun y H4 => tip x y H4 fun z H5 => tset o i z H5 fun H6 => D.nx σ H6
/-- o[i], by values -/
def PGet (X : Cx) (t : V → V → Hp → VK → Prop) : Prop :=
  ∀ (pins : List (Addr × Obj)) (s : Shared) (σ : St) (H : Hp) (o i : V) (ov iv : Value) (Q : VK), Inv X pins σ H s → RelV o ov → RelV i iv → t o i H Q →
    wpAny (model X.prog X.w) X.A (getItem ov iv) (EP X pins σ Q) X.xe s
theorem ps_augS {o i e : Expr} {to ti te : TE} {tget : V → V → Hp → VK → Prop} {tip : TIp} {tset : TSet} {op : Operator} {tpos : Pos} (ho : PE X o to) (hi : PE X i ti) (hg : PGet X tget) (he : PE X e te) (hp : PIp X op tip) (hs : PSet X tset)
    (ha : ∀ ov iv new, augStore i ov iv new = (do holding [new, ov, iv] (setItem ov iv new); release [new, ov, iv] []; pure .next) := by intros; rfl) : PS X (.AugAssign (.Subscript o i tpos) op e pos) (tAugS to ti te tget tip tset) := by
  intro pins s σ H D I h
  refine wpAny_AugAssign_SubscriptAny (thn (ho pins s σ H _ I h) fun ov s1 ⟨x1, H1, I1, r1, q1⟩ => ?_) ha
  refine thn (hi pins s1 σ H1 _ I1 q1) fun iv s2 ⟨x2, H2, I2, r2, q2⟩ => ?_
  refine thn (hg pins s2 σ H2 x1 x2 ov iv _ I2 r1 r2 q2) fun old s3 ⟨x3, H3, I3, r3, q3⟩ => ?_
  refine thn (he pins s3 σ H3 _ I3 q3) fun v s4 ⟨x4, H4, I4, r4, q4⟩ => ?_
  refine thn (hp pins s4 σ H4 x3 x4 old v _ I4 r3 r4 q4) fun new s5 ⟨x5, H5, I5, r5, q5⟩ => ?_
  exact thn (hs pins s5 σ H5 x1 x2 x5 ov iv new _ I5 r1 r2 r5 q5) fun _ s6 ⟨H6, I6, q6⟩ => ⟨σ, H6, I6, q6⟩
/-- ints -/
def ipI (f : Int → Int → Int) : TIp := fun x y H Q => ∃ i j, x = .int i ∧ y = .int j ∧ Q (.int (f i j)) H
theorem ip_add : PIp X .Add (ipI fun i j => i + j) := by
  intro pins s σ H x y v u Q I r1 r2 h
  obtain ⟨i, j, e1, e2, q⟩ := h
  subst e1; subst e2
  obtain ⟨t, rfl⟩ := r1
  obtain ⟨t', rfl⟩ := r2
  exact iadd_int ⟨.int _, H, I.tok _, ⟨_, rfl⟩, q⟩
theorem ip_sub : PIp X .Sub (ipI fun i j => i - j) := by
  intro pins s σ H x y v u Q I r1 r2 h
  obtain ⟨i, j, e1, e2, q⟩ := h
  subst e1; subst e2
  obtain ⟨t, rfl⟩ := r1
  obtain ⟨t', rfl⟩ := r2
  exact isub_int ⟨.int _, H, I.tok _, ⟨_, rfl⟩, q⟩
end

/-! ### while -/
section
variable {X : Cx} {pos : Pos}
/-- the invariant W with its measure -/
def tWhile (c : TT) (tb : TS) : TS := fun D σ H => ∃ W : Nat → St → Hp → Prop, (∃ m, W m σ H) ∧ ∀ m σ H, W m σ H →
  c σ H fun b H1 => if b = true then ∃ N : St → Hp → Prop, (∀ σ' H', N σ' H' → ∃ m', m' < m ∧ W m' σ' H') ∧ tb { D with nx := N, ct := N, bk := D.nx } σ H1 else D.nx σ H1
theorem ps_while {c : Expr} {body : List Stmt} {tc : TT} {tb : TS} (hp : PassesOwn (model X.prog X.w) X.A X.env X.xe) (hc : PT X c tc) (hb : PSs X body tb) : PS X (.While c body [] pos) (tWhile tc tb) := by
  intro pins s σ H D I h
  obtain ⟨W, ⟨m0, w0⟩, turn⟩ := h
  refine wpAny_While (codeAny_whileLoop (fun n s' => ∃ σ' H', Inv X pins σ' H' s' ∧ W n σ' H') ?_ m0 ⟨σ, H, I, w0⟩)
  rintro n s1 ⟨σ1, H1, I1, w1⟩
  refine wpAny_passesOwn hp (thn (hc pins s1 σ1 H1 _ I1 (turn n σ1 H1 w1)) fun b s2 ⟨H2, I2, q2⟩ => ?_)
  cases b with
  | true =>
    obtain ⟨N, hN, q2⟩ := q2
    rw [if_pos rfl]
    refine wpAny_passesOwn hp (thn (hb pins s2 σ1 H2 _ I2 q2) fun f s3 q3 => ?_)
    cases f with
    | next =>
      obtain ⟨σ3, H3, I3, n3⟩ := q3
      obtain ⟨m', hm, w3⟩ := hN σ3 H3 n3
      exact ⟨m', hm, σ3, H3, I3, w3⟩
    | cont =>
      obtain ⟨σ3, H3, I3, n3⟩ := q3
      obtain ⟨m', hm, w3⟩ := hN σ3 H3 n3
      exact ⟨m', hm, σ3, H3, I3, w3⟩
    | brk => exact q3
    | ret v => exact q3
  | false =>
    rw [if_neg Bool.false_ne_true]
    exact wpAny_execs_nil ⟨σ1, H2, I2, q2⟩
end

/-! ### what a loop or a comprehension walks -/
/-- at turn i: it yields x (the heap may grow), or it stops -/
structure It where
  go : Nat → Hp → Prop
  yld : Nat → Hp → V → Hp → Prop
  stop : Nat → Hp → Prop
/-- the iterator's own objects may turn: they are not the frame's, not pinned, younger than the entry (or a comprehension's own) -/
def FpOk (X : Cx) (pins : List (Addr × Obj)) (H : Hp) (b : Addr) : Prop :=
  H b = none ∧ b ≠ X.env.locals ∧ b ∉ X.fs ∧ (b ∈ X.ex ∨ X.s₀.heap.objs.size ≤ b) ∧ (∀ x c, X.env.cells.lookup x = some c → c ≠ b) ∧ ∀ p ∈ X.pn ++ pins, p.1 ≠ b
theorem Inv.fpOk {X : Cx} {pins : List (Addr × Obj)} {σ : St} {H H' : Hp} {s : Shared} {b : Addr} (I : Inv X pins σ H s) (hb : s.heap.objs.size ≤ b) (hn : H' b = none) : FpOk X pins H' b := by
  refine ⟨hn, Nat.ne_of_gt (Nat.lt_of_lt_of_le I.lt hb), I.nofs hb, .inr (Nat.le_trans I.sz hb), fun x c e z => ?_, fun p hp z => ?_⟩
  · obtain ⟨v, q⟩ := I.cell x c e
    exact absurd (Nat.lt_of_lt_of_le q.lt (by rw [z]; exact hb)) (Nat.lt_irrefl _)
  · exact absurd (Nat.lt_of_lt_of_le (Heap.lt_size (I.pin p hp).1) (by rw [z]; exact hb)) (Nat.lt_irrefl _)
structure Turn (P : Program) (w : World) (K : PySem.W.Frag) (tg : Expr) (J : It) (fp : List Addr) (it : Addr) (tn : Nat → Heap → Prop) : Prop where
  mem : it ∈ fp
  obj : ∀ i h, tn i h → ∀ b ∈ fp, ∃ o, h.get? b = some o ∧ ∀ v, o.data ≠ .cell v
  keep : ∀ i h h', tn i h → (∀ b ∈ fp, ∀ o, h.get? b = some o → h'.get? b = some o) → tn i h'
  item : ∀ (X : Cx), X.prog = P → X.w = w → X.K = K → X.calm = true → ∀ (i : Nat) (pins : List (Addr × Obj)) (s : Shared) (σ : St) (H : Hp) (E : Value → Shared → Prop), Inv X pins σ H s → (∀ b ∈ fp, FpOk X pins H b) → tn i s.heap → J.go i H →
    wpAny (model P w) X.A (pyNext (.ref it)) (fun r s1 => ∃ u, r = some u ∧
      wpAny (model P w) X.A (letOwnedTupleGo tg (.ref it) u) (fun _ s2 => ∃ x H', Inv X pins σ H' s2 ∧ RelV x u ∧ J.yld i H x H' ∧ tn (i + 1) s2.heap ∧ ∀ b ∈ fp, H' b = none) E s1) E s
  done : ∀ (X : Cx), X.prog = P → X.w = w → X.K = K → X.calm = true → ∀ (i : Nat) (pins : List (Addr × Obj)) (s : Shared) (σ : St) (H : Hp) (E : Value → Shared → Prop), Inv X pins σ H s → (∀ b ∈ fp, FpOk X pins H b) → tn i s.heap → J.stop i H →
    wpAny (model P w) X.A (pyNext (.ref it)) (fun r s1 => r = none ∧ Inv X pins σ H s1) E s
  self : ∀ (A : Around) (i : Nat) (s : Shared) (Q : Value → Shared → Prop) (E : Value → Shared → Prop), tn i s.heap → Q (.ref it) s → wpAny (model P w) A (pyIter (.ref it)) Q E s
abbrev TI := St → Hp → (It → Hp → Prop) → Prop
/-- an iterator has come -/
def PIE (X : Cx) (pins : List (Addr × Obj)) (σ : St) (tg : Expr) (R : It → Hp → Prop) (itv : Value) (s2 : Shared) : Prop :=
  ∃ (it : Addr) (fp : List Addr) (tn : Nat → Heap → Prop) (J : It) (H' : Hp), itv = .ref it ∧ Inv X pins σ H' s2 ∧ Turn X.prog X.w X.K tg J fp it tn ∧ tn 0 s2.heap ∧ (∀ b ∈ fp, FpOk X pins H' b) ∧ R J H'
def PI (X : Cx) (tg iter : Expr) (wi : TI) : Prop :=
  ∀ (pins : List (Addr × Obj)) (s : Shared) (σ : St) (H : Hp) (R : It → Hp → Prop), Inv X pins σ H s → wi σ H R →
    wpAny (model X.prog X.w) X.A (eval iter X.env) (fun v s1 => wpAny (model X.prog X.w) X.A (pyIter v) (PIE X pins σ tg R) X.xe s1) X.xe s

/-- the step ahead of the store is nothing for an iterator that keeps no tuple -/
theorem go_of {M : Model} {A : Around} {E : Value → Shared → Prop} {s : Shared} {tg : Expr} {it : Addr} {u : Value} {o : Obj} {n : String} {vs : Array Value} {Q : Unit → Shared → Prop} (ho : s.heap.get? it = some o) (hc : o.cls = .type n) (hd : o.data = .fields vs)
    (hn : ["enumerate", "zip", "dict_itemiterator", "dict_reverseitemiterator", "odict_iterator", "itertools.zip_longest", "itertools.pairwise"].contains n = false) (hQ : Q () s) : wpAny M A (letOwnedTupleGo tg (.ref it) u) Q E s := by
  unfold letOwnedTupleGo
  cases tg <;> first
    | exact wpAny_pure hQ
    | (cases u <;> first
        | exact wpAny_pure hQ
        | (refine wpAny_bind (wpAny_load ho ?_)
           rw [hc, hd]
           show wpAny M A (if (["enumerate", "zip", "dict_itemiterator", "dict_reverseitemiterator", "odict_iterator", "itertools.zip_longest", "itertools.pairwise"].contains n && vs[0]? == some (rawInt _)) = true then _ else _) Q E s
           rw [if_neg (by intro h; rw [hn, Bool.false_and] at h; cases h)]
           exact wpAny_pure hQ))

/-- the list at a, as it stands at each turn (a loop may append to it) -/
def Itl (K : PySem.W.Frag) (a : Addr) : It :=
  ⟨fun i H => ∃ xs x, SqL K H a xs ∧ xs[i]? = some x, fun i H x H' => H' = H ∧ ∀ xs, SqL K H a xs → xs[i]? = some x, fun i H => ∃ xs, SqL K H a xs ∧ xs.length ≤ i⟩
def Itt (K : PySem.W.Frag) (a : Addr) : It :=
  ⟨fun i H => ∃ xs x, SqT K H a xs ∧ xs[i]? = some x, fun i H x H' => H' = H ∧ ∀ xs, SqT K H a xs → xs[i]? = some x, fun i H => ∃ xs, SqT K H a xs ∧ xs.length ≤ i⟩
/-- lo, lo + 1, .. (n of them) -/
def Itr (lo : Int) (n : Nat) : It := ⟨fun i _ => i < n, fun i H x H' => H' = H ∧ x = .int (lo + i), fun i _ => n ≤ i⟩
theorem turn_list {P : Program} {w : World} {K : PySem.W.Frag} {tg : Expr} (a it : Addr) : Turn P w K tg (Itl K a) [it] it (fun i h => h.IsListIter it a i) where
  mem := by simp
  obj := fun i h st b hb => by
    have e : b = it := by simpa using hb
    subst e
    obtain ⟨o, e, c, d⟩ := st
    exact ⟨o, e, fun v z => by rw [d] at z; cases z⟩
  keep := fun i h h' st k => st.at fun o e => k it (by simp) o e
  item := by
    intro X hP hw hK hc i pins s σ H E I hf st hg
    subst hP hw hK
    obtain ⟨xs, x, hq, hx⟩ := hg
    obtain ⟨its, rv, p, hz⟩ := I.list hq
    obtain ⟨u, hu, ru⟩ := rv.get hx
    obtain ⟨f0, f1, f2, f3, f4, f5⟩ := hf it (by simp)
    refine wpAny_pyNext_list_item st p.isList (x := u) (by simpa using hu) fun h' st' sb => ?_
    have I1 : Inv X pins σ H { s with heap := h' } := I.turned (t' := s.toks) (fun b o hb e => (sb.2 b hb).trans e) f0 f1 f3 f4 f5
    obtain ⟨o, e, c, d⟩ := id st'
    exact ⟨u, rfl, go_of (s := { s with heap := h' }) e c d (by decide) ⟨x, H, I1, ru, ⟨rfl, fun ys hy => by rw [I.list_inj hy hq]; exact hx⟩, st', fun b hb => (hf b hb).1⟩⟩
  done := by
    intro X hP hw hK hc i pins s σ H E I hf st hg
    subst hP hw hK
    obtain ⟨xs, hq, hx⟩ := hg
    obtain ⟨its, rv, p, hz⟩ := I.list hq
    obtain ⟨f0, f1, f2, f3, f4, f5⟩ := hf it (by simp)
    have hl := rv.length
    exact wpAny_pyNext_list_end (I.ok.hd hc) st p.isList (by simp; omega) fun h' eb => ⟨rfl, I.turned (t' := s.toks) (fun b o hb e => eb b o hb e) f0 f1 f3 f4 f5⟩
  self := fun _ _ _ _ _ st h => wpAny_pyIter_listiter st h
theorem turn_tuple {P : Program} {w : World} {K : PySem.W.Frag} {tg : Expr} (a it : Addr) : Turn P w K tg (Itt K a) [it] it (fun i h => h.IsTupleIter it a i) where
  mem := by simp
  obj := fun i h st b hb => by
    have e : b = it := by simpa using hb
    subst e
    obtain ⟨o, e, c, d⟩ := st
    exact ⟨o, e, fun v z => by rw [d] at z; cases z⟩
  keep := fun i h h' st k => st.at fun o e => k it (by simp) o e
  item := by
    intro X hP hw hK hc i pins s σ H E I hf st hg
    subst hP hw hK
    obtain ⟨xs, x, hq, hx⟩ := hg
    obtain ⟨its, rv, p, hz⟩ := I.tuple hq
    obtain ⟨u, hu, ru⟩ := rv.get hx
    obtain ⟨f0, f1, f2, f3, f4, f5⟩ := hf it (by simp)
    refine wpAny_pyNext_tuple_item st (show s.heap.IsTuple a its.toArray from p) (x := u) (by simpa using hu) fun h' st' sb => ?_
    have I1 : Inv X pins σ H { s with heap := h' } := I.turned (t' := s.toks) (fun b o hb e => (sb.2 b hb).trans e) f0 f1 f3 f4 f5
    obtain ⟨o, e, c, d⟩ := id st'
    exact ⟨u, rfl, go_of (s := { s with heap := h' }) e c d (by decide) ⟨x, H, I1, ru, ⟨rfl, fun ys hy => by rw [I.tuple_inj hy hq]; exact hx⟩, st', fun b hb => (hf b hb).1⟩⟩
  done := by
    intro X hP hw hK hc i pins s σ H E I hf st hg
    subst hP hw hK
    obtain ⟨xs, hq, hx⟩ := hg
    obtain ⟨its, rv, p, hz⟩ := I.tuple hq
    obtain ⟨f0, f1, f2, f3, f4, f5⟩ := hf it (by simp)
    have hl := rv.length
    exact wpAny_pyNext_tuple_end (I.ok.hd hc) st (show s.heap.IsTuple a its.toArray from p) (by simp; omega) fun h' eb => ⟨rfl, I.turned (t' := s.toks) (fun b o hb e => eb b o hb e) f0 f1 f3 f4 f5⟩
  self := fun _ _ _ _ _ st h => wpAny_pyIter_tupleiter st h
theorem turn_range {P : Program} {w : World} {K : PySem.W.Frag} {tg : Expr} (it : Addr) (lo : Int) (n : Nat) : Turn P w K tg (Itr lo n) [it] it (fun i h => IsRangeIter h it (lo + (i : Nat) * 1) ((n : Int) - (i : Nat)) 1) where
  mem := by simp
  obj := fun i h st b hb => by
    have e : b = it := by simpa using hb
    subst e
    exact ⟨_, st, fun v z => by
      have z' : Data.fields _ = Data.cell v := z
      cases z'⟩
  keep := fun i h h' st k => k it (by simp) _ st
  item := by
    intro X hP hw hK hc i pins s σ H E I hf st hg
    subst hP hw hK
    obtain ⟨f0, f1, f2, f3, f4, f5⟩ := hf it (by simp)
    have W := Walks.range (prog := X.prog) (w := X.w) (I.ok.hd hc) it lo 1 n
    refine W.item i s _ _ hg st fun v h' tk hv st' kk => ?_
    obtain ⟨t, rfl⟩ := hv
    have I1 : Inv X pins σ H { s with heap := h', toks := tk } := I.turned (fun b o hb e => kk b o (by simpa using hb) e) f0 f1 f3 f4 f5
    refine ⟨_, rfl, go_of (s := { s with heap := h', toks := tk }) (n := "range_iterator") st' rfl rfl (by decide) ⟨.int (lo + i), H, I1, ⟨t, ?_⟩, ⟨rfl, rfl⟩, st', fun b hb => (hf b hb).1⟩⟩
    rw [Int.mul_one]
  done := by
    intro X hP hw hK hc i pins s σ H E I hf st hg
    subst hP hw hK
    obtain ⟨f0, f1, f2, f3, f4, f5⟩ := hf it (by simp)
    exact wpAny_pyNext_range_end (I.ok.hd hc) st (by have : n ≤ i := hg; omega) fun h' eb => ⟨rfl, I.turned (t' := s.toks) (fun b o hb e => eb b o hb e) f0 f1 f3 f4 f5⟩
  self := fun _ _ _ _ _ st h => wpAny_pyIter_rangeiter st h
end L2

namespace L2
open PySem PySem.Spec PyProof.Rows
section
variable {X : Cx} {tg : Expr}
def iList (K : PySem.W.Frag) (tl : TE) : TI := fun σ H R => tl σ H fun x H1 => ∃ a, x = .ref a ∧ (∃ xs, SqL K H1 a xs) ∧ R (Itl K a) H1
def iTup (K : PySem.W.Frag) (tl : TE) : TI := fun σ H R => tl σ H fun x H1 => ∃ a, x = .ref a ∧ (∃ xs, SqT K H1 a xs) ∧ R (Itt K a) H1
theorem pi_list {l : Expr} {tl : TE} (hl : PE X l tl) : PI X tg l (iList X.K tl) := by
  intro pins s σ H R I h
  refine thn (hl pins s σ H _ I h) fun v s1 ⟨x, H1, I1, r1, q1⟩ => ?_
  obtain ⟨a, e, ⟨xs, hq⟩, q⟩ := q1
  subst e
  cases r1
  obtain ⟨its, rv, p, hz⟩ := I1.list hq
  refine wpAny_pyIter_list p.isList ?_
  refine ⟨s1.heap.objs.size, [s1.heap.objs.size], _, _, H1, rfl, I1.kept (t' := s1.toks) fun b o e => Heap.get?_push_of_some _ e, turn_list a _, ⟨_, Heap.get?_push_size _ rfl, rfl, rfl⟩, fun b hb => ?_, q⟩
  have e : b = s1.heap.objs.size := by simpa using hb
  subst e
  exact I1.fpOk (Nat.le_refl _) (I1.hok.fresh (Nat.le_refl _))
theorem pi_tup {l : Expr} {tl : TE} (hl : PE X l tl) : PI X tg l (iTup X.K tl) := by
  intro pins s σ H R I h
  refine thn (hl pins s σ H _ I h) fun v s1 ⟨x, H1, I1, r1, q1⟩ => ?_
  obtain ⟨a, e, ⟨xs, hq⟩, q⟩ := q1
  subst e
  cases r1
  obtain ⟨its, rv, p, hz⟩ := I1.tuple hq
  refine wpAny_pyIter_tuple (show s1.heap.IsTuple a its.toArray from p) ?_
  refine ⟨s1.heap.objs.size, [s1.heap.objs.size], _, _, H1, rfl, I1.kept (t' := s1.toks) fun b o e => Heap.get?_push_of_some _ e, turn_tuple a _, ⟨_, Heap.get?_push_size _ rfl, rfl, rfl⟩, fun b hb => ?_, q⟩
  have e : b = s1.heap.objs.size := by simpa using hb
  subst e
  exact I1.fpOk (Nat.le_refl _) (I1.hok.fresh (Nat.le_refl _))
/-- a range object just made, walked -/
theorem range_it {pins : List (Addr × Obj)} {σ : St} {H : Hp} {s : Shared} {R : It → Hp → Prop} {E : Value → Shared → Prop} {lo hi : Int} {t u v : Tok} {tk : Nat} (I : Inv X pins σ H s) (h1 : -(2 ^ 62) ≤ lo) (h2 : lo < 2 ^ 62) (h3 : -(2 ^ 62) ≤ hi) (h4 : hi < 2 ^ 62)
    (q : R (Itr lo (hi - lo).toNat) H) : wpAny (model X.prog X.w) X.A (pyIter (.ref s.heap.objs.size)) (PIE X pins σ tg R) E { s with heap := s.heap.push { cls := .type "range", data := .fields #[.int lo t, .int hi u, .int 1 v] }, toks := tk } := by
  refine wpAny_pyIter_range (IsRange.new ..) (small_one h1 h2 h3 h4) ?_
  have I1 : Inv X pins σ H { s with heap := s.heap.push { cls := .type "range", data := .fields #[.int lo t, .int hi u, .int 1 v] }, toks := tk } := I.kept fun b o e => Heap.get?_push_of_some _ e
  refine ⟨(s.heap.push { cls := .type "range", data := .fields #[.int lo t, .int hi u, .int 1 v] }).objs.size, [(s.heap.push { cls := .type "range", data := .fields #[.int lo t, .int hi u, .int 1 v] }).objs.size], _, _, H, rfl,
    I1.kept (t' := tk) fun b o e => Heap.get?_push_of_some _ e, turn_range _ lo (hi - lo).toNat, ?_, fun b hb => ?_, q⟩
  · have e1 : lo + ((0 : Nat) : Int) * 1 = lo := by simp
    have e2 : (((hi - lo).toNat : Nat) : Int) - ((0 : Nat) : Int) = Builtin.Range.rangeSize lo hi 1 := by rw [rangeSize_one]; split <;> omega
    show IsRangeIter _ _ (lo + ((0 : Nat) : Int) * 1) ((((hi - lo).toNat : Nat) : Int) - ((0 : Nat) : Int)) 1
    rw [e1, e2]
    exact Heap.get?_push_size _ rfl
  · have e : b = (s.heap.push { cls := .type "range", data := .fields #[.int lo t, .int hi u, .int 1 v] }).objs.size := by simpa using hb
    subst e
    exact I1.fpOk (Nat.le_refl _) (I1.hok.fresh (Nat.le_refl _))
def iRng1 (ta : TA) : TI := fun σ H R => ta σ H fun vs H1 => ∃ j : Int, vs = [.int j] ∧ -(2 ^ 62) ≤ j ∧ j < 2 ^ 62 ∧ R (Itr 0 j.toNat) H1
def iRng2 (ta : TA) : TI := fun σ H R => ta σ H fun vs H1 => ∃ i j : Int, vs = [.int i, .int j] ∧ (-(2 ^ 62) ≤ i ∧ i < 2 ^ 62 ∧ -(2 ^ 62) ≤ j ∧ j < 2 ^ 62) ∧ R (Itr i (j - i).toNat) H1
theorem pi_range1 {a : Expr} {ta : TA} {p pos : Pos} (hg : Gl X "range") (hm : X.mg "range" = none) (ha : PA X [a] ta) (hs : starEach [a] X.env = [(false, eval a X.env)] := by rfl) : PI X tg (.Call (.Name "range" p) [a] [] pos) (iRng1 ta) := by
  intro pins s σ H R I h
  refine Call_ (ld_blt I hg hm boot_range (PyProof.Rows.callWith_type1 (thn (ha pos pins s σ H _ I h) fun us s1 ⟨vs, H1, I1, r1, q1⟩ => ?_) hs rfl))
  obtain ⟨j, e, q1, q2, q⟩ := q1
  subst e
  cases r1 with
  | cons r rr =>
    cases rr
    obtain ⟨t, rfl⟩ := r
    exact call_range_1 (range_it I1 (by omega) (by omega) q1 q2 (by simpa using q))
theorem pi_range2 {a b : Expr} {ta : TA} {p pos : Pos} (hg : Gl X "range") (hm : X.mg "range" = none) (ha : PA X [a, b] ta) (hs : starEach [a, b] X.env = [(false, eval a X.env), (false, eval b X.env)] := by rfl) (hs2 : starEach [b] X.env = [(false, eval b X.env)] := by rfl) :
    PI X tg (.Call (.Name "range" p) [a, b] [] pos) (iRng2 ta) := by
  intro pins s σ H R I h
  refine Call_ (ld_blt I hg hm boot_range (PyProof.Rows.callWith_type1 (thn (ha pos pins s σ H _ I h) fun us s1 ⟨vs, H1, I1, r1, q1⟩ => ?_) (by rw [hs, hs2]) (by rw [hs2]; rfl)))
  obtain ⟨i, j, e, ⟨q1, q2, q3, q4⟩, q⟩ := q1
  subst e
  cases r1 with
  | cons r rr =>
    cases rr with
    | cons r' rr =>
      cases rr
      obtain ⟨t, rfl⟩ := r
      obtain ⟨t', rfl⟩ := r'
      exact call_range_2 (range_it I1 q1 q2 q3 q4 q)

/-! ### for -/
/-- W: the invariant by the turn and a measure; N: what the body is to reach -/
def tFor (wi : TI) (g : TG) (tb : TS) : TS := fun D σ H => wi σ H fun J H1 => ∃ W : Nat → Nat → St → Hp → Prop, (∃ m, W 0 m σ H1) ∧ ∀ i m σ H, W i m σ H →
  (J.stop i H ∧ D.nx σ H) ∨ (J.go i H ∧ ∃ N : St → Hp → Prop, (∀ σ' H', N σ' H' → ∃ m', m' < m ∧ W (i + 1) m' σ' H') ∧ ∀ x H', J.yld i H x H' → g x σ H' fun σ2 H2 => tb { D with nx := N, ct := N, bk := D.nx } σ2 H2)
/-- the records at fp as they stand -/
def pinsAt (fp : List Addr) (h : Heap) : List (Addr × Obj) := fp.filterMap fun b => (h.get? b).map fun o => (b, o)
theorem mem_pinsAt {fp : List Addr} {h : Heap} {b : Addr} {o : Obj} (hb : b ∈ fp) (e : h.get? b = some o) : (b, o) ∈ pinsAt fp h := List.mem_filterMap.mpr ⟨b, hb, by rw [e]; rfl⟩
theorem of_pinsAt {fp : List Addr} {h : Heap} {p : Addr × Obj} (hp : p ∈ pinsAt fp h) : p.1 ∈ fp ∧ h.get? p.1 = some p.2 := by
  obtain ⟨b, hb, e⟩ := List.mem_filterMap.mp hp
  cases q : h.get? b with
  | none => rw [q] at e; cases e
  | some o =>
    rw [q] at e
    have e' : (b, o) = p := Option.some.inj e
    subst e'
    exact ⟨hb, q⟩
theorem Inv.pinned {pins : List (Addr × Obj)} {σ : St} {H : Hp} {s : Shared} {fp : List Addr} (I : Inv X pins σ H s) (hf : ∀ b ∈ fp, FpOk X pins H b) (ho : ∀ b ∈ fp, ∃ o, s.heap.get? b = some o ∧ ∀ v, o.data ≠ .cell v) : Inv X (pins ++ pinsAt fp s.heap) σ H s :=
  I.pins_of fun p hp => (List.mem_append.mp hp).elim (fun z => I.pin p (List.mem_append_right _ z)) fun z => by
    obtain ⟨hb, e⟩ := of_pinsAt z
    obtain ⟨f0, f1, f2, _⟩ := hf p.1 hb
    obtain ⟨o, e', d⟩ := ho p.1 hb
    rw [e] at e'; cases e'
    exact ⟨e, f0, f1, f2, d⟩
theorem Inv.unpinned {pins pl : List (Addr × Obj)} {σ : St} {H : Hp} {s : Shared} (I : Inv X (pins ++ pl) σ H s) : Inv X pins σ H s := I.pins_of fun p hp => I.pin p (List.mem_append_right _ (List.mem_append_left _ hp))
theorem ps_for {iter : Expr} {body : List Stmt} {wi : TI} {g : TG} {tb : TS} {pos : Pos} (hp : PassesOwn (model X.prog X.w) X.A X.env X.xe) (hc : X.calm = true) (hi : PI X tg iter wi) (hg : PG X tg g) (hb : PSs X body tb)
    (hs : ∀ x, foldedSetIterable iter X.env x = pure x := by intro _; rfl) : PS X (.For tg iter body [] pos) (tFor wi g tb) := by
  intro pins s σ H D I h
  refine wpAny_For (thn (hi pins s σ H _ I h) fun v s1 h1 => thn h1 fun itv s2 h2 => ?_) hs
  obtain ⟨it, fp, tn, J, H2, e, I2, T, st2, f2, W, ⟨m0, w0⟩, turn⟩ := h2
  subst e
  -- what stays true of the iterator's objects through the loop
  have stat : ∀ {H' : Hp}, (∀ b ∈ fp, H' b = none) → ∀ b ∈ fp, FpOk X pins H' b := fun hn b hb => ⟨hn b hb, (f2 b hb).2⟩
  refine codeAny_forLoop_any (fun n s' => ∃ i σ' H', Inv X pins σ' H' s' ∧ tn i s'.heap ∧ (∀ b ∈ fp, H' b = none) ∧ W i n σ' H') ?_ m0 ⟨0, σ, H2, I2, st2, fun b hb => (f2 b hb).1, w0⟩
  rintro n s3 ⟨i, σ3, H3, I3, st3, fr3, w3⟩
  rcases turn i n σ3 H3 w3 with ⟨stop, qn⟩ | ⟨go, N, hN, step⟩
  · refine wpAny_passesOwn hp (thn (T.done X rfl rfl rfl hc i pins s3 σ3 H3 X.xe I3 (stat fr3) st3 stop) fun r s4 ⟨hr, I4⟩ => ?_)
    subst hr
    exact wpAny_execs_nil ⟨σ3, H3, I4, qn⟩
  · refine wpAny_passesOwn hp (thn (T.item X rfl rfl rfl hc i pins s3 σ3 H3 X.xe I3 (stat fr3) st3 go) fun r s4 ⟨u, hr, h4⟩ => ?_)
    subst hr
    refine wpAny_passesOwn hp (thn h4 fun _ s5 ⟨x, H5, I5, r5, y5, st5, fr5⟩ => ?_)
    have I5' := I5.pinned (stat fr5) (T.obj _ _ st5)
    refine wpAny_passesOwn hp (thn (hg _ s5 σ3 H5 x u _ I5' r5 (step x H5 y5)) fun _ s6 ⟨σ6, H6, I6, q6⟩ => ?_)
    refine wpAny_passesOwn hp (thn (hb _ s6 σ6 H6 _ I6 q6) fun f s7 q7 => ?_)
    have again : ∀ {σ7 : St} {H7 : Hp}, Inv X (pins ++ pinsAt fp s5.heap) σ7 H7 s7 → N σ7 H7 → ∃ m, m < n ∧ ∃ i σ' H', Inv X pins σ' H' s7 ∧ tn i s7.heap ∧ (∀ b ∈ fp, H' b = none) ∧ W i m σ' H' := fun {σ7 H7} I7 n7 => by
      obtain ⟨m', hm, w7⟩ := hN σ7 H7 n7
      refine ⟨m', hm, i + 1, σ7, H7, I7.unpinned, T.keep _ _ _ st5 fun b hb o e => (I7.pin (b, o) (List.mem_append_right _ (List.mem_append_right _ (mem_pinsAt hb e)))).1, fun b hb => ?_, w7⟩
      obtain ⟨o, e, d⟩ := T.obj _ _ st5 b hb
      exact (I7.pin (b, o) (List.mem_append_right _ (List.mem_append_right _ (mem_pinsAt hb e)))).2.1
    cases f with
    | next => obtain ⟨σ7, H7, I7, n7⟩ := q7; exact again I7 n7
    | cont => obtain ⟨σ7, H7, I7, n7⟩ := q7; exact again I7 n7
    | brk => obtain ⟨σ7, H7, I7, q7⟩ := q7; exact ⟨σ7, H7, I7.unpinned, q7⟩
    | ret v => obtain ⟨x7, σ7, H7, I7, r7, q7⟩ := q7; exact ⟨x7, σ7, H7, I7.unpinned, r7, q7⟩
end

/-! ### the forms one uses -/
/-- over a list that the body leaves as it is -/
theorem for_list {K : PySem.W.Frag} {a : Addr} {xs : List V} {g : TG} {tb : TS} {D : Ends} {σ : St} {H : Hp} (Pv : Nat → St → Hp → Prop) (h0 : Pv 0 σ H) (hl : ∀ i σ H, i ≤ xs.length → Pv i σ H → SqL K H a xs)
    (hs : ∀ i x σ H, xs[i]? = some x → Pv i σ H → g x σ H fun σ2 H2 => tb { D with nx := Pv (i + 1), ct := Pv (i + 1), bk := D.nx } σ2 H2) (hd : ∀ σ H, Pv xs.length σ H → D.nx σ H) :
    ∃ W : Nat → Nat → St → Hp → Prop, (∃ m, W 0 m σ H) ∧ ∀ i m σ H, W i m σ H →
      ((Itl K a).stop i H ∧ D.nx σ H) ∨ ((Itl K a).go i H ∧ ∃ N : St → Hp → Prop, (∀ σ' H', N σ' H' → ∃ m', m' < m ∧ W (i + 1) m' σ' H') ∧ ∀ x H', (Itl K a).yld i H x H' → g x σ H' fun σ2 H2 => tb { D with nx := N, ct := N, bk := D.nx } σ2 H2) := by
  refine ⟨fun i m σ H => m = xs.length - i ∧ i ≤ xs.length ∧ Pv i σ H, ⟨xs.length, by simp, Nat.zero_le _, h0⟩, ?_⟩
  rintro i m σ H ⟨rfl, hi, p⟩
  have q := hl i σ H hi p
  by_cases hlt : i < xs.length
  · refine .inr ⟨⟨xs, xs[i], q, by simp [hlt]⟩, Pv (i + 1), fun σ' H' p' => ⟨xs.length - (i + 1), by omega, rfl, hlt, p'⟩, fun x H' y => ?_⟩
    obtain ⟨e, y⟩ := y
    subst e
    exact hs i x σ _ (y xs q) p
  · have e : i = xs.length := by omega
    subst e
    exact .inl ⟨⟨xs, q, Nat.le_refl _⟩, hd σ H p⟩
theorem for_tup {K : PySem.W.Frag} {a : Addr} {xs : List V} {g : TG} {tb : TS} {D : Ends} {σ : St} {H : Hp} (Pv : Nat → St → Hp → Prop) (h0 : Pv 0 σ H) (hl : ∀ i σ H, i ≤ xs.length → Pv i σ H → SqT K H a xs)
    (hs : ∀ i x σ H, xs[i]? = some x → Pv i σ H → g x σ H fun σ2 H2 => tb { D with nx := Pv (i + 1), ct := Pv (i + 1), bk := D.nx } σ2 H2) (hd : ∀ σ H, Pv xs.length σ H → D.nx σ H) :
    ∃ W : Nat → Nat → St → Hp → Prop, (∃ m, W 0 m σ H) ∧ ∀ i m σ H, W i m σ H →
      ((Itt K a).stop i H ∧ D.nx σ H) ∨ ((Itt K a).go i H ∧ ∃ N : St → Hp → Prop, (∀ σ' H', N σ' H' → ∃ m', m' < m ∧ W (i + 1) m' σ' H') ∧ ∀ x H', (Itt K a).yld i H x H' → g x σ H' fun σ2 H2 => tb { D with nx := N, ct := N, bk := D.nx } σ2 H2) := by
  refine ⟨fun i m σ H => m = xs.length - i ∧ i ≤ xs.length ∧ Pv i σ H, ⟨xs.length, by simp, Nat.zero_le _, h0⟩, ?_⟩
  rintro i m σ H ⟨rfl, hi, p⟩
  have q := hl i σ H hi p
  by_cases hlt : i < xs.length
  · refine .inr ⟨⟨xs, xs[i], q, by simp [hlt]⟩, Pv (i + 1), fun σ' H' p' => ⟨xs.length - (i + 1), by omega, rfl, hlt, p'⟩, fun x H' y => ?_⟩
    obtain ⟨e, y⟩ := y
    subst e
    exact hs i x σ _ (y xs q) p
  · have e : i = xs.length := by omega
    subst e
    exact .inl ⟨⟨xs, q, Nat.le_refl _⟩, hd σ H p⟩
theorem for_range {lo : Int} {n : Nat} {g : TG} {tb : TS} {D : Ends} {σ : St} {H : Hp} (Pv : Nat → St → Hp → Prop) (h0 : Pv 0 σ H)
    (hs : ∀ i σ H, i < n → Pv i σ H → g (.int (lo + i)) σ H fun σ2 H2 => tb { D with nx := Pv (i + 1), ct := Pv (i + 1), bk := D.nx } σ2 H2) (hd : ∀ σ H, Pv n σ H → D.nx σ H) :
    ∃ W : Nat → Nat → St → Hp → Prop, (∃ m, W 0 m σ H) ∧ ∀ i m σ H, W i m σ H →
      ((Itr lo n).stop i H ∧ D.nx σ H) ∨ ((Itr lo n).go i H ∧ ∃ N : St → Hp → Prop, (∀ σ' H', N σ' H' → ∃ m', m' < m ∧ W (i + 1) m' σ' H') ∧ ∀ x H', (Itr lo n).yld i H x H' → g x σ H' fun σ2 H2 => tb { D with nx := N, ct := N, bk := D.nx } σ2 H2) := by
  refine ⟨fun i m σ H => m = n - i ∧ i ≤ n ∧ Pv i σ H, ⟨n, by simp, Nat.zero_le _, h0⟩, ?_⟩
  rintro i m σ H ⟨rfl, hi, p⟩
  by_cases hlt : i < n
  · refine .inr ⟨hlt, Pv (i + 1), fun σ' H' p' => ⟨n - (i + 1), by omega, rfl, hlt, p'⟩, fun x H' y => ?_⟩
    obtain ⟨e, y⟩ := y
    subst e y
    exact hs i σ _ hlt p
  · have e : i = n := by omega
    subst e
    exact .inl ⟨Nat.le_refl _, hd σ H p⟩
/-- while, by a word and a measure of the state -/
theorem while_by {c : TT} {tb : TS} {D : Ends} {σ : St} {H : Hp} (Pv : St → Hp → Prop) (μ : St → Hp → Nat) (h0 : Pv σ H)
    (hs : ∀ σ H, Pv σ H → c σ H fun b H1 => if b = true then tb { D with nx := fun σ' H' => Pv σ' H' ∧ μ σ' H' < μ σ H, ct := fun σ' H' => Pv σ' H' ∧ μ σ' H' < μ σ H, bk := D.nx } σ H1 else D.nx σ H1)
    (mono : ∀ σ H Q Q', (∀ b H1, Q b H1 → Q' b H1) → c σ H Q → c σ H Q') : tWhile c tb D σ H := by
  refine ⟨fun m σ H => m = μ σ H ∧ Pv σ H, ⟨_, rfl, h0⟩, ?_⟩
  rintro m σ H ⟨rfl, p⟩
  refine mono σ H _ _ (fun b H1 q => ?_) (hs σ H p)
  cases b with
  | true => exact ⟨_, fun σ' H' ⟨p', l⟩ => ⟨_, l, rfl, p'⟩, q⟩
  | false => exact q
end L2

namespace L2
open PySem PySem.Spec PyProof.Rows

abbrev R2 := V → V → Hp → VK → Prop
/-- a two-place operation on values: f is binaryOp op, inplaceOp op or compareOp op -/
def OpR (X : Cx) (f : Value → Value → Sem Value) (r : R2) : Prop :=
  ∀ (pins : List (Addr × Obj)) (s : Shared) (σ : St) (H : Hp) (x y : V) (v u : Value) (Q : VK), Inv X pins σ H s → RelV x v → RelV y u → r x y H Q →
    wpAny (model X.prog X.w) X.A (f v u) (EP X pins σ Q) X.xe s
/-- a one-place operation -/
def UnR (X : Cx) (f : Value → Sem Value) (r : V → Hp → VK → Prop) : Prop :=
  ∀ (pins : List (Addr × Obj)) (s : Shared) (σ : St) (H : Hp) (x : V) (v : Value) (Q : VK), Inv X pins σ H s → RelV x v → r x H Q →
    wpAny (model X.prog X.w) X.A (f v) (EP X pins σ Q) X.xe s
/-- a call of a value that is known (a builtin, a type) with values -/
def CallR (X : Cx) (f : Value) (r : List V → Hp → VK → Prop) : Prop :=
  ∀ (pins : List (Addr × Obj)) (s : Shared) (σ : St) (H : Hp) (xs : List V) (us : List Value) (Q : VK), Inv X pins σ H s → Vals xs us → r xs H Q →
    wpAny (model X.prog X.w) X.A (call f us) (EP X pins σ Q) X.xe s
/-- a value's truth -/
def TruR (X : Cx) (r : V → Hp → (Bool → Hp → Prop) → Prop) : Prop :=
  ∀ (pins : List (Addr × Obj)) (s : Shared) (σ : St) (H : Hp) (x : V) (v : Value) (Q : Bool → Hp → Prop), Inv X pins σ H s → RelV x v → r x H Q →
    wpAny (model X.prog X.w) X.A (truthy v) (TP X pins σ Q) X.xe s

def tOp (r : R2) (ta tb : TE) : TE := fun σ H Q => ta σ H fun x H1 => tb σ H1 fun y H2 => r x y H2 Q
def tUn (r : V → Hp → VK → Prop) (ta : TE) : TE := fun σ H Q => ta σ H fun x H1 => r x H1 Q
/-- ints in, under C, and a value out -/
def rI (C : Int → Int → Prop) (g : Int → Int → V) : R2 := fun x y H Q => ∃ i j, x = .int i ∧ y = .int j ∧ C i j ∧ Q (g i j) H
def rI0 (g : Int → Int → V) : R2 := fun x y H Q => ∃ i j, x = .int i ∧ y = .int j ∧ Q (g i j) H
def rU (g : Int → V) : V → Hp → VK → Prop := fun x H Q => ∃ i, x = .int i ∧ Q (g i) H

section
variable {X : Cx} {a b c : Expr} {ta tb tc : TE} {pos : Pos}

theorem binT (ha : PE X a ta) (hb : PE X b tb) {pins : List (Addr × Obj)} {s : Shared} {σ : St} {H : Hp} {R : V → V → Hp → Prop} (I : Inv X pins σ H s)
    (h : ta σ H fun x H1 => tb σ H1 fun y H2 => R x y H2) {Q : Value → Shared → Prop} {f : Value → Value → Sem Value}
    (hf : ∀ v u s2 x y H2, Inv X pins σ H2 s2 → RelV x v → RelV y u → R x y H2 → wpAny (model X.prog X.w) X.A (f v u) Q X.xe s2) :
    wpAny (model X.prog X.w) X.A (eval a X.env) (fun v s₁ => wpAny (model X.prog X.w) X.A (eval b X.env) (fun u s₂ => wpAny (model X.prog X.w) X.A (f v u) Q X.xe s₂) X.xe s₁) X.xe s := by
  refine thn (ha pins s σ H _ I h) fun v s1 ⟨x, H1, I1, r1, q1⟩ => ?_
  refine thn (hb pins s1 σ H1 _ I1 q1) fun u s2 ⟨y, H2, I2, r2, q2⟩ => ?_
  exact hf v u s2 x y H2 I2 r1 r2 q2

theorem pe_op {op : Operator} {r : R2} (ho : OpR X (binaryOp op) r) (ha : PE X a ta) (hb : PE X b tb) : PE X (.BinOp a op b pos) (tOp r ta tb) := by
  intro pins s σ H Q I h
  exact wpAny_BinOp (binT ha hb I h fun v u s2 x y H2 I2 rx ry q => ho pins s2 σ H2 x y v u Q I2 rx ry q)
theorem pe_un {op : UnaryOp} {r : V → Hp → VK → Prop} (ho : UnR X (unaryOp op) r) (ha : PE X a ta) : PE X (.UnaryOp op a pos) (tUn r ta) := by
  intro pins s σ H Q I h
  exact UnaryOp_ (thn (ha pins s σ H _ I h) fun v s1 ⟨x, H1, I1, r1, q1⟩ => ho pins s1 σ H1 x v Q I1 r1 q1)
/-- a op= e at a name: the name's slot i -/
theorem augR {op : Operator} {r : R2} (ho : OpR X (inplaceOp op) r) {pins : List (Addr × Obj)} {s : Shared} {σ : St} {H : Hp} {x y : V} {v u : Value} {Q : VK} (I : Inv X pins σ H s)
    (rx : RelV x v) (ry : RelV y u) (q : r x y H Q) : wpAny (model X.prog X.w) X.A (inplaceOp op v u) (EP X pins σ Q) X.xe s := ho pins s σ H x y v u Q I rx ry q

/-! ### ints -/
theorem opI {f : Value → Value → Sem Value} {C : Int → Int → Prop} {g : Int → Int → Int}
    (rule : ∀ (i j : Int) (t u : Tok) (s : Shared) (Q : Value → Shared → Prop) (E : Value → Shared → Prop), C i j → Q (.int (g i j) s.toks) { s with toks := s.toks + 1 } → wpAny (model X.prog X.w) X.A (f (.int i t) (.int j u)) Q E s) :
    OpR X f (rI C fun i j => .int (g i j)) := by
  intro pins s σ H x y v u Q I rx ry h
  obtain ⟨i, j, rfl, rfl, hc, q⟩ := h
  obtain ⟨t, rfl⟩ := rx
  obtain ⟨t', rfl⟩ := ry
  exact rule i j t t' s _ _ hc ⟨.int (g i j), H, I.tok _, ⟨_, rfl⟩, q⟩
theorem opI0 {f : Value → Value → Sem Value} {g : Int → Int → Int}
    (rule : ∀ (i j : Int) (t u : Tok) (s : Shared) (Q : Value → Shared → Prop) (E : Value → Shared → Prop), Q (.int (g i j) s.toks) { s with toks := s.toks + 1 } → wpAny (model X.prog X.w) X.A (f (.int i t) (.int j u)) Q E s) :
    OpR X f (rI0 fun i j => .int (g i j)) := by
  intro pins s σ H x y v u Q I rx ry h
  obtain ⟨i, j, rfl, rfl, q⟩ := h
  obtain ⟨t, rfl⟩ := rx
  obtain ⟨t', rfl⟩ := ry
  exact rule i j t t' s _ _ ⟨.int (g i j), H, I.tok _, ⟨_, rfl⟩, q⟩
theorem opB0 {f : Value → Value → Sem Value} {g : Int → Int → Bool}
    (rule : ∀ (i j : Int) (t u : Tok) (s : Shared) (Q : Value → Shared → Prop) (E : Value → Shared → Prop), Q (.bool (g i j)) s → wpAny (model X.prog X.w) X.A (f (.int i t) (.int j u)) Q E s) :
    OpR X f (rI0 fun i j => .bl (g i j)) := by
  intro pins s σ H x y v u Q I rx ry h
  obtain ⟨i, j, rfl, rfl, q⟩ := h
  obtain ⟨t, rfl⟩ := rx
  obtain ⟨t', rfl⟩ := ry
  exact rule i j t t' s _ _ ⟨.bl (g i j), H, I, rfl, q⟩

def CDiv (i j : Int) : Prop := 0 < j ∧ j < 1073741824
def CDivN (i j : Int) : Prop := j ≠ 0 ∧ j.natAbs < 1073741824
def CPow (i j : Int) : Prop := 0 ≤ j ∧ j ≤ 1000000 ∧ i.natAbs < 2 ^ 64
def CMul (i j : Int) : Prop := (-(2 ^ 64) < i ∧ i < 2 ^ 64) ∨ (-(2 ^ 64) < j ∧ j < 2 ^ 64)
theorem CMul.ok {i j : Int} (h : CMul i j) : IntMulOk i j := by
  rcases h with ⟨h1, h2⟩ | ⟨h1, h2⟩
  · exact .of_left (intBits_le_64 h1 h2)
  · exact .of_right (intBits_le_64 h1 h2)
theorem two_pow_nn (k : Nat) : (0 : Int) ≤ 2 ^ k := by
  rw [two_pow_cast]
  exact Int.natCast_nonneg _

theorem op_add : OpR X (binaryOp .Add) (rI0 fun i j => .int (i + j)) := opI0 fun _ _ _ _ _ _ _ q => add_int q
theorem op_sub : OpR X (binaryOp .Sub) (rI0 fun i j => .int (i - j)) := opI0 fun _ _ _ _ _ _ _ q => sub_int q
theorem op_mul : OpR X (binaryOp .Mult) (rI CMul fun i j => .int (i * j)) := opI fun _ _ _ _ _ _ _ hc q => mul_int q hc.ok
/-- // by a positive divisor -/
theorem op_fdiv : OpR X (binaryOp .FloorDiv) (rI CDiv fun i j => .int (i / j)) := opI fun i j _ _ _ _ _ hc q => by
  have h1 : (0 : Int) < j := hc.1
  have h2 : j < 1073741824 := hc.2
  exact floordiv_int (by omega) (by rw [Int.fdiv_eq_ediv_of_nonneg i (by omega)]; exact q) (.inl (PyProof.noPylong_small (by omega)))
theorem op_fdivN : OpR X (binaryOp .FloorDiv) (rI CDivN fun i j => .int (i.fdiv j)) := opI fun _ _ _ _ _ _ _ hc q => floordiv_int hc.1 q (.inl (PyProof.noPylong_small hc.2))
/-- % by a positive divisor of any size -/
theorem op_mod : OpR X (binaryOp .Mod) (rI (fun _ j => 0 < j) fun i j => .int (i % j)) := opI fun i j _ _ _ _ _ hc q => by
  have h1 : (0 : Int) < j := hc
  exact mod_int' (by omega) (by rw [Int.fmod_eq_emod_of_nonneg i (by omega)]; exact q)
theorem op_modN : OpR X (binaryOp .Mod) (rI (fun _ j => j ≠ 0) fun i j => .int (i.fmod j)) := opI fun _ _ _ _ _ _ _ hc q => mod_int' hc q
theorem op_pow : OpR X (binaryOp .Pow) (rI CPow fun i j => .int (i ^ j.toNat)) := opI fun _ _ _ _ _ _ _ hc q => pow_int_small hc.1 hc.2.1 hc.2.2 q
theorem op_shl : OpR X (binaryOp .LShift) (rI CPow fun i j => .int (i * 2 ^ j.toNat)) := opI fun _ _ _ _ _ _ _ hc q => lshift_int_small hc.1 hc.2.1 hc.2.2 q
theorem op_shr : OpR X (binaryOp .RShift) (rI (fun _ j => 0 ≤ j) fun i j => .int (i / 2 ^ j.toNat)) := opI fun i j _ _ _ _ _ hc q =>
  rshift_int hc (by rw [Int.fdiv_eq_ediv_of_nonneg i (two_pow_nn _)]; exact q)
theorem op_and : OpR X (binaryOp .BitAnd) (rI0 fun i j => .int (Builtin.bitAnd i j)) := opI0 fun _ _ _ _ _ _ _ q => and_int q
theorem op_or : OpR X (binaryOp .BitOr) (rI0 fun i j => .int (Builtin.bitOr i j)) := opI0 fun _ _ _ _ _ _ _ q => or_int q
theorem op_xor : OpR X (binaryOp .BitXor) (rI0 fun i j => .int (Builtin.bitXor i j)) := opI0 fun _ _ _ _ _ _ _ q => xor_int q

theorem iop_add : OpR X (inplaceOp .Add) (rI0 fun i j => .int (i + j)) := opI0 fun _ _ _ _ _ _ _ q => iadd_int q
theorem iop_sub : OpR X (inplaceOp .Sub) (rI0 fun i j => .int (i - j)) := opI0 fun _ _ _ _ _ _ _ q => isub_int q
theorem iop_mul : OpR X (inplaceOp .Mult) (rI CMul fun i j => .int (i * j)) := opI fun _ _ _ _ _ _ _ hc q => imul_int q hc.ok
theorem iop_fdiv : OpR X (inplaceOp .FloorDiv) (rI CDiv fun i j => .int (i / j)) := opI fun i j _ _ _ _ _ hc q => by
  have h1 : (0 : Int) < j := hc.1
  have h2 : j < 1073741824 := hc.2
  exact ifloordiv_int (by omega) (by rw [Int.fdiv_eq_ediv_of_nonneg i (by omega)]; exact q) (.inl (PyProof.noPylong_small (by omega)))
theorem iop_mod : OpR X (inplaceOp .Mod) (rI (fun _ j => 0 < j) fun i j => .int (i % j)) := opI fun i j _ _ _ _ _ hc q => by
  have h1 : (0 : Int) < j := hc
  exact imod_int (by omega) (by rw [Int.fmod_eq_emod_of_nonneg i (by omega)]; exact q)
theorem iop_shl : OpR X (inplaceOp .LShift) (rI CPow fun i j => .int (i * 2 ^ j.toNat)) := opI fun _ _ _ _ _ _ _ hc q => ilshift_int_small hc.1 hc.2.1 hc.2.2 q
theorem iop_shr : OpR X (inplaceOp .RShift) (rI (fun _ j => 0 ≤ j) fun i j => .int (i / 2 ^ j.toNat)) := opI fun i j _ _ _ _ _ hc q =>
  irshift_int hc (by rw [Int.fdiv_eq_ediv_of_nonneg i (two_pow_nn _)]; exact q)
theorem iop_and : OpR X (inplaceOp .BitAnd) (rI0 fun i j => .int (Builtin.bitAnd i j)) := opI0 fun _ _ _ _ _ _ _ q => iand_int q
theorem iop_or : OpR X (inplaceOp .BitOr) (rI0 fun i j => .int (Builtin.bitOr i j)) := opI0 fun _ _ _ _ _ _ _ q => ior_int q
theorem iop_xor : OpR X (inplaceOp .BitXor) (rI0 fun i j => .int (Builtin.bitXor i j)) := opI0 fun _ _ _ _ _ _ _ q => ixor_int q

theorem unI {f : Value → Sem Value} {g : Int → Int}
    (rule : ∀ (i : Int) (t : Tok) (s : Shared) (Q : Value → Shared → Prop) (E : Value → Shared → Prop), Q (.int (g i) s.toks) { s with toks := s.toks + 1 } → wpAny (model X.prog X.w) X.A (f (.int i t)) Q E s) :
    UnR X f (rU fun i => .int (g i)) := by
  intro pins s σ H x v Q I rx h
  obtain ⟨i, rfl, q⟩ := h
  obtain ⟨t, rfl⟩ := rx
  exact rule i t s _ _ ⟨.int (g i), H, I.tok _, ⟨_, rfl⟩, q⟩
theorem un_neg : UnR X (unaryOp .USub) (rU fun i => .int (-i)) := unI fun _ _ _ _ _ q => neg_int q
theorem un_inv : UnR X (unaryOp .Invert) (rU fun i => .int (Builtin.bitNot i)) := unI fun _ _ _ _ _ q => invert_int q

/-! ### bools among ints: n += (a < b) -/
theorem op_add_ib : OpR X (binaryOp .Add) (fun x y H Q => ∃ i k, x = .int i ∧ y = .bl k ∧ Q (.int (i + b2i k)) H) := by
  intro pins s σ H x y v u Q I rx ry h
  obtain ⟨i, k, rfl, rfl, q⟩ := h
  obtain ⟨t, rfl⟩ := rx
  cases ry
  exact add_int_bool ⟨.int (i + b2i k), H, I.tok _, ⟨_, rfl⟩, q⟩
end

/-! ### comparisons -/
/-- the scalars that == tells apart as data does -/
def scal : V → V → Bool
  | .non, .non => true | .non, .int _ => true | .int _, .non => true | .non, .bl _ => true | .bl _, .non => true | .non, .str _ => true | .str _, .non => true
  | .int _, .int _ => true | .bl _, .bl _ => true | .str _, .str _ => true | .byt _, .byt _ => true
  | .int _, .str _ => true | .str _, .int _ => true | .bl _, .str _ => true | .str _, .bl _ => true
  | _, _ => false
def rEq : R2 := fun x y H Q => scal x y = true ∧ Q (.bl (decide (x = y))) H
def rNe : R2 := fun x y H Q => scal x y = true ∧ Q (.bl (!decide (x = y))) H

theorem dec_int {i j : Int} : decide (V.int i = V.int j) = (i == j) := by
  rw [Bool.eq_iff_iff]
  simp
theorem dec_bl {i j : Bool} : decide (V.bl i = V.bl j) = (i == j) := by
  rw [Bool.eq_iff_iff]
  simp
theorem dec_str {i j : Str} : decide (V.str i = V.str j) = (i == j) := by
  rw [Bool.eq_iff_iff]
  simp
theorem dec_byt {i j : Array UInt8} : decide (V.byt i = V.byt j) = (i.toList == j.toList) := by
  rw [Bool.eq_iff_iff]
  cases i
  cases j
  simp

section
variable {X : Cx} {a b c : Expr} {ta tb tc : TE} {pos : Pos}
theorem fin_bl {pins : List (Addr × Obj)} {σ : St} {H : Hp} {s : Shared} {Q : VK} {k k' : Bool} (I : Inv X pins σ H s) (q : Q (.bl k) H) (e : k = k') : EP X pins σ Q (.bool k') s := by
  subst e
  exact ⟨.bl k, H, I, rfl, q⟩
theorem op_eq : OpR X (compareOp .Eq) rEq := by
  intro pins s σ H x y v u Q I rx ry h
  obtain ⟨hs, q⟩ := h
  cases x with
  | non =>
    cases rx
    cases y with
    | non => cases ry; exact PySem.EqNone.eq_none_none (fin_bl I q (by simp))
    | bl j => cases ry; exact PySem.EqNone.eq_none_bool (fin_bl I q (by simp))
    | int j => obtain ⟨t', rfl⟩ := ry; exact PySem.EqNone.eq_none_int (fin_bl I q (by simp))
    | str j => obtain ⟨t', rfl⟩ := ry; exact PySem.EqNone.eq_none_str (fin_bl I q (by simp))
    | _ => exact absurd (show false = true from hs) Bool.false_ne_true
  | bl i =>
    cases rx
    cases y with
    | non => cases ry; exact PySem.EqNone.eq_bool_none (fin_bl I q (by simp))
    | bl j => cases ry; exact eq_bool (fin_bl I q dec_bl)
    | str j => obtain ⟨t', rfl⟩ := ry; exact PySem.EqMixed.eq_bool_str (fin_bl I q (by simp))
    | _ => exact absurd (show false = true from hs) Bool.false_ne_true
  | int i =>
    obtain ⟨t, rfl⟩ := rx
    cases y with
    | non => cases ry; exact PySem.EqNone.eq_int_none (fin_bl I q (by simp))
    | int j => obtain ⟨t', rfl⟩ := ry; exact eq_int (fin_bl I q dec_int)
    | str j => obtain ⟨t', rfl⟩ := ry; exact PySem.EqMixed.eq_int_str (fin_bl I q (by simp))
    | _ => exact absurd (show false = true from hs) Bool.false_ne_true
  | str i =>
    obtain ⟨t, rfl⟩ := rx
    cases y with
    | non => cases ry; exact PySem.EqNone.eq_str_none (fin_bl I q (by simp))
    | bl j => cases ry; exact PySem.EqMixed.eq_str_bool (fin_bl I q (by simp))
    | int j => obtain ⟨t', rfl⟩ := ry; exact PySem.EqMixed.eq_str_int (fin_bl I q (by simp))
    | str j => obtain ⟨t', rfl⟩ := ry; exact eq_str (fin_bl I q dec_str)
    | _ => exact absurd (show false = true from hs) Bool.false_ne_true
  | byt i =>
    obtain ⟨t, rfl⟩ := rx
    cases y with
    | byt j => obtain ⟨t', rfl⟩ := ry; exact PySem.W.eq_bytes (fin_bl I q dec_byt)
    | _ => exact absurd (show false = true from hs) Bool.false_ne_true
  | _ => cases y <;> exact absurd (show false = true from hs) Bool.false_ne_true
theorem op_ne : OpR X (compareOp .NotEq) rNe := by
  intro pins s σ H x y v u Q I rx ry h
  obtain ⟨hs, q⟩ := h
  cases x with
  | non =>
    cases rx
    cases y with
    | non => cases ry; exact PySem.EqNone.ne_none_none (fin_bl I q (by simp))
    | bl j => cases ry; exact PySem.EqNone.ne_none_bool (fin_bl I q (by simp))
    | int j => obtain ⟨t', rfl⟩ := ry; exact PySem.EqNone.ne_none_int (fin_bl I q (by simp))
    | str j => obtain ⟨t', rfl⟩ := ry; exact PySem.EqNone.ne_none_str (fin_bl I q (by simp))
    | _ => exact absurd (show false = true from hs) Bool.false_ne_true
  | bl i =>
    cases rx
    cases y with
    | non => cases ry; exact PySem.EqNone.ne_bool_none (fin_bl I q (by simp))
    | bl j => cases ry; exact ne_bool (fin_bl I q (congrArg not dec_bl))
    | str j => obtain ⟨t', rfl⟩ := ry; exact PySem.EqMixed.ne_bool_str (fin_bl I q (by simp))
    | _ => exact absurd (show false = true from hs) Bool.false_ne_true
  | int i =>
    obtain ⟨t, rfl⟩ := rx
    cases y with
    | non => cases ry; exact PySem.EqNone.ne_int_none (fin_bl I q (by simp))
    | int j => obtain ⟨t', rfl⟩ := ry; exact ne_int (fin_bl I q (congrArg not dec_int))
    | str j => obtain ⟨t', rfl⟩ := ry; exact PySem.EqMixed.ne_int_str (fin_bl I q (by simp))
    | _ => exact absurd (show false = true from hs) Bool.false_ne_true
  | str i =>
    obtain ⟨t, rfl⟩ := rx
    cases y with
    | non => cases ry; exact PySem.EqNone.ne_str_none (fin_bl I q (by simp))
    | bl j => cases ry; exact PySem.EqMixed.ne_str_bool (fin_bl I q (by simp))
    | int j => obtain ⟨t', rfl⟩ := ry; exact PySem.EqMixed.ne_str_int (fin_bl I q (by simp))
    | str j => obtain ⟨t', rfl⟩ := ry; exact ne_str (fin_bl I q (congrArg not dec_str))
    | _ => exact absurd (show false = true from hs) Bool.false_ne_true
  | byt i =>
    obtain ⟨t, rfl⟩ := rx
    cases y with
    | byt j => obtain ⟨t', rfl⟩ := ry; exact PySem.W.ne_bytes (fin_bl I q (congrArg not dec_byt))
    | _ => exact absurd (show false = true from hs) Bool.false_ne_true
  | _ => cases y <;> exact absurd (show false = true from hs) Bool.false_ne_true

theorem op_lt : OpR X (compareOp .Lt) (rI0 fun i j => .bl (decide (i < j))) := opB0 fun _ _ _ _ _ _ _ q => lt_int q
theorem op_le : OpR X (compareOp .LtE) (rI0 fun i j => .bl (decide (i ≤ j))) := opB0 fun _ _ _ _ _ _ _ q => le_int q
theorem op_gt : OpR X (compareOp .Gt) (rI0 fun i j => .bl (decide (j < i))) := opB0 fun _ _ _ _ _ _ _ q => gt_int q
theorem op_ge : OpR X (compareOp .GtE) (rI0 fun i j => .bl (decide (j ≤ i))) := opB0 fun _ _ _ _ _ _ _ q => ge_int q
theorem op_lt_str : OpR X (compareOp .Lt) (fun x y H Q => ∃ i j, x = .str i ∧ y = .str j ∧ Q (.bl (decide (i.cps.toList < j.cps.toList))) H) := by
  intro pins s σ H x y v u Q I rx ry h
  obtain ⟨i, j, rfl, rfl, q⟩ := h
  obtain ⟨t, rfl⟩ := rx
  obtain ⟨t', rfl⟩ := ry
  exact lt_str (fin_bl I q rfl)
/-- the one string within the other -/
theorem op_in_str : OpR X (compareOp .In) (fun x y H Q => ∃ i j, x = .str i ∧ y = .str j ∧ Q (.bl (!(Builtin.Str.occurrences j i 0 j.length 1).isEmpty)) H) := by
  intro pins s σ H x y v u Q I rx ry h
  obtain ⟨i, j, rfl, rfl, q⟩ := h
  obtain ⟨t, rfl⟩ := rx
  obtain ⟨t', rfl⟩ := ry
  exact in_str (fin_bl I q rfl)

/-- is None, is not None: the right side a value none -/
theorem op_isN : OpR X (compareOp .Is) (fun x y H Q => y = .non ∧ Q (.bl (decide (x = .non))) H) := by
  intro pins s σ H x y v u Q I rx ry h
  obtain ⟨rfl, q⟩ := h
  cases ry
  refine is_none_gen (fin_bl I q ?_)
  cases x <;> first
    | (cases rx; rfl)
    | (obtain ⟨t, rfl⟩ := rx; rfl)
theorem op_notN : OpR X (compareOp .IsNot) (fun x y H Q => y = .non ∧ Q (.bl (!decide (x = .non))) H) := by
  intro pins s σ H x y v u Q I rx ry h
  obtain ⟨rfl, q⟩ := h
  cases ry
  refine isnot_none_gen (fin_bl I q ?_)
  cases x <;> first
    | (cases rx; rfl)
    | (obtain ⟨t, rfl⟩ := rx; rfl)

theorem op_notin_str : OpR X (compareOp .NotIn) (fun x y H Q => ∃ i j, x = .str i ∧ y = .str j ∧ Q (.bl (!(!(Builtin.Str.occurrences j i 0 j.length 1).isEmpty))) H) := by
  intro pins s σ H x y v u Q I rx ry h
  obtain ⟨i, j, rfl, rfl, q⟩ := h
  obtain ⟨t, rfl⟩ := rx
  obtain ⟨t', rfl⟩ := ry
  exact notIn_str (fin_bl I q rfl)
/-- is, is not of two objects that are tracked lists or instances -/
def isObj : HO → Bool
  | .lst _ => true
  | .ins _ _ _ => true
  | _ => false
theorem obj_there {pins : List (Addr × Obj)} {s : Shared} {σ : St} {H : Hp} {a : Addr} {o : HO} (I : Inv X pins σ H s) (h : H a = some o) (p : isObj o = true) : ∃ ob, s.heap.get? a = some ob ∧ ob.cls ≠ .type "tuple" := by
  cases o with
  | lst xs =>
    obtain ⟨_, its, n, _, e⟩ : xs.length ≤ sizeLine ∧ ∃ (its : List Value) (n : Nat), Vals xs its ∧ s.heap.get? a = some { cls := .type "list", data := .seq its.toArray n } := I.hok a _ h
    exact ⟨_, e, (by show Value.type "list" ≠ .type "tuple"; decide +kernel)⟩
  | ins C dx fs =>
    have x := I.hok a _ h
    obtain ⟨_, _, _, e, _⟩ := x
    exact ⟨_, e, (by show Value.ref C ≠ .type "tuple"; exact fun z => by cases z)⟩
  | _ => exact absurd (show false = true from p) Bool.false_ne_true
theorem op_is_ref : OpR X (compareOp .Is) (fun x y H Q => ∃ a b oa ob, x = .ref a ∧ y = .ref b ∧ H a = some oa ∧ isObj oa = true ∧ H b = some ob ∧ isObj ob = true ∧ Q (.bl (decide (a = b))) H) := by
  intro pins s σ H x y v u Q I rx ry h
  obtain ⟨a, b, oa, ob, rfl, rfl, ha, pa, hb, pb, q⟩ := h
  cases rx
  cases ry
  obtain ⟨o1, e1, n1⟩ := obj_there I ha pa
  obtain ⟨o2, e2, _⟩ := obj_there I hb pb
  by_cases z : a = b
  · subst z
    exact wpAny_is_ref_self (fin_bl I q (by simp))
  · exact wpAny_is_ref_other z e1 e2 n1 (fin_bl I q (by simp [z]))
theorem op_isnot_ref : OpR X (compareOp .IsNot) (fun x y H Q => ∃ a b oa ob, x = .ref a ∧ y = .ref b ∧ H a = some oa ∧ isObj oa = true ∧ H b = some ob ∧ isObj ob = true ∧ Q (.bl (!decide (a = b))) H) := by
  intro pins s σ H x y v u Q I rx ry h
  obtain ⟨a, b, oa, ob, rfl, rfl, ha, pa, hb, pb, q⟩ := h
  cases rx
  cases ry
  obtain ⟨o1, e1, n1⟩ := obj_there I ha pa
  obtain ⟨o2, e2, _⟩ := obj_there I hb pb
  by_cases z : a = b
  · subst z
    exact wpAny_isNot_ref_self (fin_bl I q (by simp))
  · exact wpAny_isNot_ref_other z e1 e2 n1 (fin_bl I q (by simp [z]))

/-- two rules for one operation: by cases -/
theorem OpR.or {f : Value → Value → Sem Value} {r r' : R2} (h : OpR X f r) (h' : OpR X f r') : OpR X f (fun x y H Q => r x y H Q ∨ r' x y H Q) := by
  intro pins s σ H x y v u Q I rx ry q
  rcases q with q | q
  · exact h pins s σ H x y v u Q I rx ry q
  · exact h' pins s σ H x y v u Q I rx ry q

theorem nomark (b : Expr) {op : CmpOp} (h : op ≠ .In := by decide) (h2 : op ≠ .NotIn := by decide) : behindInMarks op b = false := by
  have e1 : (op == CmpOp.In) = false := by cases op <;> first | rfl | exact absurd rfl h
  have e2 : (op == CmpOp.NotIn) = false := by cases op <;> first | rfl | exact absurd rfl h2
  cases b <;> simp [behindInMarks, e1, e2]
/-- a comparison as a value; hm: nomark b, or (for in, not in) by with_unfolding_all rfl -/
theorem pe_cmpR {op : CmpOp} {r : R2} (ho : OpR X (compareOp op) r) (ha : PE X a ta) (hb : PE X b tb) (hm : behindInMarks op b = false) : PE X (.Compare a [op] [b] pos) (tOp r ta tb) := by
  intro pins s σ H Q I h
  exact wpAny_Compare1 (binT ha hb I h fun v u s2 x y H2 I2 rx ry q => ho pins s2 σ H2 x y v u Q I2 rx ry q) hm
/-- a reading of a value as a test -/
def tTest (t : TE) : TT := fun σ H Q => t σ H fun x H' => ∃ k, x = .bl k ∧ Q k H'
theorem pt_cmpR {op : CmpOp} {r : R2} (ho : OpR X (compareOp op) r) (ha : PE X a ta) (hb : PE X b tb) (hm : behindInMarks op b = false) : PT X (.Compare a [op] [b] pos) (tTest (tOp r ta tb)) := by
  intro pins s σ H Q I h
  refine wpAny_isTrue_Compare1 (thn (ha pins s σ H _ I h) fun v s1 ⟨x, H1, I1, r1, q1⟩ => thn (hb pins s1 σ H1 _ I1 q1) fun u s2 ⟨y, H2, I2, r2, q2⟩ =>
    thn (ho pins s2 σ H2 x y v u _ I2 r1 r2 q2) fun c s3 ⟨z, H3, I3, r3, k, e, q3⟩ => ?_) hm
  subst e
  cases r3
  exact wpAny_truthy_bool ⟨H3, I3, q3⟩
/-- a op1 b op2 c -/
def tChain (r r' : R2) (ta tb tc : TE) : TE := fun σ H Q => ta σ H fun x H1 => tb σ H1 fun y H2 => r x y H2 fun z H3 => ∃ k, z = .bl k ∧
  (if k = true then tc σ H3 fun w' H4 => r' y w' H4 Q else Q (.bl false) H3)
theorem pe_chain {op op' : CmpOp} {r r' : R2} (ho : OpR X (compareOp op) r) (ho' : OpR X (compareOp op') r') (ha : PE X a ta) (hb : PE X b tb) (hc : PE X c tc)
    (hm : lastMarks [op, op'] [b, c] = false := by with_unfolding_all rfl) : PE X (.Compare a [op, op'] [b, c] pos) (tChain r r' ta tb tc) := by
  intro pins s σ H Q I h
  refine Compare_chain (thn (ha pins s σ H _ I h) fun v s1 ⟨x, H1, I1, r1, q1⟩ => chain_link (thn (hb pins s1 σ H1 _ I1 q1) fun u s2 ⟨y, H2, I2, r2, q2⟩ =>
    thn (ho pins s2 σ H2 x y v u _ I2 r1 r2 q2) fun d s3 ⟨z, H3, I3, r3, k, e, q3⟩ => ?_)) hm
  subst e
  cases r3
  refine wpAny_truthy_bool ?_
  cases k with
  | false => exact ite_ff ⟨.bl false, H3, I3, rfl, q3⟩
  | true => exact ite_tt (chain_last (thn (hc pins s3 σ H3 _ I3 q3) fun w' s4 ⟨z', H4, I4, r4, q4⟩ => ho' pins s4 σ H4 y z' u w' Q I4 r2 r4 q4))
theorem pt_chain {op op' : CmpOp} {r r' : R2} (ho : OpR X (compareOp op) r) (ho' : OpR X (compareOp op') r') (ha : PE X a ta) (hb : PE X b tb) (hc : PE X c tc)
    (hm : lastMarks [op, op'] [b, c] = false := by with_unfolding_all rfl) : PT X (.Compare a [op, op'] [b, c] pos) (tTest (tChain r r' ta tb tc)) := by
  intro pins s σ H Q I h
  refine isTrue_chain (thn (ha pins s σ H _ I h) fun v s1 ⟨x, H1, I1, r1, q1⟩ => test_link (thn (hb pins s1 σ H1 _ I1 q1) fun u s2 ⟨y, H2, I2, r2, q2⟩ =>
    thn (ho pins s2 σ H2 x y v u _ I2 r1 r2 q2) fun d s3 ⟨z, H3, I3, r3, k, e, q3⟩ => ?_)) hm
  subst e
  cases r3
  refine wpAny_truthy_bool ?_
  cases k with
  | false =>
    obtain ⟨k', e', q'⟩ := q3
    cases e'
    exact ite_ff ⟨H3, I3, q'⟩
  | true =>
    refine ite_tt (test_last (thn (hc pins s3 σ H3 _ I3 q3) fun w' s4 ⟨z', H4, I4, r4, q4⟩ => thn (ho' pins s4 σ H4 y z' u w' _ I4 r2 r4 q4) fun d' s5 ⟨z2, H5, I5, r5, k2, e2, q5⟩ => ?_))
    subst e2
    cases r5
    exact wpAny_truthy_bool ⟨H5, I5, q5⟩

/-! ### truth -/
/-- a value's truth by the abstract heap -/
def TruV (K : PySem.W.Frag) (x : V) (H : Hp) (k : Bool) : Prop :=
  match x with
  | .non => k = false
  | .bl b => k = b
  | .int i => k = (i != 0)
  | .str y => y.length ≤ sizeLine ∧ k = ((y.length : Int) != 0)
  | .byt y => y.size ≤ sizeLine ∧ k = ((y.size : Int) != 0)
  | .ref p => (∃ xs, SqL K H p xs ∧ k = !xs.isEmpty) ∨ (∃ xs, SqT K H p xs ∧ k = !xs.isEmpty) ∨ ∃ kvs, H p = some (.dK kvs) ∧ k = !kvs.isEmpty
  | _ => False
theorem isEmpty_kv {κ : Type} {kvs : List (κ × V)} {vs : List (κ × Value)} (r : KV kvs vs) : (!vs.isEmpty) = !kvs.isEmpty := by
  cases r <;> rfl
theorem isEmpty_of {xs : List V} {its : List Value} (r : Vals xs its) : (!its.toArray.isEmpty) = !xs.isEmpty := by
  cases r <;> simp
theorem line63 : (sizeLine : Nat) < 2 ^ 63 := by rw [sizeLine_eq]; decide
theorem tru_ok : TruR X (fun x H Q => ∃ k, TruV X.K x H k ∧ Q k H) := by
  intro pins s σ H x v Q I rx h
  obtain ⟨k, e, q⟩ := h
  have hl := line63
  have hs : sizeLine = 16777216 := sizeLine_eq
  cases x with
  | non =>
    cases rx
    have e' : k = false := e
    subst e'
    exact truthy_none ⟨H, I, q⟩
  | bl b =>
    cases rx
    have e' : k = b := e
    subst e'
    exact wpAny_truthy_bool ⟨H, I, q⟩
  | int i =>
    obtain ⟨t, rfl⟩ := rx
    have e' : k = (i != 0) := e
    subst e'
    exact PySem.P.truthy_int ⟨H, I, q⟩
  | str y =>
    obtain ⟨t, rfl⟩ := rx
    obtain ⟨hy, e'⟩ : y.length ≤ sizeLine ∧ k = ((y.length : Int) != 0) := e
    subst e'
    exact PySem.P.truthy_str (by omega) ⟨H, I.tok _, q⟩
  | byt y =>
    obtain ⟨t, rfl⟩ := rx
    obtain ⟨hy, e'⟩ : y.size ≤ sizeLine ∧ k = ((y.size : Int) != 0) := e
    subst e'
    exact PySem.W.truthy_bytes (by omega) ⟨H, I.tok _, q⟩
  | ref p =>
    cases rx
    have e' : (∃ xs, SqL X.K H p xs ∧ k = !xs.isEmpty) ∨ (∃ xs, SqT X.K H p xs ∧ k = !xs.isEmpty) ∨ ∃ kvs, H p = some (.dK kvs) ∧ k = !kvs.isEmpty := e
    rcases e' with ⟨xs, hx, e'⟩ | ⟨xs, hx, e'⟩ | ⟨kvs, hx, e'⟩
    · subst e'
      obtain ⟨its, r, pl, hz⟩ := I.list hx
      have hlen := r.length
      exact wpAny_truthy_list pl.isList (by simp only [List.size_toArray]; omega) ⟨H, I.tok _, by rw [isEmpty_of r]; exact q⟩
    · subst e'
      obtain ⟨its, r, pl, hz⟩ := I.tuple hx
      have hlen := r.length
      exact truthy_tuple pl (by simp only [List.size_toArray]; omega) ⟨H, I.tok _, by rw [isEmpty_of r]; exact q⟩
    · subst e'
      obtain ⟨hz, hS, vs, r, m⟩ : kvs.length ≤ sizeLine ∧ (p == sysModules) = false ∧ ∃ vs, KV kvs vs ∧ s.heap.DictOf (mixKind X.prog X.w) p vs := I.hok p _ hx
      have hlen : kvs.length = vs.length := Paired.length r
      exact wpAny_truthy_dict hS m (by omega) ⟨H, I.tok _, by rw [isEmpty_kv r]; exact q⟩
  | _ => exact (show False from e).elim
/-- any expression whose test is its value's truth (a name, a call, a subscript, a field ..: he by fun _ => rfl) -/
theorem pt_truth (ha : PE X a ta) (he : ∀ whole, isTrue a X.env whole = (do let v ← whole; standAt a.pos; holding [v] (truthy v))) :
    PT X a (fun σ H Q => ta σ H fun x H' => ∃ k, TruV X.K x H' k ∧ Q k H') := by
  intro pins s σ H Q I h
  exact isTrue_plain (thn (ha pins s σ H _ I h) fun v s1 ⟨x, H1, I1, r1, q1⟩ => tru_ok pins s1 σ H1 x v Q I1 r1 q1) (he _)

/-! ### strs and bytes -/
theorem pe_byt {x : List UInt8} {k : Nat} : PE X (.Constant (.bytes x) k pos) (fun _ H Q => Q (.byt x.toArray) H) := fun _ _ _ H _ I h => PySem.W.Constant_bytes ⟨.byt x.toArray, H, I.tok _, ⟨_, rfl⟩, h⟩
theorem op_add_str : OpR X (binaryOp .Add) (fun x y H Q => ∃ i j, x = .str i ∧ y = .str j ∧ i.length + j.length ≤ sizeLine ∧ Q (.str (i ++ j)) H) := by
  intro pins s σ H x y v u Q I rx ry h
  obtain ⟨i, j, rfl, rfl, hz, q⟩ := h
  obtain ⟨t, rfl⟩ := rx
  obtain ⟨t', rfl⟩ := ry
  exact add_str (fun t' tk => ⟨.str (i ++ j), H, I.tok _, ⟨_, rfl⟩, q⟩) hz
theorem iop_add_str : OpR X (inplaceOp .Add) (fun x y H Q => ∃ i j, x = .str i ∧ y = .str j ∧ i.length + j.length ≤ sizeLine ∧ Q (.str (i ++ j)) H) := by
  intro pins s σ H x y v u Q I rx ry h
  obtain ⟨i, j, rfl, rfl, hz, q⟩ := h
  obtain ⟨t, rfl⟩ := rx
  obtain ⟨t', rfl⟩ := ry
  exact iadd_str (fun t' tk => ⟨.str (i ++ j), H, I.tok _, ⟨_, rfl⟩, q⟩) hz
theorem op_add_byt : OpR X (binaryOp .Add) (fun x y H Q => ∃ i j, x = .byt i ∧ y = .byt j ∧ i.size + j.size ≤ 16777216 ∧ Q (.byt (i ++ j)) H) := by
  intro pins s σ H x y v u Q I rx ry h
  obtain ⟨i, j, rfl, rfl, hz, q⟩ := h
  obtain ⟨t, rfl⟩ := rx
  obtain ⟨t', rfl⟩ := ry
  exact PySem.W.KBy.add_bytes hz (fun t' tk => ⟨.byt (i ++ j), H, I.tok _, ⟨_, rfl⟩, q⟩)

def PlainIxT (b : Expr) : Prop := ∀ o i, subscripted b false o i = operate [o, i] (getItem o i)
/-- s[i], 0 ≤ i < len -/
theorem pe_item_str (ha : PE X a ta) (hb : PE X b tb) (hs : PlainIxT b) :
    PE X (.Subscript a b pos) (tOp (fun x y H Q => ∃ z i c, x = .str z ∧ y = .int i ∧ 0 ≤ i ∧ i < 2 ^ 63 ∧ i < z.length ∧ z.cps[i.toNat]? = some c ∧ Q (.str ⟨#[c]⟩) H) ta tb) := by
  intro pins s σ H Q I h
  refine Subscript_ (binT ha hb I h fun v u s2 x y H2 I2 rx ry q => ?_)
  obtain ⟨z, i, c, rfl, rfl, h0, h63, h1, hc, q⟩ := q
  obtain ⟨t, rfl⟩ := rx
  obtain ⟨t', rfl⟩ := ry
  have e : seqIndex? i z.length = some i.toNat := PySem.StrLaws.seqIndex_nonneg h0 h1
  exact tail_any (typeIs_str s2 z t) slot_str_getitem.lookup (getItem_str (c := c) (by
    have e1 : decide (i < -(2 ^ 63 : Int)) = false := decide_eq_false (by omega)
    have e2 : decide (i ≥ 2 ^ 63) = false := decide_eq_false (by omega)
    rw [e1, e2] <;> rfl) (by rw [e]; exact hc) ⟨.str ⟨#[c]⟩, H2, I2.tok _, ⟨_, rfl⟩, q⟩) (hs _ _)
/-- b[i], 0 ≤ i < len -/
theorem pe_item_byt (ha : PE X a ta) (hb : PE X b tb) (hs : PlainIxT b) :
    PE X (.Subscript a b pos) (tOp (fun x y H Q => ∃ (z : List UInt8) (i : Int), x = .byt z.toArray ∧ y = .int i ∧ z.length ≤ sizeLine ∧ 0 ≤ i ∧ i < z.length ∧ Q (.int ((z.getD i.toNat 0).toNat : Nat)) H) ta tb) := by
  intro pins s σ H Q I h
  refine Subscript_ (binT ha hb I h fun v u s2 x y H2 I2 rx ry q => ?_)
  obtain ⟨z, i, rfl, rfl, hz, h0, h1, q⟩ := q
  obtain ⟨t, rfl⟩ := rx
  obtain ⟨t', rfl⟩ := ry
  have hl : sizeLine = 16777216 := sizeLine_eq
  exact tail_any (PySem.W.typeIs_bytes s2 z.toArray t) PySem.W.FB.slot_bytes_getitem.lookup (PySem.W.getItem_bytes (by omega) h0 h1 ⟨.int ((z.getD i.toNat 0).toNat : Nat), H2, I2.tok _, ⟨_, rfl⟩, q⟩) (hs _ _)

/-! ### scalar builtins, by CallR -/
theorem vals1 {x : V} {us : List Value} (r : Vals [x] us) : ∃ u, us = [u] ∧ RelV x u := by
  cases r with
  | cons r1 r2 => cases r2; exact ⟨_, rfl, r1⟩
theorem vals2 {x y : V} {us : List Value} (r : Vals [x, y] us) : ∃ u w', us = [u, w'] ∧ RelV x u ∧ RelV y w' := by
  cases r with
  | cons r1 r2 =>
    cases r2 with
    | cons r3 r4 => cases r4; exact ⟨_, _, rfl, r1, r3⟩
theorem call_abs : CallR X (.builtin "abs") (fun xs H Q => ∃ i, xs = [.int i] ∧ Q (.int (if i < 0 then -i else i)) H) := by
  intro pins s σ H xs us Q I r h
  obtain ⟨i, rfl, q⟩ := h
  obtain ⟨u, rfl, t, rfl⟩ := vals1 r
  exact call_abs_int fun u tk => ⟨.int (if i < 0 then -i else i), H, I.tok _, ⟨_, rfl⟩, q⟩
theorem call_max2 (hc : X.calm = true) : CallR X (.builtin "max") (fun xs H Q => ∃ i j, xs = [.int i, .int j] ∧ Q (.int (if j > i then j else i)) H) := by
  intro pins s σ H xs us Q I r h
  obtain ⟨i, j, rfl, q⟩ := h
  obtain ⟨u, w', rfl, ⟨t, rfl⟩, ⟨t', rfl⟩⟩ := vals2 r
  refine max_two_ints (I.ok.hd hc) fun h' tk k => ⟨_, H, I.kept k, ?_, q⟩
  by_cases hj : j > i
  · rw [if_pos hj, if_pos hj]; exact ⟨_, rfl⟩
  · rw [if_neg hj, if_neg hj]; exact ⟨_, rfl⟩
theorem call_min2 (hc : X.calm = true) : CallR X (.builtin "min") (fun xs H Q => ∃ i j, xs = [.int i, .int j] ∧ Q (.int (if j < i then j else i)) H) := by
  intro pins s σ H xs us Q I r h
  obtain ⟨i, j, rfl, q⟩ := h
  obtain ⟨u, w', rfl, ⟨t, rfl⟩, ⟨t', rfl⟩⟩ := vals2 r
  refine min_two_ints (I.ok.hd hc) fun h' tk k => ⟨_, H, I.kept k, ?_, q⟩
  by_cases hj : j < i
  · rw [if_pos hj, if_pos hj]; exact ⟨_, rfl⟩
  · rw [if_neg hj, if_neg hj]; exact ⟨_, rfl⟩
theorem call_int1 : CallR X (.type "int") (fun xs H Q => (∃ i, xs = [.int i] ∧ Q (.int i) H) ∨ ∃ k, xs = [.bl k] ∧ Q (.int (if k then 1 else 0)) H) := by
  intro pins s σ H xs us Q I r h
  rcases h with ⟨i, rfl, q⟩ | ⟨k, rfl, q⟩
  · obtain ⟨u, rfl, t, rfl⟩ := vals1 r
    exact call_int_int ⟨.int i, H, I, ⟨_, rfl⟩, q⟩
  · obtain ⟨u, rfl, r1⟩ := vals1 r
    cases r1
    exact call_int_bool ⟨.int (if k then 1 else 0), H, I.tok _, ⟨_, rfl⟩, q⟩
theorem call_bool1 : CallR X (.type "bool") (fun xs H Q => (∃ i, xs = [.int i] ∧ Q (.bl (i != 0)) H) ∨ ∃ k, xs = [.bl k] ∧ Q (.bl k) H) := by
  intro pins s σ H xs us Q I r h
  rcases h with ⟨i, rfl, q⟩ | ⟨k, rfl, q⟩
  · obtain ⟨u, rfl, t, rfl⟩ := vals1 r
    exact call_bool_int ⟨.bl (i != 0), H, I, rfl, q⟩
  · obtain ⟨u, rfl, r1⟩ := vals1 r
    cases r1
    exact call_bool_bool ⟨.bl k, H, I, rfl, q⟩
theorem call_str_int : CallR X (.type "str") (fun xs H Q => ∃ i, xs = [.int i] ∧ i.natAbs.log2 < 1920 ∧ Q (.str (toString i)) H) := by
  intro pins s σ H xs us Q I r h
  obtain ⟨i, rfl, hz, q⟩ := h
  obtain ⟨u, rfl, t, rfl⟩ := vals1 r
  exact PySem.P.str_of_int hz ⟨.str _, H, I.tok _, ⟨_, rfl⟩, q⟩
theorem call_ord : CallR X (.builtin "ord") (fun xs H Q => ∃ x, xs = [.str x] ∧ x.length = 1 ∧ Q (.int (x.cps.getD 0 0 : Nat)) H) := by
  intro pins s σ H xs us Q I r h
  obtain ⟨x, rfl, hz, q⟩ := h
  obtain ⟨u, rfl, t, rfl⟩ := vals1 r
  exact ord_of_one hz ⟨.int _, H, I.tok _, ⟨_, rfl⟩, q⟩
theorem call_chr : CallR X (.builtin "chr") (fun xs H Q => ∃ i, xs = [.int i] ∧ 0 ≤ i ∧ i ≤ 1114111 ∧ Q (.str ⟨#[i.toNat]⟩) H) := by
  intro pins s σ H xs us Q I r h
  obtain ⟨i, rfl, h0, h1, q⟩ := h
  obtain ⟨u, rfl, t, rfl⟩ := vals1 r
  exact chr_of_range h0 h1 ⟨.str _, H, I.tok _, ⟨_, rfl⟩, q⟩
/-- len of a str, a bytes, a list, a tuple -/
def LenV (K : PySem.W.Frag) (x : V) (H : Hp) (n : Nat) : Prop :=
  match x with
  | .str y => y.length ≤ sizeLine ∧ n = y.length
  | .byt y => y.size ≤ sizeLine ∧ n = y.size
  | .ref p => (∃ xs, SqL K H p xs ∧ n = xs.length) ∨ ∃ xs, SqT K H p xs ∧ n = xs.length
  | _ => False
theorem call_len : CallR X (.builtin "len") (fun xs H Q => ∃ x n, xs = [x] ∧ LenV X.K x H n ∧ Q (.int n) H) := by
  intro pins s σ H xs us Q I r h
  obtain ⟨x, n, rfl, e, q⟩ := h
  obtain ⟨u, rfl, rx⟩ := vals1 r
  have hl := line63
  have hs : sizeLine = 16777216 := sizeLine_eq
  cases x with
  | str y =>
    obtain ⟨t, rfl⟩ := rx
    obtain ⟨hy, e'⟩ : y.length ≤ sizeLine ∧ n = y.length := e
    subst e'
    exact len_str (by omega) ⟨.int _, H, I.tok _, ⟨_, rfl⟩, q⟩
  | byt y =>
    obtain ⟨t, rfl⟩ := rx
    obtain ⟨hy, e'⟩ : y.size ≤ sizeLine ∧ n = y.size := e
    subst e'
    exact PySem.W.len_bytes (by omega) ⟨.int _, H, I.tok _, ⟨_, rfl⟩, q⟩
  | ref p =>
    cases rx
    have e' : (∃ xs, SqL X.K H p xs ∧ n = xs.length) ∨ ∃ xs, SqT X.K H p xs ∧ n = xs.length := e
    rcases e' with ⟨xs, hx, e'⟩ | ⟨xs, hx, e'⟩
    · subst e'
      obtain ⟨its, r', pl, hz⟩ := I.list hx
      have hlen := r'.length
      exact Calls.call_len_list pl.isList (by simp only [List.size_toArray]; omega) ⟨.int xs.length, H, I.tok _, ⟨_, by simp only [List.size_toArray]; rw [hlen]⟩, q⟩
    · subst e'
      obtain ⟨its, r', pl, hz⟩ := I.tuple hx
      have hlen := r'.length
      exact len_tuple pl (by simp only [List.size_toArray]; omega) ⟨.int xs.length, H, I.tok _, ⟨_, by simp only [List.size_toArray]; rw [hlen]⟩, q⟩
  | _ => exact (show False from e).elim
/-- divmod: a new tuple -/
theorem call_divmod : CallR X (.builtin "divmod") (fun xs H Q => ∃ i j, xs = [.int i, .int j] ∧ CDiv i j ∧ ∀ p, H p = none → Q (.ref p) (upd H p (.tup [.int (i / j), .int (i % j)]))) := by
  intro pins s σ H xs us Q I r h
  obtain ⟨i, j, rfl, ⟨h1, h2⟩, q⟩ := h
  obtain ⟨u, w', rfl, ⟨t, rfl⟩, ⟨t', rfl⟩⟩ := vals2 r
  refine divmod_int (by omega) ?_ (.inl (PyProof.noPylong_small (by omega)))
  rw [Int.fdiv_eq_ediv_of_nonneg i (by omega), Int.fmod_eq_emod_of_nonneg i (by omega)]
  have hn : H s.heap.objs.size = none := I.hok.fresh (Nat.le_refl _)
  refine ⟨.ref s.heap.objs.size, _, ?_, rfl, q _ hn⟩
  refine I.laid (fun b o e => Heap.get?_push_of_some _ e) (Nat.le_refl _) ⟨by simp only [List.length_cons, List.length_nil]; rw [sizeLine_eq]; decide, [.int (i / j) s.toks, .int (i % j) (s.toks + 1)], .cons ⟨_, rfl⟩ (.cons ⟨_, rfl⟩ .nil), ?_⟩
  exact ⟨_, Heap.get?_push_size s.heap rfl, rfl, 0, rfl⟩
end
end L2

namespace L2
open PySem PySem.Spec PyProof.Rows

/-! ### an instance, its attributes a map -/
structure ObjM (h : Heap) (x dx C : Addr) (mA : Str → Option Value) : Prop where
  obj : h.get? x = some (PySem.W.instObj C dx)
  ns : h.Ns1 dx mA
  ne : dx ≠ x

theorem lookIn_ns {h : Heap} {dx : Addr} {mA : Str → Option Value} (n : h.Ns1 dx mA) : ∃ od, h.get? dx = some od ∧ ∀ name, PySem.W.lookIn name od = some (mA name) := by
  obtain ⟨o, es, ep, ho, hd, hk, _, hm⟩ := n
  refine ⟨o, ho, fun name => ?_⟩
  have e := hm name
  unfold nsFind findBy at e
  rw [← Array.find?_toList] at e
  unfold PySem.W.lookIn
  rw [hd]
  dsimp only
  split
  · rename_i y q
    rw [q] at e
    exact congrArg some e
  · rename_i q
    rw [q] at e
    have a : es.toList.any (·.refKey) = false := by
      rw [List.any_eq_false]
      intro y hy
      obtain ⟨z, t, hkey⟩ := hk y (Array.mem_toList_iff.mp hy)
      simp [DictEntry.refKey, hkey]
    have a' : ¬ es.toList.any (·.refKey) = true := by rw [a]; exact Bool.false_ne_true
    rw [if_neg a']
    exact congrArg some e

theorem ObjM.look {h : Heap} {x dx C : Addr} {mA : Str → Option Value} (I : ObjM h x dx C mA) : ∃ od, PySem.W.InstAt h x (PySem.W.instObj C dx) C (some od) ∧ ∀ name, PySem.W.lookIn name od = some (mA name) :=
  let ⟨od, ho, hl⟩ := lookIn_ns I.ns
  ⟨od, ⟨I.obj, rfl, rfl, ho⟩, hl⟩

section
variable {prog : Program} {w : World} {A : Around} {E : Value → Shared → Prop} {s : Shared} {K : PySem.W.Frag} {x dx C f : Addr} {mA : Str → Option Value} {name : Str} {v : Value}

theorem get_map {expr : Bool} {Q : Value → Shared → Prop} (X : K.In s.heap) (I : ObjM s.heap x dx C mA) (hg : PySem.W.plainGet K C name = true) (hh : PySem.W.hasDictIn K C = true)
    (ha : PySem.W.findIn K (.ref C) name = some none) (hv : mA name = some v) (hv' : PySem.W.handedIn v = true) (h : Q v { s with toks := s.toks + 1 }) :
    wpAny (model prog w) A (getAttr (.ref x) name expr) Q E s := by
  obtain ⟨od, J, hl⟩ := I.look
  exact PySem.W.get_value X J (PySem.W.plainGet_of hg).1 (PySem.W.findObj_own hh ha rfl (by rw [hl, hv])) hv' h

theorem get_const {expr : Bool} {a : Value} {Q : Value → Shared → Prop} (X : K.In s.heap) (I : ObjM s.heap x dx C mA) (hg : PySem.W.plainGet K C name = true) (hh : PySem.W.hasDictIn K C = true)
    (ha : PySem.W.findIn K (.ref C) name = some (some a)) (hn : PySem.W.specialIn K a "__get__" = some none) (hc : PySem.W.copiedNames.contains name = false) (hv : mA name = none) (hv' : PySem.W.handedIn a = true)
    (h : Q a { s with toks := s.toks + 1 }) : wpAny (model prog w) A (getAttr (.ref x) name expr) Q E s := by
  obtain ⟨od, J, hl⟩ := I.look
  exact PySem.W.get_value X J (PySem.W.plainGet_of hg).1 (PySem.W.findObj_cls hh ha hn hv' hc (by rw [hl, hv])) hv' h

theorem get_meth {pl : Sem Bool} {Q : Value × List Value → Shared → Prop} (X : K.In s.heap) (I : ObjM s.heap x dx C mA) (hg : PySem.W.plainGet K C name = true)
    (hf : PySem.W.findIn K (.ref C) name = some (some (.ref f))) (ht : PySem.W.isFn K (.ref f) = true) (hv : mA name = none) (h : Q (.ref f, [.ref x]) s) :
    wpAny (model prog w) A (getMethod (.ref x) name pl) Q E s := by
  obtain ⟨od, J, hl⟩ := I.look
  exact PySem.W.method_fn X J (PySem.W.plainGet_of hg).1 (PySem.W.plainGet_of hg).2 hf (beq_iff_eq.mp ht) (by show (PySem.W.lookIn name od).map (·.isSome) = some false; rw [hl, hv]; rfl) h

theorem set_map {ns : List Str} {Q : Unit → Shared → Prop} (X : K.In s.heap) (I : ObjM s.heap x dx C mA)
    (hs : PySem.W.findIn K (.ref C) "__setattr__" = some (some (.builtin "object.__setattr__"))) (hp : PySem.W.plainOver K C = true) (ht : PySem.W.takerIn K C name = some none) (hh : PySem.W.hasDictIn K C = true)
    (hw : PySem.Within mA ns) (hsz : ns.length ≤ sizeLine)
    (h : ∀ h', ObjM h' x dx C (fun y => if y = name then some v else mA y) → Heap.SameBut dx s.heap h' → Q () { s with heap := h', toks := s.toks + 2 }) :
    wpAny (model prog w) A (setAttr (.ref x) name v) Q E s := by
  obtain ⟨od, J, hl⟩ := I.look
  refine PySem.W.set_plain X J hs (PySem.W.osa_open (s := { s with toks := s.toks + 1 }) (r := none) X J hp ht fun b => ?_)
  obtain ⟨cd, hc, hd'⟩ := PySem.W.any_some hh
  have hx : s.heap.get? x = some ⟨.ref C, some dx, .plain, #[]⟩ := I.obj
  refine wpAny_bind (wpAny_pure (wpAny_bind (wpAny_bind (wpAny_loadPart hx (wpAny_bind (PySem.W.Looks.here (s := { s with toks := s.toks + 1 }) (PySem.W.looks_clsIn X hc) ?_))))))
  rw [hd']
  refine wpAny_pure (a := some dx) (wpAny_bind (wpAny_pure (wpAny_bind ?_)))
  refine wpAny_nsSet1 (s := { s with toks := s.toks + 1 }) I.ns fun h' hn2 hs2 => ?_
  obtain ⟨oD, esD, epD, hoD, hdD, hcD⟩ := hn2.count (PySem.Within.cons name v hw)
  refine wpAny_bind (wpAny_lookBehind hoD (by rw [hdD]; exact pastItsLine_dict (Nat.le_trans hcD (by rw [List.length_cons]; omega))) ?_)
  exact wpAny_pure (h _ ⟨(hs2.2 _ (Ne.symm I.ne)).trans I.obj, hn2, I.ne⟩ hs2)

/-- C(..): the dict at the heap's end, the instance behind it; then its __init__ -/
theorem make_map {R : Result → Shared → Prop} {vs : List Value} {kw : List (Str × Value)} (X : K.In s.heap) (hm : PySem.W.makesIn K C = true)
    (hi : PySem.W.findIn K (.ref C) "__init__" = some (some (.ref f))) (hf : PySem.W.typeIn K (.ref f) = some (.type "function"))
    (h : codeAny (model prog w) (A.under (.builtin "type.__call__" ⟨.ref C :: vs, kw⟩)) (.call (.ref f) ⟨.ref (s.heap.objs.size + 1) :: vs, kw⟩) (PySem.W.InitBack (s.heap.objs.size + 1) R)
      { s with heap := (s.heap.push PySem.W.emptyDict).push (PySem.W.instObj C s.heap.objs.size) }) :
    codeAny (model prog w) A (.call (.ref C) ⟨vs, kw⟩) R s := by
  obtain ⟨hh, g, d, t, os⟩ := s
  exact PySem.W.make_core (PySem.W.makes_of X hm) (PySem.W.looks_findIn X hi) (fun self => PySem.W.bind_fn X self hf) (.inl rfl) h
/-- C() where there is no __init__ but object's -/
theorem make_map0 {R : Result → Shared → Prop} (X : K.In s.heap) (hm : PySem.W.makesIn K C = true)
    (hi : PySem.W.findIn K (.ref C) "__init__" = some (some (.builtin "object.__init__")))
    (hb : ∀ self, PySem.W.Looks (model prog w) s.heap (bindSpecial (.builtin "object.__init__") self) (.builtin "object.__init__", [self]))
    (h : codeAny (model prog w) (A.under (.builtin "type.__call__" ⟨[.ref C], []⟩)) (.call (.builtin "object.__init__") ⟨[.ref (s.heap.objs.size + 1)], []⟩) (PySem.W.InitBack (s.heap.objs.size + 1) R)
      { s with heap := (s.heap.push PySem.W.emptyDict).push (PySem.W.instObj C s.heap.objs.size) }) :
    codeAny (model prog w) A (.call (.ref C) ⟨[], []⟩) R s := by
  obtain ⟨hh, g, d, t, os⟩ := s
  exact PySem.W.make_core (PySem.W.makes_of X hm) (PySem.W.looks_findIn X hi) hb (.inr ⟨rfl, rfl⟩) h
end

/-! ### the attributes as a list of pairs -/
def putF (f : Str) (v : V) : List (Str × V) → List (Str × V)
  | [] => [(f, v)]
  | (g, x) :: r => if g = f then (g, v) :: r else (g, x) :: putF f v r
theorem lookup_putF (f g : Str) (v : V) : ∀ fs : List (Str × V), (putF f v fs).lookup g = if g = f then some v else fs.lookup g
  | [] => by
    show List.lookup g [(f, v)] = _
    by_cases h : g = f
    · have hb : (g == f) = true := beq_iff_eq.mpr h
      simp only [List.lookup, hb, if_pos h]
    · have hb : (g == f) = false := beq_eq_false_iff_ne.mpr h
      simp only [List.lookup, hb, if_neg h]
  | (k, x) :: r => by
    have ih := lookup_putF f g v r
    rw [show putF f v ((k, x) :: r) = (if k = f then (k, v) :: r else (k, x) :: putF f v r) from rfl]
    by_cases hk : k = f
    · rw [if_pos hk]
      by_cases h : g = k
      · have hb : (g == k) = true := beq_iff_eq.mpr h
        simp only [List.lookup, hb, if_pos (h.trans hk)]
      · have hb : (g == k) = false := beq_eq_false_iff_ne.mpr h
        simp only [List.lookup, hb, if_neg (fun e : g = f => h (e.trans hk.symm))]
    · rw [if_neg hk]
      by_cases h : g = k
      · have hb : (g == k) = true := beq_iff_eq.mpr h
        simp only [List.lookup, hb, if_neg (fun e : g = f => hk (h.symm.trans e))]
      · have hb : (g == k) = false := beq_eq_false_iff_ne.mpr h
        simp only [List.lookup, hb]
        exact ih
theorem keys_putF (f : Str) (v : V) : ∀ fs : List (Str × V), f ∈ (putF f v fs).map (·.1) ∧ ∀ g, g ∈ fs.map (·.1) → g ∈ (putF f v fs).map (·.1)
  | [] => ⟨by simp [putF], fun g h => by simp at h⟩
  | (k, x) :: r => by
    obtain ⟨i1, i2⟩ := keys_putF f v r
    rw [show putF f v ((k, x) :: r) = (if k = f then (k, v) :: r else (k, x) :: putF f v r) from rfl]
    by_cases hk : k = f
    · rw [if_pos hk]
      subst hk
      exact ⟨by simp, fun g h => by simpa using h⟩
    · rw [if_neg hk]
      refine ⟨?_, fun g h => ?_⟩
      · rw [List.map_cons]
        exact List.mem_cons_of_mem _ i1
      · rw [List.map_cons] at h ⊢
        rcases List.mem_cons.mp h with e | e
        · exact List.mem_cons.mpr (.inl e)
        · exact List.mem_cons_of_mem _ (i2 g e)
theorem length_putF (f : Str) (v : V) : ∀ fs : List (Str × V), (putF f v fs).length ≤ fs.length + 1
  | [] => by simp [putF]
  | (k, x) :: r => by
    have ih := length_putF f v r
    rw [show putF f v ((k, x) :: r) = (if k = f then (k, v) :: r else (k, x) :: putF f v r) from rfl]
    by_cases hk : k = f
    · rw [if_pos hk, List.length_cons, List.length_cons]; omega
    · rw [if_neg hk, List.length_cons, List.length_cons]; omega

theorem RelO.some_of {v : V} {o : Option Value} (r : RelO (some v) o) : ∃ u, o = some u ∧ RelV v u := by
  cases o with
  | none => exact (show False from r).elim
  | some u => exact ⟨u, rfl, r⟩
theorem RelO.none_of {o : Option Value} (r : RelO none o) : o = none := by
  cases o with
  | none => rfl
  | some u => exact (show False from r).elim
theorem handed_of {v : V} {u : Value} (r : RelV v u) : PySem.W.handedIn u = true := by
  cases v with
  | non => cases (show u = Value.none from r); rfl
  | bl b => cases (show u = Value.bool b from r); rfl
  | int i => obtain ⟨t, e⟩ := (show ∃ t, u = Value.int i t from r); cases e; rfl
  | str x => obtain ⟨t, e⟩ := (show ∃ t, u = Value.str x t from r); cases e; rfl
  | byt b => obtain ⟨t, e⟩ := (show ∃ t, u = Value.bytes b t from r); cases e; rfl
  | flt b => obtain ⟨t, e⟩ := (show ∃ t, u = Value.float b t from r); cases e; rfl
  | ref a => cases (show u = Value.ref a from r); rfl
  | ty n => cases (show u = Value.type n from r); rfl

section
variable {P : Program} {w : World} {H H' : Hp} {h h' : Heap} {a C dx : Addr} {fs fs' : List (Str × V)}
theorem ins_get (hok : HOk P w H h) (e : H a = some (.ins C dx fs)) : ∃ mA, ObjM h a dx C mA ∧ (∀ f, RelO (fs.lookup f) (mA f)) ∧ PySem.Within mA (fs.map (·.1)) ∧ fs.length ≤ 1000 ∧ H dx = some (.own a) := by
  obtain ⟨d, z, ne, ob, mA, n, r, q⟩ := (show ObjOk P w H h a (.ins C dx fs) from hok a _ e)
  exact ⟨mA, ⟨ob, n, ne⟩, r, q, z, d⟩
end

/-! ### what of the text a class must have -/
structure Cls (K : PySem.W.Frag) (C : Addr) : Prop where
  pg : PySem.W.plainGet K C Str.empty = true
  hd : PySem.W.hasDictIn K C = true
  po : PySem.W.plainOver K C = true
  sa : PySem.W.findIn K (.ref C) "__setattr__" = some (some (.builtin "object.__setattr__"))
theorem Cls.get {K : PySem.W.Frag} {C : Addr} (c : Cls K C) (f : Str) : PySem.W.plainGet K C f = true := c.pg
/-- no class of it has the name -/
def NoAttr (K : PySem.W.Frag) (C : Addr) (f : Str) : Prop := PySem.W.findIn K (.ref C) f = some none
theorem NoAttr.taker {K : PySem.W.Frag} {C : Addr} {f : Str} (n : NoAttr K C f) : PySem.W.takerIn K C f = some none := by
  unfold PySem.W.takerIn
  rw [show PySem.W.findIn K (.ref C) f = some none from n]
  rfl
/-- a constant of the class -/
structure Con (K : PySem.W.Frag) (C : Addr) (f : Str) (v : V) (u : Value) : Prop where
  at_ : PySem.W.findIn K (.ref C) f = some (some u)
  rel : RelV v u
  get : PySem.W.specialIn K u "__get__" = some none
  cp : PySem.W.copiedNames.contains f = false
/-- a method: a plain def of the class or of one above it -/
structure Meth (K : PySem.W.Frag) (C : Addr) (m : Str) (f : Addr) : Prop where
  at_ : PySem.W.findIn K (.ref C) m = some (some (.ref f))
  fn : PySem.W.isFn K (.ref f) = true
  kp : PySem.W.keepIn K (.ref f) = true

section
variable {X : Cx} {pins : List (Addr × Obj)} {σ : St} {H : Hp} {s : Shared} {a C dx : Addr} {fs : List (Str × V)} {f : Str} {v : V} {A : Around} {E : Value → Shared → Prop}

theorem getattr_ok {b : Bool} {Q : Value → Shared → Prop} (I : Inv X pins σ H s) (e : H a = some (.ins C dx fs)) (c : Cls X.K C) (n : NoAttr X.K C f) (l : fs.lookup f = some v)
    (h : ∀ u s', Inv X pins σ H s' → RelV v u → Q u s') : wpAny (model X.prog X.w) A (getAttr (.ref a) f b) Q E s := by
  obtain ⟨mA, O, r, _, _, _⟩ := ins_get I.hok e
  obtain ⟨u, hu, ru⟩ := RelO.some_of (v := v) (o := mA f) (by rw [← l]; exact r f)
  exact get_map I.kIn O (c.get f) c.hd n hu (handed_of ru) (h u _ (I.tok _) ru)

theorem getcon_ok {b : Bool} {u : Value} {Q : Value → Shared → Prop} (I : Inv X pins σ H s) (e : H a = some (.ins C dx fs)) (c : Cls X.K C) (k : Con X.K C f v u) (l : fs.lookup f = none)
    (h : ∀ s', Inv X pins σ H s' → Q u s') : wpAny (model X.prog X.w) A (getAttr (.ref a) f b) Q E s := by
  obtain ⟨mA, O, r, _, _, _⟩ := ins_get I.hok e
  have hn : mA f = none := RelO.none_of (by rw [← l]; exact r f)
  exact get_const I.kIn O (c.get f) c.hd k.at_ k.get k.cp hn (handed_of k.rel) (h _ (I.tok _))

theorem getmeth_ok {m : Str} {g : Addr} {pl : Sem Bool} {Q : Value × List Value → Shared → Prop} (I : Inv X pins σ H s) (e : H a = some (.ins C dx fs)) (c : Cls X.K C) (k : Meth X.K C m g) (l : fs.lookup m = none)
    (h : Q (.ref g, [.ref a]) s) : wpAny (model X.prog X.w) A (getMethod (.ref a) m pl) Q E s := by
  obtain ⟨mA, O, r, _, _, _⟩ := ins_get I.hok e
  have hn : mA m = none := RelO.none_of (by rw [← l]; exact r m)
  exact get_meth I.kIn O (c.get m) k.at_ k.fn hn h

theorem setattr_ok {y : V} {u : Value} {Q : Unit → Shared → Prop} (I : Inv X pins σ H s) (e : H a = some (.ins C dx fs)) (c : Cls X.K C) (n : NoAttr X.K C f) (hl : fs.length < 1000) (ry : RelV y u)
    (h : ∀ s', Inv X pins σ (upd H a (.ins C dx (putF f y fs))) s' → Q () s') : wpAny (model X.prog X.w) A (setAttr (.ref a) f u) Q E s := by
  obtain ⟨mA, O, r, wi, _, ho⟩ := ins_get I.hok e
  have hz : (fs.map (·.1)).length ≤ sizeLine := by rw [List.length_map, sizeLine_eq]; omega
  refine set_map I.kIn O c.sa c.po n.taker c.hd wi hz fun h' O' sb => h _ ?_
  have hd : ∃ o, h'.get? dx = some o := let ⟨o, _, _, e', _⟩ := O'.ns; ⟨o, e'⟩
  refine I.write (x := a) (e := dx) (by rw [e]; exact True.intro) (.inr ho) (fun b q hb z => (sb.2 b hb).trans z) hd ?_
  refine ⟨by rw [upd_ne O.ne]; exact ho, ?_, O.ne, O'.obj, _, O'.ns, fun g => ?_, fun g hg => ?_⟩
  · have := length_putF f y fs; omega
  · show RelO ((putF f y fs).lookup g) (if g = f then some u else mA g)
    rw [lookup_putF]
    by_cases q : g = f
    · rw [if_pos q, if_pos q]; exact ry
    · rw [if_neg q, if_neg q]; exact r g
  · by_cases q : g = f
    · rw [q]; exact (keys_putF f y fs).1
    · refine (keys_putF f y fs).2 g (wi g fun z => hg ?_)
      show (if g = f then some u else mA g) = none
      rw [if_neg q]; exact z

/-- a new instance, tracked, without attributes -/
theorem Inv.made (I : Inv X pins σ H s) : Inv X pins σ (upd (upd H s.heap.objs.size (.own (s.heap.objs.size + 1))) (s.heap.objs.size + 1) (.ins C s.heap.objs.size []))
    { s with heap := (s.heap.push PySem.W.emptyDict).push (PySem.W.instObj C s.heap.objs.size) } := by
  have e1 : (s.heap.push PySem.W.emptyDict).get? s.heap.objs.size = some PySem.W.emptyDict := Heap.get?_push_size s.heap rfl
  have e2 : ((s.heap.push PySem.W.emptyDict).push (PySem.W.instObj C s.heap.objs.size)).get? (s.heap.objs.size + 1) = some (PySem.W.instObj C s.heap.objs.size) := by
    have := Heap.get?_push_size (s.heap.push PySem.W.emptyDict) (o := PySem.W.instObj C s.heap.objs.size) rfl
    rwa [Heap.size_push] at this
  have e3 : (s.heap.push PySem.W.emptyDict).Ns s.heap.objs.size (fun _ => none) := ⟨PySem.W.emptyDict, #[], _, e1, rfl, (fun e he => absurd he (by simp)), fun _ => rfl⟩
  have I1 := I.laid (a := s.heap.objs.size) (o := .own (s.heap.objs.size + 1)) (h' := s.heap.push PySem.W.emptyDict) (t' := s.toks) (fun b u q => Heap.get?_push_of_some _ q) (Nat.le_refl _) ⟨_, e1⟩
  refine I1.laid (a := s.heap.objs.size + 1) (o := .ins C s.heap.objs.size []) (t' := s.toks) (fun b u q => Heap.get?_push_of_some _ q) (Nat.le_of_eq (Heap.size_push _ _)) ?_
  have ne : s.heap.objs.size ≠ s.heap.objs.size + 1 := Nat.ne_of_lt (Nat.lt_succ_self _)
  refine ⟨by rw [upd_ne ne, upd_same], Nat.zero_le _, ne, e2, fun _ => none, (Heap.Ns1.of_empty e3).at fun o q => Heap.get?_push_of_some _ q, fun _ => True.intro, fun y hy => absurd rfl hy⟩

/-- e.f where nothing but the object is asked: through attributeBase (super) and the last hold -/
theorem attr_of {prog : Program} {w : World} {env : Env} {e : Expr} {f : Str} {pos : Pos} {s : Shared} {Q : Value → Shared → Prop} (hb : attributeBase e f env (eval e env) = eval e env)
    (h : wpAny (model prog w) A (eval e env) (fun o s₁ => wpAny (model prog w) A (getAttr o f true) Q E s₁) E s) : wpAny (model prog w) A (eval (.Attribute e f pos) env) Q E s :=
  Attribute_any_ h (by rw [arm_eval_Attribute, hb])
end

/-! ### readings and rules -/
/-- e.f, an attribute of the instance -/
def tFld (K : PySem.W.Frag) (ta : TE) (f : Str) : TE := fun σ H Q => ta σ H fun x H1 => ∃ a C dx fs v, x = .ref a ∧ H1 a = some (.ins C dx fs) ∧ Cls K C ∧ NoAttr K C f ∧ fs.lookup f = some v ∧ Q v H1
/-- e.f, a constant of the class -/
def tCon (K : PySem.W.Frag) (ta : TE) (f : Str) : TE := fun σ H Q => ta σ H fun x H1 => ∃ a C dx fs v u, x = .ref a ∧ H1 a = some (.ins C dx fs) ∧ Cls K C ∧ Con K C f v u ∧ fs.lookup f = none ∧ Q v H1
/-- e.f = value -/
def sFld (K : PySem.W.Frag) (ta tv : TE) (f : Str) : TS := fun D σ H => tv σ H fun y H1 => ta σ H1 fun x H2 => ∃ a C dx fs, x = .ref a ∧ H2 a = some (.ins C dx fs) ∧ Cls K C ∧ NoAttr K C f ∧ fs.length < 1000 ∧
  D.nx σ (upd H2 a (.ins C dx (putF f y fs)))
/-- an augmented operator on two values -/
def InOp (X : Cx) (op : Operator) (rd : V → V → Hp → VK → Prop) : Prop :=
  ∀ (pins : List (Addr × Obj)) (s : Shared) (σ : St) (H : Hp) (x y : V) (u v : Value) (Q : VK), Inv X pins σ H s → RelV x u → RelV y v → rd x y H Q → wpAny (model X.prog X.w) X.A (inplaceOp op u v) (EP X pins σ Q) X.xe s
/-- e.f op= value -/
def sFldAug (K : PySem.W.Frag) (ta tv : TE) (rd : V → V → Hp → VK → Prop) (f : Str) : TS := fun D σ H => ta σ H fun x H1 => ∃ a C dx fs v, x = .ref a ∧ H1 a = some (.ins C dx fs) ∧ Cls K C ∧ NoAttr K C f ∧ fs.lookup f = some v ∧
  tv σ H1 fun y H2 => rd v y H2 fun z H3 => ∃ dx' fs', H3 a = some (.ins C dx' fs') ∧ fs'.length < 1000 ∧ D.nx σ (upd H3 a (.ins C dx' (putF f z fs')))

section
variable {X : Cx} {o e value : Expr} {f : Str} {pos pos' tpos : Pos} {ta tv : TE}
theorem pe_fld (he : PE X e ta) (hb : attributeBase e f X.env (eval e X.env) = eval e X.env) : PE X (.Attribute e f pos) (tFld X.K ta f) := by
  intro pins s σ H Q I h
  refine attr_of hb (thn (he pins s σ H _ I h) fun u s1 ⟨x, H1, I1, rx, a, C, dx, fs, v, ex, ea, c, n, l, q⟩ => ?_)
  subst ex
  obtain rfl : u = Value.ref a := rx
  exact getattr_ok I1 ea c n l fun u' s2 I2 ru => ⟨v, H1, I2, ru, q⟩
theorem pe_con (he : PE X e ta) (hb : attributeBase e f X.env (eval e X.env) = eval e X.env) : PE X (.Attribute e f pos) (tCon X.K ta f) := by
  intro pins s σ H Q I h
  refine attr_of hb (thn (he pins s σ H _ I h) fun u s1 ⟨x, H1, I1, rx, a, C, dx, fs, v, u0, ex, ea, c, k, l, q⟩ => ?_)
  subst ex
  obtain rfl : u = Value.ref a := rx
  exact getcon_ok I1 ea c k l fun s2 I2 => ⟨v, H1, I2, k.rel, q⟩
theorem ps_fld (ha : PE X o ta) (hv : PE X value tv) (hs : swapsWith value (some (.Attribute o f pos')) pos.line X.env = pure false) : PS X (.Assign [.Attribute o f pos'] value pos) (sFld X.K ta tv f) := by
  intro pins s σ H D I h
  refine plainObj_wpAny_Assign_Attribute (thn (hv pins s σ H _ I h) fun u s1 ⟨y, H1, I1, ry, q⟩ => thn (ha pins s1 σ H1 _ I1 q) fun ov s2 ⟨x, H2, I2, rx, a, C, dx, fs, ex, ea, c, n, l, q2⟩ => ?_) hs
  subst ex
  obtain rfl : ov = Value.ref a := rx
  exact setattr_ok I2 ea c n l ry fun s3 I3 => ⟨σ, _, I3, q2⟩
theorem ps_fldaug {op : Operator} {rd : V → V → Hp → VK → Prop} (ha : PE X o ta) (hv : PE X value tv) (hop : InOp X op rd) : PS X (.AugAssign (.Attribute o f tpos) op value pos) (sFldAug X.K ta tv rd f) := by
  intro pins s σ H D I h
  refine wpAny_AugAssign_AttributeAny (thn (ha pins s σ H _ I h) fun ov s1 ⟨x, H1, I1, rx, a, C, dx, fs, v, ex, ea, c, n, l, q⟩ => ?_)
  subst ex
  obtain rfl : ov = Value.ref a := rx
  refine getattr_ok I1 ea c n l fun u s2 I2 ru => thn (hv pins s2 σ H1 _ I2 q) fun w3 s3 ⟨y, H2, I3, ry, q3⟩ => thn (hop pins s3 σ H2 v y u w3 _ I3 ru ry q3) fun w4 s4 ⟨z, H3, I4, rz, dx', fs', ea', l', q4⟩ => ?_
  exact setattr_ok I4 ea' c n l' rz fun s5 I5 => ⟨σ, _, I5, q4⟩
def rAdd : V → V → Hp → VK → Prop := fun x y H Q => ∃ i j, x = .int i ∧ y = .int j ∧ Q (.int (i + j)) H
def rSub : V → V → Hp → VK → Prop := fun x y H Q => ∃ i j, x = .int i ∧ y = .int j ∧ Q (.int (i - j)) H
theorem in_add : InOp X .Add rAdd := by
  rintro pins s σ H x y u v Q I rx ry ⟨i, j, rfl, rfl, q⟩
  obtain ⟨t, rfl⟩ := (show ∃ t, u = Value.int i t from rx)
  obtain ⟨t', rfl⟩ := (show ∃ t', v = Value.int j t' from ry)
  exact PyProof.Rows.iadd_int ⟨.int (i + j), H, I.tok _, ⟨_, rfl⟩, q⟩
theorem in_sub : InOp X .Sub rSub := by
  rintro pins s σ H x y u v Q I rx ry ⟨i, j, rfl, rfl, q⟩
  obtain ⟨t, rfl⟩ := (show ∃ t, u = Value.int i t from rx)
  obtain ⟨t', rfl⟩ := (show ∃ t', v = Value.int j t' from ry)
  exact PyProof.Rows.isub_int ⟨.int (i - j), H, I.tok _, ⟨_, rfl⟩, q⟩

/-- what is between an instance and its method: the tree of a method call -/
theorem methcall_of {pl : Sem Bool} {m : Str} {apos : Pos} {args : List Expr} {pins : List (Addr × Obj)} {s : Shared} {σ : St} {H : Hp} {Q : Value → Shared → Prop} {te : TE} (he : PE X e te) (I : Inv X pins σ H s)
    (h : te σ H fun x H1 => ∃ a C dx fs g, x = .ref a ∧ H1 a = some (.ins C dx fs) ∧ Cls X.K C ∧ Meth X.K C m g ∧ fs.lookup m = none ∧
      ∀ s1, Inv X pins σ H1 s1 → wpAny (model X.prog X.w) X.A (callWith pos (.ref g) [.ref a] (backTo pos (starEach args X.env)) (backToKw pos (keywordEach [] X.env))) Q X.xe s1)
    (ht : eval (.Call (.Attribute e m apos) args [] pos) X.env = (do
      let ov ← eval e X.env
      standAt apos.atName
      let (f, first) ← holding [ov] (getMethod ov m pl)
      callWith pos f first (backTo pos (starEach args X.env)) (backToKw pos (keywordEach [] X.env)))) :
    wpAny (model X.prog X.w) X.A (eval (.Call (.Attribute e m apos) args [] pos) X.env) Q X.xe s := by
  refine PySem.W.methodCall_KW (pl := pl) (thn (he pins s σ H _ I h) fun u s1 ⟨x, H1, I1, rx, a, C, dx, fs, g, ex, ea, c, k, l, q⟩ => ?_) ht
  subst ex
  obtain rfl : u = Value.ref a := rx
  exact getmeth_ok I1 ea c k l (q s1 I1)
end

/-! ### isinstance -/
section
variable {X : Cx} {pins : List (Addr × Obj)} {σ : St} {H : Hp} {s : Shared} {A : Around} {E : Value → Shared → Prop} {Q : Value → Shared → Prop} {c : Value} {b : Bool}
/-- the type of a value, as the fragment's deciders take it; for an instance its class -/
inductive TyOf (K : PySem.W.Frag) (H : Hp) : V → Value → Prop where
  | non : TyOf K H .non (.type "NoneType")
  | bl (x : Bool) : TyOf K H (.bl x) (.type "bool")
  | int (i : Int) : TyOf K H (.int i) (.type "int")
  | str (x : Str) : TyOf K H (.str x) (.type "str")
  | flt (x : UInt64) : TyOf K H (.flt x) (.type "float")
  | lst {a : Addr} {xs : List V} (e : H a = some (.lst xs)) : TyOf K H (.ref a) (.type "list")
  | frz {a : Addr} {o : Obj} {xs : List V} (e : H a = some (.frz o (.lst xs))) : TyOf K H (.ref a) (.type "list")
  | tup {a : Addr} {xs : List V} (e : H a = some (.tup xs)) : TyOf K H (.ref a) (.type "tuple")
  | dK {a : Addr} {kvs : List (Key × V)} (e : H a = some (.dK kvs)) : TyOf K H (.ref a) (.type "dict")
  | dT {a : Addr} {kvs : List (List Key × V)} (e : H a = some (.dT kvs)) : TyOf K H (.ref a) (.type "dict")
  | ins {a C dx : Addr} {fs : List (Str × V)} (e : H a = some (.ins C dx fs)) (cl : Cls K C) (ha : PySem.W.findIn K (.ref C) "__class__" = some (some (.builtin "object.__class__")))
      (hn : PySem.W.specialIn K (.builtin "object.__class__") "__get__" = some (some (.builtin "getset_descriptor.__get__"))) (htk : PySem.W.takesIn K (.builtin "object.__class__") = some true)
      (hm : PySem.W.mroIn K C (.type "object") = some true) : TyOf K H (.ref a) (.ref C)
/-- isinstance(x, c) for one class c, a built-in or an own one: kitOne's answer -/
theorem isinst_ok {x : V} {u t : Value} (I : Inv X pins σ H s) (rx : RelV x u) (ty : TyOf X.K H x t) (e : PySem.W.kitOne X.K t c = some b) (h : ∀ tk, Q (.bool b) { s with toks := tk }) :
    wpAny (model X.prog X.w) A (call (.builtin "isinstance") [u, c]) Q E s := by
  cases ty with
  | non => cases (show u = Value.none from rx); exact PySem.W.kia_one PySem.W.kitx_none I.kIn True.intro e (fun z => nomatch z) h
  | bl y => cases (show u = Value.bool y from rx); exact PySem.W.kia_one PySem.W.kitx_bool I.kIn True.intro e (fun z => nomatch z) h
  | int i => obtain ⟨t, q⟩ := (show ∃ t, u = Value.int i t from rx); cases q; exact PySem.W.kia_one PySem.W.kitx_int I.kIn True.intro e (fun z => nomatch z) h
  | str y => obtain ⟨t, q⟩ := (show ∃ t, u = Value.str y t from rx); cases q; exact PySem.W.kia_one PySem.W.kitx_str I.kIn True.intro e (fun z => nomatch z) h
  | flt y => obtain ⟨t, q⟩ := (show ∃ t, u = Value.float y t from rx); cases q; exact PySem.W.kia_one PySem.W.kitx_float I.kIn True.intro e (fun z => nomatch z) h
  | @lst a xs ea =>
    cases (show u = Value.ref a from rx)
    obtain ⟨_, _, n, _, h1⟩ := (show ObjOk X.prog X.w H s.heap a (.lst xs) from I.hok a _ ea)
    exact PySem.W.kia_one PySem.W.kitx_list I.kIn ⟨_, h1, rfl⟩ e (fun z => nomatch z) h
  | @frz a ob xs ea =>
    cases (show u = Value.ref a from rx)
    obtain ⟨_, _, _, n, _, h1⟩ := (show ObjOk X.prog X.w H s.heap a (.frz ob (.lst xs)) from I.hok a _ ea)
    exact PySem.W.kia_one PySem.W.kitx_list I.kIn ⟨_, h1, rfl⟩ e (fun z => nomatch z) h
  | @tup a xs ea =>
    cases (show u = Value.ref a from rx)
    obtain ⟨_, _, _, p⟩ := (show ObjOk X.prog X.w H s.heap a (.tup xs) from I.hok a _ ea)
    obtain ⟨o, h1, h2, _⟩ := p
    exact PySem.W.kia_one PySem.W.kitx_tuple I.kIn ⟨o, h1, h2⟩ e (fun z => nomatch z) h
  | @dK a kvs ea =>
    cases (show u = Value.ref a from rx)
    obtain ⟨_, _, vs, _, p⟩ := (show ObjOk X.prog X.w H s.heap a (.dK kvs) from I.hok a _ ea)
    obtain ⟨o, es, ep, h1, h2, _⟩ := p
    exact PySem.W.kia_one PySem.W.kitx_dict I.kIn ⟨o, h1, h2.1⟩ e (fun z => nomatch z) h
  | @dT a kvs ea =>
    cases (show u = Value.ref a from rx)
    obtain ⟨_, _, xs, _, o, es, ep, h1, h2, _⟩ := (show ObjOk X.prog X.w H s.heap a (.dT kvs) from I.hok a _ ea)
    exact PySem.W.kia_one PySem.W.kitx_dict I.kIn ⟨o, h1, h2.1⟩ e (fun z => nomatch z) h
  | @ins a C dx fs ea cl ha hn htk hm =>
    cases (show u = Value.ref a from rx)
    obtain ⟨mA, O, _⟩ := ins_get I.hok ea
    obtain ⟨od, J, _⟩ := O.look
    exact PySem.W.kia_one (PySem.W.kitx_own (cl.get _) cl.hd ha hn htk hm) I.kIn J e (fun z => nomatch z) h
end
end L2

namespace L2
open PySem PySem.Spec PyProof.Rows

/-! ### room -/
structure Room (k : Nat) (A : Around) : Prop where
  hd : A.handled = none
  dp : A.depth + 3 * k + 5 < recursionLimit
  un : A.units + 16 * k + 200 < cLine
theorem Room.mono {j k : Nat} {A : Around} (r : Room k A) (h : j ≤ k) : Room j A := ⟨r.hd, by have := r.dp; omega, by have := r.un; omega⟩
theorem Room.deeper {k : Nat} {A : Around} (r : Room (k + 1) A) (env : Env) : Room k (A.deeper env) :=
  ⟨r.hd, by have := r.dp; show A.depth + 1 + 3 * k + 5 < _; omega, by have := r.un; show A.units + 3 + 16 * k + 200 < _; omega⟩
theorem Room.in1 {k : Nat} {A : Around} (r : Room (k + 1) A) : Room k A.in1 :=
  ⟨r.hd, by have := r.dp; show A.depth + 3 * k + 5 < _; omega, by have := r.un; show A.units + 1 + 16 * k + 200 < _; omega⟩
theorem make_depth {A : Around} {C : Addr} {us : List Value} {kw : List (Str × Value)} : (A.under (.builtin "type.__call__" ⟨.ref C :: us, kw⟩)).depth = A.depth + 1 := by
  first | rfl | simp [Around.under, Code.weight, Code.isCreation, Code.isGuard, Code.isCaller, Code.frames, Code.isFrame, guardIds]
theorem make_units {A : Around} {C : Addr} {us : List Value} {kw : List (Str × Value)} : (A.under (.builtin "type.__call__" ⟨.ref C :: us, kw⟩)).units = A.units + 1 := by
  first | rfl | simp [Around.under, Code.cUnits, Code.frames, Code.isFrame]
theorem Room.make {k : Nat} {A : Around} (r : Room (k + 1) A) (C : Addr) (us : List Value) (kw : List (Str × Value)) : Room k (A.under (.builtin "type.__call__" ⟨.ref C :: us, kw⟩)) :=
  ⟨r.hd, by have := r.dp; rw [make_depth]; omega, by have := r.un; rw [make_units]; omega⟩
theorem Room.depth {k : Nat} {A : Around} (r : Room k A) : A.depth < recursionLimit := by have := r.dp; omega
theorem Room.units {k : Nat} {A : Around} (r : Room k A) : A.units + 64 < cLine := by have := r.un; omega
theorem Room.units0 {k : Nat} {A : Around} (r : Room k A) : A.units < cLine := by have := r.un; omega

/-! ### argument lists and displays -/
def tNil : TA := fun _ H Q => Q [] H
def tCons (ta : TE) (tr : TA) : TA := fun σ H Q => ta σ H fun x H1 => tr σ H1 fun xs H2 => Q (x :: xs) H2
section
variable {X : Cx} {e : Expr} {es : List Expr} {te : TE} {t : TA} {pos : Pos}
theorem pa_nil : PA X [] tNil := fun _ _ _ _ H Q I h => Calls.spliced_nil ⟨[], H, I, .nil, h⟩
theorem pa_cons (ha : PE X e te) (hr : PA X es t) (hs : starEach (e :: es) X.env = (false, eval e X.env) :: starEach es X.env := by rfl) : PA X (e :: es) (tCons te t) := by
  intro pos pins s σ H Q I h
  rw [hs]
  show wpAny _ _ (spliced ((false, eval e X.env) :: backTo pos (starEach es X.env))) _ _ s
  refine Calls.spliced_cons (thn (ha pins s σ H _ I h) fun u s1 ⟨x, H1, I1, r1, q1⟩ => ?_)
  exact thn (hr pos pins s1 σ H1 _ I1 q1) fun us s2 ⟨xs, H2, I2, r2, q2⟩ => ⟨x :: xs, H2, I2, .cons r1 r2, q2⟩

/-- a tuple, a list of written items -/
def tTup (t : TA) : TE := fun σ H Q => t σ H fun xs H1 => xs.length ≤ sizeLine ∧ ∀ p, H1 p = none → Q (.ref p) (upd H1 p (.tup xs))
def tLst (t : TA) : TE := fun σ H Q => t σ H fun xs H1 => xs.length ≤ sizeLine ∧ ∀ p, H1 p = none → Q (.ref p) (upd H1 p (.lst xs))
theorem pe_tup {x1} (h : PA X es t) : PE X (.Tuple es x1 pos) (tTup t) := by
  intro pins s σ H Q I hq
  refine wpAny_Tuple_spliced (thn (h pos pins s σ H _ I hq) fun us s1 ⟨xs, H1, I1, r, z, q⟩ => ⟨by rw [← r.length]; exact z, ?_⟩)
  have hf : H1 s1.heap.objs.size = none := I1.hok.fresh (Nat.le_refl _)
  refine ⟨.ref s1.heap.objs.size, upd H1 s1.heap.objs.size (.tup xs), I1.laid (t' := s1.toks) (fun b u e => Heap.get?_push_of_some _ e) (Nat.le_refl _) ?_, rfl, q _ hf⟩
  exact ⟨z, us, r, ⟨_, Heap.get?_push_size _ rfl, rfl, _, rfl⟩⟩
theorem pe_lst (h : PA X es t) : PE X (.List es pos) (tLst t) := by
  intro pins s σ H Q I hq
  refine wpAny_List_spliced (thn (h pos pins s σ H _ I hq) fun us s1 ⟨xs, H1, I1, r, z, q⟩ => ⟨by rw [← r.length]; exact z, ?_⟩)
  have hf : H1 s1.heap.objs.size = none := I1.hok.fresh (Nat.le_refl _)
  refine ⟨.ref s1.heap.objs.size, upd H1 s1.heap.objs.size (.lst xs), I1.laid (t' := s1.toks) (fun b u e => Heap.get?_push_of_some _ e) (Nat.le_refl _) ?_, rfl, q _ hf⟩
  exact ⟨z, us, 0, r, Heap.get?_push_size _ rfl⟩
end

/-! ### what a def promises -/
/-- a def's promise: the bound arguments in the parameters' order, the heap, the wanted end, the wanted exception -/
abbrev Sp := List V → Hp → VK → XK → Prop
/-- how an exception lies behind a call (file 08 gives it): the callers' frames, abstract heap and state ahead of the call, the wish, the exception, the state -/
abbrev CXT := List Env → Hp → Shared → XK → Value → Shared → Prop

/-- the state at a call -/
structure Env0 (P : Program) (w : World) (K : PySem.W.Frag) (mg : Str → Option Value) (base : Heap) (A : Around) (outer : List Env) (s : Shared) (H : Hp) : Prop where
  frames : A.frames = some outer
  mod : Mod K mg base
  bs : ∀ b o, base.get? b = some o → s.heap.get? b = some o ∧ H b = none
  bsz : base.objs.size ≤ s.heap.objs.size
  funs : s.heap.FunFrames base outer
  frf : ∀ b ∈ frs outer, H b = none
  hok : HOk P w H s.heap
  bare : AllBare s.gens
/-- a call's end -/
def CE (outer : List Env) (P : Program) (w : World) (H : Hp) (s : Shared) (Q : VK) (u : Value) (s' : Shared) : Prop :=
  ∃ v H', s'.os = s.os ∧ AllBare s'.gens ∧ Un (frs outer) [] H H' s.heap s'.heap ∧ HOk P w H' s'.heap ∧ RelV v u ∧ Q v H'
def CR (CX : CXT) (outer : List Env) (P : Program) (w : World) (H : Hp) (s : Shared) (Q : VK) (E : XK) (r : Result) (s' : Shared) : Prop :=
  match r with
  | .ok (.ret u) => CE outer P w H s Q u s'
  | .ok _ => False
  | .error e => CX outer H s E e s'
structure FnOk (P : Program) (w : World) (K : PySem.W.Frag) (mg : Str → Option Value) (base : Heap) (CX : CXT) (k : Nat) (f : Addr) (fd : FuncData) (ps : List Str) (sp : Sp) : Prop where
  len : ∀ vs H Q E, sp vs H Q E → vs.length = ps.length
  run : ∀ (A : Around) (outer : List Env) (s : Shared) (H : Hp) (args : Args) (us : List Value) (vs : List V) (Q : VK) (E : XK), Room k A → Env0 P w K mg base A outer s H → BindsTo s fd args (ps.zip us) → Vals vs us → sp vs H Q E →
    codeAny (model P w) A (.call (.ref f) args) (CR CX outer P w H s Q E) s
theorem FnOk.mono {P : Program} {w : World} {K : PySem.W.Frag} {mg : Str → Option Value} {base : Heap} {CX : CXT} {j k : Nat} {f : Addr} {fd : FuncData} {ps : List Str} {sp : Sp} (F : FnOk P w K mg base CX j f fd ps sp) (h : j ≤ k) :
    FnOk P w K mg base CX k f fd ps sp := ⟨F.len, fun A outer s H args us vs Q E hr => F.run A outer s H args us vs Q E (hr.mono h)⟩
/-- a weaker promise -/
theorem FnOk.imp {P : Program} {w : World} {K : PySem.W.Frag} {mg : Str → Option Value} {base : Heap} {CX : CXT} {k : Nat} {f : Addr} {fd : FuncData} {ps : List Str} {sp sp' : Sp} (F : FnOk P w K mg base CX k f fd ps sp)
    (h : ∀ vs H Q E, sp' vs H Q E → sp vs H Q E) : FnOk P w K mg base CX k f fd ps sp' :=
  ⟨fun vs H Q E q => F.len vs H Q E (h _ _ _ _ q), fun A outer s H args us vs Q E hr he hb hv hs => F.run A outer s H args us vs Q E hr he hb hv (h _ _ _ _ hs)⟩

theorem Env0.make {P : Program} {w : World} {K : PySem.W.Frag} {mg : Str → Option Value} {base : Heap} {A : Around} {outer : List Env} {s : Shared} {H : Hp} (e : Env0 P w K mg base A outer s H) (C : Addr) (us : List Value) (kw : List (Str × Value)) :
    Env0 P w K mg base (A.under (.builtin "type.__call__" ⟨.ref C :: us, kw⟩)) outer s H := ⟨by first | exact e.frames | (simpa [Around.under, Code.envs, Code.isFrame, pushEnvs] using e.frames), e.mod, e.bs, e.bsz, e.funs, e.frf, e.hok, e.bare⟩
theorem Env0.in1 {P : Program} {w : World} {K : PySem.W.Frag} {mg : Str → Option Value} {base : Heap} {A : Around} {outer : List Env} {s : Shared} {H : Hp} (e : Env0 P w K mg base A outer s H) :
    Env0 P w K mg base A.in1 outer s H := ⟨e.frames, e.mod, e.bs, e.bsz, e.funs, e.frf, e.hok, e.bare⟩

section
variable {X : Cx} {pins : List (Addr × Obj)} {σ : St} {H : Hp} {s s' : Shared}
/-- from a body: what a callee wants -/
theorem Inv.env0 (I : Inv X pins σ H s) : Env0 X.prog X.w X.K X.mg X.base X.A X.stack s H :=
  ⟨I.ok.frames, I.ok.mod, I.bs, Nat.le_trans I.ok.bsz I.sz, I.stack, I.stkFree, I.hok, I.bare⟩
/-- behind a call -/
theorem Inv.after {Q : VK} {u : Value} (I : Inv X pins σ H s) (h : CE X.stack X.prog X.w H s Q u s') : EP X pins σ Q u s' := by
  obtain ⟨v, H', os, bare, un, hok, r, q⟩ := h
  obtain ⟨hh, g, d, t, os'⟩ := s'
  obtain rfl : os' = s.os := os
  exact ⟨v, H', I.call (h' := hh) (g' := g) (d' := d) (t' := t) (ch := []) un hok bare (fun b z => absurd z (by simp)), r, q⟩
end

/-! ### calls -/
/-- f(..): the written arguments, then the defaults dvs; E: what is wanted of an exception -/
def tCall (sp : Sp) (dvs : List V) (E : XK) (t : TA) : TE := fun σ H Q => t σ H fun vs H1 => sp (vs ++ dvs) H1 Q E
/-- o.m(..) of an instance of the class at C -/
def tMeth (C : Addr) (m : Str) (sp : Sp) (dvs : List V) (E : XK) (ta : TE) (t : TA) : TE := fun σ H Q => ta σ H fun x H1 => ∃ a dx fs, x = .ref a ∧ H1 a = some (.ins C dx fs) ∧ fs.lookup m = none ∧
  t σ H1 fun vs H2 => sp (x :: (vs ++ dvs)) H2 Q E
/-- C(..): a new instance and its dict, then __init__ -/
def tMake (C : Addr) (sp : Sp) (dvs : List V) (E : XK) (t : TA) : TE := fun σ H Q => t σ H fun vs H1 => ∀ x dx, H1 x = none → H1 dx = none → dx ≠ x →
  sp (.ref x :: (vs ++ dvs)) (upd (upd H1 dx (.own x)) x (.ins C dx [])) (fun v H2 => v = .non ∧ Q (.ref x) H2) E

/-- how the parameters are bound: us the positional arguments, kw the keywords' values by name, ds the defaults that fill up -/
def Binds (K : PySem.W.Frag) (fd : FuncData) (ps : List Str) (ds : List Value) : Prop :=
  ∀ (s : Shared) (us : List Value), K.In s.heap → (us ++ ds).length = ps.length → BindsTo s fd ⟨us, []⟩ (ps.zip (us ++ ds))
/-- every parameter is given -/
theorem Binds.all {K : PySem.W.Frag} {fd : FuncData} {ps : List Str} (h : ∀ us : List Value, us.length = ps.length → bindArgs fd ⟨us, []⟩ = pure (ps.zip us)) : Binds K fd ps [] := fun s us _ hl => by
  rw [List.append_nil] at hl ⊢
  exact .of_eq (h us hl)

/-- an exception of a callee reaches what this body wants of exceptions -/
def Passes (CX : CXT) (X : Cx) (E : XK) : Prop := ∀ (pins : List (Addr × Obj)) (σ : St) (H : Hp) (s : Shared) (e : Value) (s' : Shared), Inv X pins σ H s → CX X.stack H s E e s' → X.xe e s'

section
variable {X : Cx} {CX : CXT} {k : Nat} {f C : Addr} {fd : FuncData} {ps : List Str} {sp : Sp} {dvs : List V} {ds : List Value} {E : XK} {x m : Str} {p pos apos : Pos} {e o : Expr} {es : List Expr} {ta : TE} {t : TA}

/-- the callee runs -/
theorem run_fn {pins : List (Addr × Obj)} {σ : St} {H : Hp} {s : Shared} {Q : VK} {us : List Value} {vs : List V} (F : FnOk X.prog X.w X.K X.mg X.base CX k f fd ps sp) (hr : Room k X.A) (hb : Binds X.K fd ps ds) (hd : Vals dvs ds) (hx : Passes CX X E)
    (I : Inv X pins σ H s) (r : Vals vs us) (h : sp (vs ++ dvs) H Q E) : wpAny (model X.prog X.w) X.A (call (.ref f) us) (EP X pins σ Q) X.xe s := by
  have r2 : Vals (vs ++ dvs) (us ++ ds) := r.append hd
  have hl : (us ++ ds).length = ps.length := by rw [← r2.length]; exact F.len _ _ _ _ h
  refine wpAny_call (codeAny_mono (F.run X.A X.stack s H ⟨us, []⟩ (us ++ ds) (vs ++ dvs) Q E hr I.env0 (hb s us I.kIn hl) r2 h) fun r s' hq => ?_)
  cases r with
  | error e => exact hx pins σ H s e s' I hq
  | ok fl =>
    cases fl with
    | ret u => exact I.after hq
    | next => exact False.elim hq
    | brk => exact False.elim hq
    | cont => exact False.elim hq

theorem pe_call (F : FnOk X.prog X.w X.K X.mg X.base CX k f fd ps sp) (hr : Room k X.A) (hg : Gl X x) (hm : X.mg x = some (.ref f)) (hk : PySem.W.keepIn X.K (.ref f) = true) (hb : Binds X.K fd ps ds) (hd : Vals dvs ds) (hx : Passes CX X E)
    (ha : PA X (e :: es) t) (hdb : (x == ("__debug__" : Str)) = false := by decide) (he : starEach (e :: es) X.env = (false, eval e X.env) :: starEach es X.env := by rfl) (hpl : (backTo pos (starEach es X.env)).any (·.1) = false := by rfl) :
    PE X (.Call (.Name x p) (e :: es) [] pos) (tCall sp dvs E t) := by
  intro pins s σ H Q I h
  refine wpAny_Call_Name_kw (ld_glob I hg hm ?_ hdb)
  refine PySem.W.callWith_K (h₀ := X.base) I.ok.mod.kin hk (thn (ha pos pins s σ H _ I h) fun us s1 ⟨vs, H1, I1, r, q⟩ => ⟨I1.kIn, ?_⟩) he hpl
  exact run_fn F hr hb hd hx I1 r q
theorem pe_call0 (F : FnOk X.prog X.w X.K X.mg X.base CX k f fd ps sp) (hr : Room k X.A) (hg : Gl X x) (hm : X.mg x = some (.ref f)) (hk : PySem.W.keepIn X.K (.ref f) = true) (hb : Binds X.K fd ps ds) (hd : Vals dvs ds) (hx : Passes CX X E)
    (hdb : (x == ("__debug__" : Str)) = false := by decide) : PE X (.Call (.Name x p) [] [] pos) (tCall sp dvs E tNil) := by
  intro pins s σ H Q I h
  refine wpAny_Call_Name_kw (ld_glob I hg hm ?_ hdb)
  exact PySem.W.callWith_K0 I.kIn hk (run_fn (us := []) F hr hb hd hx I .nil h)

/-- o.m(e, ..) -/
theorem pe_meth {pl : Sem Bool} (he : PE X o ta) (c : Cls X.K C) (hm : Meth X.K C m f) (F : FnOk X.prog X.w X.K X.mg X.base CX k f fd ps sp) (hr : Room k X.A) (hb : Binds X.K fd ps ds) (hd : Vals dvs ds) (hx : Passes CX X E) (ha : PA X (e :: es) t)
    (hst : starEach (e :: es) X.env = (false, eval e X.env) :: starEach es X.env := by rfl) (hpl : (backTo pos (starEach es X.env)).any (·.1) = false := by rfl)
    (ht : eval (.Call (.Attribute o m apos) (e :: es) [] pos) X.env = (do
      let ov ← eval o X.env
      standAt apos.atName
      let (f, first) ← holding [ov] (getMethod ov m pl)
      callWith pos f first (backTo pos (starEach (e :: es) X.env)) (backToKw pos (keywordEach [] X.env))) := by rfl) :
    PE X (.Call (.Attribute o m apos) (e :: es) [] pos) (tMeth C m sp dvs E ta t) := by
  intro pins s σ H Q I h
  refine PySem.W.methodCall_KW (pl := pl) (thn (he pins s σ H _ I h) fun u s1 ⟨x, H1, I1, rx, a, dx, fs, ex, ea, l, q⟩ => ?_) ht
  subst ex
  obtain rfl : u = Value.ref a := rx
  refine getmeth_ok I1 ea c hm l ?_
  refine PySem.W.callWith_K (first := [.ref a]) (h₀ := X.base) I.ok.mod.kin hm.kp (thn (ha pos pins s1 σ H1 _ I1 q) fun us s2 ⟨vs, H2, I2, r, q2⟩ => ⟨I2.kIn, ?_⟩) hst hpl
  exact run_fn (us := .ref a :: us) (vs := .ref a :: vs) F hr hb hd hx I2 (.cons rfl r) q2
/-- o.m() -/
theorem pe_meth0 {pl : Sem Bool} (he : PE X o ta) (c : Cls X.K C) (hm : Meth X.K C m f) (F : FnOk X.prog X.w X.K X.mg X.base CX k f fd ps sp) (hr : Room k X.A) (hb : Binds X.K fd ps ds) (hd : Vals dvs ds) (hx : Passes CX X E)
    (ht : eval (.Call (.Attribute o m apos) [] [] pos) X.env = (do
      let ov ← eval o X.env
      standAt apos.atName
      let (f, first) ← holding [ov] (getMethod ov m pl)
      callWith pos f first (backTo pos (starEach [] X.env)) (backToKw pos (keywordEach [] X.env))) := by rfl) :
    PE X (.Call (.Attribute o m apos) [] [] pos) (tMeth C m sp dvs E ta tNil) := by
  intro pins s σ H Q I h
  refine PySem.W.methodCall_KW (pl := pl) (thn (he pins s σ H _ I h) fun u s1 ⟨x, H1, I1, rx, a, dx, fs, ex, ea, l, q⟩ => ?_) ht
  subst ex
  obtain rfl : u = Value.ref a := rx
  refine getmeth_ok I1 ea c hm l ?_
  exact PySem.W.callWith_K0 (first := [.ref a]) I1.kIn hm.kp (run_fn (us := [.ref a]) (vs := [.ref a]) F hr hb hd hx I1 (.cons rfl .nil) q)

/-- what a class must have to be made -/
structure Mk (K : PySem.W.Frag) (C f : Addr) : Prop where
  makes : PySem.W.makesIn K C = true
  init : PySem.W.findIn K (.ref C) "__init__" = some (some (.ref f))
  fn : PySem.W.isFn K (.ref f) = true
  kp : PySem.W.keepIn K (.ref C) = true

theorem run_make {pins : List (Addr × Obj)} {σ : St} {H : Hp} {s : Shared} {Q : VK} {us : List Value} {vs : List V} (M : Mk X.K C f) (F : FnOk X.prog X.w X.K X.mg X.base CX k f fd ps sp) (hr : Room (k + 1) X.A) (hb : Binds X.K fd ps ds) (hd : Vals dvs ds)
    (hx : Passes CX X E) (I : Inv X pins σ H s) (r : Vals vs us)
    (h : ∀ x dx, H x = none → H dx = none → dx ≠ x → sp (.ref x :: (vs ++ dvs)) (upd (upd H dx (.own x)) x (.ins C dx [])) (fun v H2 => v = .non ∧ Q (.ref x) H2) E) :
    wpAny (model X.prog X.w) X.A (call (.ref C) us) (EP X pins σ Q) X.xe s := by
  have hq := h (s.heap.objs.size + 1) s.heap.objs.size (I.hok.fresh (Nat.le_succ _)) (I.hok.fresh (Nat.le_refl _)) (Nat.ne_of_lt (Nat.lt_succ_self _))
  have I2 := Inv.made (C := C) I
  have r2 : Vals (V.ref (s.heap.objs.size + 1) :: (vs ++ dvs)) (Value.ref (s.heap.objs.size + 1) :: (us ++ ds)) := .cons rfl (r.append hd)
  have hl : (Value.ref (s.heap.objs.size + 1) :: us ++ ds).length = ps.length := by
    have e := r2.length
    rw [F.len _ _ _ _ hq] at e
    exact e.symm
  refine wpAny_call (make_map (f := f) I.kIn M.makes M.init (beq_iff_eq.mp M.fn) (codeAny_mono (F.run _ X.stack _ _ ⟨Value.ref (s.heap.objs.size + 1) :: us, []⟩ (Value.ref (s.heap.objs.size + 1) :: (us ++ ds)) _ _ E (hr.make C us [])
    (I2.env0.make C us []) (hb _ (Value.ref (s.heap.objs.size + 1) :: us) I2.kIn hl) r2 hq) fun r s' hq' => ?_))
  cases r with
  | error e => exact hx pins σ _ _ e s' I2 hq'
  | ok fl =>
    cases fl with
    | ret u =>
      obtain ⟨v, H', I3, rv, ev, q3⟩ := I2.after hq'
      subst ev
      exact ⟨rv, ⟨V.ref (s.heap.objs.size + 1), H', I3, rfl, q3⟩⟩
    | next => exact False.elim hq'
    | brk => exact False.elim hq'
    | cont => exact False.elim hq'
theorem pe_make (M : Mk X.K C f) (F : FnOk X.prog X.w X.K X.mg X.base CX k f fd ps sp) (hr : Room (k + 1) X.A) (hg : Gl X x) (hm : X.mg x = some (.ref C)) (hb : Binds X.K fd ps ds) (hd : Vals dvs ds) (hx : Passes CX X E)
    (ha : PA X (e :: es) t) (hdb : (x == ("__debug__" : Str)) = false := by decide) (he : starEach (e :: es) X.env = (false, eval e X.env) :: starEach es X.env := by rfl) (hpl : (backTo pos (starEach es X.env)).any (·.1) = false := by rfl) :
    PE X (.Call (.Name x p) (e :: es) [] pos) (tMake C sp dvs E t) := by
  intro pins s σ H Q I h
  refine wpAny_Call_Name_kw (ld_glob I hg hm ?_ hdb)
  refine PySem.W.callWith_K (h₀ := X.base) I.ok.mod.kin M.kp (thn (ha pos pins s σ H _ I h) fun us s1 ⟨vs, H1, I1, r, q⟩ => ⟨I1.kIn, ?_⟩) he hpl
  exact run_make M F hr hb hd hx I1 r q
theorem pe_make0 (M : Mk X.K C f) (F : FnOk X.prog X.w X.K X.mg X.base CX k f fd ps sp) (hr : Room (k + 1) X.A) (hg : Gl X x) (hm : X.mg x = some (.ref C)) (hb : Binds X.K fd ps ds) (hd : Vals dvs ds) (hx : Passes CX X E)
    (hdb : (x == ("__debug__" : Str)) = false := by decide) : PE X (.Call (.Name x p) [] [] pos) (tMake C sp dvs E tNil) := by
  intro pins s σ H Q I h
  refine wpAny_Call_Name_kw (ld_glob I hg hm ?_ hdb)
  exact PySem.W.callWith_K0 I.kIn M.kp (run_make (us := []) M F hr hb hd hx I .nil h)
end

/-! ### keywords -/
/-- the values of the keywords, from the left -/
def PK (X : Cx) (kws : List Keyword) (t : TA) : Prop :=
  ∀ (pos : Pos) (pins : List (Addr × Obj)) (s : Shared) (σ : St) (H : Hp) (Q : List V → Hp → Prop), Inv X pins σ H s → t σ H Q → wpAny (model X.prog X.w) X.A (evalAll ((backToKw pos (keywordEach kws X.env)).map (·.2))) (AP X pins σ Q) X.xe s
section
variable {X : Cx} {CX : CXT} {k : Nat} {f C : Addr} {fd : FuncData} {ps ks : List Str} {sp : Sp} {E : XK} {x m : Str} {p pos apos kpos : Pos} {e o : Expr} {es : List Expr} {kws : List Keyword} {te ta : TE} {t tk : TA} {nm : Option Str}
theorem pk_nil : PK X [] tNil := fun _ _ _ _ H Q I h => wpAny_evalAll_nil ⟨[], H, I, .nil, h⟩
theorem pk_cons (ha : PE X e te) (hr : PK X kws t) : PK X (⟨nm, e, kpos⟩ :: kws) (tCons te t) := by
  intro pos pins s σ H Q I h
  show wpAny _ _ (evalAll ((do let v ← eval e X.env; standAt pos; pure v) :: (backToKw pos (keywordEach kws X.env)).map (·.2))) _ _ s
  refine wpAny_evalAll_cons (wpAny_bind (thn (ha pins s σ H _ I h) fun u s1 ⟨x, H1, I1, r1, q1⟩ => wpAny_bind (wpAny_standAt (wpAny_pure ?_))))
  exact thn (hr pos pins s1 σ H1 _ I1 q1) fun us s2 ⟨xs, H2, I2, r2, q2⟩ => ⟨x :: xs, H2, I2, .cons r1 r2, q2⟩

/-- how a call with keywords binds: g puts the positional values us and the keywords' values ws (names ks) in the parameters' order, defaults among them -/
structure KBinds (K : PySem.W.Frag) (fd : FuncData) (ps ks : List Str) (g : List Value → List Value → List Value) (gV : List V → List V → List V) : Prop where
  to : ∀ (s : Shared) (us ws : List Value), K.In s.heap → (g us ws).length = ps.length → BindsTo s fd ⟨us, ks.zip ws⟩ (ps.zip (g us ws))
  rel : ∀ {vs : List V} {us : List Value} {zs : List V} {ws : List Value}, Vals vs us → Vals zs ws → Vals (gV vs zs) (g us ws)
def tCallK (sp : Sp) (gV : List V → List V → List V) (E : XK) (t tk : TA) : TE := fun σ H Q => t σ H fun vs H1 => tk σ H1 fun zs H2 => sp (gV vs zs) H2 Q E
variable {g : List Value → List Value → List Value} {gV : List V → List V → List V}
theorem run_fnk {pins : List (Addr × Obj)} {σ : St} {H : Hp} {s : Shared} {Q : VK} {us ws : List Value} {vs zs : List V} (F : FnOk X.prog X.w X.K X.mg X.base CX k f fd ps sp) (hr : Room k X.A) (hb : KBinds X.K fd ps ks g gV) (hx : Passes CX X E)
    (I : Inv X pins σ H s) (r : Vals vs us) (rz : Vals zs ws) (h : sp (gV vs zs) H Q E) : wpAny (model X.prog X.w) X.A (call (.ref f) us (ks.zip ws)) (EP X pins σ Q) X.xe s := by
  have r2 := hb.rel r rz
  have hl : (g us ws).length = ps.length := by rw [← r2.length]; exact F.len _ _ _ _ h
  refine wpAny_call (codeAny_mono (F.run X.A X.stack s H ⟨us, ks.zip ws⟩ (g us ws) (gV vs zs) Q E hr I.env0 (hb.to s us ws I.kIn hl) r2 h) fun r s' hq => ?_)
  cases r with
  | error e => exact hx pins σ H s e s' I hq
  | ok fl =>
    cases fl with
    | ret u => exact I.after hq
    | next => exact False.elim hq
    | brk => exact False.elim hq
    | cont => exact False.elim hq
/-- f(e, .., k = v, ..) -/
theorem pe_callK (F : FnOk X.prog X.w X.K X.mg X.base CX k f fd ps sp) (hr : Room k X.A) (hg : Gl X x) (hm : X.mg x = some (.ref f)) (hk : PySem.W.keepIn X.K (.ref f) = true) (hb : KBinds X.K fd ps ks g gV) (hx : Passes CX X E)
    (ha : PA X (e :: es) t) (hkw : PK X kws tk) (hall : (backToKw pos (keywordEach kws X.env)).all (·.1.isSome) = true := by rfl) (hks : (backToKw pos (keywordEach kws X.env)).filterMap (·.1) = ks := by rfl)
    (hdb : (x == ("__debug__" : Str)) = false := by decide) (he : starEach (e :: es) X.env = (false, eval e X.env) :: starEach es X.env := by rfl)
    (hpl : ((backTo pos (starEach (e :: es) X.env)).any (·.1) || (backToKw pos (keywordEach kws X.env)).any (·.1.isNone)) = false := by rfl) :
    PE X (.Call (.Name x p) (e :: es) kws pos) (tCallK sp gV E t tk) := by
  intro pins s σ H Q I h
  refine wpAny_Call_Name_kw (ld_glob I hg hm ?_ hdb)
  refine PySem.W.callWith_KW (h₀ := X.base) I.ok.mod.kin hk hall (thn (ha pos pins s σ H _ I h) fun us s1 ⟨vs, H1, I1, r, q⟩ => ?_) hpl he
  refine thn (hkw pos pins s1 σ H1 _ I1 q) fun ws s2 ⟨zs, H2, I2, rz, q2⟩ => ⟨I2.kIn, ?_⟩
  rw [hks]
  exact run_fnk F hr hb hx I2 r rz q2
end

/-! ### a def's body keeps its promise -/
/-- names: the parameters first -/
structure FnScope (N P : List Str) (sc : Scope) : Prop where
  kind : sc.kind = .function
  co : sc.isCoroutine = false
  gen : sc.isGenerator = false
  nd : N.Nodup
  pre : N.take P.length = P
  par : ∀ x ∈ P, sc.names.lookup x = some .local ∨ sc.names.lookup x = some .cell
  nofree : ∀ y ∈ sc.names, y.2 ≠ .free

theorem bindL_out {kindOf : Str → Option NameKind} {x : Str} : ∀ {binds : List (Str × Value)} {m : Str → Option Value}, (∀ v, (x, v) ∉ binds) → bindL kindOf binds m x = m x
  | [], _, _ => rfl
  | (n, v) :: r, m, h => by
    unfold bindL
    rw [bindL_out fun w hw => h w (List.mem_cons_of_mem _ hw)]
    split
    · have : x ≠ n := by rintro rfl; exact h v List.mem_cons_self
      simp [this]
    · rfl
theorem bindC_out {kindOf : Str → Option NameKind} {x : Str} : ∀ {binds : List (Str × Value)} {m : Str → Option Value}, (∀ v, (x, v) ∉ binds) → bindC kindOf binds m x = m x
  | [], _, _ => rfl
  | (n, v) :: r, m, h => by
    unfold bindC
    rw [bindC_out fun w hw => h w (List.mem_cons_of_mem _ hw)]
    split
    · rfl
    · have : x ≠ n := by rintro rfl; exact h v List.mem_cons_self
      simp [this]
theorem bindL_get {kindOf : Str → Option NameKind} {x : Str} {v : Value} : ∀ {P : List Str} {vs : List Value} {i : Nat} {m : Str → Option Value}, P.Nodup → P[i]? = some x → vs[i]? = some v → kindOf x = some .local →
    bindL kindOf (P.zip vs) m x = some v
  | [], _, _, _, _, h, _, _ => by simp at h
  | _ :: _, [], _, _, _, _, h, _ => by simp at h
  | p :: P, w :: vs, 0, m, nd, h1, h2, hk => by
    simp at h1 h2; subst h1; subst h2
    show bindL kindOf ((p, w) :: P.zip vs) m p = _
    unfold bindL
    rw [bindL_out fun v hv => (List.nodup_cons.mp nd).1 (List.of_mem_zip hv).1, if_pos hk]
    simp
  | p :: P, w :: vs, i + 1, m, nd, h1, h2, hk => by
    show bindL kindOf ((p, w) :: P.zip vs) m x = _
    unfold bindL
    exact bindL_get (i := i) (List.nodup_cons.mp nd).2 (by simpa using h1) (by simpa using h2) hk
theorem bindC_get {kindOf : Str → Option NameKind} {x : Str} {v : Value} : ∀ {P : List Str} {vs : List Value} {i : Nat} {m : Str → Option Value}, P.Nodup → P[i]? = some x → vs[i]? = some v → kindOf x ≠ some .local →
    bindC kindOf (P.zip vs) m x = some v
  | [], _, _, _, _, h, _, _ => by simp at h
  | _ :: _, [], _, _, _, _, h, _ => by simp at h
  | p :: P, w :: vs, 0, m, nd, h1, h2, hk => by
    simp at h1 h2; subst h1; subst h2
    show bindC kindOf ((p, w) :: P.zip vs) m p = _
    unfold bindC
    rw [bindC_out fun v hv => (List.nodup_cons.mp nd).1 (List.of_mem_zip hv).1, if_neg hk]
    simp
  | p :: P, w :: vs, i + 1, m, nd, h1, h2, hk => by
    show bindC kindOf ((p, w) :: P.zip vs) m x = _
    unfold bindC
    exact bindC_get (i := i) (List.nodup_cons.mp nd).2 (by simpa using h1) (by simpa using h2) hk

/-- the names' values at the entry -/
def start (N : List Str) (vs : List V) : St := vs.map some ++ List.replicate (N.length - vs.length) none

/-- the context of a def's body, at its entry; an exception leaves the frame, then lies as CX says -/
def cxOf (CX : CXT) (P : Program) (w : World) (K : PySem.W.Frag) (mg : Str → Option Value) (base : Heap) (N : List Str) (qual : Str) (scope : Scope) (f : Addr) (cd : Value) (A : Around) (outer : List Env) (s : Shared) (H : Hp) (E : XK) : Cx where
  prog := P
  w := w
  K := K
  mg := mg
  base := base
  A := A.deeper (envOfC qual scope s.heap.objs.size f cd)
  N := N
  s₀ := s
  H₀ := H
  env := envOfC qual scope s.heap.objs.size f cd
  outer := outer
  stack := envOfC qual scope s.heap.objs.size f cd :: outer
  ex := []
  calm := true
  fn := fun _ => true
  pn := []
  xe := fun e s' => wpAny (model P w) (A.deeper (envOfC qual scope s.heap.objs.size f cd)) (leaving (envOfC qual scope s.heap.objs.size f cd) e) (fun _ s'' => CX outer H s E e s'') (fun e' s'' => CX outer H s E e' s'') s'

theorem cell_has {sc : Scope} {n : Nat} {x : Str} (h : sc.names.lookup x = some .cell) : ∃ c, (cellsFrom n sc.names []).lookup x = some c := by
  have q := PySem.W.cellsFrom_some sc.names n [] (.inl h)
  exact Option.isSome_iff_exists.mp q

theorem inv_start {CX : CXT} {P : Program} {w : World} {K : PySem.W.Frag} {mg : Str → Option Value} {base : Heap} {N ps : List Str} {qual : Str} {scope : Scope} {f : Addr} {cd : Value} {A : Around} {outer : List Env} {s s1 : Shared} {H : Hp} {E : XK} {us : List Value} {vs : List V}
    (S : FnScope N ps scope) (hd : A.handled = none) (e0 : Env0 P w K mg base A outer s H) (hl : vs.length = ps.length) (r : Vals vs us)
    (x : InCallC s s.heap.objs.size (bindL (envOfC qual scope s.heap.objs.size f cd).kindOf (ps.zip us) fun _ => none) (cellsFrom (s.heap.objs.size + 1) scope.names []) (bindC (envOfC qual scope s.heap.objs.size f cd).kindOf (ps.zip us) fun _ => none) s1) :
    Inv (cxOf CX P w K mg base N qual scope f cd A outer s H E) [] (start N vs) H s1 := by
  have hpl : ps.length ≤ N.length := by have := congrArg List.length S.pre; rw [List.length_take] at this; omega
  obtain ⟨h1, tk, rfl, hk⟩ := x.done
  have noA : ∀ b : Addr, b ∉ (cxOf CX P w K mg base N qual scope f cd A outer s H E).ex := fun b z => absurd (show b ∈ ([] : List Addr) from z) (by simp)
  refine ⟨⟨e0.mod, S.kind, rfl, rfl, Nat.le_refl _, fun y z c h1 h2 => ?_, fun y hy => ?_, fun y c _ h => ?_, fun _ => hd, Around.frames_deeper e0.frames, .inr ⟨rfl, rfl⟩, fun b z => absurd z (noA b), e0.bs, e0.bsz, fun b _ _ => noA b, fun b z => absurd z (noA b), e0.funs, e0.frf⟩,
    rfl, e0.bare, Un.kept hk, ⟨_, x.toInCall.ns, fun i y v h1 h2 h3 => ?_⟩, fun y c h => ⟨_, x.cell y c h⟩, e0.hok.fresh (Nat.le_refl _), fun y c h => ?_, fun p hp => absurd (show p ∈ ([] : List (Addr × Obj)) from hp) (by simp), e0.hok.kept hk, ?_⟩
  · exact name_of_addr x.apart (PySem.mem_of_lookup h1) (PySem.mem_of_lookup h2)
  · have hy : scope.names.lookup y = some .cell ∨ scope.names.lookup y = some .free := hy
    rcases hy with hy | hy
    · exact cell_has hy
    · exact absurd rfl (S.nofree _ (PySem.mem_of_lookup hy))
  · exact Nat.le_of_lt (x.above y c (PySem.mem_of_lookup h))
  · have hi : i < vs.length := by
      unfold start at h2
      by_cases hi : i < vs.length
      · exact hi
      · rw [List.getElem?_append_right (by simpa using hi)] at h2
        rw [List.getElem?_replicate] at h2
        split at h2 <;> cases h2
    have ha : vs[i]? = some v := by
      unfold start at h2
      rw [List.getElem?_append_left (by simpa using hi), List.getElem?_map] at h2
      cases e : vs[i]? with
      | none => rw [e] at h2; cases h2
      | some a => rw [e] at h2; cases h2; rfl
    obtain ⟨u, hu, rv⟩ := r.get ha
    have hp : ps[i]? = some y := by
      rw [← S.pre, List.getElem?_take_of_lt (by omega)]; exact h1
    have ndP : ps.Nodup := by rw [← S.pre]; exact S.nd.sublist (List.take_sublist _ _)
    refine ⟨u, rv, ?_⟩
    rcases S.par y (List.mem_of_getElem? hp) with k | k
    · exact .inl ⟨k, bindL_get ndP hp hu k⟩
    · obtain ⟨c, e⟩ := cell_has (n := s.heap.objs.size + 1) k
      refine .inr ⟨.inl k, c, e, ?_⟩
      have q := x.cell y c e
      rw [bindC_get ndP hp hu (by show scope.names.lookup y ≠ _; rw [k]; decide)] at q
      exact q
  · exact e0.hok.fresh (Nat.le_of_lt (x.above y c (PySem.mem_of_lookup h)))
  · unfold start
    show _ = N.length
    rw [List.length_append, List.length_map, List.length_replicate]
    omega

/-- THE RULE: a def (or a method) of the text, by its body. The body's reading t is chosen for each entry; it is run at the parameters' values -/
theorem fn_of {CX : CXT} {P : Program} {w : World} {K : PySem.W.Frag} {mg : Str → Option Value} {base : Heap} {k : Nat} {f : Addr} {name qual : Str} {params : Arguments} {body : List Stmt} {scope : Scope} {dV kV doc pm cdv ct oc : Value} {an od : Option Addr}
    {osl : Array (Option Value)} {N ps : List Str} {sp : Sp} (lk : K.lookup f = some ⟨oc, od, .func (PySem.W.fnOf name qual params body scope dV kV doc pm an cdv ct), osl⟩) (hcd : PySem.W.codeIn K cdv qual = true) (S : FnScope N ps scope)
    (len : ∀ vs H Q E, sp vs H Q E → vs.length = ps.length)
    (hbody : ∀ (A : Around) (outer : List Env) (s : Shared) (H : Hp) (vs : List V) (Q : VK) (E : XK), Room k (A.deeper (envOfC qual scope s.heap.objs.size f cdv)) → sp vs H Q E →
      ∃ t, PSs (cxOf CX P w K mg base N qual scope f cdv A outer s H E) body t ∧ t { nx := fun _ H' => Q .non H', rt := Q } (start N vs) H) :
    FnOk P w K mg base CX (k + 1) f (PySem.W.fnOf name qual params body scope dV kV doc pm an cdv ct) ps sp := by
  refine ⟨len, fun A outer s H args us vs Q E hr e0 hb r hsp => ?_⟩
  have hl := len _ _ _ _ hsp
  have KX : K.In s.heap := e0.mod.kin.keeps fun b o e => (e0.bs b o e).1
  have lim : s.heap.NoLimit := e0.mod.nolimit.keeps fun b o e => (e0.bs b o e).1
  have hkind : ∀ y ∈ ps.zip us, scope.names.lookup y.1 = some .local ∨ (scope.names.lookup y.1 = some .cell ∧ ((cellsFrom (s.heap.objs.size + 1) scope.names []).lookup y.1).isSome = true) := fun ⟨n, v⟩ hy => by
    rcases S.par n (List.of_mem_zip hy).1 with q | q
    · exact .inl q
    · exact .inr ⟨q, PySem.W.cellsFrom_some _ _ _ (.inl q)⟩
  refine codeAny_call_function hr.depth (KX _ _ lk) rfl S.co S.gen rfl (PySem.W.codeRec_of KX hcd) (hb _ _ _ _ ?_)
  refine wpAny_newFunctionEnv_cells S.kind hkind fun env he s1 x => ?_
  subst he
  refine ⟨lim.keeps x.toInCall.keep, codeAny_func ?_⟩
  obtain ⟨t, ht, hq⟩ := hbody A outer s H vs Q E (hr.deeper _) hsp
  have I : Inv (cxOf CX P w K mg base N qual scope f cdv A outer s H E) [] (start N vs) H s1 := inv_start S hr.hd e0 hl r x
  refine wpAny_mono (ht [] s1 (start N vs) H _ I hq) (fun fl s' hs => ?_) fun e s' hs => hs
  have fin : ∀ {σ' : St} {H' : Hp} {v : V} {u : Value}, Inv (cxOf CX P w K mg base N qual scope f cdv A outer s H E) [] σ' H' s' → RelV v u → Q v H' → CE outer P w H s Q u s' :=
    fun {σ' H' v u} J rv q => ⟨v, H', J.os, J.bare, J.base, J.hok, rv, q⟩
  cases fl with
  | ret u =>
    obtain ⟨v, σ', H', J, rv, q⟩ := hs
    exact fin J rv q
  | next =>
    obtain ⟨σ', H', J, q⟩ := hs
    exact fin (v := V.non) (u := Value.none) J rfl q
  | brk =>
    obtain ⟨_, _, _, q⟩ := hs
    exact False.elim q
  | cont =>
    obtain ⟨_, _, _, q⟩ := hs
    exact False.elim q
end L2

namespace L2
open PySem PySem.Spec PyProof.Rows
section
variable {X : Cx} {x : Str} {p pos : Pos} {e : Expr} {es : List Expr} {t : TA} {id T : String} {r : List V → Hp → VK → Prop}

def tCB (r : List V → Hp → VK → Prop) (t : TA) : TE := fun σ H Q => t σ H fun vs H1 => r vs H1 Q
/-- f(e, ..), f a built-in function -/
theorem pe_callB (hc : CallR X (.builtin id) r) (hg : Gl X x) (hm : X.mg x = none) (hv : bootBuiltins x = some (.builtin id)) (ha : PA X (e :: es) t) (hn : x ≠ "__name__" := by decide) (hdb : (x == ("__debug__" : Str)) = false := by decide)
    (he : starEach (e :: es) X.env = (false, eval e X.env) :: starEach es X.env := by rfl) (hpl : (backTo pos (starEach es X.env)).any (·.1) = false := by rfl) : PE X (.Call (.Name x p) (e :: es) [] pos) (tCB r t) := by
  intro pins s σ H Q I h
  refine wpAny_Call_Name_kw (ld_blt I hg hm hv ?_ hn hdb)
  exact PyProof.Rows.callWith_builtin1 (thn (ha pos pins s σ H _ I h) fun us s1 ⟨vs, H1, I1, r1, q1⟩ => hc pins s1 σ H1 vs us Q I1 r1 q1) he hpl
/-- T(e, ..), T a built-in type -/
theorem pe_callTy (hc : CallR X (.type T) r) (hg : Gl X x) (hm : X.mg x = none) (hv : bootBuiltins x = some (.type T)) (ha : PA X (e :: es) t) (hn : x ≠ "__name__" := by decide) (hdb : (x == ("__debug__" : Str)) = false := by decide)
    (he : starEach (e :: es) X.env = (false, eval e X.env) :: starEach es X.env := by rfl) (hpl : (backTo pos (starEach es X.env)).any (·.1) = false := by rfl) : PE X (.Call (.Name x p) (e :: es) [] pos) (tCB r t) := by
  intro pins s σ H Q I h
  refine wpAny_Call_Name_kw (ld_blt I hg hm hv ?_ hn hdb)
  exact PyProof.Rows.callWith_type1 (thn (ha pos pins s σ H _ I h) fun us s1 ⟨vs, H1, I1, r1, q1⟩ => hc pins s1 σ H1 vs us Q I1 r1 q1) he hpl
/-- T() -/
theorem pe_callTy0 (hc : CallR X (.type T) r) (hg : Gl X x) (hm : X.mg x = none) (hv : bootBuiltins x = some (.type T)) (hn : x ≠ "__name__" := by decide) (hdb : (x == ("__debug__" : Str)) = false := by decide) :
    PE X (.Call (.Name x p) [] [] pos) (tCB r tNil) := by
  intro pins s σ H Q I h
  refine wpAny_Call_Name_kw (ld_blt I hg hm hv ?_ hn hdb)
  exact PyProof.Rows.callWith_type0 (hc pins s σ H [] [] Q I .nil h)
end
end L2

namespace HT
open PySem PyProof.Rows

/-- t < u of tuples of ints -/
def lexLt : List Int → List Int → Bool
  | [], [] => false
  | [], _ :: _ => true
  | _ :: _, [] => false
  | x :: xs, y :: ys => if x = y then lexLt xs ys else decide (x < y)
theorem lexLt_cons (x y : Int) (xs ys : List Int) : lexLt (x :: xs) (y :: ys) = if x = y then lexLt xs ys else decide (x < y) := rfl
theorem lexLt_nil_nil : lexLt [] [] = false := rfl
theorem lexLt_nil_cons (y : Int) (ys : List Int) : lexLt [] (y :: ys) = true := rfl
theorem lexLt_cons_nil (x : Int) (xs : List Int) : lexLt (x :: xs) [] = false := rfl

theorem eqAt_int (A : Around) (s : Shared) (a : Int) (t : Tok) (c : Int) (u : Tok) : ∃ e, SeqAt.EqAt A s (.int a t) (.int c u) e ∧ (e = true ↔ a = c) :=
  ⟨(a == c), SeqAt.EqAt.int_int a t c u, by simp⟩
theorem rcLt_int (A : Around) (s : Shared) (a : Int) (t : Tok) (c : Int) (u : Tok) (prog : Program) (w : World) (E : Value → Shared → Prop) (Q : Value → Shared → Prop) (h : Q (.bool (decide (a < c))) s) :
    wpAny (model prog w) A (richCompare .Lt (.int a t) (.int c u)) Q E s :=
  (PyProof.Rows.lt_int h : wpAny (model prog w) A (compareOp .Lt (.int a t) (.int c u)) Q E s)

section
open PySem.SeqAt
open PySem.AutoSeq1 (wpAny_loadPart')
open PySem.MeetsSeq PySem.MeetsSeq2 PySem.MeetsSeq3

theorem tuple_lt_ints (l b : Addr) (items items2 : Array Value) (n n2 : Nat) (dd dd2 : Option Addr) (sl sl2 : Array (Option Value)) (ns ms : List Int) (hi : IntsAre items.toList ns) (hj : IntsAre items2.toList ms) :
    Meets (Builtin.«tuple.__lt__» ⟨[.ref l, .ref b], []⟩)
      (fun _ R s => s.heap.get? l = some { cls := .type "tuple", dict := dd, data := .seq items n, slots := sl } ∧ s.heap.get? b = some { cls := .type "tuple", dict := dd2, data := .seq items2 n2, slots := sl2 } ∧
        R (.ok (.ret (.bool (lexLt ns ms)))) s) :=
  .of_wp fun prog w A R s h => by
    obtain ⟨hp, g, d, tk, os⟩ := s; obtain ⟨hl, hb, h⟩ := h
    have f2 := AutoSeq1.sub_tuple_tuple
    have z1 : items.size = ns.length := by rw [← hi.length]; simp
    have z2 : items2.size = ms.length := by rw [← hj.length]; simp
    wp_walk using wpAny_loadPart' hl, wpAny_loadPart' hb, wpAny_forIn_list _ (fun rest b s' => b.1 = none ∧ s' = ⟨hp, g, d, tk, os⟩ ∧ ∃ (vs ws : List Value) (ns' ms' : List Int), rest = vs.zip ws ∧
      IntsAre vs ns' ∧ IntsAre ws ms' ∧ ns'.length + items2.size = ms'.length + items.size ∧ R (.ok (.ret (.bool (lexLt ns' ms')))) ⟨hp, g, d, tk, os⟩) _
    case turn =>
      rintro ⟨y, x⟩ rest b s' ⟨hb', rfl, vs, ws, ns', ms', hz, hvi, hwi, hlen, hR⟩
      cases hvi with
      | nil => rw [List.zip_nil_left] at hz; cases hz
      | cons a t hvi' =>
        cases hwi with
        | nil => rw [List.zip_nil_right] at hz; cases hz
        | cons c u hwi' =>
          rw [List.zip_cons_cons] at hz
          injection hz with hyx hrest
          injection hyx with hy hx
          subst hy hx
          rw [lexLt_cons] at hR
          simp only [List.length_cons] at hlen
          obtain ⟨e, he, hiff⟩ := eqAt_int A.in1 ⟨hp, g, d, tk, os⟩ a t c u
          refine wpAny_bind (he prog w _ _ ?_)
          cases e with
          | true =>
            rw [if_pos (hiff.mp rfl)] at hR
            wp_walk
            exact ⟨rfl, rfl, _, _, _, _, hrest, hvi', hwi', by omega, hR⟩
          | false =>
            rw [if_neg (fun q => absurd (hiff.mpr q) Bool.false_ne_true)] at hR
            have hri := rcLt_int A.in1 ⟨hp, g, d, tk, os⟩ a t c u prog w
            wp_walk using hri
            exact ⟨_, rfl, by simpa using hR⟩
    case fin =>
      rintro ⟨b1, b2⟩ s' ⟨hb', rfl, vs, ws, ns', ms', hz, hvi, hwi, hlen, hR⟩
      simp only at hb'
      subst hb'
      have hv : lexLt ns' ms' = decide (items.size < items2.size) := by
        cases hvi with
        | nil =>
          cases hwi with
          | nil =>
            simp only [List.length_nil] at hlen
            rw [lexLt_nil_nil]
            exact (decide_eq_false (by omega)).symm
          | cons c u hw =>
            simp only [List.length_nil, List.length_cons] at hlen
            rw [lexLt_nil_cons]
            exact (decide_eq_true (by omega)).symm
        | cons a t hv =>
          cases hwi with
          | nil =>
            simp only [List.length_nil, List.length_cons] at hlen
            rw [lexLt_cons_nil]
            exact (decide_eq_false (by omega)).symm
          | cons c u hw =>
            rw [List.zip_cons_cons] at hz
            cases hz
      rw [hv] at hR
      wp_walk
      exact ⟨_, rfl, by simpa [Builtin.Tuple.tupleCompareSizes] using hR⟩
    case h =>
      exact ⟨rfl, rfl, items.toList, items2.toList, ns, ms, rfl, hi, hj, by omega, h⟩
end

section
variable {prog : Program} {w : World} {A : Around} {E : Value → Shared → Prop} {s : Shared}

theorem lt_tupInts {l b : Addr} {items items2 : Array Value} {ns ms : List Int} {Q : Value → Shared → Prop} (hl : IsTup s.heap l items) (hb : IsTup s.heap b items2) (hi : IntsAre items.toList ns) (hj : IntsAre items2.toList ms)
    (hu : A.units < cLine) (h : Q (.bool (lexLt ns ms)) s) : wpAny (model prog w) A (compareOp .Lt (.ref l) (.ref b)) Q E s := by
  obtain ⟨⟨cls, dd, data, sl⟩, ho, hc, n, hd⟩ := id hl
  obtain ⟨⟨cls2, dd2, data2, sl2⟩, ho2, hc2, n2, hd2⟩ := id hb
  simp only at hc hd hc2 hd2
  subst hc hd hc2 hd2
  exact richCompare_meets_room (op := .Lt) ⟨_, ho, rfl⟩ ⟨_, ho2, rfl⟩ PySem.F.slot_tuple_lt PySem.F.entry_tuple_lt (PySem.F.args_tuple_lt_2 _ _) (tuple_lt_ints l b items items2 n n2 dd dd2 sl sl2 ns ms hi hj)
    ⟨ho, ho2, show Value.bool (lexLt ns ms) ≠ Value.notImplemented ∧ Q (.bool (lexLt ns ms)) s from ⟨(fun x => nomatch x), h⟩⟩ hu

/-- t + u, t not empty -/
theorem cat_tup {t b : Addr} {vs ws : List Value} {Q : Value → Shared → Prop} (ht : IsTup s.heap t vs.toArray) (hb : IsTup s.heap b ws.toArray) (hv : vs ≠ [])
    (h1 : ws = [] → Q (.ref t) s) (h2 : ws ≠ [] → Q (.ref s.heap.objs.size) { s with heap := s.heap.push { cls := .type "tuple", data := .seq (vs ++ ws).toArray } })
    (hsz : vs.length + ws.length ≤ sizeLine) : wpAny (model prog w) A (binaryOp .Add (.ref t) (.ref b)) Q E s := by
  obtain ⟨⟨cls, dd, data, sl⟩, ho, hc, n, hd⟩ := id ht
  obtain ⟨⟨cls2, dd2, data2, sl2⟩, ho2, hc2, n2, hd2⟩ := id hb
  simp only at hc hd hc2 hd2
  subst hc hd hc2 hd2
  have e : vs.toArray ++ ws.toArray = (vs ++ ws).toArray := by simp
  by_cases hw : ws = []
  · exact concat_meets ⟨_, ho, rfl⟩ ⟨_, ho2, rfl⟩ noFill_tuple_add seq_tuple_add PySem.F.slot_tuple_add PySem.F.entry_tuple_add (PySem.F.args_tuple_add_2 _ _)
      (tuple_addW1 t b vs.toArray ws.toArray n n2 dd dd2 sl sl2 (by simpa using hv) (by simp [hw])) ⟨ho, ho2, h1 hw⟩
  · refine concat_meets ⟨_, ho, rfl⟩ ⟨_, ho2, rfl⟩ noFill_tuple_add seq_tuple_add PySem.F.slot_tuple_add PySem.F.entry_tuple_add (PySem.F.args_tuple_add_2 _ _)
      (tuple_addW2 t b vs.toArray ws.toArray n n2 dd dd2 sl sl2 (by simpa using hv) (by simpa using hw) (by rw [List.size_toArray, List.size_toArray]; exact hsz)) ⟨ho, ho2, ?_⟩
    rw [e]
    exact h2 hw

/-! ### t[a:b], not the whole -/
/-- a slice's bound as a place among n (d where it is left out) -/
def sIx (n d : Nat) : Option Int → Nat
  | none => d
  | some v => if v < 0 then (v + (n : Int)).toNat else min v.toNat n
theorem sIx_none (n d : Nat) : sIx n d none = d := rfl
theorem sIx_nat (n d k : Nat) : sIx n d (some (k : Int)) = min k n := by
  show (if (k : Int) < 0 then ((k : Int) + (n : Int)).toNat else min (k : Int).toNat n) = min k n
  rw [if_neg (by omega), Int.toNat_natCast]
theorem sIx_le (n d : Nat) (hd : d ≤ n) (o : Option Int) : sIx n d o ≤ n := by
  cases o with
  | none => exact hd
  | some v =>
    show (if v < 0 then (v + (n : Int)).toNat else min v.toNat n) ≤ n
    by_cases hv : v < 0
    · rw [if_pos hv]; omega
    · rw [if_neg hv]; exact Nat.min_le_right _ _
theorem clip_eq (v : Int) (n d : Nat) : (if v < 0 then max (v + (n : Int)) 0 else min v (n : Int)) = ((sIx n d (some v) : Nat) : Int) := by
  show (if v < 0 then max (v + (n : Int)) 0 else min v (n : Int)) = (((if v < 0 then (v + (n : Int)).toNat else min v.toNat n) : Nat) : Int)
  by_cases hv : v < 0
  · simp only [if_pos hv]; omega
  · simp only [if_neg hv]; omega
theorem adjust_gen (lo hi : Option Int) (n : Nat) : Builtin.Slice.sliceAdjust lo hi 1 (n : Int) = (((sIx n 0 lo : Nat) : Int), ((sIx n n hi : Nat) : Int)) := by
  have h1 : ¬ ((1 : Int) < 0) := by omega
  unfold Builtin.Slice.sliceAdjust
  simp only [h1, if_false]
  refine Prod.ext ?_ ?_
  · cases lo with
    | none => rfl
    | some v => exact clip_eq v n 0
  · cases hi with
    | none => rfl
    | some v => exact clip_eq v n n
theorem places_gen (i j : Nat) : Builtin.Slice.slicePlaces (i : Int) (j : Int) 1 = j - i := by
  unfold Builtin.Slice.slicePlaces
  have h1 : (1 : Int) > 0 := by omega
  simp only [h1, if_true, Int.ediv_one]
  split <;> omega
theorem slicePart_ {v : Value} {o : Option Int} {Q : Option Int → Shared → Prop} (p : IsPart v o) (h : Q o s) : wpAny (model prog w) A (Builtin.Slice.slicePartIndex v) Q E s := by
  cases p with
  | none => exact slicePart_none h
  | int i t => exact slicePart_int h
theorem sliceApplied_gen {sl : Addr} {vl vu : Value} {lo hi : Option Int} {n : Nat} {Q : Int × Int × Nat → Shared → Prop} (hs : s.heap.IsSliceOf sl vl vu .none) (pl : IsPart vl lo) (pu : IsPart vu hi)
    (h : Q (((sIx n 0 lo : Nat) : Int), 1, sIx n n hi - sIx n 0 lo) s) : wpAny (model prog w) A (Builtin.Slice.sliceApplied (.ref sl) (pure (n : Int))) Q E s := by
  obtain ⟨os, hos, hcs, hds⟩ := id hs
  unfold Builtin.Slice.sliceApplied Builtin.Slice.sliceFields
  refine wpAny_bind (wpAny_bind (wpAny_field hos hds (x := vl) rfl (wpAny_bind (wpAny_field hos hds (x := vu) rfl (wpAny_bind (wpAny_field hos hds (x := .none) rfl (wpAny_pure ?_)))))))
  refine wpAny_bind (slicePart_none ?_)
  show wpAny _ _ (if ((1 : Int) == 0) = true then _ else _) _ _ s
  rw [if_neg (by decide)]
  refine wpAny_bind (slicePart_ pl (wpAny_bind (slicePart_ pu (wpAny_bind (wpAny_pure ?_)))))
  show wpAny _ _ (match Builtin.Slice.sliceAdjust lo hi 1 (n : Int) with | (lo, hi) => pure (lo, (1 : Int), Builtin.Slice.slicePlaces lo hi 1)) _ _ s
  rw [adjust_gen lo hi n]
  show wpAny _ _ (pure (((sIx n 0 lo : Nat) : Int), (1 : Int), Builtin.Slice.slicePlaces ((sIx n 0 lo : Nat) : Int) ((sIx n n hi : Nat) : Int) 1)) _ _ s
  rw [places_gen]
  exact wpAny_pure h
theorem pick_gen (xs : Array Value) (i k : Nat) : ((List.range k).filterMap fun (m : Nat) => xs[((i : Int) + (m : Int) * 1).toNat]?).toArray = ((xs.toList.drop i).take k).toArray := by
  have e : (fun (m : Nat) => xs[((i : Int) + (m : Int) * 1).toNat]?) = fun m => xs[i + m]? := by
    funext m
    have : ((i : Int) + (m : Int) * 1).toNat = i + m := by omega
    rw [this]
  rw [e]
  have := pick_run xs i k
  rw [List.filterMap_map] at this
  have e2 : ((fun x => xs[x]?) ∘ fun x => i + x) = fun m => xs[i + m]? := rfl
  rw [e2] at this
  rw [this]

theorem getItem_tuple_cut {t sl : Addr} {items : Array Value} {vl vu : Value} {lo hi : Option Int} {Q : Value → Shared → Prop} (ht : IsTup s.heap t items) (hs : s.heap.IsSliceOf sl vl vu .none) (pl : IsPart vl lo) (pu : IsPart vu hi)
    (hw : ¬ (sIx items.size 0 lo = 0 ∧ sIx items.size items.size hi = items.size))
    (h : Q (.ref s.heap.objs.size) { s with heap := s.heap.push { cls := .type "tuple", data := .seq ((items.toList.drop (sIx items.size 0 lo)).take (sIx items.size items.size hi - sIx items.size 0 lo)).toArray } })
    (hsz : items.size ≤ sizeLine) : wpAny (model prog w) A (getItem (.ref t) (.ref sl)) Q E s := by
  have htake : sizeOk (.seq ((items.toList.drop (sIx items.size 0 lo)).take (sIx items.size items.size hi - sIx items.size 0 lo)).toArray) := by
    show ((items.toList.drop (sIx items.size 0 lo)).take (sIx items.size items.size hi - sIx items.size 0 lo)).toArray.size ≤ sizeLine
    rw [List.size_toArray, List.length_take, List.length_drop, Array.length_toList]
    omega
  have hj : sIx items.size items.size hi ≤ items.size := sIx_le _ _ (Nat.le_refl _) hi
  obtain ⟨os, hos, hcs, hds⟩ := id hs
  have hTs : s.TypeIs (.ref sl) "slice" := ⟨os, hos, hcs⟩
  unfold getItem
  try with_reducible refine wpAny_holding ?_
  first | refine wpAny_bind (wpAny_pure ?_) | skip
  refine wpAny_bind (wpAny_sequenceKey ht.typeIs (by decide) ?_)
  refine wpAny_bind (wpAny_callSpecial?_slot (name := Str.ofString "__getitem__") ht.typeIs PyProof.Rows.slot_tuple_getitem
    (wpAny_call_entry PyProof.Rows.slot_tuple_getitem ht.typeIs entry_tuple_getitem ?_ (args_tuple_getitem _ _)))
  show wpAny _ _ (Builtin.Tuple.tupleItemsOf (.ref t) >>= _) _ _ s
  refine wpAny_bind (tupleItemsOf_ ht ?_)
  refine wpAny_bind (wpAny_typeOf hTs ?_)
  rw [if_pos (by decide)]
  refine wpAny_bind (sliceApplied_gen hs pl pu ?_)
  have hno : ¬ ((((sIx items.size 0 lo : Nat) : Int) == 0 && (1 : Int) == 1 && (sIx items.size items.size hi - sIx items.size 0 lo) == items.size) = true) := by
    intro q
    rw [Bool.and_eq_true, Bool.and_eq_true] at q
    have q1 : ((sIx items.size 0 lo : Nat) : Int) = 0 := eq_of_beq q.1.1
    have q2 : sIx items.size items.size hi - sIx items.size 0 lo = items.size := eq_of_beq q.2
    exact hw ⟨by omega, by omega⟩
  show wpAny _ _ (if (((sIx items.size 0 lo : Nat) : Int) == 0 && (1 : Int) == 1 && (sIx items.size items.size hi - sIx items.size 0 lo) == items.size) = true then _ else _) _ _ s
  rw [if_neg hno, pick_gen]
  first
    | exact wpAny_bind (m := Builtin.Tuple.tupleExact _) (wpAny_newObj_type (wpAny_pure ⟨_, rfl, wpAny_pure h⟩) htake)
    | exact wpAny_bind (m := Builtin.Tuple.tupleExact _) (wpAny_newObj_type (wpAny_bind (wpAny_pure (wpAny_pure ⟨_, rfl, wpAny_pure h⟩))) htake)
    | exact wpAny_bind (wpAny_bind (m := Builtin.Tuple.tupleExact _) (wpAny_newObj_type (wpAny_pure (wpAny_pure ⟨_, rfl, wpAny_pure h⟩)) htake))
    | exact wpAny_bind (wpAny_bind (m := Builtin.Tuple.tupleExact _) (wpAny_newObj_type (wpAny_pure ⟨_, rfl, wpAny_pure h⟩) htake))
end
end HT

namespace L2
open PySem PySem.Spec PyProof.Rows

/-! ### the parts of a slice -/
abbrev TO := St → Hp → (Option Int → Hp → Prop) → Prop
/-- a slice's part (left out, or an int) -/
def PO (X : Cx) (e : Option Expr) (t : TO) : Prop :=
  ∀ (pins : List (Addr × Obj)) (s : Shared) (σ : St) (H : Hp) (Q : Option Int → Hp → Prop), Inv X pins σ H s → t σ H Q →
    wpAny (model X.prog X.w) X.A (evalPart e X.env) (fun u s' => ∃ o H', Inv X pins σ H' s' ∧ IsPart u o ∧ Q o H') X.xe s
def tNoPart : TO := fun _ H Q => Q none H
def tPart (t : TE) : TO := fun σ H Q => t σ H fun x H1 => ∃ i, x = .int i ∧ Q (some i) H1

theorem intsAre_of {ns : List Int} : ∀ {us : List Value}, Vals (ns.map V.int) us → IntsAre us ns := by
  induction ns with
  | nil => intro us r; rw [List.map_nil] at r; cases r; exact .nil
  | cons n ns ih =>
    intro us r
    rw [List.map_cons] at r
    cases r with
    | cons r1 r2 =>
      obtain ⟨t, e⟩ := r1
      subst e
      exact .cons n t (ih r2)

section
variable {X : Cx} {e : Expr} {te : TE} {lo hi : Option Expr} {tl th : TO} {pos p2 : Pos}

theorem po_none : PO X none tNoPart := by
  intro pins s σ H Q I h
  rw [evalPart_none]
  exact wpAny_pure ⟨none, H, I, .none, h⟩
theorem po_some (h : PE X e te) : PO X (some e) (tPart te) := by
  intro pins s σ H Q I hw
  rw [evalPart_some]
  refine thn (h pins s σ H _ I hw) fun u s1 ⟨x, H1, I1, r1, q1⟩ => ?_
  obtain ⟨i, rfl, q⟩ := q1
  obtain ⟨t, rfl⟩ := r1
  exact ⟨some i, H1, I1, .int i t, q⟩

/-- what a slice of a value is, by values: the slice object stands at sl -/
def SlR (X : Cx) (r : V → Option Int → Option Int → Hp → VK → Prop) : Prop :=
  ∀ (pins : List (Addr × Obj)) (s : Shared) (σ : St) (H : Hp) (x : V) (v vl vu : Value) (lo hi : Option Int) (sl : Addr) (Q : VK), Inv X pins σ H s → RelV x v → s.heap.IsSliceOf sl vl vu .none → IsPart vl lo → IsPart vu hi → r x lo hi H Q →
    ∃ T id, typeLookup (.type T) "__getitem__" = pure (some (.builtin id)) ∧ s.TypeIs v T ∧ wpAny (model X.prog X.w) X.A (getItem v (.ref sl)) (EP X pins σ Q) X.xe s
theorem SlR.or {r r' : V → Option Int → Option Int → Hp → VK → Prop} (h : SlR X r) (h' : SlR X r') : SlR X (fun x lo hi H Q => r x lo hi H Q ∨ r' x lo hi H Q) := by
  intro pins s σ H x v vl vu lo hi sl Q I rx hs pl pu q
  rcases q with q | q
  · exact h pins s σ H x v vl vu lo hi sl Q I rx hs pl pu q
  · exact h' pins s σ H x v vl vu lo hi sl Q I rx hs pl pu q
def tSl (r : V → Option Int → Option Int → Hp → VK → Prop) (te : TE) (tl th : TO) : TE := fun σ H Q => te σ H fun x H1 => tl σ H1 fun l H2 => th σ H2 fun u H3 => r x l u H3 Q
/-- a[lo:hi], any a -/
theorem pe_slice {r : V → Option Int → Option Int → Hp → VK → Prop} (hr : SlR X r) (he : PE X e te) (hl : PO X lo tl) (hu : PO X hi th) : PE X (.Subscript e (.Slice lo hi none p2) pos) (tSl r te tl th) := by
  intro pins s σ H Q I h
  refine Subscript_ (thn (he pins s σ H _ I h) fun v s1 ⟨x, H1, I1, r1, q1⟩ => ?_)
  refine wpAny_Slice (thn (hl pins s1 σ H1 _ I1 q1) fun vl s2 ⟨l, H2, I2, pl, q2⟩ => thn (hu pins s2 σ H2 _ I2 q2) fun vu s3 ⟨u, H3, I3, pu, q3⟩ => ?_)
  rw [evalPart_none]
  refine wpAny_pure ?_
  have I4 : Inv X pins σ H3 { s3 with heap := s3.heap.push { cls := .type "slice", data := .fields #[vl, vu, .none] } } := I3.kept (t' := s3.toks) fun b ob q => Heap.get?_push_of_some _ q
  obtain ⟨T, id, hT, ht, hg⟩ := hr pins { s3 with heap := s3.heap.push { cls := .type "slice", data := .fields #[vl, vu, .none] } } σ H3 x v vl vu l u s3.heap.objs.size Q I4 r1 (Heap.IsSliceOf.new ..) pl pu q3
  show wpAny (model X.prog X.w) X.A (subscriptTail e (.Slice lo hi none p2) v (.ref s3.heap.objs.size)) (EP X pins σ Q) X.xe { s3 with heap := s3.heap.push { cls := .type "slice", data := .fields #[vl, vu, .none] } }
  exact tail_any (ops := [.ref s3.heap.objs.size, v]) ht hT hg (by with_unfolding_all rfl)

/-- the items of xs[lo:hi] -/
def cutV (xs : List V) (lo hi : Option Int) : List V := (xs.drop (HT.sIx xs.length 0 lo)).take (HT.sIx xs.length xs.length hi - HT.sIx xs.length 0 lo)
theorem cutV_length (xs : List V) (lo hi : Option Int) : (cutV xs lo hi).length ≤ xs.length := by
  unfold cutV
  rw [List.length_take, List.length_drop]
  omega
/-- t[lo:hi], not the whole of it (the whole would be t itself) -/
def rSlT (K : PySem.W.Frag) : V → Option Int → Option Int → Hp → VK → Prop := fun x lo hi H Q => ∃ a xs, x = .ref a ∧ SqT K H a xs ∧
  ¬ (HT.sIx xs.length 0 lo = 0 ∧ HT.sIx xs.length xs.length hi = xs.length) ∧ ∀ p, H p = none → Q (.ref p) (upd H p (.tup (cutV xs lo hi)))
theorem sl_tup : SlR X (rSlT X.K) := by
  intro pins s σ H x v vl vu lo hi sl Q I rx hs pl pu h
  obtain ⟨a, xs, rfl, hx, hw, q⟩ := h
  cases rx
  obtain ⟨its, r, ht, hz⟩ := I.tuple hx
  have hlen : its.toArray.size = xs.length := by rw [List.size_toArray]; exact r.length.symm
  refine ⟨"tuple", _, PyProof.Rows.slot_tuple_getitem.lookup, ht.typeIs, ?_⟩
  refine HT.getItem_tuple_cut ht hs pl pu (by rw [hlen]; exact hw) ?_ (by rw [hlen]; exact hz)
  rw [hlen]
  refine ⟨.ref s.heap.objs.size, _, I.laid (t' := s.toks) (o := .tup (cutV xs lo hi)) (fun b ob q => Heap.get?_push_of_some _ q) (Nat.le_refl _) ?_, rfl, q _ (I.hok.fresh (Nat.le_refl _))⟩
  exact ⟨Nat.le_trans (cutV_length xs lo hi) hz, _, (r.drop (HT.sIx xs.length 0 lo)).take (HT.sIx xs.length xs.length hi - HT.sIx xs.length 0 lo), IsTup.new _ _⟩

/-! ### t < u, t + u -/
def rLtT (K : PySem.W.Frag) : R2 := fun x y H Q => ∃ a b ns ms, x = .ref a ∧ y = .ref b ∧ SqT K H a (ns.map V.int) ∧ SqT K H b (ms.map V.int) ∧ Q (.bl (HT.lexLt ns ms)) H
theorem op_ltT (hu : X.A.units < cLine) : OpR X (compareOp .Lt) (rLtT X.K) := by
  intro pins s σ H x y v u Q I rx ry h
  obtain ⟨a, b, ns, ms, rfl, rfl, ha, hb, q⟩ := h
  cases rx
  cases ry
  obtain ⟨its, r1, p1, _⟩ := I.tuple ha
  obtain ⟨its2, r2, p2, _⟩ := I.tuple hb
  have i1 : IntsAre its.toArray.toList ns := intsAre_of r1
  have i2 : IntsAre its2.toArray.toList ms := intsAre_of r2
  exact HT.lt_tupInts p1 p2 i1 i2 hu ⟨.bl (HT.lexLt ns ms), H, I, rfl, q⟩
/-- t + u, t not empty: u empty gives t itself -/
def rCatT (K : PySem.W.Frag) : R2 := fun x y H Q => ∃ a b xs ys, x = .ref a ∧ y = .ref b ∧ SqT K H a xs ∧ SqT K H b ys ∧ xs ≠ [] ∧ xs.length + ys.length ≤ sizeLine ∧
  (ys = [] → Q (.ref a) H) ∧ (ys ≠ [] → ∀ p, H p = none → Q (.ref p) (upd H p (.tup (xs ++ ys))))
theorem Vals.nil_iff {xs : List V} {us : List Value} (r : Vals xs us) : us = [] ↔ xs = [] := by
  cases r with
  | nil => simp
  | cons _ _ => simp
theorem op_catT : OpR X (binaryOp .Add) (rCatT X.K) := by
  intro pins s σ H x y v u Q I rx ry h
  obtain ⟨a, b, xs, ys, rfl, rfl, ha, hb, hx, hz, q1, q2⟩ := h
  cases rx
  cases ry
  obtain ⟨its, r1, p1, _⟩ := I.tuple ha
  obtain ⟨its2, r2, p2, _⟩ := I.tuple hb
  refine HT.cat_tup p1 p2 (fun z => hx (r1.nil_iff.mp z)) (fun z => ⟨.ref a, H, I, rfl, q1 (r2.nil_iff.mp z)⟩) (fun z => ?_) (by rw [← r1.length, ← r2.length]; exact hz)
  refine ⟨.ref s.heap.objs.size, _, I.laid (t' := s.toks) (o := .tup (xs ++ ys)) (fun b ob q => Heap.get?_push_of_some _ q) (Nat.le_refl _) ?_, rfl, q2 (fun w => z (r2.nil_iff.mpr w)) _ (I.hok.fresh (Nat.le_refl _))⟩
  exact ⟨by rw [List.length_append]; exact hz, _, r1.append r2, IsTup.new _ _⟩
/-- tuple(t) -/
theorem call_tupleT : CallR X (.type "tuple") (fun xs H Q => ∃ a ys, xs = [.ref a] ∧ SqT X.K H a ys ∧ Q (.ref a) H) := by
  intro pins s σ H xs us Q I r h
  obtain ⟨a, ys, rfl, ha, q⟩ := h
  obtain ⟨u, rfl, ru⟩ := vals1 r
  cases ru
  obtain ⟨its, _, p1, _⟩ := I.tuple ha
  exact call_tuple_same (items := its.toArray) p1 ⟨.ref a, H, I, rfl, q⟩
end
end L2

namespace L2
open PySem PySem.Spec PyProof.Rows

/-! ### places -/
/-- the place that an index of any sign means -/
def ixN (n : Nat) (i : Int) : Option Nat := if 0 ≤ i then (if i < n then some i.toNat else none) else if -(n : Int) ≤ i then some (i + n).toNat else none
def atI {α : Type} (xs : List α) (i : Int) : Option α := (ixN xs.length i).bind fun j => xs[j]?
theorem ixN_seq {n : Nat} {i : Int} {j : Nat} (h : ixN n i = some j) : seqIndex? i n = some j ∧ j < n ∧ -(n : Int) ≤ i ∧ i < n := by
  unfold ixN at h
  by_cases h0 : 0 ≤ i
  · rw [if_pos h0] at h
    by_cases h1 : i < n
    · rw [if_pos h1] at h
      have e : i.toNat = j := Option.some.inj h
      exact ⟨by rw [seqIndex_of h0 h1, e], by omega, by omega, h1⟩
    · rw [if_neg h1] at h; cases h
  · rw [if_neg h0] at h
    by_cases h1 : -(n : Int) ≤ i
    · rw [if_pos h1] at h
      have e : (i + n).toNat = j := Option.some.inj h
      exact ⟨by rw [seqIndex_neg (by omega) h1, e], by omega, h1, by omega⟩
    · rw [if_neg h1] at h; cases h
theorem atI_get {α : Type} {xs : List α} {i : Int} {v : α} (h : atI xs i = some v) : ∃ j, seqIndex? i xs.length = some j ∧ xs[j]? = some v ∧ j < xs.length ∧ -(xs.length : Int) ≤ i ∧ i < xs.length := by
  unfold atI at h
  cases e : ixN xs.length i with
  | none => rw [e] at h; cases h
  | some j =>
    rw [e] at h
    obtain ⟨h1, h2, h3, h4⟩ := ixN_seq e
    exact ⟨j, h1, h, h2, h3, h4⟩
theorem atI_nat {α : Type} {xs : List α} {j : Nat} {v : α} (h : xs[j]? = some v) : atI xs (j : Int) = some v := by
  have hj : j < xs.length := (List.getElem?_eq_some_iff.mp h).1
  have e : ixN xs.length (j : Int) = some j := by
    unfold ixN
    rw [if_pos (by omega), if_pos (by omega)]; simp
  unfold atI; rw [e]; exact h
theorem atI_last {α : Type} (xs : List α) (v : α) : atI (xs ++ [v]) (-1) = some v := by
  have hl : (xs ++ [v]).length = xs.length + 1 := by simp
  have e : ixN (xs ++ [v]).length (-1) = some xs.length := by
    unfold ixN
    rw [hl, if_neg (by decide), if_pos (by omega)]
    congr 1
    omega
  unfold atI
  rw [e]
  show (xs ++ [v])[xs.length]? = some v
  simp

/-! ### what may be subscripted -/
/-- what stands as an index of a plain subscript -/
def PlainIx (b : Expr) : Prop := ∀ o i, subscripted b false o i = operate [o, i] (getItem o i)
/-- a subscript by values -/
def IxR (X : Cx) (r : R2) : Prop :=
  ∀ (value slice : Expr) (pins : List (Addr × Obj)) (s : Shared) (σ : St) (H : Hp) (x y : V) (v u : Value) (Q : VK), Inv X pins σ H s → RelV x v → RelV y u → r x y H Q →
    subscripted slice false v u = operate [v, u] (getItem v u) → wpAny (model X.prog X.w) X.A (subscriptTail value slice v u) (EP X pins σ Q) X.xe s
/-- a call of a builtin's method by values: the receiver, the arguments -/
def MtR (X : Cx) (id : String) (r : V → List V → Hp → VK → Prop) : Prop :=
  ∀ (pins : List (Addr × Obj)) (s : Shared) (σ : St) (H : Hp) (x : V) (xs : List V) (v : Value) (us : List Value) (Q : VK), Inv X pins σ H s → RelV x v → Vals xs us → r x xs H Q →
    wpAny (model X.prog X.w) X.A (call (.builtin id) (v :: us)) (EP X pins σ Q) X.xe s
section
variable {X : Cx} {a b : Expr} {ta tb : TE} {pos : Pos}
theorem IxR.or {r r' : R2} (h : IxR X r) (h' : IxR X r') : IxR X (fun x y H Q => r x y H Q ∨ r' x y H Q) := by
  intro value slice pins s σ H x y v u Q I rx ry q hs
  rcases q with q | q
  · exact h value slice pins s σ H x y v u Q I rx ry q hs
  · exact h' value slice pins s σ H x y v u Q I rx ry q hs
theorem MtR.or {id : String} {r r' : V → List V → Hp → VK → Prop} (h : MtR X id r) (h' : MtR X id r') : MtR X id (fun x xs H Q => r x xs H Q ∨ r' x xs H Q) := by
  intro pins s σ H x xs v us Q I rx rs q
  rcases q with q | q
  · exact h pins s σ H x xs v us Q I rx rs q
  · exact h' pins s σ H x xs v us Q I rx rs q
/-- a[b] -/
theorem pe_ix {r : R2} (hr : IxR X r) (ha : PE X a ta) (hb : PE X b tb) (hs : PlainIx b) : PE X (.Subscript a b pos) (tOp r ta tb) := by
  intro pins s σ H Q I h
  exact Subscript_ (binT ha hb I h fun v u s2 x y H2 I2 rx ry q => hr a b pins s2 σ H2 x y v u Q I2 rx ry q (hs _ _))

def rIxL (K : PySem.W.Frag) : R2 := fun x y H Q => ∃ p xs i v, x = .ref p ∧ y = .int i ∧ SqL K H p xs ∧ atI xs i = some v ∧ Q v H
def rIxT (K : PySem.W.Frag) : R2 := fun x y H Q => ∃ p xs i v, x = .ref p ∧ y = .int i ∧ SqT K H p xs ∧ atI xs i = some v ∧ Q v H
def rIxS : R2 := fun x y H Q => ∃ z i c, x = .str z ∧ y = .int i ∧ z.length ≤ sizeLine ∧ atI z.cps.toList i = some c ∧ Q (.str ⟨#[c]⟩) H
theorem ix_list : IxR X (rIxL X.K) := by
  intro value slice pins s σ H x y v u Q I rx ry h hs
  obtain ⟨p, xs, i, z, rfl, rfl, hq, he, q⟩ := h
  cases rx
  obtain ⟨t, rfl⟩ := ry
  obtain ⟨its, r, pl, hz⟩ := I.list hq
  obtain ⟨j, h1, h2, h3, h4, h5⟩ := atI_get he
  obtain ⟨w, ew, rw'⟩ := r.get h2
  have hl := r.length
  have hn := line63
  have fin : EP X pins σ Q w s := ⟨z, H, I, rw', q⟩
  by_cases h0 : 0 ≤ i
  · have hj : i.toNat = j := by
      rw [seqIndex_of h0 h5] at h1
      exact Option.some.inj h1
    exact item_listR pl.isList h0 (by omega) (by rw [hj]; simpa using ew) fin hs
  · have hj : (i + (its.toArray.size : Int)).toNat = j := by
      rw [seqIndex_neg (by omega) h4] at h1
      rw [List.size_toArray, ← hl]
      exact Option.some.inj h1
    exact subscriptTail_builtinR (x := w) pl.isList.typeIs slot_list_getitem.lookup
      (wpAny_getItem_list_neg (Q := fun r s' => r = w ∧ EP X pins σ Q r s') pl.isList (by omega) (by rw [List.size_toArray] <;> omega) (by omega) (by rw [hj]; simpa using ew) ⟨rfl, fin⟩) hs
theorem ix_tup : IxR X (rIxT X.K) := by
  intro value slice pins s σ H x y v u Q I rx ry h hs
  obtain ⟨p, xs, i, z, rfl, rfl, hq, he, q⟩ := h
  cases rx
  obtain ⟨t, rfl⟩ := ry
  obtain ⟨its, r, pl, hz⟩ := I.tuple hq
  obtain ⟨j, h1, h2, h3, h4, h5⟩ := atI_get he
  obtain ⟨w, ew, rw'⟩ := r.get h2
  have hl := r.length
  have hn := line63
  have fin : EP X pins σ Q w s := ⟨z, H, I, rw', q⟩
  exact subscriptTail_builtinR (x := w) pl.typeIs slot_tuple_getitem.lookup
    (getItem_tuple (j := j) (Q := fun r s' => r = w ∧ EP X pins σ Q r s') pl (by omega) (by omega) (by rw [List.size_toArray, ← hl]; exact h1) (by simpa using ew) ⟨rfl, fin⟩) hs
theorem ix_str : IxR X rIxS := by
  intro value slice pins s σ H x y v u Q I rx ry h hs
  obtain ⟨z, i, c, rfl, rfl, hz, he, q⟩ := h
  obtain ⟨t, rfl⟩ := rx
  obtain ⟨t', rfl⟩ := ry
  obtain ⟨j, h1, h2, h3, h4, h5⟩ := atI_get he
  have hl : z.cps.toList.length = z.length := by simp [Str.length]
  rw [hl] at h1 h4 h5
  have hn := line63
  exact tail_any (typeIs_str s z t) slot_str_getitem.lookup (getItem_str (c := c) (by
    have e1 : decide (i < -(2 ^ 63 : Int)) = false := decide_eq_false (by omega)
    have e2 : decide (i ≥ 2 ^ 63) = false := decide_eq_false (by omega)
    rw [e1, e2, Bool.or_false]) (by rw [h1]; simpa using h2) ⟨.str ⟨#[c]⟩, H, I.tok _, ⟨_, rfl⟩, q⟩) hs
/-- list, tuple or str -/
def rIx (K : PySem.W.Frag) : R2 := fun x y H Q => rIxL K x y H Q ∨ rIxT K x y H Q ∨ rIxS x y H Q
theorem ix_seq : IxR X (rIx X.K) := ix_list.or (ix_tup.or ix_str)

/-! ### xs[i] = v, any sign -/
/-- the list's object behind a store -/
theorem mapSeq_set (its : List Value) (n j : Nat) (u : Value) : Obj.mapSeq (·.setIfInBounds j u) { cls := .type "list", data := .seq its.toArray n } = { cls := .type "list", data := .seq (its.set j u).toArray n } := by
  simp [Obj.mapSeq]
theorem Inv.lst {pins : List (Addr × Obj)} {σ : St} {H : Hp} {s : Shared} {p : Addr} {xs : List V} (I : Inv X pins σ H s) (h : H p = some (.lst xs)) :
    ∃ (its : List Value) (n : Nat), Vals xs its ∧ s.heap.get? p = some { cls := .type "list", data := .seq its.toArray n } ∧ xs.length ≤ sizeLine := by
  obtain ⟨z, its, n, r, e⟩ := I.hok p _ h
  exact ⟨its, n, r, e, z⟩
/-- the list at p is written by an update of its object -/
theorem Inv.lstUpd {pins : List (Addr × Obj)} {σ : St} {H : Hp} {s : Shared} {p : Addr} {xs ys : List V} {its its' : List Value} {n n' : Nat} {f : Obj → Obj} (I : Inv X pins σ H s) (h : H p = some (.lst xs))
    (ho : s.heap.get? p = some { cls := .type "list", data := .seq its.toArray n }) (hf : f { cls := .type "list", data := .seq its.toArray n } = { cls := .type "list", data := .seq its'.toArray n' }) (r : Vals ys its') (hz : ys.length ≤ sizeLine) (t : Nat) :
    Inv X pins σ (upd H p (.lst ys)) { s with heap := s.heap.update p f, toks := t } := by
  have e : (s.heap.update p f).get? p = some { cls := .type "list", data := .seq its'.toArray n' } := by
    rw [Heap.get?_update_self f ho (by rw [hf] <;> rfl), hf]
  refine I.write (x := p) (e := p) (by rw [h]; trivial) (.inl rfl) (fun b u hb q => (Heap.get?_update_other _ _ (Ne.symm hb)).trans q) ⟨_, e⟩ ?_
  exact ⟨hz, its', n', r, e⟩
def rSetL : V → V → V → Hp → (Hp → Prop) → Prop := fun o i v H Q => ∃ p xs k j, o = .ref p ∧ i = .int k ∧ H p = some (.lst xs) ∧ ixN xs.length k = some j ∧ Q (upd H p (.lst (xs.set j v)))
theorem set_list : PSet X rSetL := by
  intro pins s σ H o i v ov iv u Q I ro ri rv h
  obtain ⟨p, xs, k, j, rfl, rfl, hp, hj, q⟩ := h
  cases ro
  obtain ⟨t, rfl⟩ := ri
  obtain ⟨its, n, r, ho, hz⟩ := I.lst hp
  obtain ⟨h1, h2, h3, h4⟩ := ixN_seq hj
  have hl := r.length
  have hn := line63
  have I' : Inv X pins σ (upd H p (.lst (xs.set j v))) { s with heap := s.heap.update p (Obj.mapSeq (·.setIfInBounds j u)) } :=
    I.lstUpd hp ho (mapSeq_set its n j u) (r.set rv j) (by rw [List.length_set]; exact hz) s.toks
  by_cases h0 : 0 ≤ k
  · have hk : k.toNat = j := by
      rw [seqIndex_of h0 h4] at h1
      exact Option.some.inj h1
    exact PySem.W.ki_setAt ho h0 (by omega) (by rw [List.size_toArray, ← hl]; exact h4) (by rw [hk]; exact ⟨_, I', q⟩)
  · have hk : (k + (its.toArray.size : Int)).toNat = j := by
      rw [seqIndex_neg (by omega) h3] at h1
      rw [List.size_toArray, ← hl]
      exact Option.some.inj h1
    exact PySem.W.ki_setBack ho (by omega) (by rw [List.size_toArray, ← hl]; exact h3) (by omega) (by rw [hk]; exact ⟨_, I', q⟩)

/-! ### slices -/
theorem slice_bounds (lo hi : Option Int) (n : Nat) : (sliceBounds lo hi none n).1 = ((HT.sIx n 0 lo : Nat) : Int) ∧ (sliceBounds lo hi none n).2.1 = ((HT.sIx n n hi : Nat) : Int) ∧ (sliceBounds lo hi none n).2.2 = 1 := by
  refine ⟨?_, ?_, rfl⟩
  · cases lo with
    | none => simp [sliceBounds, HT.sIx]
    | some i =>
      simp only [sliceBounds, HT.sIx, Option.getD_none, show (1 : Int) > 0 by decide, if_true]
      by_cases h : i < 0
      · simp only [h, if_true] <;> omega
      · simp only [h, if_false] <;> omega
  · cases hi with
    | none => simp [sliceBounds, HT.sIx]
    | some i =>
      simp only [sliceBounds, HT.sIx, Option.getD_none, show (1 : Int) > 0 by decide, if_true]
      by_cases h : i < 0
      · simp only [h, if_true] <;> omega
      · simp only [h, if_false] <;> omega
theorem slicePick_cut (its : List Value) (lo hi : Option Int) : slicePick its.toArray lo hi none = ((its.drop (HT.sIx its.length 0 lo)).take (HT.sIx its.length its.length hi - HT.sIx its.length 0 lo)).toArray := by
  obtain ⟨h1, h2, h3⟩ := slice_bounds lo hi its.toArray.size
  unfold slicePick
  rw [h1, h2, h3]
  simp only [sliceRange_one, pick_run, List.size_toArray] <;> rfl
/-- xs[lo:hi] of a list: a new list -/
def rSlL (K : PySem.W.Frag) : V → Option Int → Option Int → Hp → VK → Prop := fun x lo hi H Q => ∃ a xs, x = .ref a ∧ SqL K H a xs ∧ ∀ p, H p = none → Q (.ref p) (upd H p (.lst (cutV xs lo hi)))
theorem sl_list : SlR X (rSlL X.K) := by
  intro pins s σ H x v vl vu lo hi sl Q I rx hs pl pu h
  obtain ⟨a, xs, rfl, hx, q⟩ := h
  cases rx
  obtain ⟨its, r, ht, hz⟩ := I.list hx
  have hlen := r.length
  refine ⟨"list", _, slot_list_getitem.lookup, ht.isList.typeIs, ?_⟩
  refine wpAny_getItem_list_slice ht.isList hs pl pu .none (by simp) ?_ (by rw [List.size_toArray] <;> omega)
  rw [slicePick_cut, ← hlen]
  refine ⟨.ref s.heap.objs.size, _, I.laid (t' := s.toks) (o := .lst (cutV xs lo hi)) (fun b ob q => Heap.get?_push_of_some _ q) (Nat.le_refl _) ?_, rfl, q _ (I.hok.fresh (Nat.le_refl _))⟩
  exact ⟨Nat.le_trans (cutV_length xs lo hi) hz, _, 0, (r.drop (HT.sIx xs.length 0 lo)).take (HT.sIx xs.length xs.length hi - HT.sIx xs.length 0 lo), Heap.get?_push_size _ rfl⟩

/-! ### in, not in: flat items -/
def flatV : V → Bool
  | .non => true
  | .bl _ => true
  | .int _ => true
  | .str _ => true
  | _ => false
/-- == of flat values -/
def eqV : V → V → Bool
  | .non, .non => true
  | .bl a, .bl b => a == b
  | .bl a, .int b => (if a then 1 else 0) == b
  | .int a, .bl b => a == (if b then 1 else 0)
  | .int a, .int b => a == b
  | .str a, .str b => a == b
  | _, _ => false
theorem eqAt_V {A : Around} {s : Shared} {y x : V} {u v : Value} (ry : RelV y u) (rx : RelV x v) (fy : flatV y = true) (fx : flatV x = true) : SeqAt.EqAt A s u v (eqV y x) := by
  cases y with
  | non =>
    cases ry
    cases x with
    | non => cases rx; exact SeqAt.EqAt.same _
    | bl b => cases rx; exact SeqAt.EqAt.none_bool b
    | int b => obtain ⟨t, rfl⟩ := rx; exact SeqAt.EqAt.none_int b t
    | str b => obtain ⟨t, rfl⟩ := rx; exact SeqAt.EqAt.none_str b t
    | _ => exact absurd (show false = true from fx) Bool.false_ne_true
  | bl a =>
    cases ry
    cases x with
    | non => cases rx; exact SeqAt.EqAt.bool_none a
    | bl b => cases rx; exact SeqAt.EqAt.bool_bool a b
    | int b => obtain ⟨t, rfl⟩ := rx; exact SeqAt.EqAt.bool_int a b t
    | str b => obtain ⟨t, rfl⟩ := rx; exact SeqAt.EqAt.bool_str a b t
    | _ => exact absurd (show false = true from fx) Bool.false_ne_true
  | int a =>
    obtain ⟨t', rfl⟩ := ry
    cases x with
    | non => cases rx; exact SeqAt.EqAt.int_none a t'
    | bl b => cases rx; exact SeqAt.EqAt.int_bool a t' b
    | int b => obtain ⟨t, rfl⟩ := rx; exact SeqAt.EqAt.int_int a t' b t
    | str b => obtain ⟨t, rfl⟩ := rx; exact SeqAt.EqAt.int_str a t' b t
    | _ => exact absurd (show false = true from fx) Bool.false_ne_true
  | str a =>
    obtain ⟨t', rfl⟩ := ry
    cases x with
    | non => cases rx; exact SeqAt.EqAt.str_none a t'
    | bl b => cases rx; exact SeqAt.EqAt.str_bool a t' b
    | int b => obtain ⟨t, rfl⟩ := rx; exact SeqAt.EqAt.str_int a t' b t
    | str b => obtain ⟨t, rfl⟩ := rx; exact SeqAt.EqAt.str_str a t' b t
    | _ => exact absurd (show false = true from fx) Bool.false_ne_true
  | _ => exact absurd (show false = true from fy) Bool.false_ne_true
/-- the items' answers, read off the values (a value's own answer does not lean on its token) -/
def eqU (x : V) (u : Value) : Bool := match u with
  | .none => eqV .non x
  | .bool b => eqV (.bl b) x
  | .int i _ => eqV (.int i) x
  | .str z _ => eqV (.str z) x
  | _ => false
theorem eqU_of {x y : V} {u : Value} (r : RelV y u) (f : flatV y = true) : eqU x u = eqV y x := by
  cases y with
  | non => cases r; rfl
  | bl b => cases r; rfl
  | int i => obtain ⟨t, rfl⟩ := r; rfl
  | str z => obtain ⟨t, rfl⟩ := r; rfl
  | _ => exact absurd (show false = true from f) Bool.false_ne_true
theorem any_eqU {x : V} : ∀ {xs : List V} {us : List Value}, Vals xs us → xs.all flatV = true → us.any (eqU x) = xs.any fun y => eqV y x
  | _, _, .nil, _ => rfl
  | y :: xs, u :: us, .cons r t, f => by
    rw [List.all_cons, Bool.and_eq_true] at f
    rw [List.any_cons, List.any_cons, eqU_of r f.1, any_eqU t f.2]
theorem mem_eqAt {A : Around} {s : Shared} {x : V} {v : Value} (rx : RelV x v) (fx : flatV x = true) : ∀ {xs : List V} {us : List Value}, Vals xs us → xs.all flatV = true → ∀ u ∈ us, SeqAt.EqAt A s u v (eqU x u)
  | _, _, .nil, _ => fun u hu => by cases hu
  | y :: xs, u :: us, .cons r t, f => fun u' hu => by
    rw [List.all_cons, Bool.and_eq_true] at f
    rcases List.mem_cons.mp hu with rfl | hu
    · rw [eqU_of r f.1]; exact eqAt_V r rx f.1 fx
    · exact mem_eqAt rx fx t f.2 u' hu
def inV (x : V) (xs : List V) : Bool := xs.any fun y => eqV y x
/-- x in a list or tuple of flat items -/
def rIn (K : PySem.W.Frag) (neg : Bool) : R2 := fun x y H Q => ∃ p xs, y = .ref p ∧ (SqL K H p xs ∨ SqT K H p xs) ∧ flatV x = true ∧ xs.all flatV = true ∧ Q (.bl (if neg then !inV x xs else inV x xs)) H
theorem op_in_seq : OpR X (compareOp .In) (rIn X.K false) := by
  intro pins s σ H x y v u Q I rx ry h
  obtain ⟨p, xs, rfl, hq, fx, fs, q⟩ := h
  cases ry
  rcases hq with hq | hq
  · obtain ⟨its, r, pl, hz⟩ := I.list hq
    refine SeqAt.in_listAt (eqU x) pl.isList (fun w hw => mem_eqAt rx fx r fs w (by simpa using hw)) ⟨.bl _, H, I, rfl, ?_⟩
    rw [show its.toArray.any (eqU x) = its.any (eqU x) by simp, any_eqU r fs]
    exact q
  · obtain ⟨its, r, pl, hz⟩ := I.tuple hq
    refine SeqAt.in_tupleAt (eqU x) pl (fun w hw => mem_eqAt rx fx r fs w (by simpa using hw)) ⟨.bl _, H, I, rfl, ?_⟩
    rw [show its.toArray.any (eqU x) = its.any (eqU x) by simp, any_eqU r fs]
    exact q
theorem op_notIn_seq : OpR X (compareOp .NotIn) (rIn X.K true) := by
  intro pins s σ H x y v u Q I rx ry h
  obtain ⟨p, xs, rfl, hq, fx, fs, q⟩ := h
  cases ry
  rcases hq with hq | hq
  · obtain ⟨its, r, pl, hz⟩ := I.list hq
    refine SeqAt.notIn_listAt (eqU x) pl.isList (fun w hw => mem_eqAt rx fx r fs w (by simpa using hw)) ⟨.bl _, H, I, rfl, ?_⟩
    rw [show its.toArray.any (eqU x) = its.any (eqU x) by simp, any_eqU r fs]
    exact q
  · obtain ⟨its, r, pl, hz⟩ := I.tuple hq
    refine SeqAt.notIn_tupleAt (eqU x) pl (fun w hw => mem_eqAt rx fx r fs w (by simpa using hw)) ⟨.bl _, H, I, rfl, ?_⟩
    rw [show its.toArray.any (eqU x) = its.any (eqU x) by simp, any_eqU r fs]
    exact q
theorem op_notIn_str : OpR X (compareOp .NotIn) (fun x y H Q => ∃ i j, x = .str i ∧ y = .str j ∧ Q (.bl (!(!(Builtin.Str.occurrences j i 0 j.length 1).isEmpty))) H) := by
  intro pins s σ H x y v u Q I rx ry h
  obtain ⟨i, j, rfl, rfl, q⟩ := h
  obtain ⟨t, rfl⟩ := rx
  obtain ⟨t', rfl⟩ := ry
  exact notIn_str ⟨.bl _, H, I, rfl, q⟩

/-! ### len, list(x), tuple(x) of any list or tuple that is read -/
theorem call_len_seq : CallR X (.builtin "len") (fun xs H Q => ∃ p ys, xs = [.ref p] ∧ (SqL X.K H p ys ∨ SqT X.K H p ys) ∧ Q (.int ys.length) H) := by
  intro pins s σ H xs us Q I r h
  obtain ⟨p, ys, rfl, hq, q⟩ := h
  obtain ⟨u, rfl, rx⟩ := vals1 r
  cases rx
  have hn := line63
  rcases hq with hq | hq
  · obtain ⟨its, r', pl, hz⟩ := I.list hq
    have hlen := r'.length
    exact Calls.call_len_list pl.isList (by simp only [List.size_toArray] <;> omega) ⟨.int ys.length, H, I.tok _, ⟨s.toks + 1, by rw [List.size_toArray, hlen]⟩, q⟩
  · obtain ⟨its, r', pl, hz⟩ := I.tuple hq
    have hlen := r'.length
    exact len_tuple pl (by simp only [List.size_toArray] <;> omega) ⟨.int ys.length, H, I.tok _, ⟨s.toks + 1, by rw [List.size_toArray, hlen]⟩, q⟩
theorem call_len_str : CallR X (.builtin "len") (fun xs H Q => ∃ z, xs = [.str z] ∧ z.length ≤ sizeLine ∧ Q (.int z.length) H) := by
  intro pins s σ H xs us Q I r h
  obtain ⟨z, rfl, hz, q⟩ := h
  obtain ⟨u, rfl, t, rfl⟩ := vals1 r
  have hn := line63
  exact len_str (by omega) ⟨.int z.length, H, I.tok _, ⟨_, rfl⟩, q⟩
theorem CallR.or {f : Value} {r r' : List V → Hp → VK → Prop} (h : CallR X f r) (h' : CallR X f r') : CallR X f (fun xs H Q => r xs H Q ∨ r' xs H Q) := by
  intro pins s σ H xs us Q I rs q
  rcases q with q | q
  · exact h pins s σ H xs us Q I rs q
  · exact h' pins s σ H xs us Q I rs q
theorem call_list_of : CallR X (.type "list") (fun xs H Q => ∃ p ys, xs = [.ref p] ∧ (SqL X.K H p ys ∨ SqT X.K H p ys) ∧ ∀ l, H l = none → Q (.ref l) (upd H l (.lst ys))) := by
  intro pins s σ H xs us Q I r h
  obtain ⟨p, ys, rfl, hq, q⟩ := h
  obtain ⟨u, rfl, rx⟩ := vals1 r
  cases rx
  have fin : ∀ (its : List Value), Vals ys its → ys.length ≤ sizeLine → ∀ (h' : Heap) (c' : Nat), (∀ b o', s.heap.get? b = some o' → h'.get? b = some o') →
      h'.get? s.heap.objs.size = some { cls := .type "list", dict := none, data := .seq its.toArray c', slots := #[] } → EP X pins σ Q (.ref s.heap.objs.size) { s with heap := h' } := fun its r' hz h' c' kp e =>
    ⟨.ref s.heap.objs.size, _, I.laid (t' := s.toks) kp (Nat.le_refl _) (show ObjOk X.prog X.w _ h' _ (.lst ys) from ⟨hz, its, c', r', e⟩), rfl, q _ (I.hok.fresh (Nat.le_refl _))⟩
  rcases hq with hq | hq
  · obtain ⟨its, r', pl, hz⟩ := I.list hq
    have hlen := r'.length
    obtain ⟨o, ho, hc, n, hd⟩ := pl.isList
    exact call_list_seq p (.inl rfl) ho hc hd (fun h' c' kp e => fin its r' hz h' c' kp e) (by simp only [List.size_toArray] <;> omega)
  · obtain ⟨its, r', pl, hz⟩ := I.tuple hq
    have hlen := r'.length
    obtain ⟨o, ho, hc, n, hd⟩ := pl
    exact call_list_seq p (.inr rfl) ho hc hd (fun h' c' kp e => fin its r' hz h' c' kp e) (by simp only [List.size_toArray] <;> omega)
theorem call_tuple_of : CallR X (.type "tuple") (fun xs H Q => ∃ p ys, xs = [.ref p] ∧ ((SqL X.K H p ys ∧ ∀ l, H l = none → Q (.ref l) (upd H l (.tup ys))) ∨ (SqT X.K H p ys ∧ Q (.ref p) H))) := by
  intro pins s σ H xs us Q I r h
  obtain ⟨p, ys, rfl, h⟩ := h
  obtain ⟨u, rfl, rx⟩ := vals1 r
  cases rx
  rcases h with ⟨hq, q⟩ | ⟨hq, q⟩
  · obtain ⟨its, r', pl, hz⟩ := I.list hq
    have hlen := r'.length
    refine call_tuple_list pl.isList (fun h' kp => ?_) (by simp only [List.size_toArray] <;> omega)
    have I1 : Inv X pins σ H { s with heap := h' } := I.kept (t' := s.toks) kp
    have I2 : Inv X pins σ (upd H h'.objs.size (.tup ys)) { s with heap := h'.push { cls := .type "tuple", data := .seq its.toArray } } :=
      I1.laid (t' := s.toks) (fun b o e => Heap.get?_push_of_some _ e) (Nat.le_refl _) (show ObjOk X.prog X.w _ _ _ (.tup ys) from ⟨hz, its, r', IsTup.new _ _⟩)
    exact ⟨.ref h'.objs.size, _, I2, rfl, q _ (I1.hok.fresh (Nat.le_refl _))⟩
  · obtain ⟨its, r', pl, hz⟩ := I.tuple hq
    exact call_tuple_same pl ⟨.ref p, H, I, rfl, q⟩

/-! ### the call of a builtin's method: o.m(..) -/
/-- the value is of that builtin type -/
def tyV (K : PySem.W.Frag) (T : String) (x : V) (H : Hp) : Prop := match x with
  | .str _ => T = "str"
  | .int _ => T = "int"
  | .ref p => (T = "list" ∧ ∃ xs, SqL K H p xs) ∨ (T = "tuple" ∧ ∃ o, K.lookup p = some o ∧ o.cls = .type "tuple" ∧ o.dict = none) ∨
      (T = "dict" ∧ ((∃ kvs, H p = some (.dK kvs)) ∨ ∃ kvs, H p = some (.dT kvs))) ∨ (T = "set" ∧ ∃ S n, H p = some (.set S n))
  | _ => False
theorem tyV_is {pins : List (Addr × Obj)} {σ : St} {H : Hp} {s : Shared} {T : String} {x : V} {v : Value} (I : Inv X pins σ H s) (r : RelV x v) (ty : tyV X.K T x H) :
    s.TypeIs v T ∧ ∀ a, v = .ref a → ∃ ob, s.heap.get? a = some ob ∧ ob.dict = none := by
  cases x with
  | str z =>
    obtain ⟨t, rfl⟩ := r
    cases (show T = "str" from ty)
    exact ⟨typeIs_str s z t, fun _ e => nomatch e⟩
  | int i =>
    obtain ⟨t, rfl⟩ := r
    cases (show T = "int" from ty)
    exact ⟨typeIs_int s i t, fun _ e => nomatch e⟩
  | ref p =>
    cases r
    rcases ty with ⟨rfl, xs, hq⟩ | ⟨rfl, o, hk, hc, hd⟩ | ⟨rfl, hk⟩ | ⟨rfl, S, n, hk⟩
    · obtain ⟨its, _, pl, _⟩ := I.list hq
      refine ⟨pl.isList.typeIs, fun a e => ?_⟩
      cases e
      obtain ⟨o, n, e, c, hd, _⟩ := pl
      exact ⟨o, e, hd⟩
    · refine ⟨⟨o, I.kIn p o hk, hc⟩, fun a e => ?_⟩
      cases e
      exact ⟨o, I.kIn _ o hk, hd⟩
    · have z : ∃ o, s.heap.get? p = some o ∧ o.ExactDict := by
        rcases hk with ⟨kvs, hk⟩ | ⟨kvs, hk⟩
        · obtain ⟨_, _, _, _, o, _, _, e, ex, _⟩ := I.hok p _ hk
          exact ⟨o, e, ex⟩
        · obtain ⟨_, _, _, _, o, _, _, e, ex, _⟩ := I.hok p _ hk
          exact ⟨o, e, ex⟩
      obtain ⟨o, e, ex⟩ := z
      refine ⟨⟨o, e, ex.1⟩, fun a e2 => ?_⟩
      cases e2
      exact ⟨o, e, ex.2.1⟩
    · obtain ⟨o, _, _, _, e, ex, _⟩ := I.hok p _ hk
      refine ⟨⟨o, e, ex.1⟩, fun a e2 => ?_⟩
      cases e2
      exact ⟨o, e, ex.2.1⟩
  | _ => exact False.elim ty
def tBM0 (K : PySem.W.Frag) (T : String) (r : V → List V → Hp → VK → Prop) (to : TE) : TE := fun σ H Q => to σ H fun x H1 => tyV K T x H1 ∧ r x [] H1 Q
def tBM (K : PySem.W.Frag) (T : String) (r : V → List V → Hp → VK → Prop) (to : TE) (t : TA) : TE := fun σ H Q => to σ H fun x H1 => tyV K T x H1 ∧ t σ H1 fun xs H2 => r x xs H2 Q
variable {o e : Expr} {es : List Expr} {to : TE} {t : TA} {name : Str} {apos cpos : Pos} {T id : String} {r : V → List V → Hp → VK → Prop}
theorem pe_bm0 (pa : PlainAttrs T) (slot : Slot T name id) (hty : typeOf (.builtin id) = pure (.type "method_descriptor")) (hm : MtR X id r) (ho : PE X o to)
    (hbase : attributeBase o name X.env (eval o X.env) = eval o X.env := by rfl) (hline : (apos.endLine == cpos.line) = true := by rfl) : PE X (.Call (.Attribute o name apos) [] [] cpos) (tBM0 X.K T r to) := by
  intro pins s σ H Q I h
  refine wpAny_Call_method0_late hbase hline (thn (ho pins s σ H _ I h) fun v s1 ⟨x, H1, I1, r1, ty, q1⟩ => ?_)
  obtain ⟨h1, h2⟩ := tyV_is I1 r1 ty
  exact ⟨T, id, pa, slot, hty, h1, h2, Calls.callWith_builtin rfl (PySem.evalArgs_none (hm pins s1 σ H1 x [] v [] Q I1 r1 .nil q1))⟩
theorem pe_bm (pa : PlainAttrs T) (slot : Slot T name id) (hty : typeOf (.builtin id) = pure (.type "method_descriptor")) (hm : MtR X id r) (ho : PE X o to) (ha : PA X (e :: es) t)
    (hbase : attributeBase o name X.env (eval o X.env) = eval o X.env := by rfl)
    (hfew : ((backTo cpos (starEach (e :: es) X.env)).all (fun x => !x.1) && (backToKw cpos (keywordEach [] X.env)).all (fun x => x.1.isSome)
      && decide ((e :: es).length + ([] : List Keyword).length + (if ([] : List Keyword).isEmpty then 0 else 1) < 30)) = true := by rfl)
    (hline : (apos.endLine == cpos.line) = true := by rfl) (hs : starEach (e :: es) X.env = (false, eval e X.env) :: starEach es X.env := by rfl) (hplain : (backTo cpos (starEach es X.env)).any (·.1) = false := by rfl) :
    PE X (.Call (.Attribute o name apos) (e :: es) [] cpos) (tBM X.K T r to t) := by
  intro pins s σ H Q I h
  refine wpAny_Call_method_late hbase hfew hline rfl (thn (ho pins s σ H _ I h) fun v s1 ⟨x, H1, I1, r1, ty, q1⟩ => ?_)
  obtain ⟨h1, h2⟩ := tyV_is I1 r1 ty
  refine ⟨T, id, pa, slot, hty, h1, h2, ?_⟩
  have hA := ha cpos pins s1 σ H1 _ I1 q1
  rw [hs] at hA ⊢
  refine Calls.callWith_builtin (by show (false || (backTo cpos (starEach es X.env)).any (·.1)) = false; rw [hplain] <;> rfl) (Calls.evalArgs_plain ?_)
  exact thn hA fun us s2 ⟨vs, H2, I2, r2, q2⟩ => hm pins s2 σ H2 x vs v us Q I2 r1 r2 q2
/- xs.append(e), list.index on a module's tuple .. are MtR facts of 06m -/
end
end L2

namespace L2
open PySem PySem.Spec PyProof.Rows

def MtM (X : Cx) (id : String) (r : V → List V → Hp → VK → Prop) : Prop :=
  ∀ (pins : List (Addr × Obj)) (s : Shared) (σ : St) (H : Hp) (x : V) (xs : List V) (v : Value) (us : List Value) (Q : VK), Inv X pins σ H s → RelV x v → Vals xs us → r x xs H Q →
    wpAny (model X.prog X.w) X.A (call (.builtin id) (v :: us)) (EP X pins σ Q) X.xe s

/-! ### lists of values -/
theorem Vals.one : ∀ {x : V} {us : List Value}, Vals [x] us → ∃ u, us = [u] ∧ RelV x u
  | _, _, .cons r .nil => ⟨_, rfl, r⟩
theorem Vals.two : ∀ {x y : V} {us : List Value}, Vals [x, y] us → ∃ u v, us = [u, v] ∧ RelV x u ∧ RelV y v
  | _, _, _, .cons r (.cons q .nil) => ⟨_, _, rfl, r, q⟩
theorem Vals.zero : ∀ {us : List Value}, Vals [] us → us = []
  | _, .nil => rfl
theorem Vals.dropLast {xs : List V} {us : List Value} (h : Vals xs us) : Vals xs.dropLast us.dropLast := by
  induction h with
  | nil => exact .nil
  | cons r t ih =>
    cases t with
    | nil => exact .nil
    | cons q t' => exact .cons r ih
theorem Vals.eraseIdx : ∀ {xs : List V} {us : List Value} (i : Nat), Vals xs us → Vals (xs.eraseIdx i) (us.eraseIdx i)
  | _, _, _, .nil => .nil
  | _, _, 0, .cons _ t => t
  | _, _, i + 1, .cons r t => .cons r (Vals.eraseIdx i t)
theorem Vals.reverse {xs : List V} {us : List Value} (h : Vals xs us) : Vals xs.reverse us.reverse := by
  induction h with
  | nil => exact .nil
  | cons r t ih => rw [List.reverse_cons, List.reverse_cons]; exact Vals.append ih (.cons r .nil)
theorem Vals.rep {xs : List V} {us : List Value} (h : Vals xs us) : ∀ k : Nat, Vals (List.replicate k xs).flatten (List.replicate k us).flatten
  | 0 => .nil
  | k + 1 => by
    rw [List.replicate_succ, List.replicate_succ, List.flatten_cons, List.flatten_cons]
    exact Vals.append h (Vals.rep h k)
theorem erase_last {α : Type} (l : List α) : l.eraseIdx (l.length - 1) = l.dropLast := by
  induction l with
  | nil => rfl
  | cons a r ih =>
    cases r with
    | nil => rfl
    | cons b r =>
      have e : (a :: b :: r).length - 1 = ((b :: r).length - 1) + 1 := by
        have h1 : (a :: b :: r).length = r.length + 2 := rfl
        have h2 : (b :: r).length = r.length + 1 := rfl
        omega
      rw [e, List.eraseIdx_cons_succ, ih]
      all_goals rfl
theorem len_erase {α : Type} : ∀ (l : List α) (i : Nat), (l.eraseIdx i).length ≤ l.length
  | [], _ => Nat.le_refl _
  | _ :: _, 0 => Nat.le_succ _
  | _ :: r, i + 1 => Nat.succ_le_succ (len_erase r i)
theorem foldl_rep (its : List Value) : ∀ (k : Nat) (acc : List Value),
    List.foldl (fun x1 x2 => x1 ++ x2) acc.toArray (List.replicate k its.toArray) = (acc ++ (List.replicate k its).flatten).toArray
  | 0, acc => by simp
  | k + 1, acc => by
    have e : acc.toArray ++ its.toArray = (acc ++ its).toArray := by simp
    have e2 : (acc ++ its) ++ (List.replicate k its).flatten = acc ++ (List.replicate (k + 1) its).flatten := by
      rw [List.replicate_succ, List.flatten_cons, List.append_assoc]
    rw [← e2, ← foldl_rep its k (acc ++ its), ← e, List.replicate_succ, List.foldl_cons]

section
variable {X : Cx} {pins : List (Addr × Obj)} {σ : St} {H : Hp} {s : Shared} {l b : Addr} {xs ys zs : List V}

/-! ### the two steps: a tracked list is rewritten, a new list is laid -/
theorem Inv.lset {its its' : List Value} {n : Nat} {f : Array Value → Array Value} {t' : Nat} (I : Inv X pins σ H s) (hH : H l = some (.lst xs))
    (e : s.heap.get? l = some { cls := .type "list", data := .seq its.toArray n }) (hf : f its.toArray = its'.toArray) (hv : Vals ys its') (hz : ys.length ≤ sizeLine) :
    Inv X pins σ (upd H l (.lst ys)) { s with heap := s.heap.update l (Obj.mapSeq f), toks := t' } := by
  have q := PySem.IsL.update e f
  rw [hf] at q
  refine I.write (x := l) (e := l) (by rw [hH]; exact trivial) (.inl rfl) (fun b' u hb hu => (Heap.get?_update_other s.heap (Obj.mapSeq f) (Ne.symm hb)).trans hu) ⟨_, q⟩ ?_
  exact ⟨hz, its', _, hv, q⟩
theorem Inv.lnew {its : List Value} {t' : Nat} (I : Inv X pins σ H s) (hv : Vals ys its) (hz : ys.length ≤ sizeLine) :
    Inv X pins σ (upd H s.heap.objs.size (.lst ys)) { s with heap := s.heap.push { cls := .type "list", data := .seq its.toArray }, toks := t' } :=
  I.laid (fun _ _ q => Heap.get?_push_of_some _ q) (Nat.le_refl _) ⟨hz, its, 0, hv, Heap.get?_push_size _ rfl⟩
theorem Inv.fresh (I : Inv X pins σ H s) : H s.heap.objs.size = none := I.hok.fresh (Nat.le_refl _)
theorem Inv.lstM (I : Inv X pins σ H s) (hH : H l = some (.lst xs)) : xs.length ≤ sizeLine ∧ ∃ (its : List Value) (n : Nat), Vals xs its ∧ xs.length = its.length ∧ s.heap.get? l = some { cls := .type "list", data := .seq its.toArray n } := by
  obtain ⟨z, its, n, r, e⟩ := I.hok l _ hH
  exact ⟨z, its, n, r, r.length, e⟩

theorem notLongL {n : Nat} (h : n ≤ sizeLine) : Builtin.List.listTooLong n = false := by
  unfold Builtin.List.listTooLong
  exact decide_eq_false (by omega)
end

section
variable {X : Cx}

/-! ### methods -/
def rAppend : V → List V → Hp → VK → Prop := fun x vs H Q => ∃ l xs y, x = .ref l ∧ vs = [y] ∧ H l = some (.lst xs) ∧ xs.length < sizeLine ∧ Q .non (upd H l (.lst (xs ++ [y])))
theorem mt_append : MtM X "list.append" rAppend := by
  intro pins s σ H x vs v us Q I rx rv h
  obtain ⟨l, xs, y, rfl, rfl, hH, hz, q⟩ := h
  cases rx
  obtain ⟨u, rfl, ru⟩ := rv.one
  obtain ⟨z, its, n, r, hl, e⟩ := I.lstM hH
  refine call_meets F.slot_list_append ⟨_, e, rfl⟩ F.entry_list_append (F.args_list_append_2 _ _) (PySem.list_append l its.toArray n u (by rw [List.size_toArray]; omega)) ⟨e, ?_⟩
  refine ⟨.non, _, I.lset (its' := its ++ [u]) hH e (by simp) (r.append (.cons ru .nil)) ?_, rfl, q⟩
  rw [List.length_append, List.length_singleton]
  omega

def rExtend : V → List V → Hp → VK → Prop := fun x vs H Q => ∃ l b xs zs, x = .ref l ∧ vs = [.ref b] ∧ H l = some (.lst xs) ∧ H b = some (.lst zs) ∧ xs.length + zs.length ≤ sizeLine ∧ Q .non (upd H l (.lst (xs ++ zs)))
theorem mt_extend : MtM X "list.extend" rExtend := by
  intro pins s σ H x vs v us Q I rx rv h
  obtain ⟨l, b, xs, zs, rfl, rfl, hH, hB, hz, q⟩ := h
  cases rx
  obtain ⟨u, rfl, ru⟩ := rv.one
  cases ru
  obtain ⟨z, its, n, r, hl, e⟩ := I.lstM hH
  obtain ⟨z2, its2, n2, r2, hl2, e2⟩ := I.lstM hB
  have hsz : its.toArray.size + its2.toArray.size ≤ sizeLine := by rw [List.size_toArray, List.size_toArray]; omega
  have hlong : ¬ (!its.toArray.isEmpty && Builtin.List.listTooLong (its.toArray.size + its2.toArray.size)) = true := by
    rw [notLongL hsz, Bool.and_false]
    exact Bool.false_ne_true
  refine call_meets F.slot_list_extend ⟨_, e, rfl⟩ F.entry_list_extend (F.args_list_extend_2 _ _)
    (AutoSeq1.list_extend_list_list_0 l its.toArray n b its2.toArray n2 hlong (by rw [List.size_toArray]; omega) (by omega)) ⟨e, e2, ?_⟩
  refine ⟨.non, _, I.lset (its' := its ++ its2) hH e (by simp) (r.append r2) ?_, rfl, q⟩
  rw [List.length_append]
  omega

def rPop : V → List V → Hp → VK → Prop := fun x vs H Q => ∃ l xs y, x = .ref l ∧ vs = [] ∧ H l = some (.lst xs) ∧ xs[xs.length - 1]? = some y ∧ Q y (upd H l (.lst xs.dropLast))
theorem mt_pop : MtM X "list.pop" rPop := by
  intro pins s σ H x vs v us Q I rx rv h
  obtain ⟨l, xs, y, rfl, rfl, hH, hy, q⟩ := h
  cases rx
  have hus := rv.zero
  subst hus
  obtain ⟨z, its, n, r, hl, e⟩ := I.lstM hH
  obtain ⟨u, hu, ru⟩ := r.get hy
  have hy' : its.toArray[its.toArray.size - 1]? = some u := by
    show its.toArray[its.length - 1]? = some u
    rw [← Array.getElem?_toList, ← hl]
    exact hu
  refine call_meets F.slot_list_pop ⟨_, e, rfl⟩ F.entry_list_pop (F.args_list_pop_1 _) (MeetsSeq.list_pop_last l its.toArray n u hy' (by rw [List.size_toArray]; omega)) ⟨e, ?_⟩
  refine ⟨y, _, I.lset (its' := its.dropLast) hH e ?_ r.dropLast ?_, ru, q⟩
  · show its.toArray.eraseIdxIfInBounds (its.toArray.size - 1) = its.dropLast.toArray
    rw [List.size_toArray, List.eraseIdxIfInBounds_toArray, erase_last]
  · rw [List.length_dropLast]
    omega

def rPopAt : V → List V → Hp → VK → Prop := fun x vs H Q => ∃ l xs i k y, x = .ref l ∧ vs = [.int i] ∧ H l = some (.lst xs) ∧ -(2 ^ 63) ≤ i ∧ i < 2 ^ 63 ∧ seqIndex? i xs.length = some k ∧ xs[k]? = some y ∧ Q y (upd H l (.lst (xs.eraseIdx k)))
theorem mt_popAt : MtM X "list.pop" rPopAt := by
  intro pins s σ H x vs v us Q I rx rv h
  obtain ⟨l, xs, i, k, y, rfl, rfl, hH, h1, h2, hk, hy, q⟩ := h
  cases rx
  obtain ⟨u, rfl, ru⟩ := rv.one
  obtain ⟨t, rfl⟩ := ru
  obtain ⟨z, its, n, r, hl, e⟩ := I.lstM hH
  obtain ⟨w, hw, rw'⟩ := r.get hy
  refine call_meets F.slot_list_pop ⟨_, e, rfl⟩ F.entry_list_pop (F.args_list_pop_2 _ _)
    (MeetsSeq.list_pop_at l its.toArray n i t k w (fitsIndex_both h1 h2) (by rw [List.size_toArray, ← hl]; exact hk) (by rw [← Array.getElem?_toList]; exact hw) (by rw [List.size_toArray]; omega)) ⟨e, ?_⟩
  refine ⟨y, _, I.lset (its' := its.eraseIdx k) hH e ?_ (r.eraseIdx k) ?_, rw', q⟩
  · show its.toArray.eraseIdxIfInBounds k = (its.eraseIdx k).toArray
    rw [List.eraseIdxIfInBounds_toArray]
  · have := len_erase xs k
    omega

def rReverse : V → List V → Hp → VK → Prop := fun x vs H Q => ∃ l xs, x = .ref l ∧ vs = [] ∧ H l = some (.lst xs) ∧ Q .non (upd H l (.lst xs.reverse))
theorem mt_reverse : MtM X "list.reverse" rReverse := by
  intro pins s σ H x vs v us Q I rx rv h
  obtain ⟨l, xs, rfl, rfl, hH, q⟩ := h
  cases rx
  have hus := rv.zero
  subst hus
  obtain ⟨z, its, n, r, hl, e⟩ := I.lstM hH
  refine call_meets F.slot_list_reverse ⟨_, e, rfl⟩ F.entry_list_reverse (F.args_list_reverse_1 _) (AutoSeq1.list_reverse_list_0 l its.toArray n (by rw [List.size_toArray]; omega)) ⟨e, ?_⟩
  refine ⟨.non, _, I.lset (its' := its.reverse) hH e (by simp) r.reverse ?_, rfl, q⟩
  rw [List.length_reverse]
  omega

def rClear : V → List V → Hp → VK → Prop := fun x vs H Q => ∃ l xs, x = .ref l ∧ vs = [] ∧ H l = some (.lst xs) ∧ Q .non (upd H l (.lst []))
theorem mt_clear : MtM X "list.clear" rClear := by
  intro pins s σ H x vs v us Q I rx rv h
  obtain ⟨l, xs, rfl, rfl, hH, q⟩ := h
  cases rx
  have hus := rv.zero
  subst hus
  obtain ⟨z, its, n, r, hl, e⟩ := I.lstM hH
  refine call_meets F.slot_list_clear ⟨_, e, rfl⟩ F.entry_list_clear (F.args_list_clear_1 _) (AutoSeq1.list_clear_list_0 l its.toArray n (by rw [List.size_toArray]; omega)) ⟨e, ?_⟩
  exact ⟨.non, _, I.lset (its' := []) (ys := []) hH e rfl .nil (Nat.zero_le _), rfl, q⟩

/-! ### list + list, list += list, list * int -/
def rCat : R2 := fun x y H Q => ∃ l b xs zs, x = .ref l ∧ y = .ref b ∧ H l = some (.lst xs) ∧ H b = some (.lst zs) ∧ xs.length + zs.length ≤ sizeLine ∧ ∀ p, H p = none → Q (.ref p) (upd H p (.lst (xs ++ zs)))
theorem op_cat : OpR X (binaryOp .Add) rCat := by
  intro pins s σ H x y v u Q I rx ry h
  obtain ⟨l, b, xs, zs, rfl, rfl, hH, hB, hz, q⟩ := h
  cases rx
  cases ry
  obtain ⟨z, its, n, r, hl, e⟩ := I.lstM hH
  obtain ⟨z2, its2, n2, r2, hl2, e2⟩ := I.lstM hB
  refine PySem.P.add_list e e2 ?_ (by rw [List.size_toArray, List.size_toArray]; omega)
  have ea : its.toArray ++ its2.toArray = (its ++ its2).toArray := by simp
  rw [ea]
  exact ⟨.ref _, _, I.lnew (t' := s.toks) (r.append r2) (by rw [List.length_append]; omega), rfl, q _ I.fresh⟩
/-- a list times an int (a negative one is nothing) -/
def rRep : R2 := fun x y H Q => ∃ l k xs, x = .ref l ∧ y = .int k ∧ H l = some (.lst xs) ∧ -(2 ^ 63) ≤ k ∧ k < 2 ^ 63 ∧ xs.length * k.toNat ≤ sizeLine ∧
  ∀ p, H p = none → Q (.ref p) (upd H p (.lst (List.replicate k.toNat xs).flatten))
theorem len_rep {α : Type} (xs : List α) (k : Nat) : (List.replicate k xs).flatten.length = k * xs.length := by
  induction k with
  | zero => simp
  | succ k ih => rw [List.replicate_succ, List.flatten_cons, List.length_append, ih, Nat.succ_mul, Nat.add_comm]
theorem op_rep : OpR X (binaryOp .Mult) rRep := by
  intro pins s σ H x y v u Q I rx ry h
  obtain ⟨l, k, xs, rfl, rfl, hH, h1, h2, hz, q⟩ := h
  cases rx
  obtain ⟨t, rfl⟩ := ry
  obtain ⟨z, its, n, r, hl, e⟩ := I.lstM hH
  have hlen : its.toArray.size * k.toNat ≤ sizeLine := by rw [List.size_toArray, ← hl]; exact hz
  have hcap : ¬ its.toArray.size * k.toNat > (2 ^ 63 - 1) / 8 := by
    have : (sizeLine : Nat) ≤ (2 ^ 63 - 1) / 8 := by decide
    omega
  have hfit : ¬ (!Builtin.List.listFitsIndex k) = true := by
    rw [fitsIndex_both h1 h2]
    exact Bool.false_ne_true
  have hlong : ¬ Builtin.List.listTooLong (its.toArray.size * k.toNat) = true := by
    rw [notLongL hlen]
    exact Bool.false_ne_true
  have hnew : List.foldl (fun x1 x2 => x1 ++ x2) #[] (List.replicate (if its.toArray.isEmpty = true then 0 else k.toNat) its.toArray) = (List.replicate k.toNat its).flatten.toArray := by
    have f0 : ∀ m : Nat, List.foldl (fun x1 x2 => x1 ++ x2) #[] (List.replicate m its.toArray) = (List.replicate m its).flatten.toArray := fun m => by
      have := foldl_rep its m []
      rw [List.nil_append] at this
      exact this
    rw [f0]
    cases its with
    | nil => simp
    | cons a r' => rw [if_neg (by simp)]
  refine wpAny_binaryOp_repeat_ref (T := "list") (U := "int") (by decide) ⟨_, e, rfl⟩ (fun s' => typeIs_int s' k t) noFill_list_mul F.fills_int_mul F.slot_int_rmul repeat_list F.slot_int_index.lookup
    (call_meets F.slot_int_rmul (typeIs_int s k t) F.entry_int_rmul (F.args_int_rmul_2 _ _) (int___rmul___int_list k t l its.toArray n)
      ⟨e, rfl, ⟨_, e, rfl⟩, call_meets F.slot_list_mul ⟨_, e, rfl⟩ F.entry_list_mul (F.args_list_mul_2 _ _) (AutoListH.list___mul___list_int_3 l its.toArray n k t hfit hcap hlong) ⟨e, ?_⟩⟩)
  rw [hnew]
  exact ⟨.ref _, _, I.lnew (t' := s.toks) (r.rep k.toNat) (by rw [len_rep, Nat.mul_comm]; exact hz), rfl, q _ I.fresh⟩

/-! ### del xs[i] -/
theorem del_list {pins : List (Addr × Obj)} {s : Shared} {σ : St} {H : Hp} {l : Addr} {xs : List V} {i : Int} {t : Tok} {k : Nat} {Q : Unit → Shared → Prop} (I : Inv X pins σ H s) (hH : H l = some (.lst xs))
    (h1 : -(2 ^ 63) ≤ i) (h2 : i < 2 ^ 63) (hk : seqIndex? i xs.length = some k) (h : ∀ s', Inv X pins σ (upd H l (.lst (xs.eraseIdx k))) s' → Q () s') :
    wpAny (model X.prog X.w) X.A (delItem (.ref l) (.int i t)) Q X.xe s := by
  obtain ⟨z, its, n, r, hl, e⟩ := I.lstM hH
  refine PySem.P.delItem_list (k := k) e (fitsIndex_both h1 h2) (by rw [List.size_toArray, ← hl]; exact hk) (h _ ?_) (by rw [List.size_toArray]; omega)
  refine I.lset (its' := its.eraseIdx k) (t' := s.toks) hH e ?_ (r.eraseIdx k) ?_
  · show its.toArray.eraseIdxIfInBounds k = (its.eraseIdx k).toArray
    rw [List.eraseIdxIfInBounds_toArray]
  · have := len_erase xs k
    omega
end

/-! ### xs[a:b] = ys -/
section
variable {prog : Program} {w : World} {A : Around} {E : Value → Shared → Prop} {s : Shared}
theorem splice_eq (its its2 : List Value) (a c : Nat) : its.toArray.extract 0 a ++ its2.toArray ++ its.toArray.extract c its.toArray.size = (its.take a ++ its2 ++ its.drop c).toArray := by
  apply Array.toList_inj.mp
  first
    | (simp
       exact List.take_of_length_le (by simp))
    | simp [List.take_of_length_le]
    | simp
theorem bounds_run {a c n : Nat} (hac : a ≤ c) (hc : c ≤ n) : sliceBounds (some (a : Int)) (some (c : Int)) none n = ((a : Int), (c : Int), 1) := by
  simp only [sliceBounds, Option.getD_none]
  have h1 : ¬ ((a : Int) < 0) := by omega
  have h2 : ¬ ((c : Int) < 0) := by omega
  simp only [h1, h2, if_false, show (1 : Int) > 0 by decide, if_true]
  congr 1
  · omega
  · congr 1; omega
set_option maxRecDepth 100000 in
/-- list.__setitem__ with a slice of step one and another list -/
theorem setItem_slice {l b sl : Addr} {items new : Array Value} {n n2 : Nat} {vl vu : Value} {a c : Nat} {Q : Unit → Shared → Prop}
    (e : s.heap.get? l = some { cls := .type "list", data := .seq items n }) (e2 : s.heap.get? b = some { cls := .type "list", data := .seq new n2 }) (hne : l ≠ b)
    (hs : s.heap.IsSliceOf sl vl vu .none) (pl : IsPart vl (some (a : Int))) (pu : IsPart vu (some (c : Int))) (hac : a ≤ c) (hc : c ≤ items.size)
    (hsz : items.size + new.size ≤ sizeLine) (h : Q () { s with heap := s.heap.update l (Obj.mapSeq fun xs => xs.extract 0 a ++ new ++ xs.extract c xs.size) }) :
    wpAny (model prog w) A (setItem (.ref l) (.ref sl) (.ref b)) Q E s := by
  have hl : s.heap.IsList l items := PySem.IsL.isList e
  have hb : s.heap.IsList b new := PySem.IsL.isList e2
  obtain ⟨os, hos, hcs, hds⟩ := id hs
  have hTs : s.TypeIs (.ref sl) "slice" := ⟨os, hos, hcs⟩
  have hstep : ¬ ((rawPart none == rawInt 0) = true) := Bool.false_ne_true
  have hsame : Builtin.List.listSameRef (.ref l) (.ref b) = false := by
    unfold Builtin.List.listSameRef
    exact beq_eq_false_iff_ne.mpr hne
  have hmax : (max (a : Int) (c : Int)).toNat = c := by omega
  have hz' : ((fun xs : Array Value => xs.extract 0 a ++ new ++ xs.extract c xs.size) items).size ≤ sizeLine + 1 := by
    simp only [Array.size_append, Array.size_extract]
    omega
  unfold setItem
  try with_reducible refine wpAny_holding ?_
  first | refine wpAny_bind (wpAny_pure ?_) | skip
  refine wpAny_bind (wpAny_sequenceKey hl.typeIs (by decide) ?_)
  refine wpAny_bind (wpAny_callSpecial?_slot (name := Str.ofString "__setitem__") hl.typeIs slot_list_setitem
    (wpAny_call_entry slot_list_setitem hl.typeIs entry_list_setitem ?_ (args_list_setitem _ _ _)))
  show wpAny _ _ (Builtin.List.listSubscript? (.ref sl) >>= _) _ _ s
  refine wpAny_bind ?_
  unfold Builtin.List.listSubscript?
  refine wpAny_bind (wpAny_specialOf hTs slice_no_index ?_)
  simp only [Option.isNone_none, if_true]
  refine wpAny_pure ?_
  show wpAny _ _ (typeOf (.ref sl) >>= _) _ _ s
  refine wpAny_bind (wpAny_typeOf hTs ?_)
  first
    | rw [if_neg (by decide)]
    | refine PySem.W.KFB.if_not (by decide) ?_
  rw [listSliceParts_eq]
  refine wpAny_bind (wpAny_bind (wpAny_field hos hds (x := .none) rfl (wpAny_bind (wpAny_listPart .none ?_))))
  rw [if_neg hstep]
  refine wpAny_bind (wpAny_field hos hds (x := vl) rfl (wpAny_bind (wpAny_listPart pl ?_)))
  refine wpAny_bind (wpAny_field hos hds (x := vu) rfl (wpAny_bind (wpAny_listPart pu (wpAny_pure ?_))))
  first
    | simp only [hsame, Bool.false_eq_true, if_false]
    | refine PySem.W.KFB.if_not hsame ?_
    | (dsimp only
       rw [if_neg (by rw [hsame]; exact Bool.false_ne_true)])
  refine wpAny_bind (m := Builtin.List.listAllItems (.ref b) "must assign iterable to extended slice") ?_
  unfold Builtin.List.listAllItems
  refine wpAny_bind (wpAny_typeOf hb.typeIs ?_)
  first
    | refine PySem.W.KFB.if_so (by decide) ?_
    | rw [if_pos (by decide)]
    | simp only [beq_self_eq_true, Bool.true_or, if_true]
  unfold Builtin.List.listItems
  refine wpAny_bind (wpAny_seqItems e2 rfl (wpAny_pure ?_))
  refine wpAny_bind (wpAny_bind (wpAny_seqItems e rfl (wpAny_pure ?_)))
  refine wpAny_bind (wpAny_of_eq ((sliceIndices_raw (some (a : Int)) (some (c : Int)) none items.size (by simp)).trans (congrArg (pure : Int × Int × Int → Sem (Int × Int × Int)) (bounds_run hac hc))) ?_)
  show wpAny _ _ (if ((1 : Int) == 1) = true then _ else _) _ _ s
  rw [if_pos (by decide)]
  refine wpAny_bind (wpAny_rule ?_)
  first
    | simp only [notLongL hsz, Bool.false_eq_true, if_false]
    | refine PySem.W.KFB.if_not (notLongL hsz) ?_
  first | refine wpAny_bind (wpAny_pure ?_) | skip
  show wpAny _ _ (updateSeq l (fun xs => xs.extract 0 ((a : Int)).toNat ++ new ++ xs.extract (max (a : Int) (c : Int)).toNat xs.size) >>= _) _ _ s
  rw [hmax, Int.toNat_natCast]
  refine wpAny_bind (wpAny_updateSeq (hz := Nat.le_trans (Nat.le_add_right _ _) hsz) (_hz' := hz') e rfl ?_)
  refine wpAny_bind (wpAny_letGo ?_)
  first
    | exact wpAny_bind (wpAny_pure (wpAny_pure ⟨.none, rfl, wpAny_pure h⟩))
    | exact wpAny_pure ⟨.none, rfl, wpAny_pure h⟩
end

section
variable {X : Cx}
/-- xs[a:c] = ys of another list, at the value level: sl is the slice object that was just made -/
theorem set_slice {pins : List (Addr × Obj)} {s : Shared} {σ : St} {H : Hp} {l b sl : Addr} {xs ys : List V} {a c : Int} {vl vu : Value} {Q : Unit → Shared → Prop} (I : Inv X pins σ H s)
    (hH : H l = some (.lst xs)) (hB : H b = some (.lst ys)) (hne : l ≠ b) (hs : s.heap.IsSliceOf sl vl vu .none) (ra : RelV (.int a) vl) (rc : RelV (.int c) vu) (h0 : 0 ≤ a) (hac : a ≤ c) (hc : c ≤ xs.length)
    (hz : xs.length + ys.length ≤ sizeLine) (h : ∀ s', Inv X pins σ (upd H l (.lst (xs.take a.toNat ++ ys ++ xs.drop c.toNat))) s' → Q () s') :
    wpAny (model X.prog X.w) X.A (setItem (.ref l) (.ref sl) (.ref b)) Q X.xe s := by
  obtain ⟨ta, rfl⟩ := ra
  obtain ⟨tc, rfl⟩ := rc
  obtain ⟨z, its, n, r, hl, e⟩ := I.lstM hH
  obtain ⟨z2, its2, n2, r2, hl2, e2⟩ := I.lstM hB
  obtain ⟨a', rfl⟩ := Int.eq_ofNat_of_zero_le h0
  obtain ⟨c', rfl⟩ := Int.eq_ofNat_of_zero_le (Int.le_trans h0 hac)
  simp only [Int.toNat_natCast] at h
  refine setItem_slice (a := a') (c := c') e e2 hne hs (.int _ _) (.int _ _) (by omega) (by rw [List.size_toArray]; omega) (by rw [List.size_toArray, List.size_toArray]; omega) (h _ ?_)
  refine I.lset (its' := its.take a' ++ its2 ++ its.drop c') (t' := s.toks) hH e ?_ (Vals.append (Vals.append (r.take _) r2) (r.drop _)) ?_
  · exact splice_eq its its2 a' c'
  · rw [List.length_append, List.length_append, List.length_take, List.length_drop]
    omega
end
end L2

namespace Att
open PySem PySem.W PySem.Calls PyProof.Rows

/-! ### the script -/
theorem ints_of_wellAll {P : Params} {h : Heap} : ∀ (ns : List Int) (vs : List Value), WellAll P h vs (ns.map WData.int) → IntsAre vs ns := by
  intro ns
  induction ns with
  | nil =>
    intro vs w
    rw [List.map_nil] at w
    cases w
    exact .nil
  | cons n ns ih =>
    intro vs w
    rw [List.map_cons] at w
    cases w with
    | cons a b =>
      cases a
      exact .cons _ _ (ih _ b)

theorem script_of {l : OpenLaw} {n : Nat} (hn : l.most = some n) {P : Params} {h : Heap} {args : List WData} {vals : List Value}
    (hpre : l.row.toRowW.claim.pre args = true) (hwl : WellAll P h vals args) :
    ∃ a vs ns, vals = [Value.ref a] ∧ args = [WData.list (ns.map WData.int)] ∧ h.get? a = some { cls := .type "list", data := .seq vs.toArray } ∧ IntsAre vs ns ∧ ns.length ≤ n := by
  have hsh : WShape.hasAll [] args [.list .int] = true := (pre_splitW hpre).1
  have hc : l.pre.holds [] { args := args } = true := (pre_splitW hpre).2
  obtain ⟨d, r, rfl, h1, h2⟩ := hasAllW_cons hsh
  obtain rfl := hasAllW_nil h2
  obtain ⟨xs, rfl, h3⟩ := hasW_list h1
  obtain ⟨ns, rfl⟩ := items_int h3
  have hlen : ns.length ≤ n := by
    unfold OpenLaw.pre at hc
    have h4 : (WTm.not (.lt (.lit (.int (n : Int))) (.len (.arg 0)))).holds [] { args := [.list (ns.map .int)] } = true := by
      have h4 := (holds_andW hc).1
      rw [hn] at h4
      exact h4
    have h5 := condW_of h4 (w_not (w_lt w_lit (w_len_list (w_arg rfl))))
    rw [List.length_map] at h5
    refine Nat.le_of_not_lt fun q => ?_
    have q' : (n : Int) < ((ns.length : Nat) : Int) := by omega
    first
      | (rw [decide_eq_true q'] at h5; exact absurd h5 (by decide))
      | (simp at h5; omega)
  cases hwl with
  | cons w1 w2 =>
    cases w2
    cases w1 with
    | list ho hall => exact ⟨_, _, ns, rfl, rfl, ho, ints_of_wellAll ns _ hall, hlen⟩

theorem post_true (l : OpenLaw) (args : List WData) : l.row.toRowW.claim.post args (.bool true) args = true :=
  postW_of (r := l.row.toRowW) (X := (true == true))
    (show WShape.has [] (.bool true) .bool = true by first | rfl | decide | simp [WShape.has, WShape.arms, WShape.armsAll])
    (show (WTm.eq .res (.lit (.bool true))).value [] { args := args, res := some (.bool true), after := args } = some (.bool (true == true)) from w_eq_bool (w_res rfl) w_lit) rfl

/-! ### the attachment: holds_open's last premise (the goal 'hc' behind k_head) from a wpAny of the law's body -/
theorem attach {l : OpenLaw} {n : Nat} {q : Program} {loose : List Str} {XP : (Str → Option Value) → Heap → Prop} {YP : World → Heap → Prop} {d : DefRec} {x : Str}
    (hn : l.most = some n) (hdf : d.params.defaults = [])
    (hbind : ∀ pm cd doc v : Value, bindArgs (docDef d.name d.params d.body d.scope pm cd doc) ⟨[v], []⟩ = pure [(x, v)])
    (hx : d.scope.names.lookup x = some .local ∨ d.scope.names.lookup x = some .cell)
    (hk : d.scope.kind = .function) (hco : d.scope.isCoroutine = false) (hgen : d.scope.isGenerator = false)
    (body : ∀ (w : World) (s₀ s₁ s : Shared) (mg mb : Str → Option Value) (fa : Addr) (o : Obj) (pm cd doc : Value) (a : Addr) (vs : List Value) (ns : List Int),
      Ground q loose [] XP w s₀ mg mb s₁.heap → YP w s₁.heap →
      s₁.heap.get? fa = some o → o.data = .func (docDef d.name d.params d.body d.scope pm cd doc) → s₁.heap.CodeRec cd d.name → mg d.name = some (.ref fa) →
      s₁.heap.get? a = some { cls := .type "list", data := .seq vs.toArray } → IntsAre vs ns → ns.length ≤ n →
      s.gens = #[] → s.os = s₁.os →
      Fr s₁.heap s₁.heap.objs.size s.heap (bindL (envOfC d.name d.scope s₁.heap.objs.size fa cd).kindOf [(x, .ref a)] fun _ => none) →
      Cl s₁.heap.objs.size (cellsFrom (s₁.heap.objs.size + 1) d.scope.names []) s.heap (bindC (envOfC d.name d.scope s₁.heap.objs.size fa cd).kindOf [(x, .ref a)] fun _ => none) →
      wpAny (model l.prog w) (callerA.deeper (envOfC d.name d.scope s₁.heap.objs.size fa cd)) (execs d.body (envOfC d.name d.scope s₁.heap.objs.size fa cd))
        (fun f s' => f = .ret (.bool true) ∧ OldK s₁.heap s'.heap ∧ s'.os = s₁.os ∧ AllBare s'.gens) (fun _ _ => False) s) :
    WalkO q loose XP YP l.row.toRowW d [] (fun f vs => PySem.call f vs) := by
  intro w s₀ s₁ mg mb G Y fa o pm cd doc dV kV ho hd hcd hD hmg hg args vals as hpre hlay hrd hwl hlo
  obtain rfl : dV = .none := Dflts.none hD hdf
  obtain rfl : kV = .none := Dflts.noKw hD
  obtain ⟨a, vs, ns, rfl, rfl, hobj, hints, hlen⟩ := script_of hn hpre hwl
  refine enter_call ?_
  refine call_cells_ret (o := o) (by rw [depth_caller]; decide) ho (fd_plain hd) G.T.nolimit hcd (hbind pm cd doc (.ref a)) (fun y hy => ?_) (fun h₁ tk F X => ?_) hco hgen hk
  · obtain rfl : y = (x, Value.ref a) := List.mem_singleton.mp hy
    rcases hx with e | e
    · exact .inl e
    · exact .inr ⟨e, cellsFrom_some _ _ _ (.inl e)⟩
  · refine wpAny_mono (body w s₀ s₁ { s₁ with heap := h₁, toks := tk } mg mb fa o pm cd doc a vs ns G Y ho (fd_plain hd) hcd hmg hobj hints hlen hg rfl F X) (fun f s' hq => ?_) (fun _ _ hq => hq)
    obtain ⟨rfl, h2, h3, h4⟩ := hq
    exact ⟨.inl ⟨.bool true, .bool true, [], rfl, fun _ => rfl, .bool true, post_true l _, fun _ => ⟨List.Pairwise.nil, fun _ hm => (nomatch hm)⟩⟩, h2, h3, h4⟩

/-- the same from a codeAny of the CALL (for a layer whose function contracts speak of calls) -/
theorem attach_call {l : OpenLaw} {n : Nat} {q : Program} {loose : List Str} {XP : (Str → Option Value) → Heap → Prop} {YP : World → Heap → Prop} {d : DefRec}
    (hn : l.most = some n) (hdf : d.params.defaults = [])
    (call : ∀ (w : World) (s₀ s₁ : Shared) (mg mb : Str → Option Value) (fa : Addr) (o : Obj) (pm cd doc : Value) (a : Addr) (vs : List Value) (ns : List Int),
      Ground q loose [] XP w s₀ mg mb s₁.heap → YP w s₁.heap →
      s₁.heap.get? fa = some o → o.data = .func (docDef d.name d.params d.body d.scope pm cd doc) → s₁.heap.CodeRec cd d.name → mg d.name = some (.ref fa) →
      s₁.heap.get? a = some { cls := .type "list", data := .seq vs.toArray } → IntsAre vs ns → ns.length ≤ n → s₁.gens = #[] →
      codeAny (model l.prog w) callerA (.call (.ref fa) ⟨[.ref a], []⟩) (fun r s' => r = .ok (.ret (.bool true)) ∧ OldK s₁.heap s'.heap ∧ s'.os = s₁.os ∧ AllBare s'.gens) s₁) :
    WalkO q loose XP YP l.row.toRowW d [] (fun f vs => PySem.call f vs) := by
  intro w s₀ s₁ mg mb G Y fa o pm cd doc dV kV ho hd hcd hD hmg hg args vals as hpre hlay hrd hwl hlo
  obtain rfl : dV = .none := Dflts.none hD hdf
  obtain rfl : kV = .none := Dflts.noKw hD
  obtain ⟨a, vs, ns, rfl, rfl, hobj, hints, hlen⟩ := script_of hn hpre hwl
  refine enter_call (codeAny_mono (call w s₀ s₁ mg mb fa o pm cd doc a vs ns G Y ho (fd_plain hd) hcd hmg hobj hints hlen hg) fun r s' hq => ?_)
  obtain ⟨rfl, h2, h3, h4⟩ := hq
  exact ⟨.inl ⟨.bool true, .bool true, [], rfl, fun _ => rfl, .bool true, post_true l _, fun _ => ⟨List.Pairwise.nil, fun _ hm => (nomatch hm)⟩⟩, h2, h3, h4⟩

/-- the same where the top left finished generators (o_head chose holds_openN): nothing may have changed at all and no generator may be left -/
theorem attachN {l : OpenLaw} {n : Nat} {q : Program} {loose : List Str} {XP : (Str → Option Value) → Heap → Prop} {YP : World → Heap → Prop} {d : DefRec} {x : Str}
    (hn : l.most = some n) (hdf : d.params.defaults = [])
    (hbind : ∀ pm cd doc v : Value, bindArgs (docDef d.name d.params d.body d.scope pm cd doc) ⟨[v], []⟩ = pure [(x, v)])
    (hx : d.scope.names.lookup x = some .local ∨ d.scope.names.lookup x = some .cell)
    (hk : d.scope.kind = .function) (hco : d.scope.isCoroutine = false) (hgen : d.scope.isGenerator = false)
    (body : ∀ (w : World) (s₀ s₁ s : Shared) (mg mb : Str → Option Value) (fa : Addr) (o : Obj) (pm cd doc : Value) (a : Addr) (vs : List Value) (ns : List Int),
      Ground q loose [] XP w s₀ mg mb s₁.heap → YP w s₁.heap →
      s₁.heap.get? fa = some o → o.data = .func (docDef d.name d.params d.body d.scope pm cd doc) → s₁.heap.CodeRec cd d.name → mg d.name = some (.ref fa) →
      s₁.heap.get? a = some { cls := .type "list", data := .seq vs.toArray } → IntsAre vs ns → ns.length ≤ n →
      s.gens = #[] → s.os = s₁.os →
      Fr s₁.heap s₁.heap.objs.size s.heap (bindL (envOfC d.name d.scope s₁.heap.objs.size fa cd).kindOf [(x, .ref a)] fun _ => none) →
      Cl s₁.heap.objs.size (cellsFrom (s₁.heap.objs.size + 1) d.scope.names []) s.heap (bindC (envOfC d.name d.scope s₁.heap.objs.size fa cd).kindOf [(x, .ref a)] fun _ => none) →
      wpAny (model l.prog w) (callerA.deeper (envOfC d.name d.scope s₁.heap.objs.size fa cd)) (execs d.body (envOfC d.name d.scope s₁.heap.objs.size fa cd))
        (fun f s' => f = .ret (.bool true) ∧ (∀ b o, s₁.heap.get? b = some o → s'.heap.get? b = some o) ∧ s'.os = s₁.os ∧ s'.gens = #[]) (fun _ _ => False) s) :
    WalkN q loose XP YP l.row.toRowW d [] (fun f vs => PySem.call f vs) := by
  intro w s₀ s₁ mg mb G Y fa o pm cd doc dV kV ho hd hcd hD hmg hg args vals as hpre hlay hrd hwl hlo
  obtain rfl : dV = .none := Dflts.none hD hdf
  obtain rfl : kV = .none := Dflts.noKw hD
  obtain ⟨a, vs, ns, rfl, rfl, hobj, hints, hlen⟩ := script_of hn hpre hwl
  refine enter_callW ?_
  refine call_cells_ret (o := o) (by rw [depth_caller]; decide) ho (fd_plain hd) G.T.nolimit hcd (hbind pm cd doc (.ref a)) (fun y hy => ?_) (fun h₁ tk F X => ?_) hco hgen hk
  · obtain rfl : y = (x, Value.ref a) := List.mem_singleton.mp hy
    rcases hx with e | e
    · exact .inl e
    · exact .inr ⟨e, cellsFrom_some _ _ _ (.inl e)⟩
  · refine wpAny_mono (body w s₀ s₁ { s₁ with heap := h₁, toks := tk } mg mb fa o pm cd doc a vs ns G Y ho (fd_plain hd) hcd hmg hobj hints hlen hg rfl F X) (fun f s' hq => ?_) (fun _ _ hq => hq)
    obtain ⟨rfl, h2, h3, h4⟩ := hq
    exact ⟨.inl ⟨.bool true, .bool true, [], rfl, fun _ => rfl, .bool true, post_true l _, fun _ => ⟨List.Pairwise.nil, fun _ hm => (nomatch hm)⟩⟩, h2, h3, h4⟩

/-! ### rules over ANY heap (no ledger) from facts about the written part K: the library's own take a ledger (News) for what they write -/
section
variable {prog : Program} {w : World} {A : Around} {E : Value → Shared → Prop} {s : Shared} {K : Frag}

/-- a def of the module, or a method (qual 'C.m'), entered: the frame is the next address; cells behind it -/
theorem call_fn {R : Result → Shared → Prop} {name qual : Str} {params : Arguments} {body : List Stmt} {scope : Scope} {dV kV doc pm cdv ct oc : Value} {an od : Option Addr} {osl : Array (Option Value)} {f : Addr} {args : Args} {binds : List (Str × Value)}
    (X : K.In s.heap) (hlim : s.heap.NoLimit) (ho : K.lookup f = some ⟨oc, od, .func (fnOf name qual params body scope dV kV doc pm an cdv ct), osl⟩) (hcd : codeIn K cdv qual = true) (hroom : A.depth < recursionLimit)
    (hbind : BindsTo s (fnOf name qual params body scope dV kV doc pm an cdv ct) args binds)
    (hkind : (binds.all fun y => scope.names.lookup y.1 == some .local || scope.names.lookup y.1 == some .cell) = true)
    (h : ∀ s₁, InCallC s s.heap.objs.size (bindL (envOfC qual scope s.heap.objs.size f cdv).kindOf binds fun _ => none) (cellsFrom (s.heap.objs.size + 1) scope.names [])
        (bindC (envOfC qual scope s.heap.objs.size f cdv).kindOf binds fun _ => none) s₁ →
      wpAny (model prog w) (A.deeper (envOfC qual scope s.heap.objs.size f cdv)) (execs body (envOfC qual scope s.heap.objs.size f cdv))
        (fun fl s' => R (.ok (.ret (match fl with | .ret v => v | _ => .none))) s')
        (fun e s' => wpAny (model prog w) (A.deeper (envOfC qual scope s.heap.objs.size f cdv)) (leaving (envOfC qual scope s.heap.objs.size f cdv) e) (fun _ s'' => R (.error e) s'') (fun e' s'' => R (.error e') s'') s') s₁)
    (hco : scope.isCoroutine = false) (hgen : scope.isGenerator = false) (hk : scope.kind = .function) : codeAny (model prog w) A (.call (.ref f) args) R s := by
  refine codeAny_call_function hroom (X _ _ ho) rfl hco hgen rfl (codeRec_of X hcd) (hbind _ _ _ _ ?_)
  refine wpAny_newFunctionEnv_cells hk (kindsX hkind _) fun env he s₁ x => ?_
  subst he
  exact ⟨hlim.keeps x.toInCall.keep, codeAny_func (h s₁ x)⟩

/-- C(..): dict at size, instance at size + 1, then __init__ -/
theorem make_obj {R : Result → Shared → Prop} {C fI : Addr} {rest : List Value} {kw : List (Str × Value)}
    (X : K.In s.heap) (hm : makesIn K C = true) (hi : findIn K (.ref C) "__init__" = some (some (.ref fI))) (hf : isFn K (.ref fI) = true)
    (h : codeAny (model prog w) (A.under (.builtin "type.__call__" ⟨.ref C :: rest, kw⟩)) (.call (.ref fI) ⟨.ref (s.heap.objs.size + 1) :: rest, kw⟩) (InitBack (s.heap.objs.size + 1) R)
      { s with heap := (s.heap.push emptyDict).push (instObj C s.heap.objs.size) }) : codeAny (model prog w) A (.call (.ref C) ⟨rest, kw⟩) R s := by
  obtain ⟨hh, g, d, t, os⟩ := s
  exact make_core (makes_of X hm) (looks_findIn X hi) (fun self => bind_fn X self (beq_iff_eq.mp hf)) (.inl rfl) h

/-- x.name where the instance's dict holds the name and the class does not -/
theorem get_field {x C : Addr} {ox : Obj} {es : List DictEntry} {n : Nat} {name : Str} {expr : Bool} {v : Value} {Q : Value → Shared → Prop}
    (X : K.In s.heap) (I : PySem.W.InstAt s.heap x ox C (some (dictOf es n))) (hg : plainGet K C name = true) (hh : hasDictIn K C = true) (ha : findIn K (.ref C) name = some none)
    (hl : getL name es = some (some v)) (hv : handedIn v = true) (h : Q v { s with toks := s.toks + 1 }) : wpAny (model prog w) A (getAttr (.ref x) name expr) Q E s :=
  get_value X I (plainGet_of hg).1 (findObj_own hh ha rfl hl) hv h

/-- x.m(..): the method found in the class -/
theorem get_method {x C f : Addr} {ox : Obj} {es : List DictEntry} {n : Nat} {name : Str} {pl : Sem Bool} {Q : Value × List Value → Shared → Prop}
    (X : K.In s.heap) (I : PySem.W.InstAt s.heap x ox C (some (dictOf es n))) (hg : plainGet K C name = true) (hf : findIn K (.ref C) name = some (some (.ref f))) (ht : isFn K (.ref f) = true)
    (hl : getL name es = some none) (h : Q (.ref f, [.ref x]) s) : wpAny (model prog w) A (getMethod (.ref x) name pl) Q E s :=
  method_fn X I (plainGet_of hg).1 (plainGet_of hg).2 hf (beq_iff_eq.mp ht) (by show (lookIn name (dictOf es n)).map _ = _; rw [lookIn_dict, hl]; rfl) h

/-! the whole heap as the ledger: makes every rule that writes through a ledger a rule over any heap -/
def noObjs (h : Heap) : Heap := { h with objs := #[] }
theorem noObjs_get (h : Heap) (b : Addr) : (noObjs h).get? b = none := by
  cases e : (noObjs h).get? b with
  | none => rfl
  | some o => exact absurd (Heap.lt_size e) (Nat.not_lt_zero _)
def ledger (h : Heap) (L d : Addr) : List (Addr × Obj) := (List.range h.objs.size).filterMap fun a => if a = L ∨ a = d then none else (h.get? a).map fun o => (a, o)
theorem mem_ledger {h : Heap} {L d a : Addr} {o : Obj} : (a, o) ∈ ledger h L d ↔ a ≠ L ∧ a ≠ d ∧ h.get? a = some o := by
  unfold ledger
  rw [List.mem_filterMap]
  constructor
  · rintro ⟨b, _, e⟩
    split at e
    · cases e
    · rename_i hb
      obtain ⟨o', ho, e'⟩ := Option.map_eq_some_iff.mp e
      cases e'
      exact ⟨fun q => hb (.inl q), fun q => hb (.inr q), ho⟩
  · rintro ⟨n1, n2, ho⟩
    refine ⟨a, List.mem_range.mpr (Heap.lt_size ho), ?_⟩
    rw [if_neg (show ¬ (a = L ∨ a = d) from fun q => q.elim n1 n2), ho] <;> rfl
theorem news_ledger {h : Heap} {L d : Addr} {od : Obj} (hne : d ≠ L) (ho : h.get? d = some od) : News (noObjs h) L h ([] ++ (d, od) :: ledger h L d) := by
  rintro ⟨a, o⟩ hp
  rcases List.mem_cons.mp hp with e | hp
  · cases e
    exact ⟨ho, hne, noObjs_get _ _⟩
  · obtain ⟨n1, n2, e⟩ := mem_ledger.mp hp
    exact ⟨e, n1, noObjs_get _ _⟩
theorem fr_all {h : Heap} {L : Addr} {m : Str → Option Value} (n : h.Ns L m) : Fr (noObjs h) L h m :=
  ⟨n, fun b o e => (by rw [noObjs_get] at e; cases e), Nat.zero_le _⟩
/-- Upd of the head entry (for append_K, setItem_K ..) -/
theorem upd_ledger {h : Heap} {L d : Addr} {o o' : Obj} : Upd d o o' ((d, o) :: ledger h L d) ((d, o') :: ledger h L d) :=
  .head fun ⟨_, _⟩ hp => (mem_ledger.mp hp).2.1

/-- x.name = v over any heap: L is any namespace of the heap (the frame's, say): its map stays, its object is not told; all else but the dict stays -/
theorem set_field {x C dx L : Addr} {ox : Obj} {m : Str → Option Value} {es es' : List DictEntry} {n n' : Nat} {name : Str} {v : Value} {Q : Unit → Shared → Prop}
    (X : K.In s.heap) (I : PySem.W.InstAt s.heap x ox C (some (dictOf es n))) (hd : ox.dict = some dx) (hL : s.heap.Ns L m) (hne : dx ≠ L)
    (hs : findIn K (.ref C) "__setattr__" = some (some (.builtin "object.__setattr__"))) (hp : plainOver K C = true) (ht : takerIn K C name = some none) (hh : hasDictIn K C = true) (hl : (getL name es).isSome = true)
    (e : (putL name (PyData.keyHash w.params name) (.str name (s.toks + 1)) v es, putN name es n) = (es', n')) (hz : es'.length ≤ 1000)
    (h : ∀ h' : Heap, h'.Ns L m → h'.get? dx = some (dictOf es' n') → (∀ b o, b ≠ dx → b ≠ L → s.heap.get? b = some o → h'.get? b = some o) → Q () { s with heap := h', toks := s.toks + 2 }) :
    wpAny (model prog w) A (setAttr (.ref x) name v) Q E s := by
  obtain ⟨e1, e2⟩ := Prod.mk.inj e
  have hdx : s.heap.get? dx = some (dictOf es n) := by
    have := I.dict
    rw [hd] at this
    exact this
  refine set_plain X I hs (osa_dict (s := { s with toks := s.toks + 1 }) (h₀ := noObjs s.heap) (L := L) (m := m) (od := dictOf es n) (od' := dictOf es' n') (es := es') (n := n') (pre := []) (post := ledger s.heap L dx)
    (fr_all hL) (news_ledger hne hdx) X I hd hp ht hh hl (fun _ q => nomatch q) (fun ⟨_, _⟩ q => (mem_ledger.mp q).2.1) (by rw [putName_dict, e1, e2]) rfl hz fun h' F' N' => ?_)
  exact h h' F'.ns (N'.get (List.Mem.head _)) fun b o n1 n2 ho => N'.get (List.Mem.tail _ (mem_ledger.mpr ⟨n2, n1, ho⟩))
end
end Att

namespace L2
open PySem PySem.Spec PyProof.Rows

theorem vals_ints : ∀ {vs : List Value} {ns : List Int}, IntsAre vs ns → Vals (ns.map V.int) vs
  | _, _, .nil => .nil
  | _, _, .cons n t h => .cons ⟨t, rfl⟩ (vals_ints h)

/-- nothing is tracked but the script, known to the object (or it is an object of the module) -/
def Only (H : Hp) : Prop := ∀ b, H b = none ∨ ∃ o xs, H b = some (.frz o (.lst xs))

/-- THE HEAD: the law's promise, at the heap behind the top. F, the promise of the law's def, may use that base is part of the heap (so K.In base, base.Ns mainGlobals mg stand in Mod) -/
theorem law_call {P : Program} {w : World} {K : PySem.W.Frag} {mg mb : Str → Option Value} {CX : CXT} {k : Nat} {fa a : Addr} {fd : FuncData} {x : Str} {sp : Sp} {s₁ : Shared} {vs : List Value} {ns : List Int}
    (KX : K.In s₁.heap) (hns : s₁.heap.Ns mainGlobals mg) (hb : s₁.heap.Ns builtinsNs mb) (hbb : ∀ x : Str, x ≠ "__name__" → mb x = bootBuiltins x) (hlim : s₁.heap.NoLimit) (hg : s₁.gens = #[])
    (ha : s₁.heap.get? a = some { cls := .type "list", data := .seq vs.toArray }) (hi : IntsAre vs ns) (hl : ns.length ≤ sizeLine) (hr : Room k callerA)
    (F : ∀ base : Heap, K.In base → base.Ns mainGlobals mg → FnOk P w K mg base CX k fa fd [x] sp) (hbind : ∀ (s : Shared) (u : Value), BindsTo s fd ⟨[u], []⟩ [(x, u)])
    (hsp : ∀ H : Hp, Only H → SqL K H a (ns.map V.int) → sp [.ref a] H (fun v _ => v = .bl true) fun _ _ _ => False)
    (hCX : ∀ H e s', CX [] H s₁ (fun _ _ _ => False) e s' → False) :
    codeAny (model P w) callerA (.call (.ref fa) ⟨[.ref a], []⟩) (fun r s' => r = .ok (.ret (.bool true)) ∧ OldK s₁.heap s'.heap ∧ s'.os = s₁.os ∧ AllBare s'.gens) s₁ := by
  have rv := vals_ints hi
  have lenV := hi.length
  -- from an abstract heap in which nothing but the script may be tracked
  have core : ∀ H : Hp, Only H → SqL K H a (ns.map V.int) → HOk P w H s₁.heap → (∀ b, H b ≠ none → b = a) → (H a ≠ none → K.lookup a = none) →
      codeAny (model P w) callerA (.call (.ref fa) ⟨[.ref a], []⟩) (fun r s' => r = .ok (.ret (.bool true)) ∧ OldK s₁.heap s'.heap ∧ s'.os = s₁.os ∧ AllBare s'.gens) s₁ := by
    intro H hO hS hok hA hK
    have base_of : ∀ {b : Addr} {o : Obj}, s₁.heap.get? b = some o → H b = none → (hidT s₁.heap H).get? b = some o := fun e n => hidT_get e n
    have noA : ∀ {b : Addr} {o : Obj} {es : Array DictEntry} {ep : Nat}, s₁.heap.get? b = some o → o.data = .dict es ep → H b = none := fun {b o es ep} e d => by
      cases q : H b with
      | none => rfl
      | some u =>
        have e' : b = a := hA b (by rw [q]; simp)
        subst e'
        rw [ha] at e; cases e
        have d' : Data.seq vs.toArray _ = Data.dict es ep := d
        cases d'
    have nsK : ∀ {b : Addr} {m : Str → Option Value}, s₁.heap.Ns b m → (hidT s₁.heap H).Ns b m := fun {b m} ⟨o, es, ep, e, d, r⟩ => ⟨o, es, ep, base_of e (noA e d), d, r⟩
    have hKb : K.In (hidT s₁.heap H) := fun b o e => base_of (KX b o e) (by
      cases q : H b with
      | none => rfl
      | some u =>
        have e' : b = a := hA b (by rw [q]; simp)
        subst e'
        rw [hK (by rw [q]; simp)] at e; cases e)
    have hM : Mod K mg (hidT s₁.heap H) := ⟨hKb, nsK hns, ⟨mb, nsK hb, hbb⟩, let ⟨mc, h1, h2⟩ := hlim; ⟨mc, nsK h1, h2⟩⟩
    have e0 : Env0 P w K mg (hidT s₁.heap H) callerA [] s₁ H := ⟨rfl, hM, fun b o e => of_hidT e, Nat.le_of_eq (hidT_size _ _), trivial, fun b hb => absurd (show b ∈ ([] : List Addr) from hb) (by simp), hok, .of_eq hg⟩
    refine codeAny_mono ((F _ hKb (nsK hns)).run callerA [] s₁ H ⟨[.ref a], []⟩ [.ref a] [.ref a] _ _ hr e0 (hbind s₁ (.ref a)) (.cons rfl .nil) (hsp H hO hS)) fun r s' h => ?_
    cases r with
    | error e => exact (hCX H e s' h).elim
    | ok fl =>
      cases fl with
      | next => exact False.elim h
      | brk => exact False.elim h
      | cont => exact False.elim h
      | ret u =>
        obtain ⟨v, H', os, bare, un, hok', r', q⟩ := h
        have q' : v = .bl true := q
        subst q'
        obtain rfl : u = Value.bool true := r'
        refine ⟨rfl, OldK.of_keep fun b o e => ?_, os, bare⟩
        cases q : H b with
        | none => exact un.keep b o e q (by intro z; exact absurd (show b ∈ ([] : List Addr) from z) (by simp)) (by simp)
        | some u =>
          rcases hO b with z | ⟨ob, xs, z⟩
          · rw [q] at z; cases z
          · have z2 := un.frzs b ob _ z
            obtain ⟨e1, _⟩ := hok b _ z
            obtain ⟨e2, _⟩ := hok' b _ z2
            rw [e] at e1; cases e1
            exact e2
  cases hk : K.lookup a with
  | some o =>
    -- the script is one of the module's own objects
    have e := KX a o hk
    rw [ha] at e
    cases e
    refine core (fun _ => none) (fun _ => .inl rfl) (.inr ⟨_, vs.toArray, _, hk, rfl, rfl, rfl, by rw [List.size_toArray, lenV]; exact hl, by simpa using rv⟩) (fun b u z => by have z' : (none : Option HO) = some u := z; cases z') (fun b z => absurd rfl z) fun z => absurd rfl z
  | none =>
    refine core (fun b => if b = a then some (.frz { cls := .type "list", data := .seq vs.toArray } (.lst (ns.map V.int))) else none) (fun b => ?_) (.inl (.inr ⟨{ cls := .type "list", data := .seq vs.toArray }, if_pos rfl⟩)) (fun b u z => ?_) (fun b z => ?_) fun _ => hk
    · by_cases hb : b = a
      · exact .inr ⟨_, _, if_pos hb⟩
      · exact .inl (if_neg hb)
    · by_cases hb : b = a
      · have z' := (if_pos hb).symm.trans z
        cases z'
        subst hb
        exact ⟨ha, by rw [List.length_map]; exact hl, vs, _, rv, ha⟩
      · have z' := (if_neg hb).symm.trans z
        cases z'
    · by_cases hb : b = a
      · exact hb
      · exact absurd (if_neg hb) z
end L2

namespace L2
open PySem PySem.Spec PyProof.Rows

abbrev KOf {K : PySem.W.Frag} {h : Heap} (_ : K.In h) : PySem.W.Frag := K

/-- the goal that k_head leaves (case hc), from the law's promise. F gives the function object fd (K's own) once, then the promise over every base -/
theorem walk_of {l : PySem.W.OpenLaw} {n k : Nat} {q : Program} {loose : List Str} {XP : (Str → Option Value) → Heap → Prop} {YP : World → Heap → Prop} {d : DefRec} {K : Params → PySem.W.Frag} {CX : World → CXT} {sp : World → Sp} {x : Str}
    (hn : l.most = some n) (hn2 : n ≤ sizeLine) (hdf : d.params.defaults = []) (hr : Room k callerA)
    (hY : ∀ (w : World) (h : Heap), YP w h → (K w.params).In h)
    (F : ∀ (w : World) (mg : Str → Option Value) (fa : Addr) (h : Heap), (K w.params).In h → h.Ns mainGlobals mg → mg d.name = some (.ref fa) →
      ∃ fd : FuncData, (∀ (s : Shared) (u : Value), BindsTo s fd ⟨[u], []⟩ [(x, u)]) ∧
        ∀ base : Heap, (K w.params).In base → base.Ns mainGlobals mg → FnOk l.prog w (K w.params) mg base (CX w) k fa fd [x] (sp w))
    (hsp : ∀ (w : World) (H : Hp) (a : Addr) (ns : List Int), ns.length ≤ n → Only H → SqL (K w.params) H a (ns.map V.int) → sp w [.ref a] H (fun v _ => v = .bl true) fun _ _ _ => False)
    (hCX : ∀ (w : World) (H : Hp) (s : Shared) (e : Value) (s' : Shared), CX w [] H s (fun _ _ _ => False) e s' → False) :
    PySem.W.WalkO q loose XP YP l.row.toRowW d [] (fun f vs => PySem.call f vs) := by
  refine Att.attach_call hn hdf fun w s₀ s₁ mg mb fa o pm cd doc a vs ns G Y ho hd hcd hmg hobj hints hlen hg => ?_
  have KX := hY w _ Y
  obtain ⟨fd, hb, hF⟩ := F w mg fa _ KX G.T.g hmg
  exact law_call KX G.T.g G.T.b G.T.builtins G.T.nolimit hg hobj hints (Nat.le_trans hlen hn2) hr hF hb (fun H hO hS => hsp w H a ns hlen hO hS) fun H e s' => hCX w H s₁ e s'
/-- the same where the promise hangs on the written part alone: (sp := My.sp_law), no hole under a binder -/
theorem walk_ofK {l : PySem.W.OpenLaw} {n k : Nat} {q : Program} {loose : List Str} {XP : (Str → Option Value) → Heap → Prop} {YP : World → Heap → Prop} {d : DefRec} {K : Params → PySem.W.Frag} {CX : CXT} {sp : PySem.W.Frag → Sp} {x : Str}
    (hn : l.most = some n) (hn2 : n ≤ sizeLine) (hdf : d.params.defaults = []) (hr : Room k callerA)
    (hY : ∀ (w : World) (h : Heap), YP w h → (K w.params).In h)
    (F : ∀ (w : World) (mg : Str → Option Value) (fa : Addr) (h : Heap), (K w.params).In h → h.Ns mainGlobals mg → mg d.name = some (.ref fa) →
      ∃ fd : FuncData, (∀ (s : Shared) (u : Value), BindsTo s fd ⟨[u], []⟩ [(x, u)]) ∧
        ∀ base : Heap, (K w.params).In base → base.Ns mainGlobals mg → FnOk l.prog w (K w.params) mg base CX k fa fd [x] (sp (K w.params)))
    (hsp : ∀ (K : PySem.W.Frag) (H : Hp) (a : Addr) (ns : List Int), ns.length ≤ n → Only H → SqL K H a (ns.map V.int) → sp K [.ref a] H (fun v _ => v = .bl true) fun _ _ _ => False)
    (hCX : ∀ (H : Hp) (s : Shared) (e : Value) (s' : Shared), CX [] H s (fun _ _ _ => False) e s' → False) :
    PySem.W.WalkO q loose XP YP l.row.toRowW d [] (fun f vs => PySem.call f vs) :=
  walk_of (K := K) (CX := fun _ => CX) (sp := fun w => sp (K w.params)) hn hn2 hdf hr hY F (fun w H a ns h1 h2 h3 => hsp (K w.params) H a ns h1 h2 h3) fun _ H s e s' => hCX H s e s'
end L2

/- THE LAST THEOREM (shape; LID, My.* are yours):
   My.Adr: a structure of the addresses that your layer names (classes, functions); My.Txt K t: a structure (Prop) of the equations over K;
   My.txt_mk : {K} {implicit addresses ..} (e1 : nsIn K mainGlobals "law" = some (some (.ref f))) (e2 : K.lookup f = some ⟨oc, od, .func (fnOf "law" "law" params body scope dV kV doc pm an cdv ct), sl⟩) (e3 : codeIn K cdv "law" = true) .. : ∃ t, My.Txt K t

set_option maxRecDepth 100000 in
set_option maxHeartbeats 0 in
theorem PySem.Challenge.cw_LID_holds : PySem.Challenge.rw_LID.Holds := by
  w_on; o_law; k_head; (case hw => w_witness2)
  k_fill
  refine L2.walk_of (l := PySem.Challenge.rw_LID) (n := 63) (k := 40) (x := "script") (CX := fun w => ..) (sp := fun _ => My.sp_law) rfl (by decide) rfl ⟨rfl, by decide, by decide⟩ (fun w h Y => PySem.W.kIn_of Y) ?F ?S ?C
  case F =>
    intro w mg fa h KX G hmg
    have T : ∃ t, My.Txt (L2.KOf KX) t := by
      dsimp only [L2.KOf]                          -- K must stand as «<heap const> w.params» for k_is
      refine' My.txt_mk ?e1 ?e2 ?e3 ..
      (case e1 => PySem.W.k_is)                    -- in the order: a name -> its address -> its object -> its parts
      (case e2 => PySem.W.k_is)
      ..
    obtain ⟨t, T⟩ := T
    have e0 := hmg.symm.trans (PySem.W.mg_of KX G T.law)
    cases e0                                       -- fa is the law's own address
    exact ⟨_, fun s u => .of_eq rfl, fun base kb nb => My.law_fn T kb nb⟩     -- if «.of_eq rfl» comes too early: refine' ⟨_, ?b, fun base kb nb => My.law_fn T kb nb⟩; exact fun s u => .of_eq rfl
  case S => exact fun w H a ns hl hO hS => ..
  case C => exact ..
(the tactic k_is has no namespace: write k_is) -/

/-! SHORT WORDS over the layer: a def of the text, its body, what a loop and a test want. -/
namespace L2
open PySem PySem.Spec PyProof.Rows

/-! ### the text by places -/
/-- the j-th statement of a class's body -/
def inClass (s : Stmt) (j : Nat) : Stmt := match s with
  | .ClassDef _ _ _ body _ _ _ _ _ _ _ => body.getD j (.Pass ⟨0, 0, 0, 0⟩)
  | _ => .Pass ⟨0, 0, 0, 0⟩
def defArgs (s : Stmt) : Arguments := match s with
  | .FunctionDef _ a _ _ _ _ _ _ _ _ => a
  | _ => { posonlyargs := [], args := [], vararg := none, kwonlyargs := [], kw_defaults := [], kwarg := none, defaults := [] }
def defBody (s : Stmt) : List Stmt := match s with
  | .FunctionDef _ _ b _ _ _ _ _ _ _ => b
  | _ => []
def defScope (s : Stmt) : Scope := match s with
  | .FunctionDef _ _ _ _ _ _ sc _ _ _ => sc
  | _ => { kind := .function, names := [], isGenerator := false, isCoroutine := false }

/-! ### no exception leaves a def -/
abbrev CX0 : CXT := fun _ _ _ _ _ _ => False
abbrev E0 : XK := fun _ _ _ => False
theorem pass0 {X : Cx} : Passes CX0 X E0 := fun _ _ _ _ _ _ _ h => h.elim

/-! ### a def (or method) of the text as it stands behind the top -/
structure Fun (K : PySem.W.Frag) (x qual : Str) (st : Stmt) (f : Addr) (fd : FuncData) : Prop where
  ex : ∃ (oc : Value) (od : Option Addr) (kV doc pm : Value) (an : Option Addr) (cdv ct : Value) (osl : Array (Option Value)),
    fd = PySem.W.fnOf x qual (defArgs st) (defBody st) (defScope st) .none kV doc pm an cdv ct ∧ K.lookup f = some ⟨oc, od, .func fd, osl⟩ ∧ PySem.W.codeIn K cdv qual = true
  kp : PySem.W.keepIn K (.ref f) = true
section
variable {P : Program} {w : World} {K : PySem.W.Frag} {mg : Str → Option Value} {base : Heap}
/-- THE RULE for a def: its body as a term of rules, and the reading of that term -/
theorem Fun.ok {x qual : Str} {st : Stmt} {f : Addr} {fd : FuncData} {N ps : List Str} {k : Nat} {sp : Sp} (F : Fun K x qual st f fd) (S : FnScope N ps (defScope st)) (len : ∀ vs H Q E, sp vs H Q E → vs.length = ps.length)
    (hbody : ∀ (cdv : Value) (A : Around) (outer : List Env) (s : Shared) (H : Hp) (vs : List V) (Q : VK) (E : XK), Room k (A.deeper (envOfC qual (defScope st) s.heap.objs.size f cdv)) → sp vs H Q E →
      ∃ t, PSs (cxOf CX0 P w K mg base N qual (defScope st) f cdv A outer s H E).nox (defBody st) t ∧ t { nx := fun _ H' => Q .non H', rt := Q } (start N vs) H) : FnOk P w K mg base CX0 (k + 1) f fd ps sp := by
  obtain ⟨oc, od, kV, doc, pm, an, cdv, ct, osl, rfl, lk, hcd⟩ := F.ex
  refine fn_of lk hcd S len fun A outer s H vs Q E hr hsp => ?_
  obtain ⟨t, h, q⟩ := hbody cdv A outer s H vs Q E hr hsp
  exact ⟨t, h.nox, q⟩
/-- how its arguments bind (no defaults): h is «fun _ _ _ _ _ _ us hl => match us, hl with | [_, _], _ => rfl», one _ a parameter -/
theorem Fun.binds {x qual : Str} {st : Stmt} {f : Addr} {fd : FuncData} {ps : List Str} (F : Fun K x qual st f fd)
    (h : ∀ (kV doc pm : Value) (an : Option Addr) (cdv ct : Value) (us : List Value), us.length = ps.length → bindArgs (PySem.W.fnOf x qual (defArgs st) (defBody st) (defScope st) .none kV doc pm an cdv ct) ⟨us, []⟩ = pure (ps.zip us)) : Binds K fd ps [] := by
  obtain ⟨oc, od, kV, doc, pm, an, cdv, ct, osl, rfl, lk, hcd⟩ := F.ex
  exact .all (h kV doc pm an cdv ct)
theorem fun_mk {x qual : Str} {st : Stmt} {f : Addr} {oc : Value} {od an : Option Addr} {osl : Array (Option Value)} {kV doc pm cdv ct : Value} (l : K.lookup f = some ⟨oc, od, .func (PySem.W.fnOf x qual (defArgs st) (defBody st) (defScope st) .none kV doc pm an cdv ct), osl⟩)
    (c : PySem.W.codeIn K cdv qual = true) (k : PySem.W.keepIn K (.ref f) = true) : Fun K x qual st f (PySem.W.fnOf x qual (defArgs st) (defBody st) (defScope st) .none kV doc pm an cdv ct) := ⟨⟨oc, od, kV, doc, pm, an, cdv, ct, osl, rfl, l, c⟩, k⟩
end
theorem hu_of {A : Around} {k : Nat} (hr : Room k A) : A.units + 1 < cLine := Nat.lt_of_le_of_lt (Nat.add_le_add_left (by decide : 1 ≤ 64) _) hr.units
theorem small1000 {n : Nat} (h : n ≤ 1000) : n < sizeLine := Nat.lt_of_le_of_lt h (by decide)

/-! ### expressions in short: the name that stands in the i-th slot -/
section
variable {X : Cx}
theorem pv (i : Nat) {x : Str} {pos : Pos} (hN : X.N[i]? = some x := by rfl) (hv : Vis X.env.scope x := by first | exact Or.inl rfl | exact Or.inr (Or.inl rfl) | exact Or.inr (Or.inr rfl)) (hd : (x == ("__debug__" : Str)) = false := by decide)
    (hcd : (x == ("__classdict__" : Str)) = false := by decide) : PE X (.Name x pos) (tVar i) := pe_var hN hv hd hcd
end

/-! ### tests -/
theorem iteF {A B : Prop} (h : B) : if false = true then A else B := by
  rw [if_neg Bool.false_ne_true]
  exact h
theorem iteT {A B : Prop} (h : A) : if true = true then A else B := by
  rw [if_pos rfl]
  exact h
theorem ite2 {c A B : Prop} [Decidable c] (h1 : c → A) (h2 : ¬ c → B) : if c then A else B := by
  by_cases h : c
  · rw [if_pos h]
    exact h1 h
  · rw [if_neg h]
    exact h2 h
theorem iteNS {c A B : Prop} [Decidable c] (hc : c) (h : B) : if (!decide c) = true then A else B := by
  rw [decide_eq_true hc]
  exact iteF h

/-! ### heaps -/
/-- all that was tracked is as it was -/
def Same (H H' : Hp) : Prop := ∀ b o, H b = some o → H' b = some o
theorem Same.refl (H : Hp) : Same H H := fun _ _ h => h
theorem Same.trans {H H1 H2 : Hp} (a : Same H H1) (b : Same H1 H2) : Same H H2 := fun c o h => b c o (a c o h)
theorem Same.free {H H' : Hp} (e : Same H H') {l : Addr} (h : H' l = Option.none) : H l = Option.none := by
  cases q : H l with
  | none => rfl
  | some o =>
    rw [e l o q] at h
    cases h
theorem Same.seq {K : PySem.W.Frag} {H H' : Hp} {a : Addr} {xs : List V} (e : Same H H') (h : SqL K H a xs) : SqL K H' a xs := by
  rcases h with (h | ⟨o, h⟩) | h
  · exact .inl (.inl (e _ _ h))
  · exact .inl (.inr ⟨o, e _ _ h⟩)
  · exact .inr h

end L2

set_option Elab.async false
set_option linter.all false
set_option maxRecDepth 100000
namespace L2
open PySem PySem.Spec PyProof.Rows
/-! ### lists of pairs as tables -/
section
variable {κ : Type} [DecidableEq κ]
def valV (kvs : List (κ × V)) (k : κ) : Option V := (kvs.find? fun kv => decide (kv.1 = k)).map (·.2)
/-- in its place, or at the end -/
def putK (kvs : List (κ × V)) (k : κ) (v : V) : List (κ × V) :=
  if (kvs.any fun kv => decide (kv.1 = k)) = true then kvs.map (fun kv => if kv.1 = k then (kv.1, v) else kv) else kvs ++ [(k, v)]
def dropK (kvs : List (κ × V)) (k : κ) : List (κ × V) := kvs.filter fun kv => decide (kv.1 ≠ k)

theorem valV_nil {k : κ} : valV ([] : List (κ × V)) k = none := rfl
theorem valV_pos {p : κ × V} {r : List (κ × V)} {k : κ} (e : p.1 = k) : valV (p :: r) k = some p.2 := by simp [valV, List.find?_cons, e]
theorem valV_neg {p : κ × V} {r : List (κ × V)} {k : κ} (e : ¬ p.1 = k) : valV (p :: r) k = valV r k := by simp [valV, List.find?_cons, e]
theorem valV_any (k : κ) : ∀ kvs : List (κ × V), (kvs.any fun kv => decide (kv.1 = k)) = (valV kvs k).isSome
  | [] => rfl
  | p :: r => by
    rw [List.any_cons]
    by_cases e : p.1 = k
    · simp only [valV_pos e, decide_eq_true e, Bool.true_or, Option.isSome_some]
    · rw [valV_neg e, decide_eq_false e, Bool.false_or]; exact valV_any k r
theorem valV_map (k j : κ) (y : V) : ∀ kvs : List (κ × V), valV (kvs.map fun kv => if kv.1 = k then (kv.1, y) else kv) j = (valV kvs j).map fun x => if j = k then y else x
  | [] => rfl
  | p :: r => by
    have ih := valV_map k j y r
    rw [List.map_cons]
    by_cases h : p.1 = k
    · rw [if_pos h]
      by_cases e : p.1 = j
      · rw [valV_pos (p := (p.1, y)) e, valV_pos e, Option.map_some, if_pos (e.symm.trans h)]
      · rw [valV_neg (p := (p.1, y)) e, valV_neg e, ih]
    · rw [if_neg h]
      by_cases e : p.1 = j
      · rw [valV_pos (p := p) e, valV_pos e, Option.map_some, if_neg (fun z => h (e.trans z))]
      · rw [valV_neg (p := p) e, valV_neg e, ih]
theorem valV_snoc (k j : κ) (y : V) : ∀ kvs : List (κ × V), valV kvs k = none → valV (kvs ++ [(k, y)]) j = if j = k then some y else valV kvs j
  | [], _ => by
    by_cases e : k = j
    · rw [if_pos e.symm]; exact valV_pos (p := (k, y)) e
    · rw [if_neg (fun z => e z.symm)]; exact valV_neg (p := (k, y)) e
  | p :: r, hn => by
    rw [List.cons_append]
    have hk : ¬ p.1 = k := fun z => by rw [valV_pos z] at hn; cases hn
    rw [valV_neg hk] at hn
    have ih := valV_snoc k j y r hn
    by_cases e : p.1 = j
    · rw [valV_pos e, valV_pos e, if_neg (fun z => hk (e.trans z))]
    · rw [valV_neg e, valV_neg e, ih]
theorem valV_put (kvs : List (κ × V)) (k j : κ) (y : V) : valV (putK kvs k y) j = if j = k then some y else valV kvs j := by
  unfold putK
  by_cases a : (kvs.any fun kv => decide (kv.1 = k)) = true
  · rw [if_pos a, valV_map]
    rw [valV_any] at a
    by_cases e : j = k
    · obtain ⟨x, hx⟩ := Option.isSome_iff_exists.mp a
      rw [if_pos e, e, hx, Option.map_some, if_pos rfl]
    · rw [if_neg e]
      cases valV kvs j with
      | none => rfl
      | some x => rw [Option.map_some, if_neg e]
  · rw [if_neg a]
    refine valV_snoc k j y kvs ?_
    rw [valV_any] at a
    cases q : valV kvs k with
    | none => rfl
    | some x => rw [q] at a; exact (a rfl).elim
theorem length_putK (kvs : List (κ × V)) (k : κ) (v : V) : (putK kvs k v).length ≤ kvs.length + 1 := by
  unfold putK
  split
  · rw [List.length_map]; omega
  · rw [List.length_append, List.length_cons, List.length_nil]; omega
theorem putK_new {kvs : List (κ × V)} {k : κ} (v : V) (h : valV kvs k = none) : putK kvs k v = kvs ++ [(k, v)] := by
  unfold putK
  rw [valV_any, h]
  exact if_neg (by decide)

theorem RelO.isSome_eq {o : Option V} {u : Option Value} (r : RelO o u) : o.isSome = u.isSome := by
  cases o with
  | none => cases u with
    | none => rfl
    | some _ => exact (show False from r).elim
  | some _ => cases u with
    | none => exact (show False from r).elim
    | some _ => rfl
theorem RelO.getD {o : Option V} {u : Option Value} {d : V} {d' : Value} (r : RelO o u) (rd : RelV d d') : RelV (o.getD d) (u.getD d') := by
  cases o with
  | none => cases u with
    | none => exact rd
    | some _ => exact (show False from r).elim
  | some _ => cases u with
    | none => exact (show False from r).elim
    | some _ => exact r

/-- raw tables of the same keys -/
theorem KV.val {kvs : List (κ × V)} {vs : List (κ × Value)} (r : KV kvs vs) (k : κ) : RelO (valV kvs k) (valueAt vs k) := by
  unfold KV at r
  induction r with
  | nil => exact True.intro
  | @cons p q ps qs h t ih =>
    obtain ⟨h1, h2⟩ := h
    by_cases e : p.1 = k
    · have e' : q.1 = k := h1.symm.trans e
      have b : valueAt (q :: qs) k = some q.2 := by simp [valueAt, List.find?_cons, e']
      rw [valV_pos e, b]; exact h2
    · have e' : ¬ q.1 = k := fun z => e (h1.trans z)
      have b : valueAt (q :: qs) k = valueAt qs k := by simp [valueAt, List.find?_cons, e']
      rw [valV_neg e, b]; exact ih
theorem KV.any {kvs : List (κ × V)} {vs : List (κ × Value)} (r : KV kvs vs) (k : κ) : (kvs.any fun kv => decide (kv.1 = k)) = vs.any fun kv => decide (kv.1 = k) := by
  unfold KV at r
  induction r with
  | nil => rfl
  | cons h t ih => rw [List.any_cons, List.any_cons, ih, h.1]
theorem KV.repl {kvs : List (κ × V)} {vs : List (κ × Value)} (r : KV kvs vs) (k : κ) {y : V} {u : Value} (ry : RelV y u) :
    KV (kvs.map fun kv => if kv.1 = k then (kv.1, y) else kv) (vs.map fun kv => if kv.1 = k then (kv.1, u) else kv) := by
  unfold KV at r ⊢
  induction r with
  | nil => exact .nil
  | @cons p q ps qs h t ih =>
    rw [List.map_cons, List.map_cons]
    refine .cons ?_ ih
    obtain ⟨h1, h2⟩ := h
    by_cases e : p.1 = k
    · rw [if_pos e, if_pos (h1.symm.trans e)]; exact ⟨h1, ry⟩
    · rw [if_neg e, if_neg (fun z => e (h1.trans z))]; exact ⟨h1, h2⟩
theorem KV.put {kvs : List (κ × V)} {vs : List (κ × Value)} (r : KV kvs vs) (k : κ) {y : V} {u : Value} (ry : RelV y u) : KV (putK kvs k y) (stored vs k u) := by
  unfold putK stored
  rw [r.any k]
  by_cases e : (vs.any fun kv => decide (kv.1 = k)) = true
  · rw [if_pos e, if_pos e]; exact r.repl k ry
  · rw [if_neg e, if_neg e]; exact Paired.snoc r ⟨rfl, ry⟩
theorem KV.drop {kvs : List (κ × V)} {vs : List (κ × Value)} (r : KV kvs vs) (k : κ) : KV (dropK kvs k) (without vs k) := by
  unfold KV at r ⊢
  unfold dropK without
  induction r with
  | nil => exact .nil
  | @cons p q ps qs h t ih =>
    obtain ⟨h1, h2⟩ := h
    rw [List.filter_cons, List.filter_cons]
    by_cases e : p.1 = k
    · have a : ¬ decide (p.1 ≠ k) = true := by simp [e]
      have b : ¬ decide (q.1 ≠ k) = true := by simp [h1.symm.trans e]
      rw [if_neg a, if_neg b]; exact ih
    · have e' : ¬ q.1 = k := fun z => e (h1.trans z)
      have a : decide (p.1 ≠ k) = true := by simp [e]
      have b : decide (q.1 ≠ k) = true := by simp [e']
      rw [if_pos a, if_pos b]; exact .cons ⟨h1, h2⟩ ih
theorem KV.keys {kvs : List (κ × V)} {vs : List (κ × Value)} (r : KV kvs vs) : kvs.map (·.1) = vs.map (·.1) := by
  unfold KV at r
  induction r with
  | nil => rfl
  | cons h t ih => rw [List.map_cons, List.map_cons, ih, h.1]
theorem KV.length {kvs : List (κ × V)} {vs : List (κ × Value)} (r : KV kvs vs) : kvs.length = vs.length := Paired.length r
theorem dropK_le (kvs : List (κ × V)) (k : κ) : (dropK kvs k).length ≤ kvs.length := List.length_filter_le _ _
end


/-! ### a tracked dict, its keys ints and texts or tuples of these -/
theorem kV_is {P : Program} {w : World} {k : Key} {u : Value} (r : RelV (kV k) u) : (mixKind P w).is k u = true := by
  cases k with
  | inl i => obtain ⟨t, e⟩ := (show ∃ t, u = Value.int i t from r); subst e; exact mixKind_int P w i t
  | inr x => obtain ⟨t, e⟩ := (show ∃ t, u = Value.str x t from r); subst e; exact mixKind_str P w x t
theorem kV_inj {a b : Key} (e : kV a = kV b) : a = b := by
  cases a with
  | inl i => cases b with
    | inl j => have e' : V.int i = V.int j := e; injection e' with e'; rw [e']
    | inr y => exact nomatch (show V.int i = V.str y from e)
  | inr x => cases b with
    | inl j => exact nomatch (show V.str x = V.int j from e)
    | inr y => have e' : V.str x = V.str y := e; injection e' with e'; rw [e']
theorem kVs_inj : ∀ {a b : List Key}, a.map kV = b.map kV → a = b
  | [], [], _ => rfl
  | [], _ :: _, e => by simp at e
  | _ :: _, [], e => by simp at e
  | x :: xs, y :: ys, e => by
    rw [List.map_cons, List.map_cons] at e
    injection e with e1 e2
    rw [kV_inj e1, kVs_inj e2]
theorem items_are {P : Program} {w : World} : ∀ {ks : List Key} {us : List Value}, Vals (ks.map kV) us → ItemsAre (mixKind P w) ks us
  | [], _, r => by rw [List.map_nil] at r; cases r; exact .nil
  | k :: ks, _, r => by
    rw [List.map_cons] at r
    cases r with
    | cons h t => exact .cons (kV_is h) (items_are t)

/-- raw entries of a dict with tuple keys -/
abbrev KT (H : Hp) : List (List Key × V) → List (List Key × Addr × Value) → Prop := Paired fun p q => p.1 = q.1 ∧ H q.2.1 = some (.tup (p.1.map kV)) ∧ RelV p.2 q.2.2
theorem KT.val {H : Hp} {kvs : List (List Key × V)} {xs : List (List Key × Addr × Value)} (r : KT H kvs xs) (k : List Key) : RelO (valV kvs k) ((atKey xs k).map (·.2)) := by
  induction r with
  | nil => exact True.intro
  | @cons p q ps qs h t ih =>
    obtain ⟨h1, _, h2⟩ := h
    by_cases e : p.1 = k
    · have e' : q.1 = k := h1.symm.trans e
      have b : atKey (q :: qs) k = some q.2 := by simp [atKey, List.find?_cons, e']
      rw [valV_pos e, b]; exact h2
    · have e' : ¬ q.1 = k := fun z => e (h1.trans z)
      have b : atKey (q :: qs) k = atKey qs k := by simp [atKey, List.find?_cons, e']
      rw [valV_neg e, b]; exact ih
theorem KT.repl {H : Hp} {kvs : List (List Key × V)} {xs : List (List Key × Addr × Value)} (r : KT H kvs xs) (k : List Key) {y : V} {u : Value} (ry : RelV y u) :
    KT H (kvs.map fun kv => if kv.1 = k then (kv.1, y) else kv) (xs.map (putAt k u)) := by
  induction r with
  | nil => exact .nil
  | @cons p q ps qs h t ih =>
    rw [List.map_cons, List.map_cons]
    refine .cons ?_ ih
    obtain ⟨h1, h2, h3⟩ := h
    unfold putAt
    by_cases e : p.1 = k
    · rw [if_pos e, if_pos (h1.symm.trans e)]; exact ⟨h1, h2, ry⟩
    · rw [if_neg e, if_neg (fun z => e (h1.trans z))]; exact ⟨h1, h2, h3⟩
theorem KT.put {H : Hp} {kvs : List (List Key × V)} {xs : List (List Key × Addr × Value)} (r : KT H kvs xs) (k : List Key) {b : Addr} {y : V} {u : Value} (hb : H b = some (.tup (k.map kV))) (ry : RelV y u) :
    KT H (putK kvs k y) (storedH xs k b u) := by
  have e : (kvs.any fun kv => decide (kv.1 = k)) = (atKey xs k).isSome := by
    rw [valV_any, (r.val k).isSome_eq, Option.isSome_map]
  unfold putK storedH
  rw [e]
  by_cases q : (atKey xs k).isSome = true
  · rw [if_pos q, if_pos q]; exact r.repl k ry
  · rw [if_neg q, if_neg q]; exact Paired.snoc r ⟨rfl, hb, ry⟩
theorem KT.keeps {H H' : Hp} {kvs : List (List Key × V)} {xs : List (List Key × Addr × Value)} (r : KT H kvs xs) (ht : ∀ b ys, H b = some (.tup ys) → H' b = some (.tup ys)) : KT H' kvs xs :=
  Paired.mapP r fun _ _ z => ⟨z.1, ht _ _ z.2.1, z.2.2⟩

section
variable {P : Program} {w : World} {H : Hp} {h : Heap} {a : Addr}
theorem rd_of {u : HO} (ok : HOk P w H h) (e : Rd H a u) : ObjOk P w H h a u := e.ok ok
theorem dk_rd {kvs : List (Key × V)} (ok : HOk P w H h) (e : Rd H a (.dK kvs)) : kvs.length ≤ sizeLine ∧ (a == sysModules) = false ∧ ∃ vs, KV kvs vs ∧ h.DictOf (mixKind P w) a vs :=
  show ObjOk P w H h a (.dK kvs) from rd_of ok e
theorem dk_of {kvs : List (Key × V)} (ok : HOk P w H h) (e : H a = some (.dK kvs)) : kvs.length ≤ sizeLine ∧ (a == sysModules) = false ∧ ∃ vs, KV kvs vs ∧ h.DictOf (mixKind P w) a vs := dk_rd ok (.inl e)
/-- a tracked tuple of ints and texts is a key -/
theorem key_of {ks : List Key} (ok : HOk P w H h) (e : H a = some (.tup (ks.map kV))) : (tupleKind (mixKind P w)).is h ks a := by
  obtain ⟨_, its, r, o, h1, h2, n, h3⟩ := (show ObjOk P w H h a (.tup (ks.map kV)) from ok a _ e)
  exact ⟨o, its.toArray, n, h1, h2, h3, by simpa using items_are r⟩
theorem dt_rd {kvs : List (List Key × V)} (ok : HOk P w H h) (e : Rd H a (.dT kvs)) : kvs.length ≤ sizeLine ∧ (a == sysModules) = false ∧
    ∃ xs, KT H kvs xs ∧ h.DictOfH (tupleKind (mixKind P w)) a xs := by
  obtain ⟨z, y, xs, r, o, es, ep, h1, h2, h3, h4, h5⟩ := (show ObjOk P w H h a (.dT kvs) from rd_of ok e)
  refine ⟨z, y, xs, r, o, es, ep, h1, h2, h3, h4, fun x hx => ?_, h5⟩
  have all : ∀ {l : List (List Key × V)} {m : List (List Key × Addr × Value)}, KT H l m → ∀ x ∈ m, (tupleKind (mixKind P w)).is h x.1 x.2.1 := by
    intro l m q
    induction q with
    | nil => intro x hx; exact nomatch hx
    | @cons p q ps qs hq t ih =>
      intro x hx
      rcases List.mem_cons.mp hx with e | hx
      · subst e
        exact key_of ok (by rw [← hq.1]; exact hq.2.1)
      · exact ih x hx
  exact all r x hx
theorem dt_of {kvs : List (List Key × V)} (ok : HOk P w H h) (e : H a = some (.dT kvs)) : kvs.length ≤ sizeLine ∧ (a == sysModules) = false ∧
    ∃ xs, KT H kvs xs ∧ h.DictOfH (tupleKind (mixKind P w)) a xs := dt_rd ok (.inl e)
end

/-- what the dict at a holds at the key y -/
def DGet (H : Hp) (a : Addr) (y : V) (r : Option V) : Prop :=
  (∃ kvs k, Rd H a (.dK kvs) ∧ y = kV k ∧ r = valV kvs k) ∨ ∃ kvs k b, Rd H a (.dT kvs) ∧ y = .ref b ∧ H b = some (.tup (k.map kV)) ∧ r = valV kvs k
/-- the heap behind a[y] = v -/
def DPut (H : Hp) (a : Addr) (y v : V) (H' : Hp) : Prop :=
  (∃ kvs k, H a = some (.dK kvs) ∧ y = kV k ∧ kvs.length < sizeLine ∧ H' = upd H a (.dK (putK kvs k v))) ∨
  ∃ kvs k b, H a = some (.dT kvs) ∧ y = .ref b ∧ H b = some (.tup (k.map kV)) ∧ kvs.length < sizeLine ∧ H' = upd H a (.dT (putK kvs k v))
theorem DGet.k {H : Hp} {a : Addr} {kvs : List (Key × V)} {k : Key} (e : H a = some (.dK kvs)) : DGet H a (kV k) (valV kvs k) := .inl ⟨kvs, k, .inl e, rfl, rfl⟩
theorem DGet.t {H : Hp} {a b : Addr} {kvs : List (List Key × V)} {k : List Key} (e : H a = some (.dT kvs)) (eb : H b = some (.tup (k.map kV))) : DGet H a (.ref b) (valV kvs k) := .inr ⟨kvs, k, b, .inl e, rfl, eb, rfl⟩
theorem DPut.k {H : Hp} {a : Addr} {kvs : List (Key × V)} {k : Key} {v : V} (e : H a = some (.dK kvs)) (hl : kvs.length < sizeLine) : DPut H a (kV k) v (upd H a (.dK (putK kvs k v))) := .inl ⟨kvs, k, e, rfl, hl, rfl⟩
theorem DPut.t {H : Hp} {a b : Addr} {kvs : List (List Key × V)} {k : List Key} {v : V} (e : H a = some (.dT kvs)) (eb : H b = some (.tup (k.map kV))) (hl : kvs.length < sizeLine) :
    DPut H a (.ref b) v (upd H a (.dT (putK kvs k v))) := .inr ⟨kvs, k, b, e, rfl, eb, hl, rfl⟩


section
variable {X : Cx} {pins : List (Addr × Obj)} {σ : St} {H : Hp} {s : Shared} {a : Addr} {y v : V} {u r : Value} {o : Option V} {A : Around} {E : Value → Shared → Prop}

theorem Inv.big (I : Inv X pins σ H s) : sysModules < s.heap.objs.size := by
  have h : mainGlobals < s.heap.objs.size := (I.mod.glob.keeps I.bk).lt
  exact Nat.lt_trans (by decide) h

/-- d[y], there -/
theorem d_getItem {Q : Value → Shared → Prop} (hu : A.units + 1 < cLine) (I : Inv X pins σ H s) (g : DGet H a y (some v)) (ry : RelV y u) (h : ∀ w' s', Inv X pins σ H s' → RelV v w' → Q w' s') :
    wpAny (model X.prog X.w) A (getItem (.ref a) u) Q E s := by
  rcases g with ⟨kvs, k, e, ey, l⟩ | ⟨kvs, k, b, e, ey, eb, l⟩
  · subst ey
    obtain ⟨z, hd, vs, rel, dd⟩ := dk_rd I.hok e
    obtain ⟨w', hw, rw'⟩ := RelO.some_of (v := v) (o := valueAt vs k) (by rw [l]; exact rel.val k)
    exact wpAny_getItem_of (kV_is ry) dd.mapOf hw (h w' _ (I.tok _) rw')
  · subst ey
    cases (show u = Value.ref b from ry)
    obtain ⟨z, hd, xs, rel, dd⟩ := dt_rd I.hok e
    obtain ⟨w', hw, rw'⟩ := RelO.some_of (v := v) (o := (atKey xs k).map (·.2)) (by rw [l]; exact rel.val k)
    obtain ⟨p, hp, hp2⟩ := Option.map_eq_some_iff.mp hw
    refine wpAny_getItem_heap (tupleKind_room_in1 hu) (key_of I.hok eb) dd hp ?_
    rw [hp2]
    exact h w' _ (I.tok _) rw'
/-- y in d -/
theorem d_in {Q : Value → Shared → Prop} (hu : A.units + 1 < cLine) (I : Inv X pins σ H s) (g : DGet H a y o) (ry : RelV y u) (h : ∀ s', Inv X pins σ H s' → Q (.bool o.isSome) s') :
    wpAny (model X.prog X.w) A (compareOp .In u (.ref a)) Q E s := by
  rcases g with ⟨kvs, k, e, ey, l⟩ | ⟨kvs, k, b, e, ey, eb, l⟩
  · subst ey
    obtain ⟨z, hd, vs, rel, dd⟩ := dk_rd I.hok e
    refine wpAny_in_of (kV_is ry) hd dd.mapOf ?_
    rw [← (rel.val k).isSome_eq, ← l]
    exact h _ (I.tok _)
  · subst ey
    cases (show u = Value.ref b from ry)
    obtain ⟨z, hd, xs, rel, dd⟩ := dt_rd I.hok e
    refine wpAny_in_heap (tupleKind_room_in1 hu) (key_of I.hok eb) hd dd ?_
    have q := (rel.val k).isSome_eq
    rw [Option.isSome_map] at q
    rw [← q, ← l]
    exact h _ (I.tok _)
theorem d_notIn {Q : Value → Shared → Prop} (hu : A.units + 1 < cLine) (I : Inv X pins σ H s) (g : DGet H a y o) (ry : RelV y u) (h : ∀ s', Inv X pins σ H s' → Q (.bool (!o.isSome)) s') :
    wpAny (model X.prog X.w) A (compareOp .NotIn u (.ref a)) Q E s := by
  rcases g with ⟨kvs, k, e, ey, l⟩ | ⟨kvs, k, b, e, ey, eb, l⟩
  · subst ey
    obtain ⟨z, hd, vs, rel, dd⟩ := dk_rd I.hok e
    refine wpAny_notIn_of (kV_is ry) hd dd.mapOf ?_
    rw [← (rel.val k).isSome_eq, ← l]
    exact h _ (I.tok _)
  · subst ey
    cases (show u = Value.ref b from ry)
    obtain ⟨z, hd, xs, rel, dd⟩ := dt_rd I.hok e
    refine wpAny_notIn_heap (tupleKind_room_in1 hu) (key_of I.hok eb) hd dd ?_
    have q := (rel.val k).isSome_eq
    rw [Option.isSome_map] at q
    rw [← q, ← l]
    exact h _ (I.tok _)
/-- a dict's object is replaced -/
theorem d_write {h' : Heap} {t' : Nat} {ob : HO} (I : Inv X pins σ H s) (mu : Mut (H a)) (hs : Heap.SameBut a s.heap h') (he : ∃ q, h'.get? a = some q) (new : ObjOk X.prog X.w (upd H a ob) h' a ob) :
    Inv X pins σ (upd H a ob) { s with heap := h', toks := t' } :=
  I.write (x := a) (e := a) mu (.inl rfl) (fun b q hb z => (hs.2 b hb).trans z) he new
theorem dk_new {P : Program} {w : World} {H' : Hp} {h' : Heap} {kvs : List (Key × V)} {vs : List (Key × Value)} (z : kvs.length ≤ sizeLine) (hd : (a == sysModules) = false) (rel : KV kvs vs) (dd : h'.DictOf (mixKind P w) a vs) :
    ObjOk P w H' h' a (.dK kvs) := ⟨z, hd, vs, rel, dd⟩
/-- d[y] = v -/
theorem d_setItem {H' : Hp} {Q : Unit → Shared → Prop} (hu : A.units + 1 < cLine) (I : Inv X pins σ H s) (g : DPut H a y v H') (ry : RelV y u) (rv : RelV v r) (h : ∀ s', Inv X pins σ H' s' → Q () s') :
    wpAny (model X.prog X.w) A (setItem (.ref a) u r) Q E s := by
  rcases g with ⟨kvs, k, e, ey, l, eH⟩ | ⟨kvs, k, b, e, ey, eb, l, eH⟩
  · subst ey eH
    obtain ⟨z, hd, vs, rel, dd⟩ := dk_of I.hok e
    have hz : vs.length ≤ sizeLine := by rw [← rel.length]; exact z
    have hl : (putK kvs k v).length ≤ sizeLine := by have := length_putK kvs k v; omega
    refine wpAny_setItem_pairs (hsz := hz) (kV_is ry) dd fun h' dd' hs => h _ ?_
    have he : ∃ q, h'.get? a = some q := let ⟨q, _, _, hq, _⟩ := dd'; ⟨q, hq⟩
    exact d_write I (by rw [e]; exact True.intro) hs he (dk_new hl hd (rel.put k rv) dd')
  · subst ey eH
    cases (show u = Value.ref b from ry)
    obtain ⟨z, hd, xs, rel, dd⟩ := dt_of I.hok e
    have hz : xs.length ≤ sizeLine := by rw [← Paired.length rel]; exact z
    have hl : (putK kvs k v).length ≤ sizeLine := by have := length_putK kvs k v; omega
    refine wpAny_setItem_heap (hsz := hz) (tupleKind_room_in1 hu) (key_of I.hok eb) dd fun h' dd' hs => h _ ?_
    obtain ⟨q, es, ep, hq, h2, h3, h4, _, h5⟩ := dd'
    refine d_write I (by rw [e]; exact True.intro) hs ⟨q, hq⟩ ⟨hl, hd, _, (rel.put k eb rv).keeps fun c ys ec => ?_, q, es, ep, hq, h2, h3, h4, h5⟩
    rw [upd_ne (ne_of ec e (fun z => nomatch z))]
    exact ec
end
/-! ### readings and rules -/
/-- the element of a subscription, not a slice -/
def NoSl (i : Expr) : Prop := ∀ ov iv, subscripted i false ov iv = operate [ov, iv] (getItem ov iv)
theorem subD_of {prog : Program} {w : World} {A : Around} {E : Value → Shared → Prop} {s : Shared} {env : Env} {value slice : Expr} {pos : Pos} {T id : String} {Q : Value → Shared → Prop}
    (hl : typeLookup (.type T) "__getitem__" = pure (some (.builtin id))) (hs : NoSl slice)
    (h : wpAny (model prog w) A (eval value env) (fun o s₁ => wpAny (model prog w) A (eval slice env) (fun i s₂ => s₂.TypeIs o T ∧ wpAny (model prog w) A (getItem o i) Q E s₂) E s₁) E s) :
    wpAny (model prog w) A (eval (.Subscript value slice pos) env) Q E s := by
  refine Subscript_ (wpAny_mono h (fun o s₁ h₁ => wpAny_mono h₁ (fun i s₂ h₂ => ?_) fun _ _ x => x) fun _ _ x => x)
  obtain ⟨hT, h₂⟩ := h₂
  unfold subscriptTail
  refine wpAny_bind ?_
  rw [getitemInPython_of_ne hT.not_modules]
  refine wpAny_bind (wpAny_specialOf hT hl ?_)
  have fin : wpAny (model prog w) A (subscripted slice false o i) (fun r s₃ => wpAny (model prog w) A (letTemporaryGo value o r >>= fun _ => pure r) Q E s₃) E s₂ := by
    rw [hs o i]
    exact wpAny_operating (wpAny_mono h₂ (fun r s₃ h₃ => wpAny_bind (wpAny_letTemporaryGo (wpAny_pure h₃))) fun _ _ x => x)
  first
    | exact wpAny_pure (wpAny_bind fin)
    | exact wpAny_bind (wpAny_pure (wpAny_bind fin))
    | exact wpAny_bind fin

theorem dict_typeIs {X : Cx} {pins : List (Addr × Obj)} {σ : St} {H : Hp} {s : Shared} {a : Addr} {y : V} {o : Option V} (I : Inv X pins σ H s) (g : DGet H a y o) : s.TypeIs (.ref a) "dict" := by
  rcases g with ⟨kvs, k, e, _, _⟩ | ⟨kvs, k, b, e, _, _, _⟩
  · obtain ⟨_, _, vs, _, dd⟩ := dk_rd I.hok e
    exact dd.typeIs
  · obtain ⟨_, _, xs, _, dd⟩ := dt_rd I.hok e
    exact dd.typeIs
theorem dict_noDict {X : Cx} {pins : List (Addr × Obj)} {σ : St} {H : Hp} {s : Shared} {a : Addr} {y : V} {o : Option V} (I : Inv X pins σ H s) (g : DGet H a y o) :
    ∀ b, Value.ref a = .ref b → ∃ ob, s.heap.get? b = some ob ∧ ob.dict = none := fun b q => by
  cases q
  rcases g with ⟨kvs, k, e, _, _⟩ | ⟨kvs, k, b, e, _, _, _⟩
  · obtain ⟨_, _, vs, _, ob, _, _, h1, h2, _⟩ := dk_rd I.hok e
    exact ⟨ob, h1, h2.2.1⟩
  · obtain ⟨_, _, xs, _, ob, _, _, h1, h2, _⟩ := dt_rd I.hok e
    exact ⟨ob, h1, h2.2.1⟩

/-- d[y] -/
def tDGet (td ty : TE) : TE := fun σ H Q => td σ H fun x H1 => ty σ H1 fun y H2 => ∃ a v, x = .ref a ∧ DGet H2 a y (some v) ∧ Q v H2
/-- y in d, y not in d -/
def tDIn (ty td : TE) : TE := fun σ H Q => ty σ H fun y H1 => td σ H1 fun x H2 => ∃ a o, x = .ref a ∧ DGet H2 a y o ∧ Q (.bl o.isSome) H2
def tDNotIn (ty td : TE) : TE := fun σ H Q => ty σ H fun y H1 => td σ H1 fun x H2 => ∃ a o, x = .ref a ∧ DGet H2 a y o ∧ Q (.bl (!o.isSome)) H2
/-- d[y] = v -/
def sDPut (td ty tv : TE) : TS := fun D σ H => tv σ H fun v H1 => td σ H1 fun x H2 => ty σ H2 fun y H3 => ∃ a H4, x = .ref a ∧ DPut H3 a y v H4 ∧ D.nx σ H4
/-- d[y] op= v -/
def sDAug (td ty tv : TE) (rd : V → V → Hp → VK → Prop) : TS := fun D σ H => td σ H fun x H1 => ty σ H1 fun y H2 => ∃ a v, x = .ref a ∧ DGet H2 a y (some v) ∧
  tv σ H2 fun y2 H3 => rd v y2 H3 fun z H4 => ∃ H5, DPut H4 a y z H5 ∧ D.nx σ H5
/-- del d[y] -/
def sDDel (td ty : TE) : TS := fun D σ H => td σ H fun x H1 => ty σ H1 fun y H2 => ∃ a kvs k, x = .ref a ∧ H2 a = some (.dK kvs) ∧ y = kV k ∧ (valV kvs k).isSome = true ∧ D.nx σ (upd H2 a (.dK (dropK kvs k)))

section
variable {X : Cx} {o i e value : Expr} {pos pos' tpos : Pos} {td ty tv : TE}
theorem pe_dget (hu : X.A.units + 1 < cLine) (ho : PE X o td) (hi : PE X i ty) (hs : NoSl i) : PE X (.Subscript o i pos) (tDGet td ty) := by
  intro pins s σ H Q I h
  refine subD_of PySem.F.slot_dict_getitem.lookup hs (thn (ho pins s σ H _ I h) fun u s1 ⟨x, H1, I1, rx, q1⟩ => thn (hi pins s1 σ H1 _ I1 q1) fun iv s2 ⟨y, H2, I2, ry, a, v, ex, g, q2⟩ => ?_)
  subst ex
  obtain rfl : u = Value.ref a := rx
  exact ⟨dict_typeIs I2 g, d_getItem hu I2 g ry fun w' s3 I3 rw' => ⟨v, H2, I3, rw', q2⟩⟩
theorem pc_din (hu : X.A.units + 1 < cLine) (hi : PE X i ty) (ho : PE X o td) : PC X .In i o (tDIn ty td) := by
  intro pins s σ H Q I h
  refine thn (hi pins s σ H _ I h) fun iv s1 ⟨y, H1, I1, ry, q1⟩ => thn (ho pins s1 σ H1 _ I1 q1) fun u s2 ⟨x, H2, I2, rx, a, ov, ex, g, q2⟩ => ?_
  subst ex
  obtain rfl : u = Value.ref a := rx
  exact d_in hu I2 g ry fun s3 I3 => ⟨.bl ov.isSome, H2, I3, rfl, q2⟩
theorem pc_dnotin (hu : X.A.units + 1 < cLine) (hi : PE X i ty) (ho : PE X o td) : PC X .NotIn i o (tDNotIn ty td) := by
  intro pins s σ H Q I h
  refine thn (hi pins s σ H _ I h) fun iv s1 ⟨y, H1, I1, ry, q1⟩ => thn (ho pins s1 σ H1 _ I1 q1) fun u s2 ⟨x, H2, I2, rx, a, ov, ex, g, q2⟩ => ?_
  subst ex
  obtain rfl : u = Value.ref a := rx
  exact d_notIn hu I2 g ry fun s3 I3 => ⟨.bl (!ov.isSome), H2, I3, rfl, q2⟩
theorem ps_dput (hu : X.A.units + 1 < cLine) (ho : PE X o td) (hi : PE X i ty) (hv : PE X value tv) (hs : swapsWith value (some (.Subscript o i pos')) pos.line X.env = pure false) :
    PS X (.Assign [.Subscript o i pos'] value pos) (sDPut td ty tv) := by
  intro pins s σ H D I h
  refine wpAny_Assign_Subscript (thn (hv pins s σ H _ I h) fun r s1 ⟨v, H1, I1, rv, q1⟩ => thn (ho pins s1 σ H1 _ I1 q1) fun u s2 ⟨x, H2, I2, rx, q2⟩ => thn (hi pins s2 σ H2 _ I2 q2) fun iv s3 ⟨y, H3, I3, ry, a, H4, ex, g, q3⟩ => ?_) hs
  subst ex
  obtain rfl : u = Value.ref a := rx
  exact d_setItem hu I3 g ry rv fun s4 I4 => ⟨σ, H4, I4, q3⟩
theorem ps_daug {op : Operator} {rd : V → V → Hp → VK → Prop} (hu : X.A.units + 1 < cLine) (ho : PE X o td) (hi : PE X i ty) (hv : PE X value tv) (hop : InOp X op rd)
    (ha : ∀ ov iv new, augStore i ov iv new = (do holding [new, ov, iv] (setItem ov iv new); release [new, ov, iv] []; pure .next)) : PS X (.AugAssign (.Subscript o i tpos) op value pos) (sDAug td ty tv rd) := by
  intro pins s σ H D I h
  refine wpAny_AugAssign_SubscriptAny (thn (ho pins s σ H _ I h) fun u s1 ⟨x, H1, I1, rx, q1⟩ => thn (hi pins s1 σ H1 _ I1 q1) fun iv s2 ⟨y, H2, I2, ry, a, v, ex, g, q2⟩ => ?_) ha
  subst ex
  obtain rfl : u = Value.ref a := rx
  refine d_getItem hu I2 g ry fun w' s3 I3 rw' => thn (hv pins s3 σ H2 _ I3 q2) fun w2 s4 ⟨y2, H3, I4, ry2, q3⟩ => thn (hop pins s4 σ H3 v y2 w' w2 _ I4 rw' ry2 q3) fun w3 s5 ⟨z, H4, I5, rz, H5, g5, q4⟩ => ?_
  exact d_setItem hu I5 g5 ry rz fun s6 I6 => ⟨σ, H5, I6, q4⟩
end


/-! ### displays -/
theorem dk_empty {P : Program} {w : World} {H : Hp} (h : Heap) (hb : sysModules < h.objs.size) : ObjOk P w H (h.push { cls := .type "dict", data := .dict #[] }) h.objs.size (.dK []) :=
  ⟨Nat.zero_le _, beq_eq_false_iff_ne.mpr (Ne.symm (Nat.ne_of_lt hb)), [], .nil, Heap.DictOf.new h⟩
theorem dt_empty {P : Program} {w : World} {H : Hp} (h : Heap) (hb : sysModules < h.objs.size) : ObjOk P w H (h.push { cls := .type "dict", data := .dict #[] }) h.objs.size (.dT []) :=
  ⟨Nat.zero_le _, beq_eq_false_iff_ne.mpr (Ne.symm (Nat.ne_of_lt hb)), [], .nil, _, #[], 0, Heap.get?_push_size _ rfl, ⟨rfl, rfl, rfl⟩, rfl, rfl, List.nodup_nil⟩
/-- {}, to be a dict of the kind that is wanted -/
def tDNewK : TE := fun _ H Q => ∀ p, H p = none → Q (.ref p) (upd H p (.dK []))
def tDNewT : TE := fun _ H Q => ∀ p, H p = none → Q (.ref p) (upd H p (.dT []))
section
variable {X : Cx} {pos : Pos}
theorem pe_dnewK : PE X (.Dict [] [] pos) tDNewK := fun pins s σ H Q I h =>
  wpAny_Dict_empty ⟨.ref s.heap.objs.size, _, I.laid (a := s.heap.objs.size) (o := .dK []) (t' := s.toks) (fun _ _ q => Heap.get?_push_of_some _ q) (Nat.le_refl _) (dk_empty s.heap I.big), rfl, h _ (I.hok.fresh (Nat.le_refl _))⟩
theorem pe_dnewT : PE X (.Dict [] [] pos) tDNewT := fun pins s σ H Q I h =>
  wpAny_Dict_empty ⟨.ref s.heap.objs.size, _, I.laid (a := s.heap.objs.size) (o := .dT []) (t' := s.toks) (fun _ _ q => Heap.get?_push_of_some _ q) (Nat.le_refl _) (dt_empty s.heap I.big), rfl, h _ (I.hok.fresh (Nat.le_refl _))⟩
end
end L2

set_option linter.all false
namespace St
open PySem PySem.SetTable

/-! ### the walk of a table: i, 5 i + 1, .. -/
def stp (mask i : Nat) : Nat := (i * 5 + 1) % (mask + 1)
def itr (mask : Nat) : Nat → Nat → Nat
  | 0, i => i
  | m + 1, i => itr mask m (stp mask i)
theorem itr_add (mask : Nat) : ∀ a b i, itr mask (a + b) i = itr mask b (itr mask a i)
  | 0, b, i => by rw [Nat.zero_add]; rfl
  | a + 1, b, i => by rw [Nat.succ_add]; exact itr_add mask a b (stp mask i)
def orbOk (mask : Nat) : Bool :=
  (List.range (mask + 1)).all (fun j => (List.range (mask + 1)).any fun m => itr mask m 0 == j) && itr mask (mask + 1) 0 == 0
def okMask (mask : Nat) : Prop := mask = 7 ∨ mask = 15 ∨ mask = 31 ∨ mask = 63 ∨ mask = 127 ∨ mask = 255

def orbL (mask : Nat) : Nat → Nat → List Nat
  | 0, _ => []
  | m + 1, i => i :: orbL mask m (stp mask i)
theorem orbL_mem (mask : Nat) : ∀ n i j, j ∈ orbL mask n i → ∃ m, m < n ∧ itr mask m i = j
  | 0, _, _, h => by cases h
  | n + 1, i, j, h => by
    rcases List.mem_cons.mp h with rfl | h
    · exact ⟨0, Nat.succ_pos _, rfl⟩
    · obtain ⟨m, hm, e⟩ := orbL_mem mask n _ j h
      exact ⟨m + 1, Nat.succ_lt_succ hm, e⟩
def orbB (mask : Nat) : Bool := ((List.range (mask + 1)).all fun j => (orbL mask (mask + 1) 0).contains j) && itr mask (mask + 1) 0 == 0
theorem orbB_of {mask : Nat} (h : okMask mask) : orbB mask = true := by
  rcases h with rfl | rfl | rfl | rfl | rfl | rfl <;> decide +kernel
theorem orb0 {mask : Nat} (h : okMask mask) (j : Nat) (hj : j ≤ mask) : ∃ m, m ≤ mask ∧ itr mask m 0 = j := by
  have q := orbB_of h
  unfold orbB at q
  rw [Bool.and_eq_true, List.all_eq_true] at q
  have q1 := q.1 j (List.mem_range.mpr (by omega))
  obtain ⟨m, hm, e⟩ := orbL_mem mask _ _ j (by simpa using q1)
  exact ⟨m, by omega, e⟩
theorem orbEnd {mask : Nat} (h : okMask mask) : itr mask (mask + 1) 0 = 0 := by
  have q := orbB_of h
  unfold orbB at q
  rw [Bool.and_eq_true] at q
  simpa using q.2
theorem orb {mask : Nat} (h : okMask mask) (i j : Nat) (hi : i ≤ mask) (hj : j ≤ mask) : ∃ m, m ≤ mask ∧ itr mask m i = j := by
  obtain ⟨a, ha, rfl⟩ := orb0 h i hi
  obtain ⟨b, hb, rfl⟩ := orb0 h j hj
  by_cases c : a ≤ b
  · refine ⟨b - a, by omega, ?_⟩
    rw [← itr_add]
    congr 1
    omega
  · refine ⟨(mask + 1 - a) + b, by omega, ?_⟩
    rw [← itr_add]
    have e : a + (mask + 1 - a + b) = (mask + 1) + b := by omega
    rw [e, itr_add, orbEnd h]

/-! ### with the hash's other bits -/
def lp (mask : Nat) : Nat → Nat × Nat → Nat × Nat
  | 0, x => x
  | m + 1, x => lp mask m (leap mask x.1 x.2)
theorem lp_add (mask : Nat) : ∀ a b x, lp mask (a + b) x = lp mask b (lp mask a x)
  | 0, b, x => by rw [Nat.zero_add]; rfl
  | a + 1, b, x => by rw [Nat.succ_add]; exact lp_add mask a b (leap mask x.1 x.2)
theorem lp_zero (mask : Nat) : ∀ m i, lp mask m (i, 0) = (itr mask m i, 0)
  | 0, i => rfl
  | m + 1, i => by
    show lp mask m (leap mask i 0) = (itr mask m (stp mask i), 0)
    have e : leap mask i 0 = (stp mask i, 0) := by unfold leap stp; simp
    rw [e, lp_zero mask m]
theorem lp_snd (mask : Nat) : ∀ m i p, (lp mask m (i, p)).2 = p / 32 ^ m
  | 0, i, p => by show p = p / 32 ^ 0; simp
  | m + 1, i, p => by
    show (lp mask m (leap mask i p)).2 = _
    have e : leap mask i p = ((i * 5 + 1 + p / 32) % (mask + 1), p / 32) := rfl
    rw [e, lp_snd mask m, Nat.div_div_eq_div_mul, Nat.pow_succ, Nat.mul_comm]
theorem lp_le (mask : Nat) : ∀ m i p, i ≤ mask → (lp mask m (i, p)).1 ≤ mask
  | 0, i, p, h => h
  | m + 1, i, p, h => by
    show (lp mask m ((i * 5 + 1 + p / 32) % (mask + 1), p / 32)).1 ≤ mask
    exact lp_le mask m _ _ (Nat.le_of_lt_succ (Nat.mod_lt _ (Nat.succ_pos _)))
/-- every slot is come to -/
theorem visit {mask : Nat} (h : okMask mask) (i p j : Nat) (hi : i ≤ mask) (hp : p < 2 ^ 64) (hj : j ≤ mask) : ∃ m, m < turns mask ∧ (lp mask m (i, p)).1 = j := by
  have e2 : (lp mask 13 (i, p)).2 = 0 := by
    rw [lp_snd]
    exact Nat.div_eq_of_lt (Nat.lt_trans hp (by decide))
  have e1 := lp_le mask 13 i p hi
  obtain ⟨m, hm, e⟩ := orb h (lp mask 13 (i, p)).1 j e1 hj
  refine ⟨13 + m, by unfold turns; omega, ?_⟩
  rw [lp_add]
  have e3 : lp mask 13 (i, p) = ((lp mask 13 (i, p)).1, 0) := by rw [← e2]
  rw [e3, lp_zero]
  exact e
theorem bits_lt (h : Int) : bits h < 2 ^ 64 := by
  unfold bits
  have h1 : h % (2 ^ 64 : Int) < 2 ^ 64 := Int.emod_lt_of_pos _ (by decide)
  have h2 : 0 ≤ h % (2 ^ 64 : Int) := Int.emod_nonneg _ (by decide)
  omega

/-! ### binary search in a rising array -/
def Ris (xs : Array Nat) : Prop := xs.toList.Pairwise (· < ·)
theorem Ris.get {xs : Array Nat} (r : Ris xs) {i k : Nat} (hk : k < xs.size) (hik : i < k) : xs[i]'(by omega) < xs[k] := by
  have := List.pairwise_iff_getElem.mp r i k (by simpa using (by omega : i < xs.size)) (by simpa using hk) hik
  simpa using this
theorem below_go {xs : Array Nat} (r : Ris xs) (j : Nat) : ∀ fuel lo hi, lo ≤ hi → hi ≤ xs.size → hi - lo ≤ fuel → (∀ i (h : i < xs.size), i < lo → xs[i] < j) → (∀ i (h : i < xs.size), hi ≤ i → j ≤ xs[i]) →
    below.go xs j fuel lo hi ≤ xs.size ∧ (∀ i (h : i < xs.size), i < below.go xs j fuel lo hi → xs[i] < j) ∧ ∀ i (h : i < xs.size), below.go xs j fuel lo hi ≤ i → j ≤ xs[i]
  | 0, lo, hi, h1, h2, h3, a, b => by
    have e : lo = hi := by omega
    subst e
    exact ⟨h2, a, b⟩
  | fuel + 1, lo, hi, h1, h2, h3, a, b => by
    unfold below.go
    by_cases c : lo < hi
    · rw [if_pos c]
      have hm : (lo + hi) / 2 < xs.size := by omega
      have eg : xs.getD ((lo + hi) / 2) j = xs[(lo + hi) / 2] := by simp [Array.getD, hm]
      dsimp only
      rw [eg]
      by_cases d : xs[(lo + hi) / 2] < j
      · rw [if_pos d]
        refine below_go r j fuel _ hi (by omega) h2 (by omega) (fun i h hi' => ?_) b
        by_cases e : i = (lo + hi) / 2
        · subst e; exact d
        · exact Nat.lt_trans (r.get hm (by omega)) d
      · rw [if_neg d]
        refine below_go r j fuel lo _ (by omega) (by omega) (by omega) a fun i h hi' => ?_
        by_cases e : i = (lo + hi) / 2
        · subst e; omega
        · have := r.get h (show (lo + hi) / 2 < i by omega)
          omega
    · rw [if_neg c]
      have e : lo = hi := by omega
      subst e
      exact ⟨h2, a, b⟩
theorem below_ok {xs : Array Nat} (r : Ris xs) (j : Nat) : below xs j ≤ xs.size ∧ (∀ i (h : i < xs.size), i < below xs j → xs[i] < j) ∧ ∀ i (h : i < xs.size), below xs j ≤ i → j ≤ xs[i] :=
  below_go r j xs.size 0 xs.size (Nat.zero_le _) (Nat.le_refl _) (by omega) (fun i _ h => absurd h (Nat.not_lt_zero _)) fun i h1 h2 => absurd h1 (by omega)
/-- the place that follows the i-th -/
theorem below_next {xs : Array Nat} (r : Ris xs) {i : Nat} (h : i < xs.size) : below xs (xs[i] + 1) = i + 1 := by
  obtain ⟨h1, h2, h3⟩ := below_ok r (xs[i] + 1)
  by_cases c : below xs (xs[i] + 1) ≤ i
  · have := h3 i h c
    omega
  · by_cases d : i + 1 < below xs (xs[i] + 1)
    · have hs : i + 1 < xs.size := by omega
      have := h2 (i + 1) hs d
      have := r.get hs (Nat.lt_succ_self i)
      omega
    · omega
theorem below_zero {xs : Array Nat} (r : Ris xs) : below xs 0 = 0 := by
  obtain ⟨h1, h2, h3⟩ := below_ok r 0
  by_cases c : below xs 0 = 0
  · exact c
  · have := h2 0 (by omega) (by omega)
    omega
theorem not_mem_of {xs : Array Nat} (r : Ris xs) {j : Nat} (h : xs[below xs j]? ≠ some j) : j ∉ xs.toList := by
  intro hm
  obtain ⟨i, hi, e⟩ := List.getElem_of_mem hm
  have hi' : i < xs.size := by simpa using hi
  have e' : xs[i] = j := by simpa using e
  obtain ⟨h1, h2, h3⟩ := below_ok r j
  rcases Nat.lt_trichotomy i (below xs j) with c | c | c
  · have := h2 i hi' c; omega
  · apply h
    rw [← c, Array.getElem?_eq_getElem hi', e']
  · have hb : below xs j < xs.size := by omega
    have q1 := h3 _ hb (Nat.le_refl _)
    have q2 := r.get hi' c
    omega
theorem insert_list {α : Type} (xs : Array α) (p : Nat) (x : α) : (insertAt xs p x).toList = xs.toList.take p ++ x :: xs.toList.drop p := by
  simp [insertAt, List.extract_eq_take_drop, List.take_of_length_le]
theorem Ris.insert {xs : Array Nat} (r : Ris xs) {j : Nat} (h : j ∉ xs.toList) : Ris (insertAt xs (below xs j) j) := by
  obtain ⟨h1, h2, h3⟩ := below_ok r j
  unfold Ris
  rw [insert_list]
  have lo : ∀ a ∈ xs.toList.take (below xs j), a < j := fun a ha => by
    obtain ⟨i, hi, e⟩ := List.getElem_of_mem ha
    rw [List.length_take] at hi
    rw [List.getElem_take] at e
    have hs : i < xs.size := by
      have := hi
      simp at this
      omega
    have := h2 i hs (by omega)
    have e' : xs[i] = a := by simpa using e
    omega
  have hi : ∀ a ∈ xs.toList.drop (below xs j), j < a := fun a ha => by
    have hm : a ∈ xs.toList := List.mem_of_mem_drop ha
    obtain ⟨i, hi, e⟩ := List.getElem_of_mem ha
    rw [List.length_drop] at hi
    rw [List.getElem_drop] at e
    have hs : below xs j + i < xs.size := by
      have := hi
      simp at this
      omega
    have := h3 _ hs (by omega)
    have e' : xs[below xs j + i] = a := by simpa using e
    have ne : a ≠ j := fun z => h (z ▸ hm)
    omega
  refine List.pairwise_append.mpr ⟨List.Pairwise.sublist (List.take_sublist _ _) r, List.pairwise_cons.mpr ⟨hi, List.Pairwise.sublist (List.drop_sublist _ _) r⟩, fun a ha b hb => ?_⟩
  rcases List.mem_cons.mp hb with rfl | hb
  · exact lo a ha
  · exact Nat.lt_trans (lo a ha) (hi b hb)
end St

set_option linter.all false
namespace St
open PySem PySem.SetTable

/-! ### a free slot is there -/
theorem hole : ∀ (n : Nat) (l : List Nat), l.length < n → ∃ j, j < n ∧ j ∉ l := by
  intro n l h
  by_cases c : ∃ j, j < n ∧ j ∉ l
  · exact c
  · have sub : ∀ j ∈ List.range n, j ∈ l := fun j hj => by
      by_cases d : j ∈ l
      · exact d
      · exact absurd ⟨j, List.mem_range.mp hj, d⟩ c
    have key : ∀ (a b : List Nat), a.Nodup → (∀ x ∈ a, x ∈ b) → a.length ≤ b.length := by
      intro a
      induction a with
      | nil => intro b _ _; exact Nat.zero_le _
      | cons x r ih =>
        intro b nd hs
        have hx : x ∈ b := hs x List.mem_cons_self
        have h1 : (b.erase x).length = b.length - 1 := List.length_erase_of_mem hx
        have h2 : b.length ≠ 0 := fun z => by
          have := List.length_eq_zero_iff.mp z
          rw [this] at hx
          cases hx
        have q := ih (b.erase x) (List.nodup_cons.mp nd).2 fun y hy => by
          have ne : y ≠ x := fun z => (List.nodup_cons.mp nd).1 (z ▸ hy)
          exact (List.mem_erase_of_ne ne).mpr (hs y (List.mem_cons_of_mem _ hy))
        rw [List.length_cons]
        omega
    have := key _ _ List.nodup_range sub
    rw [List.length_range] at this
    omega
theorem slot_of {t : SetTable} (hd : t.dummies = #[]) {j : Nat} (h : j ∉ t.place.toList) : t.slot j = .empty := by
  unfold SetTable.slot
  have e : (t.place[below t.place j]? == some j) = false := by
    cases q : t.place[below t.place j]? with
    | none => rfl
    | some x =>
      have hm : x ∈ t.place.toList := by simpa using Array.mem_of_getElem? q
      have : x ≠ j := fun z => h (z ▸ hm)
      simpa using this
  have e2 : has t.dummies j = false := by rw [hd]; unfold has; simp
  simp [e, e2]
theorem slot_empty {t : SetTable} {j : Nat} (h : t.slot j = .empty) : t.place[below t.place j]? ≠ some j := by
  intro e
  unfold SetTable.slot at h
  dsimp only at h
  rw [if_pos (by rw [e]; simp)] at h
  cases h
theorem slot_cases (t : SetTable) (hd : t.dummies = #[]) (j : Nat) : t.slot j = .empty ∨ ∃ i, t.slot j = .live i := by
  unfold SetTable.slot
  have e2 : has t.dummies j = false := by rw [hd]; unfold has; simp
  simp only [e2]
  by_cases c : (t.place[below t.place j]? == some j) = true
  · rw [if_pos c]; exact .inr ⟨_, rfl⟩
  · rw [if_neg c]; exact .inl (by simp)

/-! ### a probe finds it -/
theorem runEnd_le (mask i : Nat) : i ≤ runEnd mask i ∧ runEnd mask i - i ≤ 9 := by
  unfold runEnd
  split <;> omega
def pstart (mask i p : Nat) : Probe := { j := i, more := runEnd mask i - i, i, perturb := p, dummy := none }
theorem adv_leap (t : SetTable) (j i p : Nat) : t.advance { j, more := 0, i, perturb := p, dummy := none } = pstart t.mask (leap t.mask i p).1 (leap t.mask i p).2 := by
  unfold SetTable.advance pstart
  simp
theorem go_empty {t : SetTable} {h : Int} {n : Nat} {q : Probe} (e : t.slot q.j = .empty) : probe.go t (fun _ => h + 1) h (n + 1) q = some (.empty q.j q.dummy) := by
  rw [probe.go, e]
theorem go_live {t : SetTable} {h : Int} {n k : Nat} {q : Probe} (e : t.slot q.j = .live k) : probe.go t (fun _ => h + 1) h (n + 1) q = probe.go t (fun _ => h + 1) h n (t.advance q) := by
  rw [probe.go, e]
  dsimp only
  rw [if_neg (by simp; omega)]
/-- one run of neighbours -/
theorem run_go {t : SetTable} (hd : t.dummies = #[]) (h : Int) : ∀ (r j i p F : Nat),
    (∃ j', probe.go t (fun _ => h + 1) h (r + 1 + F) { j, more := r, i, perturb := p, dummy := none } = some (.empty j' none) ∧ t.slot j' = .empty) ∨
    (t.slot j ≠ .empty ∧ probe.go t (fun _ => h + 1) h (r + 1 + F) { j, more := r, i, perturb := p, dummy := none } = probe.go t (fun _ => h + 1) h F (pstart t.mask (leap t.mask i p).1 (leap t.mask i p).2))
  | 0, j, i, p, F => by
    have e : 0 + 1 + F = F + 1 := by omega
    rw [e]
    rcases slot_cases t hd j with c | ⟨k, c⟩
    · exact .inl ⟨j, go_empty c, c⟩
    · refine .inr ⟨(by rw [c]; intro z; cases z), ?_⟩
      rw [go_live (k := k) c, adv_leap]
  | r + 1, j, i, p, F => by
    have e : r + 1 + 1 + F = (r + 1 + F) + 1 := by omega
    rw [e]
    have ih := run_go hd h r (j + 1) i p F
    rcases slot_cases t hd j with c | ⟨k, c⟩
    · exact .inl ⟨j, go_empty c, c⟩
    · have ea : t.advance { j, more := r + 1, i, perturb := p, dummy := none } = { j := j + 1, more := r, i, perturb := p, dummy := none } := by
        unfold SetTable.advance
        simp
      rw [go_live (k := k) c, ea]
      rcases ih with q | q
      · exact .inl q
      · exact .inr ⟨(by rw [c]; intro z; cases z), q.2⟩
theorem go_finds {t : SetTable} (hd : t.dummies = #[]) (h : Int) : ∀ (T i p fuel : Nat), 10 * T ≤ fuel → (∃ m, m < T ∧ t.slot (lp t.mask m (i, p)).1 = .empty) →
    ∃ j, probe.go t (fun _ => h + 1) h fuel (pstart t.mask i p) = some (.empty j none) ∧ t.slot j = .empty
  | 0, i, p, fuel, _, ⟨m, hm, _⟩ => absurd hm (Nat.not_lt_zero _)
  | T + 1, i, p, fuel, hf, ⟨m, hm, hs⟩ => by
    obtain ⟨r1, r2⟩ := runEnd_le t.mask i
    have e : fuel = (runEnd t.mask i - i) + 1 + (fuel - (runEnd t.mask i - i) - 1) := by omega
    rcases run_go hd h (runEnd t.mask i - i) i i p (fuel - (runEnd t.mask i - i) - 1) with ⟨j, q, q2⟩ | ⟨ne, q⟩
    · rw [← e] at q
      exact ⟨j, q, q2⟩
    · rw [← e] at q
      have q' : probe.go t (fun _ => h + 1) h fuel (pstart t.mask i p) = _ := q
      rw [q']
      cases m with
      | zero => exact absurd hs ne
      | succ m => exact go_finds hd h T _ _ _ (by omega) ⟨m, by omega, hs⟩
theorem free_slot {t : SetTable} (hm : okMask t.mask) (hd : t.dummies = #[]) (hz : t.place.size ≤ t.mask) (h : Int) : ∃ j, t.freeSlot h = some (j, false) ∧ t.slot j = .empty := by
  obtain ⟨j, hj, hn⟩ := hole (t.mask + 1) t.place.toList (by simp; omega)
  obtain ⟨m, hm1, e⟩ := visit hm (bits h % (t.mask + 1)) (bits h) j (Nat.le_of_lt_succ (Nat.mod_lt _ (Nat.succ_pos _))) (bits_lt h) (by omega)
  obtain ⟨j', q, q2⟩ := go_finds hd h (turns t.mask) (bits h % (t.mask + 1)) (bits h) (10 * turns t.mask) (Nat.le_refl _) ⟨m, hm1, by rw [e]; exact slot_of hd hn⟩
  refine ⟨j', ?_, q2⟩
  unfold SetTable.freeSlot SetTable.probe
  have e2 : t.probeStart h = pstart t.mask (bits h % (t.mask + 1)) (bits h) := rfl
  rw [e2, q]
  rfl

/-! ### a table laid anew -/
theorem free_some {mask : Nat} {owner : Array (Option Nat)} : ∀ (fuel i p : Nat), (∃ m, m < fuel ∧ (owner.getD (lp mask m (i, p)).1 (some 0)).isNone = true) →
    ∃ j, layClean.free mask owner fuel i p = some j ∧ (owner.getD j (some 0)).isNone = true
  | 0, i, p, ⟨m, hm, _⟩ => absurd hm (Nat.not_lt_zero _)
  | fuel + 1, i, p, ⟨m, hm, hs⟩ => by
    unfold layClean.free
    cases q : (List.range (runEnd mask i + 1 - i)).find? fun k => (owner.getD (i + k) (some 0)).isNone with
    | some k =>
      have := List.find?_some q
      exact ⟨i + k, rfl, this⟩
    | none =>
      cases m with
      | zero =>
        have r1 := (runEnd_le mask i).1
        have := List.find?_eq_none.mp q 0 (List.mem_range.mpr (by omega))
        exact absurd hs this
      | succ m => exact free_some fuel _ _ ⟨m, by omega, hs⟩
def occ (owner : Array (Option Nat)) (l : List Nat) : List Nat := l.filterMap fun j => owner.getD j none
theorem occ_set {owner : Array (Option Nat)} {j v : Nat} (hj : j < owner.size) (hn : owner.getD j none = none) : ∀ l : List Nat, l.Nodup →
    (j ∈ l → (occ (owner.setIfInBounds j (some v)) l).Perm (v :: occ owner l)) ∧ (j ∉ l → occ (owner.setIfInBounds j (some v)) l = occ owner l)
  | [], _ => ⟨(fun h => nomatch h), fun _ => rfl⟩
  | a :: l, nd => by
    obtain ⟨na, nl⟩ := List.nodup_cons.mp nd
    obtain ⟨i1, i2⟩ := occ_set hj hn l nl
    have same : ∀ a, a ≠ j → (owner.setIfInBounds j (some v)).getD a none = owner.getD a none := fun a h => by
      simp only [Array.getD_eq_getD_getElem?]
      rw [Array.getElem?_setIfInBounds_ne (Ne.symm h)]
    have at' : (owner.setIfInBounds j (some v)).getD j none = some v := by
      simp only [Array.getD_eq_getD_getElem?]
      rw [Array.getElem?_setIfInBounds_self_of_lt hj]
      rfl
    unfold occ at i1 i2 ⊢
    rw [List.filterMap_cons, List.filterMap_cons]
    by_cases c : a = j
    · subst c
      refine ⟨fun _ => ?_, fun h => absurd List.mem_cons_self h⟩
      rw [at', hn]
      dsimp only
      rw [i2 na]
    · rw [same a c]
      refine ⟨fun h => ?_, fun h => ?_⟩
      · have hl : j ∈ l := by
          rcases List.mem_cons.mp h with z | z
          · exact absurd z.symm c
          · exact z
        cases owner.getD a none with
        | none => exact i1 hl
        | some x => exact ((i1 hl).cons x).trans (List.Perm.swap v x _)
      · have hl : j ∉ l := fun z => h (List.mem_cons_of_mem _ z)
        rw [i2 hl]
theorem all_some_len {owner : Array (Option Nat)} : ∀ l : List Nat, (∀ j ∈ l, owner.getD j none ≠ none) → (occ owner l).length = l.length
  | [], _ => rfl
  | a :: l, h => by
    unfold occ
    rw [List.filterMap_cons]
    cases q : owner.getD a none with
    | none => exact absurd q (h a List.mem_cons_self)
    | some x =>
      show ((occ owner l).length + 1) = l.length + 1
      rw [all_some_len l fun j hj => h j (List.mem_cons_of_mem _ hj)]
theorem getD_dflt {owner : Array (Option Nat)} {j : Nat} (h : (owner.getD j (some 0)).isNone = true) : j < owner.size ∧ owner.getD j none = none := by
  simp only [Array.getD_eq_getD_getElem?] at h ⊢
  cases q : owner[j]? with
  | none => rw [q] at h; simp at h
  | some x =>
    rw [q] at h
    have hx : x = none := by simpa using h
    subst hx
    exact ⟨(Array.getElem?_eq_some_iff.mp q).1, rfl⟩
theorem dflt_getD {owner : Array (Option Nat)} {j : Nat} (hj : j < owner.size) (h : owner.getD j none = none) : (owner.getD j (some 0)).isNone = true := by
  simp only [Array.getD_eq_getD_getElem?] at h ⊢
  rw [Array.getElem?_eq_getElem hj] at h ⊢
  simpa using h
abbrev stepL (mask : Nat) (acc : Option (Array (Option Nat) × Nat)) (h : Int) : Option (Array (Option Nat) × Nat) := do
    let (owner, k) ← acc
    let j ← layClean.free mask owner (turns mask) (bits h % (mask + 1)) (bits h)
    pure (owner.setIfInBounds j (some k), k + 1)
theorem step_ok {mask : Nat} (hm : okMask mask) {owner : Array (Option Nat)} {k : Nat} (hs : owner.size = mask + 1) (hp : (occ owner (List.range (mask + 1))).Perm (List.range k)) (hk : k < mask + 1) (h : Int) :
    ∃ owner', stepL mask (some (owner, k)) h = some (owner', k + 1) ∧ owner'.size = mask + 1 ∧ (occ owner' (List.range (mask + 1))).Perm (List.range (k + 1)) := by
  have ex : ∃ j, j < mask + 1 ∧ owner.getD j none = none := by
    by_cases c : ∃ j, j < mask + 1 ∧ owner.getD j none = none
    · exact c
    · have := all_some_len (owner := owner) (List.range (mask + 1)) fun j hj z => c ⟨j, List.mem_range.mp hj, z⟩
      rw [hp.length_eq, List.length_range, List.length_range] at this
      omega
  obtain ⟨j, hj, hn⟩ := ex
  obtain ⟨m, hm1, e⟩ := visit hm (bits h % (mask + 1)) (bits h) j (Nat.le_of_lt_succ (Nat.mod_lt _ (Nat.succ_pos _))) (bits_lt h) (by omega)
  obtain ⟨j', q, q2⟩ := free_some (mask := mask) (owner := owner) (turns mask) (bits h % (mask + 1)) (bits h) ⟨m, hm1, by rw [e]; exact dflt_getD (by omega) hn⟩
  obtain ⟨z1, z2⟩ := getD_dflt q2
  refine ⟨owner.setIfInBounds j' (some k), ?_, by simpa using hs, ?_⟩
  · unfold stepL
    show (do let j ← layClean.free mask owner (turns mask) (bits h % (mask + 1)) (bits h); pure (owner.setIfInBounds j (some k), k + 1)) = _
    rw [q]
    rfl
  · refine ((occ_set (v := k) z1 z2 (List.range (mask + 1)) List.nodup_range).1 (List.mem_range.mpr (by omega))).trans ?_
    rw [List.range_succ (n := k)]
    exact (hp.cons k).trans (List.perm_append_singleton k _).symm
theorem fold_ok {mask : Nat} (hm : okMask mask) : ∀ (hs : List Int) (owner : Array (Option Nat)) (k : Nat), owner.size = mask + 1 → (occ owner (List.range (mask + 1))).Perm (List.range k) → k + hs.length ≤ mask + 1 →
    ∃ owner', hs.foldl (stepL mask) (some (owner, k)) = some (owner', k + hs.length) ∧ owner'.size = mask + 1 ∧ (occ owner' (List.range (mask + 1))).Perm (List.range (k + hs.length))
  | [], owner, k, h1, h2, _ => ⟨owner, rfl, h1, h2⟩
  | h :: r, owner, k, h1, h2, h3 => by
    rw [List.length_cons] at h3
    obtain ⟨o', e, s', p'⟩ := step_ok hm h1 h2 (by omega) h
    obtain ⟨o2, e2, s2, p2⟩ := fold_ok hm r o' (k + 1) s' p' (by omega)
    refine ⟨o2, ?_, s2, ?_⟩
    · rw [List.foldl_cons, e, e2, List.length_cons]
      congr 2
      omega
    · rw [List.length_cons]
      have : k + (r.length + 1) = k + 1 + r.length := by omega
      rw [this]
      exact p2
theorem occ_empty (mask : Nat) (l : List Nat) : occ (Array.replicate (mask + 1) none) l = [] := by
  unfold occ
  rw [List.filterMap_eq_nil_iff]
  intro j _
  simp only [Array.getD_eq_getD_getElem?, Array.getElem?_replicate]
  split <;> rfl
theorem lay_ok {mask : Nat} (hm : okMask mask) (hs : Array Int) (h : hs.size ≤ mask + 1) : ∃ owner, layClean mask hs = some owner ∧ owner.size = mask + 1 ∧ (occ owner (List.range (mask + 1))).Perm (List.range hs.size) := by
  obtain ⟨o, e, s, p⟩ := fold_ok hm hs.toList (Array.replicate (mask + 1) none) 0 (by simp) (by rw [occ_empty]; exact .nil) (by simpa using h)
  refine ⟨o, ?_, s, by simpa using p⟩
  unfold layClean
  rw [← Array.foldl_toList]
  show (hs.toList.foldl (stepL mask) (some (Array.replicate (mask + 1) none, 0))).map (·.1) = some o
  rw [e]
  rfl
theorem fst_sub {owner : Array (Option Nat)} : ∀ l : List Nat, ((l.filterMap fun j => (owner.getD j none).map fun x => (j, x)).map (·.1)).Sublist l
  | [] => .slnil
  | a :: l => by
    rw [List.filterMap_cons]
    cases owner.getD a none with
    | none => exact (fst_sub l).cons a
    | some x => exact (fst_sub l).cons₂ a
theorem snd_occ {owner : Array (Option Nat)} : ∀ l : List Nat, (l.filterMap fun j => (owner.getD j none).map fun x => (j, x)).map (·.2) = occ owner l
  | [] => rfl
  | a :: l => by
    unfold occ
    rw [List.filterMap_cons, List.filterMap_cons]
    cases owner.getD a none with
    | none => exact snd_occ l
    | some x => exact congrArg (x :: ·) (snd_occ l)
theorem laid_ok {mask : Nat} (hm : okMask mask) (fi mo : Nat) (le pl : Bool) (hs : Array Int) (h : hs.size ≤ mask + 1) :
    ∃ place order, laid mask fi mo le pl hs = some ({ mask, place, dummies := #[], finger := fi, led := le, moves := mo, plain := pl }, order) ∧ Ris place ∧ place.size = hs.size ∧ order.toList.Perm (List.range hs.size) := by
  obtain ⟨o, e, s, p⟩ := lay_ok hm hs h
  refine ⟨_, _, by unfold laid; rw [e]; rfl, ?_, ?_, ?_⟩
  · unfold Ris
    show (List.toArray _).toList.Pairwise _
    exact List.Pairwise.sublist (fst_sub _) List.pairwise_lt_range
  · have := congrArg List.length (snd_occ (owner := o) (List.range (mask + 1)))
    rw [List.length_map, p.length_eq, List.length_range] at this
    simpa using this
  · show (List.toArray _).toList.Perm _
    have := snd_occ (owner := o) (List.range (mask + 1))
    show (((List.range (mask + 1)).filterMap fun j => (o.getD j none).map fun x => (j, x)).map (·.2)).Perm _
    rw [this]
    exact p
theorem pick_perm {α : Type} (es : Array α) {order : Array Nat} (h : order.toList.Perm (List.range es.size)) : (order.filterMap (es[·]?)).toList.Perm es.toList := by
  rw [Array.toList_filterMap]
  refine (h.filterMap _).trans (List.Perm.of_eq ?_)
  have go : ∀ (l : List α), (List.range l.length).filterMap (fun i => l[i]?) = l := by
    intro l
    induction l with
    | nil => rfl
    | cons a t ih =>
      rw [List.length_cons, List.range_succ_eq_map, List.filterMap_cons_some (b := a) (by simp), List.filterMap_map]
      congr 1
  have := go es.toList
  simpa using this
/-! ### sizes -/
theorem above_mask {n : Nat} (h : n < 256) : okMask (sizeAbove n - 1) ∧ n < sizeAbove n := by
  have : ∀ n, n < 256 → (sizeAbove n = 8 ∨ sizeAbove n = 16 ∨ sizeAbove n = 32 ∨ sizeAbove n = 64 ∨ sizeAbove n = 128 ∨ sizeAbove n = 256) ∧ n < sizeAbove n := by decide +kernel
  obtain ⟨h1, h2⟩ := this n h
  unfold okMask
  omega
end St

set_option linter.all false
namespace St
open PySem PySem.SetTable

/-- a table in order, but for the room left in it -/
structure Lay (b : Bool) (t : SetTable) (n : Nat) : Prop where
  siz : t.place.size = n
  dum : t.dummies = #[]
  ris : Ris t.place
  msk : okMask t.mask
  room : n ≤ t.mask
  led : t.led = !b
  pla : t.plain = true
structure Good (b : Bool) (t : SetTable) (n : Nat) : Prop extends Lay b t n where
  few : n * 5 < t.mask * 3
theorem Lay.fill {b : Bool} {t : SetTable} {n : Nat} (g : Lay b t n) : t.fill = n := by
  unfold SetTable.fill
  rw [g.dum, g.siz]
  rfl
theorem Lay.fits {b : Bool} {t : SetTable} {n : Nat} (g : Lay b t n) : t.fits n = true := by
  unfold SetTable.fits
  have := g.room
  rw [g.fill, g.siz]
  simp [this]
theorem okMask.ge {m : Nat} (h : okMask m) : 7 ≤ m ∧ m ≤ 255 := by unfold okMask at h; omega
theorem good_fresh (b : Bool) : Good b (.fresh 0 0 (!b)) 0 :=
  { siz := rfl, dum := rfl, ris := List.Pairwise.nil, msk := .inl rfl, room := Nat.zero_le _, led := rfl, pla := rfl, few := by show 0 * 5 < 7 * 3; decide }
theorem insert_size {α : Type} (xs : Array α) (p : Nat) (x : α) : (insertAt xs p x).size = xs.size + 1 := by
  have h := congrArg List.length (insert_list xs p x)
  rw [Array.length_toList, List.length_append, List.length_cons, List.length_take, List.length_drop, Array.length_toList] at h
  omega
theorem insert_perm {α : Type} (xs : Array α) (p : Nat) (x : α) : (insertAt xs p x).toList.Perm (x :: xs.toList) := by
  rw [insert_list]
  have e : xs.toList = xs.toList.take p ++ xs.toList.drop p := (List.take_append_drop p xs.toList).symm
  refine List.perm_middle.trans (List.Perm.of_eq ?_)
  rw [← e]
/-- a new element is laid -/
theorem lay_new {b : Bool} {t : SetTable} {es : Array (Int × Value)} (g : Good b t es.size) (h : Int) (x : Value) :
    ∃ es' t', layNew t es h x = (es', t', false, false) ∧ es'.toList.Perm ((h, x) :: es.toList) ∧ es'.size = es.size + 1 ∧ Lay b t' (es.size + 1) := by
  obtain ⟨hm1, hm2⟩ := g.msk.ge
  have few := g.few
  obtain ⟨j, e, em⟩ := free_slot g.msk g.dum (by rw [g.siz]; exact g.room) h
  have nm := not_mem_of g.ris (slot_empty em)
  have L : Lay b { t with place := insertAt t.place (below t.place j) j, dummies := if has t.dummies j then eraseAt t.dummies (below t.dummies j) else t.dummies } (es.size + 1) := by
    have nd : has t.dummies j = false := by rw [g.dum]; unfold has; simp
    refine ⟨?_, ?_, ?_, g.msk, by show es.size + 1 ≤ t.mask; omega, g.led, g.pla⟩
    · show (insertAt t.place (below t.place j) j).size = _
      rw [insert_size, g.siz]
    · show (if has t.dummies j then _ else t.dummies) = #[]
      rw [nd]
      exact g.dum
    · exact g.ris.insert nm
  refine ⟨insertAt es (below t.place j) (h, x), _, ?_, insert_perm _ _ _, insert_size _ _ _, L⟩
  unfold layNew
  rw [e]
  dsimp only [SetTable.put]
  rw [insert_size]
  have f := L.fits
  unfold SetTable.orStandIn
  rw [if_pos f, f]
  rfl
/-- a full table is laid anew -/
theorem lay_grown {b : Bool} {t : SetTable} {es : Array (Int × Value)} (g : Lay b t es.size) (h1 : 0 < es.size) (h2 : es.size ≤ 62) :
    ∃ es' t', relayAll t es (grown es.size) = (es', t', false) ∧ es'.toList.Perm es.toList ∧ es'.size = es.size ∧ Good b t' es.size := by
  have eg : grown es.size = es.size * 4 := by unfold grown; rw [if_neg (by omega)]
  obtain ⟨k1, k2⟩ := above_mask (n := es.size * 4) (by omega)
  obtain ⟨m1, m2⟩ := k1.ge
  obtain ⟨pl, od, e, r, z, p⟩ := laid_ok k1 t.finger (t.movedTo (sizeAbove (es.size * 4) - 1)) t.led t.plain (es.map (·.1)) (by rw [Array.size_map]; omega)
  rw [Array.size_map] at z p
  have pp := pick_perm es p
  have sz : (od.filterMap (es[·]?)).size = es.size := by rw [← Array.length_toList, pp.length_eq, Array.length_toList]
  have G : Good b { mask := sizeAbove (es.size * 4) - 1, place := pl, dummies := #[], finger := t.finger, led := t.led, moves := t.movedTo (sizeAbove (es.size * 4) - 1), plain := t.plain } es.size :=
    { siz := z, dum := rfl, ris := r, msk := k1, room := by show es.size ≤ sizeAbove (es.size * 4) - 1; omega, led := g.led, pla := g.pla, few := by show es.size * 5 < (sizeAbove (es.size * 4) - 1) * 3; omega }
  refine ⟨_, _, ?_, pp, sz, G⟩
  unfold relayAll SetTable.relaid
  rw [eg, e]
  dsimp only
  have c : coversAll od es.size = true := by unfold coversAll; exact List.isPerm_iff.mpr p
  rw [if_pos (by rw [c, sz, G.fits]; rfl)]
theorem full_iff {b : Bool} {t : SetTable} {n : Nat} (g : Lay b t n) : t.tooFull = true ↔ t.mask * 3 ≤ n * 5 := by
  unfold SetTable.tooFull
  rw [g.fill]
  simp
end St

set_option linter.all false
namespace St
open PySem PySem.SetTable

def SE (es : List (Int × Value)) : Prop := ∀ e ∈ es, ∃ k t, e = (hashInt k, Value.int k t)
def iz (e : Int × Value) : Int := match e.2 with
  | .int k _ => k
  | _ => 0
abbrev setO (es : Array (Int × Value)) (ep : Nat) (t : SetTable) : Obj := { cls := .type "set", data := .set es ep t }
/-- a set of ints at a -/
def SetIs (b : Bool) (h : Heap) (a : Addr) (ns : List Int) : Prop :=
  ∃ es ep t, h.get? a = some (setO es ep t) ∧ SE es.toList ∧ Good b t es.size ∧ es.size ≤ 62 ∧ (es.toList.map iz).Perm ns ∧ ns.Nodup
theorem SE.perm {l l' : List (Int × Value)} (h : SE l) (p : l'.Perm l) : SE l' := fun e he => h e (p.mem_iff.mp he)
theorem SE.elems {prog : Program} {w : World} {l : List (Int × Value)} (h : SE l) : ElemsOf (intKind prog w) l := fun e he => by
  obtain ⟨k, t, rfl⟩ := h e he
  exact ⟨⟨k, intKind_is prog w k t, rfl⟩, rfl⟩
theorem iz_at (prog : Program) (w : World) {l : List (Int × Value)} (h : SE l) (k : Int) : (∃ e ∈ l, (intKind prog w).is k e.2 = true) ↔ k ∈ l.map iz := by
  constructor
  · rintro ⟨e, he, q⟩
    obtain ⟨k', t, rfl⟩ := h e he
    have q' : Value.isInt k (.int k' t) = true := q
    simp [Value.isInt] at q'
    exact List.mem_map.mpr ⟨_, he, by simp [iz, q']⟩
  · intro hk
    obtain ⟨e, he, q⟩ := List.mem_map.mp hk
    obtain ⟨k', t, rfl⟩ := h e he
    have q' : k' = k := q
    subst q'
    exact ⟨_, he, intKind_is prog w k' t⟩
theorem SetIs.len {b : Bool} {h : Heap} {a : Addr} {ns : List Int} (x : SetIs b h a ns) : ns.length ≤ 62 := by
  obtain ⟨es, _, _, _, _, _, h6, p, _⟩ := x
  rw [← p.length_eq, List.length_map, Array.length_toList]
  exact h6
theorem SetIs.keep {b : Bool} {h h' : Heap} {a : Addr} {ns : List Int} (x : SetIs b h a ns) (k : ∀ o, h.get? a = some o → h'.get? a = some o) : SetIs b h' a ns := by
  obtain ⟨es, ep, t, e, r⟩ := x
  exact ⟨es, ep, t, k _ e, r⟩
theorem SetIs.perm {b : Bool} {h : Heap} {a : Addr} {ns ms : List Int} (x : SetIs b h a ns) (p : ns.Perm ms) : SetIs b h a ms := by
  obtain ⟨es, ep, t, e, r1, r2, r3, r4, r5⟩ := x
  exact ⟨es, ep, t, e, r1, r2, r3, r4.trans p, p.nodup r5⟩
section
variable {prog : Program} {w : World} {A : Around} {E : Value → Shared → Prop} {s : Shared} {b : Bool} {a : Addr}
theorem gave_way (c : Bool) {s₁ : Shared} {Q : Unit → Shared → Prop} (q : Q () s₁) : wpAny (model prog w) A (match c with | true => rule "set.scan.the-table-gave-way" | false => pure ()) Q E s₁ := by
  cases c
  · exact wpAny_pure q
  · exact wpAny_rule q
theorem put_get {es es' : Array (Int × Value)} {ep : Nat} {t t' : SetTable} {h : Heap} (ho : h.get? a = some (setO es ep t)) : (h.update a (Obj.putSet es' t')).get? a = some (setO es' (ep + 1) t') :=
  Heap.get?_update_self (Obj.putSet es' t') ho rfl
theorem small62 {n : Nat} (h : n ≤ 62) : n ≤ sizeLine := fits_of_scanBound (by unfold scanBound; omega)
/-- an int is added -/
theorem set_add {ns : List Int} {k : Int} {tk : Tok} {Q : Bool → Shared → Prop} (x : SetIs b s.heap a ns) (hn : ns.length < 62)
    (h : ∀ h', Heap.SameBut a s.heap h' → SetIs b h' a (if k ∈ ns then ns else k :: ns) → Q (!decide (k ∈ ns)) { s with heap := h' }) :
    wpAny (model prog w) A (setAddHashed a (.int k tk) (hashInt k)) Q E s := by
  obtain ⟨es, ep, t, ho, se, g, h6, p, nd⟩ := id x
  have el := se.elems (prog := prog) (w := w)
  have mem : k ∈ es.toList.map iz ↔ k ∈ ns := p.mem_iff
  have len : es.size = ns.length := by rw [← p.length_eq, List.length_map, Array.length_toList]
  have hb : es.size < scanBound := by unfold scanBound; omega
  unfold setAddHashed setAddHashedIn
  refine wpAny_holding (wpAny_bind (wpAny_setState_of ho rfl g.fits ?_))
  dsimp only
  rw [byScan_of (knd := intKind prog w) (x := Value.int k tk) rfl hb el]
  simp only [↓reduceIte]
  unfold setAddByScan
  refine wpAny_bind (wpAny_bind (wpAny_rule (wpAny_bind (wpAny_setScan_of (knd := intKind prog w) (intKind_is prog w k tk) ho rfl g.fits el ?_))))
  cases hr : List.findIdx? (fun e => (intKind prog w).is k e.2) es.toList with
  | some j =>
    dsimp only
    obtain ⟨hj, hpj, _⟩ := List.findIdx?_eq_some_iff_getElem.mp hr
    have hk : k ∈ ns := mem.mp ((iz_at prog w se k).mp ⟨_, List.getElem_mem hj, hpj⟩)
    refine wpAny_pure (wpAny_pure ?_)
    have q := h s.heap (Heap.SameBut.refl a s.heap) (by rw [if_pos hk]; exact x)
    rw [decide_eq_true hk] at q
    cases s
    exact q
  | none =>
    dsimp only
    have hk : k ∉ ns := fun z => by
      obtain ⟨e, he, q⟩ := (iz_at prog w se k).mpr (mem.mpr z)
      have := List.findIdx?_eq_none_iff.mp hr e he
      rw [q] at this
      exact Bool.noConfusion this
    obtain ⟨es1, t1, e1, p1, z1, L1⟩ := lay_new g (hashInt k) (.int k tk)
    have se1 : SE es1.toList := SE.perm (l := (hashInt k, Value.int k tk) :: es.toList) (fun e he => by
      rcases List.mem_cons.mp he with rfl | he
      · exact ⟨k, tk, rfl⟩
      · exact se e he) p1
    have p1' : (es1.toList.map iz).Perm (k :: ns) := (p1.map iz).trans (p.cons k)
    have nd1 : (k :: ns).Nodup := List.nodup_cons.mpr ⟨hk, nd⟩
    rw [e1]
    refine wpAny_bind (wpAny_pure ?_)
    have fin : ∀ (h' : Heap) (es2 : Array (Int × Value)) (ep2 : Nat) (t2 : SetTable), Heap.SameBut a s.heap h' → h'.get? a = some (setO es2 ep2 t2) → es2.toList.Perm es1.toList → Good b t2 es2.size → es2.size ≤ 62 → Q true { s with heap := h' } :=
      fun h' es2 ep2 t2 sb e2 p2 g2 z2 => by
        have q := h h' sb (by rw [if_neg hk]; exact ⟨es2, ep2, t2, e2, se1.perm p2, g2, z2, (p2.map iz).trans p1', nd1⟩)
        rw [decide_eq_false hk] at q
        exact q
    simp only [L1.pla, ↓reduceIte]
    refine wpAny_bind ?_
    rw [hashByValue_scannable 8 (x := Value.int k tk) rfl]
    refine wpAny_pure ?_
    dsimp only [plainKind]
    simp only [↓reduceIte]
    refine wpAny_bind (wpAny_storeSet_of ho rfl ?_ (small62 (by omega)))
    have ho1 := put_get (es' := es1) (t' := t1) ho
    have sb1 := Heap.SameBut.update s.heap a (Obj.putSet es1 t1)
    by_cases hf : t1.tooFull = true
    · rw [hf]
      simp only [Bool.not_false, Bool.and_self, ↓reduceIte]
      obtain ⟨es2, t2, e2, p2, z2, G2⟩ := lay_grown (es := es1) (by rw [z1]; exact L1) (by omega) (by omega)
      rw [e2]
      refine wpAny_bind (wpAny_pure ?_)
      refine wpAny_bind (wpAny_storeSet_of (s := { s with heap := s.heap.update a (Obj.putSet es1 t1) }) ho1 rfl ?_ (small62 (by show es2.size ≤ 62; omega)))
      have ho2 := put_get (es' := es2) (t' := t2) ho1
      have sb2 := Heap.SameBut.update (s.heap.update a (Obj.putSet es1 t1)) a (Obj.putSet es2 t2)
      refine wpAny_pure (wpAny_pure ?_)
      exact fin _ es2 _ t2 (sb1.trans sb2) ho2 p2 (by rw [z2]; exact G2) (by omega)
    · have hf' : t1.tooFull = false := by simpa using hf
      rw [hf']
      simp only [Bool.and_false, Bool.false_eq_true, ↓reduceIte]
      refine wpAny_pure (wpAny_pure ?_)
      have few : es1.size * 5 < t1.mask * 3 := by
        have := (not_congr (full_iff L1)).mp hf
        omega
      exact fin _ es1 _ t1 sb1 ho1 .rfl { toLay := by rw [z1]; exact L1, few := few } (by omega)
end
end St

set_option linter.all false
set_option maxRecDepth 100000
namespace St
open PySem PySem.SetTable

/-! ### a picked order is a permutation -/
theorem erase_perm {α : Type} : ∀ (l : List α) (i : Nat) (h : i < l.length), (l[i] :: l.eraseIdx i).Perm l
  | [], i, h => absurd h (Nat.not_lt_zero _)
  | a :: l, 0, h => .rfl
  | a :: l, i + 1, h => ((List.Perm.swap a _ _)).trans ((erase_perm l i (Nat.lt_of_succ_lt_succ h)).cons a)
theorem pick_go {α : Type} (next : Nat → Nat) : ∀ (fuel k : Nat) (left : List α) (out : Array α), left.length = fuel → (pickOrder.go next fuel k left out).toList.Perm (out.toList ++ left)
  | 0, k, left, out, h => by
    have e : left = [] := List.length_eq_zero_iff.mp h
    subst e
    unfold pickOrder.go
    rw [List.append_nil]
  | fuel + 1, k, left, out, h => by
    have hl : next k % left.length < left.length := Nat.mod_lt _ (by omega)
    unfold pickOrder.go
    rw [List.getElem?_eq_getElem hl]
    dsimp only
    refine (pick_go next fuel (k + 1) _ _ (by rw [List.length_eraseIdx_of_lt hl]; omega)).trans ?_
    rw [Array.toList_push, List.append_assoc]
    refine List.Perm.append_left _ ?_
    exact erase_perm left _ hl
theorem pick_order {α : Type} (next : Nat → Nat) (xs : Array α) : (pickOrder next xs).toList.Perm xs.toList := by
  have := pick_go next xs.size 0 xs.toList #[] (by simp)
  simpa [pickOrder] using this

/-! ### the iterator's slots -/
theorem sl_sit_next : Slot "set_iterator" "__next__" "set_iterator.__next__" := by
  refine .of (owner := "set_iterator") (n := "__next__") ?_ (by decide +kernel) (by decide +kernel) (by decide +kernel) ?_ ?_
  · rw [typeLookup_type, builtinLookup_eq_fast]
    kernel_rfl
  · first
    | exact .inl (by decide +kernel)
    | exact .inr (by decide +kernel)
  · rw [isSubtype_type]
    kernel_rfl
theorem sl_sit_iter : Slot "set_iterator" "__iter__" "set_iterator.__iter__" := by
  refine .of (owner := "set_iterator") (n := "__iter__") ?_ (by decide +kernel) (by decide +kernel) (by decide +kernel) ?_ ?_
  · rw [typeLookup_type, builtinLookup_eq_fast]
    kernel_rfl
  · first
    | exact .inl (by decide +kernel)
    | exact .inr (by decide +kernel)
  · rw [isSubtype_type]
    kernel_rfl
theorem en_sit_next : entryFor table "set_iterator.__next__" = some Builtin.«set_iterator.__next__» := entryFor_of_tree (by kernel_rfl)
theorem en_sit_iter : entryFor table "set_iterator.__iter__" = some Builtin.«dict_keyiterator.__iter__» := entryFor_alias (id' := "dict_keyiterator.__iter__") (by kernel_rfl) rfl (by decide +kernel) (by kernel_rfl)
theorem en_set_iter : entryFor table "set.__iter__" = some Builtin.«frozenset.__iter__» := entryFor_alias (id' := "frozenset.__iter__") (by kernel_rfl) rfl (by decide +kernel) (by kernel_rfl)
theorem ar_sit_next (a : Value) : argsOk "set_iterator.__next__" ⟨[a], []⟩ := by unfold argsOk; kernel_rfl
theorem ar_sit_iter (a : Value) : argsOk "set_iterator.__iter__" ⟨[a], []⟩ := by unfold argsOk; kernel_rfl
end St

set_option linter.all false
set_option maxRecDepth 100000
namespace St
open PySem PySem.SetTable
section
variable {prog : Program} {w : World} {A : Around} {E : Value → Shared → Prop} {s : Shared} {a it : Addr} {es : Array (Int × Value)} {ep : Nat} {t : SetTable}
abbrev txt (w : World) : Bool := w.params.followText "set-order"
/-- the order in which the entries come -/
def wlk (w : World) (a : Addr) (es : Array (Int × Value)) (ep : Nat) : Array (Int × Value) := if txt w = true then pickOrder (w.params.setOrder a ep) es else es
theorem wlk_perm : (wlk w a es ep).toList.Perm es.toList := by
  unfold wlk
  split
  · exact pick_order _ _
  · exact .rfl
theorem wlk_size : (wlk w a es ep).size = es.size := by rw [← Array.length_toList, (wlk_perm (w := w) (a := a) (es := es) (ep := ep)).length_eq, Array.length_toList]
def slotAt (w : World) (t : SetTable) : Nat → Nat
  | 0 => 0
  | j + 1 => if txt w = true then 0 else t.place.getD j 0 + 1
theorem by_text {Q : Bool → Shared → Prop} (h : Q (txt w) s) : wpAny (model prog w) A setsByText Q E s := by
  unfold setsByText
  exact wpAny_bind (wpAny_askSetting (wpAny_pure h))
theorem set_walk (ho : s.heap.get? a = some (setO es ep t)) (g : Good (txt w) t es.size) {Q : Array (Int × Value) → Shared → Prop} (h : Q (wlk w a es ep) s) : wpAny (model prog w) A (setWalk a) Q E s := by
  unfold setWalk
  refine wpAny_bind (wpAny_setState_of ho rfl g.fits ?_)
  dsimp only
  refine wpAny_bind (by_text ?_)
  unfold wlk at h
  cases hb : txt w with
  | true =>
    rw [hb] at h
    rw [if_pos rfl] at h ⊢
    exact wpAny_bind (wpAny_askSetting (wpAny_pure h))
  | false =>
    rw [hb] at h
    rw [if_neg Bool.false_ne_true] at h ⊢
    have c1 : (!t.plain && decide (es.size > 1)) = false := by rw [g.pla]; rfl
    have c2 : (!t.led && decide (es.size > 1)) = false := by rw [g.led, hb]; rfl
    refine wpAny_ite_split (fun z => ?_) fun _ => ?_
    · have z' : (!t.plain && decide (es.size > 1)) = true := z
      rw [c1] at z'
      cases z'
    · refine wpAny_bind ?_
      refine wpAny_ite_split (fun z => ?_) fun _ => wpAny_pure (wpAny_pure h)
      have z' : (!t.led && decide (es.size > 1)) = true := z
      rw [c2] at z'
      cases z'
theorem set_next (ho : s.heap.get? a = some (setO es ep t)) (g : Good (txt w) t es.size) {i : Nat} (hi : i ≤ es.size) {Q : Option (Value × Nat) → Shared → Prop}
    (h : Q (((wlk w a es ep)[i]?).map fun e => (e.2, slotAt w t (i + 1))) s) : wpAny (model prog w) A (setNext a (slotAt w t i) i ep) Q E s := by
  unfold setNext
  refine wpAny_bind (wpAny_setState_of ho rfl g.fits ?_)
  dsimp only
  refine wpAny_bind (by_text ?_)
  cases hb : txt w with
  | true =>
    rw [if_pos rfl]
    rw [if_neg (by simp)]
    refine wpAny_bind (set_walk ho g (wpAny_pure ?_))
    have e : slotAt w t i = slotAt w t (i + 1) := by
      cases i with
      | zero => simp [slotAt, hb]
      | succ j => simp [slotAt, hb]
    rw [e]
    exact h
  | false =>
    rw [if_neg Bool.false_ne_true]
    have c1 : (!t.plain && decide (es.size > 1)) = false := by rw [g.pla]; rfl
    have c2 : (!t.led && !es.isEmpty) = false := by rw [g.led, hb]; rfl
    have bl : below t.place (slotAt w t i) = i := by
      cases i with
      | zero => exact below_zero g.ris
      | succ j =>
        have hj : j < t.place.size := by rw [g.siz]; omega
        have : slotAt w t (j + 1) = t.place[j] + 1 := by simp [slotAt, hb, hj]
        rw [this]
        exact below_next g.ris hj
    refine wpAny_ite_split (fun z => ?_) fun _ => ?_
    · have z' : (!t.plain && decide (es.size > 1)) = true := z
      rw [c1] at z'
      cases z'
    refine wpAny_bind (wpAny_ite_split (fun z => ?_) fun _ => wpAny_pure ?_)
    · have z' : (!t.led && !es.isEmpty) = true := z
      rw [c2] at z'
      cases z'
    rw [bl]
    refine wpAny_pure ?_
    unfold wlk at h
    rw [hb, if_neg Bool.false_ne_true] at h
    by_cases c : i < es.size
    · have c' : i < t.place.size := by rw [g.siz]; exact c
      rw [Array.getElem?_eq_getElem c] at h ⊢
      rw [Array.getElem?_eq_getElem c']
      have : slotAt w t (i + 1) = t.place[i] + 1 := by simp [slotAt, hb, c']
      rw [this] at h
      exact h
    · have e : es[i]? = none := Array.getElem?_eq_none (by omega)
      rw [e] at h ⊢
      exact h
def SitIs (w : World) (t : SetTable) (h : Heap) (it a : Addr) (i n ep : Nat) : Prop := h.get? it = some { cls := .type "set_iterator", data := .fields #[rawInt (slotAt w t i), rawInt i, .ref a, rawInt n, rawInt ep] }
theorem SitIs.ty {i n : Nat} (x : SitIs w t s.heap it a i n ep) : s.TypeIs (.ref it) "set_iterator" := ⟨_, x, rfl⟩
theorem sit_item {i : Nat} {e : Int × Value} {Q : Option Value → Shared → Prop} (hit : SitIs w t s.heap it a i es.size ep) (ho : s.heap.get? a = some (setO es ep t)) (g : Good (txt w) t es.size) (hne : a ≠ it)
    (hx : (wlk w a es ep)[i]? = some e) (hQ : ∀ h', SitIs w t h' it a (i + 1) es.size ep → Heap.SameBut it s.heap h' → Q (some e.2) { s with heap := h' }) : wpAny (model prog w) A (pyNext (.ref it)) Q E s := by
  have hi : i < es.size := by
    have := (Array.getElem?_eq_some_iff.mp hx).1
    rw [wlk_size] at this
    exact this
  unfold pyNext
  refine wpAny_bind (wpAny_attempt (wpAny_callSpecial?_slot (name := Str.ofString "__next__") hit.ty sl_sit_next (wpAny_call_entry sl_sit_next hit.ty en_sit_next ?_ (ar_sit_next _))))
  unfold Builtin.«set_iterator.__next__»
  refine wpAny_bind (wpAny_pure ?_)
  refine wpAny_bind (wpAny_fieldsOf hit rfl ?_)
  show wpAny _ _ (setEntries a >>= _) _ _ s
  refine wpAny_bind (wpAny_setEntries_of ho rfl g.fits ?_)
  rw [if_neg (by simp)]
  show wpAny _ _ (setNext a ((slotAt w t i : Nat) : Int).toNat ((i : Nat) : Int).toNat ((ep : Nat) : Int).toNat >>= _) _ _ s
  simp only [Int.toNat_natCast]
  refine wpAny_bind (set_next ho g (by omega) ?_)
  rw [hx]
  show wpAny _ _ (setField (.ref it) 0 (rawInt (slotAt w t (i + 1))) >>= _) _ _ s
  refine wpAny_bind (wpAny_setField hit rfl (by simp) ?_)
  have g1 : (s.heap.update it (Obj.mapFields (·.setIfInBounds 0 (rawInt (slotAt w t (i + 1)))))).get? it = some { cls := .type "set_iterator", data := .fields #[rawInt (slotAt w t (i + 1)), rawInt i, .ref a, rawInt es.size, rawInt ep] } := Heap.get?_update_self _ hit rfl
  refine wpAny_bind (wpAny_setField (s := { s with heap := s.heap.update it (Obj.mapFields (·.setIfInBounds 0 (rawInt (slotAt w t (i + 1))))) }) g1 rfl (by simp) ?_)
  have g2 : ((s.heap.update it (Obj.mapFields (·.setIfInBounds 0 (rawInt (slotAt w t (i + 1)))))).update it (Obj.mapFields (·.setIfInBounds 1 (rawInt ((i : Int) + 1))))).get? it = some { cls := .type "set_iterator", data := .fields #[rawInt (slotAt w t (i + 1)), rawInt ((i : Int) + 1), .ref a, rawInt es.size, rawInt ep] } := Heap.get?_update_self _ g1 rfl
  exact wpAny_pure ⟨_, rfl, wpAny_pure (hQ _ g2 ((Heap.SameBut.update ..).trans (Heap.SameBut.update ..)))⟩
theorem sit_end {Q : Option Value → Shared → Prop} (hh : A.handled = none) (hit : SitIs w t s.heap it a es.size es.size ep) (ho : s.heap.get? a = some (setO es ep t)) (g : Good (txt w) t es.size) (hne : a ≠ it)
    (hQ : ∀ h', Heap.ExtBut it s.heap h' → Q none { s with heap := h' }) : wpAny (model prog w) A (pyNext (.ref it)) Q E s := by
  unfold pyNext
  refine wpAny_bind (wpAny_attempt (wpAny_callSpecial?_slot (name := Str.ofString "__next__") hit.ty sl_sit_next (wpAny_call_entry sl_sit_next hit.ty en_sit_next ?_ (ar_sit_next _))))
  unfold Builtin.«set_iterator.__next__»
  refine wpAny_bind (wpAny_pure ?_)
  refine wpAny_bind (wpAny_fieldsOf hit rfl ?_)
  show wpAny _ _ (setEntries a >>= _) _ _ s
  refine wpAny_bind (wpAny_setEntries_of ho rfl g.fits ?_)
  rw [if_neg (by simp)]
  show wpAny _ _ (setNext a ((slotAt w t es.size : Nat) : Int).toNat ((es.size : Nat) : Int).toNat ((ep : Nat) : Int).toNat >>= _) _ _ s
  simp only [Int.toNat_natCast]
  have hx : (wlk w a es ep)[es.size]? = none := Array.getElem?_eq_none (by rw [wlk_size]; exact Nat.le_refl _)
  refine wpAny_bind (set_next ho g (Nat.le_refl _) ?_)
  rw [hx]
  show wpAny _ _ (setField (.ref it) 2 .none >>= _) _ _ s
  refine wpAny_bind (wpAny_setField hit rfl (by simp) ?_)
  show wpAny _ _ (newExc (.type "StopIteration") [] >>= _) _ _ _
  refine wpAny_bind ?_
  simp only [newExc, newTuple]
  refine wpAny_bind (wpAny_newObj_type ?_ (by size_fits))
  refine wpAny_bind (m := firstArgMember _ _) (wpAny_of_eq (a := Value.none) (by first | rfl | (simp only [firstArgMember]; rfl)) ?_)
  refine wpAny_newObj_type ?_ (by size_fits)
  simp only [raiseNew]
  refine wpAny_bind (wpAny_handled ?_)
  rw [show A.in1.handled = none from hh]
  refine wpAny_bind (wpAny_pure (wpAny_throw ?_))
  refine wpAny_bind (wpAny_isInstance (T := "StopIteration") (b := true) ⟨_, Heap.get?_push_size _ rfl, rfl⟩ isSubtype_stop ?_)
  exact wpAny_pure (hQ _ (((Heap.SameBut.update ..).extBut.push _).push _))
theorem sit_self {i n : Nat} {Q : Value → Shared → Prop} (hit : SitIs w t s.heap it a i n ep) (h : Q (.ref it) s) : wpAny (model prog w) A (pyIter (.ref it)) Q E s := by
  refine wpAny_pyIter_slot hit.ty sl_sit_iter (wpAny_call_entry sl_sit_iter hit.ty en_sit_iter ?_ (ar_sit_iter _))
  show wpAny _ _ (ret (.ref it)) _ _ s
  exact wpAny_pure ⟨_, rfl, "set_iterator", _, hit.ty, sl_sit_next.lookup, h⟩
theorem walks_set (hh : A.handled = none) (I a : Addr) (hne : a ≠ I) (g : Good (txt w) t es.size) :
    Walks prog w A I [I, a] [I] es.size (fun i v => ∃ e, (wlk w a es ep)[i]? = some e ∧ v = e.2) (fun i h => SitIs w t h I a i es.size ep ∧ h.get? a = some (setO es ep t)) where
  sub := fun b hb => by rw [List.mem_singleton.mp hb]; exact List.mem_cons_self
  frame := fun _ _ _ st hk => ⟨hk I List.mem_cons_self _ st.1, hk a (List.mem_cons_of_mem _ (List.mem_singleton.mpr rfl)) _ st.2⟩
  item := fun i s Q E hi st hQ => by
    have hx : (wlk w a es ep)[i]? = some ((wlk w a es ep)[i]'(by rw [wlk_size]; exact hi)) := Array.getElem?_eq_getElem _
    refine sit_item st.1 st.2 g hne hx fun h' hit' sb => ?_
    exact hQ _ h' s.toks ⟨_, hx, rfl⟩ ⟨hit', (sb.2 a hne).trans st.2⟩ fun b o hb e => (sb.2 b fun z => hb (by rw [z]; exact List.mem_singleton.mpr rfl)).trans e
  done := fun s Q E st hQ => sit_end hh st.1 st.2 g hne fun h' eb => hQ h' s.toks fun b o hb e => eb b o (fun z => hb (by rw [z]; exact List.mem_singleton.mpr rfl)) e
  self := fun _ _ _ _ st hQ => sit_self st.1 hQ
theorem set_iter (ho : s.heap.get? a = some (setO es ep t)) (g : Good (txt w) t es.size) {Q : Value → Shared → Prop}
    (hQ : Q (.ref s.heap.objs.size) { s with heap := s.heap.push { cls := .type "set_iterator", data := .fields #[rawInt (slotAt w t 0), rawInt (0 : Nat), .ref a, rawInt es.size, rawInt ep] } }) : wpAny (model prog w) A (pyIter (.ref a)) Q E s := by
  have hT : s.TypeIs (.ref a) "set" := ⟨_, ho, rfl⟩
  refine wpAny_pyIter_slot hT F.slot_set_iter (wpAny_call_entry F.slot_set_iter hT en_set_iter ?_ (F.args_set_iter_1 _))
  unfold Builtin.«frozenset.__iter__» Builtin.Frozenset.slot0 Builtin.Frozenset.sizeOf
  refine wpAny_bind (wpAny_bind (wpAny_pure ?_))
  refine wpAny_pure ?_
  refine wpAny_bind (wpAny_bind (wpAny_setEntries_of ho rfl g.fits (wpAny_pure ?_)))
  refine wpAny_bind ?_
  unfold setDrawn
  refine wpAny_bind (wpAny_setState_of ho rfl g.fits ?_)
  dsimp only
  refine wpAny_bind (by_text (wpAny_pure ?_))
  have c1 : (!txt w && (!t.plain && decide (es.size > 1))) = false := by rw [g.pla]; simp
  refine wpAny_ite_split (fun z => ?_) fun _ => ?_
  · have z' : (!txt w && (!t.plain && decide (es.size > 1))) = true := z
    rw [c1] at z'
    cases z'
  refine wpAny_bind (wpAny_pure ?_)
  refine wpAny_bind (wpAny_setEpoch_of ho rfl g.fits ?_)
  refine wpAny_bind (wpAny_newObj_type (wpAny_pure ⟨_, rfl, "set_iterator", _, ⟨_, Heap.get?_push_size _ rfl, rfl⟩, sl_sit_next.lookup, ?_⟩))
  exact hQ
end
end St

set_option linter.all false
set_option maxRecDepth 100000
namespace St
open PySem PySem.SetTable

/-! ### lists without repeats -/
def dd (ns : List Int) (k : Int) : List Int := if k ∈ ns then ns else k :: ns
theorem dd_nodup {ns : List Int} (h : ns.Nodup) (k : Int) : (dd ns k).Nodup := by
  unfold dd
  split
  · exact h
  · exact List.nodup_cons.mpr ⟨by assumption, h⟩
theorem mem_dd {ns : List Int} {k x : Int} : x ∈ dd ns k ↔ x ∈ ns ∨ x = k := by
  unfold dd
  split
  · rename_i h
    constructor
    · exact .inl
    · rintro (z | rfl)
      · exact z
      · exact h
  · rw [List.mem_cons]
    constructor
    · rintro (z | z)
      · exact .inr z
      · exact .inl z
    · rintro (z | z)
      · exact .inr z
      · exact .inl z
theorem mem_dds {l : List Int} : ∀ {ns : List Int} {x : Int}, x ∈ l.foldl dd ns ↔ x ∈ ns ∨ x ∈ l := by
  induction l with
  | nil => intro ns x; simp
  | cons a r ih =>
    intro ns x
    rw [List.foldl_cons, ih, mem_dd, List.mem_cons]
    constructor
    · rintro ((z | z) | z)
      · exact .inl z
      · exact .inr (.inl z)
      · exact .inr (.inr z)
    · rintro (z | z | z)
      · exact .inl (.inl z)
      · exact .inl (.inr z)
      · exact .inr z
theorem dds_nodup {l : List Int} : ∀ {ns : List Int}, ns.Nodup → (l.foldl dd ns).Nodup := by
  induction l with
  | nil => intro ns h; exact h
  | cons a r ih => intro ns h; exact ih (dd_nodup h a)
theorem sub_len {α : Type} [DecidableEq α] : ∀ (a b : List α), a.Nodup → (∀ x ∈ a, x ∈ b) → a.length ≤ b.length
  | [], _, _, _ => Nat.zero_le _
  | x :: r, b, nd, hs => by
    have hx : x ∈ b := hs x List.mem_cons_self
    have h1 : (b.erase x).length = b.length - 1 := List.length_erase_of_mem hx
    have h2 : 0 < b.length := List.length_pos_of_mem hx
    have q := sub_len r (b.erase x) (List.nodup_cons.mp nd).2 fun y hy => by
      have ne : y ≠ x := fun z => (List.nodup_cons.mp nd).1 (z ▸ hy)
      exact (List.mem_erase_of_ne ne).mpr (hs y (List.mem_cons_of_mem _ hy))
    rw [List.length_cons]
    omega
/-- the ints that a set may hold here -/
def Sml (ns : List Int) : Prop := ∀ x ∈ ns, 0 ≤ x ∧ x < 62
theorem Sml.len {ns : List Int} (h : Sml ns) (nd : ns.Nodup) : ns.length ≤ 62 := by
  have := sub_len ns ((List.range 62).map Int.ofNat) nd fun x hx => by
    obtain ⟨h1, h2⟩ := h x hx
    exact List.mem_map.mpr ⟨x.toNat, List.mem_range.mpr (by omega), by show ((x.toNat : Nat) : Int) = x; omega⟩
  simpa using this
theorem Sml.more {ns : List Int} (h : Sml ns) (nd : ns.Nodup) {k : Int} (hk : 0 ≤ k ∧ k < 62) (nk : k ∉ ns) : ns.length < 62 := by
  have : Sml (k :: ns) := fun x hx => by
    rcases List.mem_cons.mp hx with rfl | hx
    · exact hk
    · exact h x hx
  have := this.len (List.nodup_cons.mpr ⟨nk, nd⟩)
  rw [List.length_cons] at this
  omega
section
variable {prog : Program} {w : World} {A : Around} {E : Value → Shared → Prop} {s : Shared} {b : Bool} {a c : Addr}
theorem SetIs.nodup {h : Heap} {ns : List Int} (x : SetIs b h a ns) : ns.Nodup := let ⟨_, _, _, _, _, _, _, _, nd⟩ := x; nd
theorem SetIs.lt {h : Heap} {ns : List Int} (x : SetIs b h a ns) : a < h.objs.size := let ⟨_, _, _, e, _⟩ := x; Heap.lt_size e
theorem SetIs.ty {ns : List Int} (x : SetIs b s.heap a ns) : s.TypeIs (.ref a) "set" := let ⟨_, _, _, e, _⟩ := x; ⟨_, e, rfl⟩
/-- an int is added, whether it is there or not -/
theorem set_dd {ns : List Int} {k : Int} {tk : Tok} {Q : Bool → Shared → Prop} (x : SetIs b s.heap a ns) (hs : Sml ns) (hk : 0 ≤ k ∧ k < 62)
    (h : ∀ r h', Heap.SameBut a s.heap h' → SetIs b h' a (dd ns k) → Q r { s with heap := h' }) : wpAny (model prog w) A (setAddHashed a (.int k tk) (hashInt k)) Q E s := by
  by_cases c : k ∈ ns
  · obtain ⟨es, ep, t, ho, se, g, h6, p, nd⟩ := id x
    have el := se.elems (prog := prog) (w := w)
    have hb : es.size < scanBound := by unfold scanBound; omega
    have ed : dd ns k = ns := by unfold dd; rw [if_pos c]
    unfold setAddHashed setAddHashedIn
    refine wpAny_holding (wpAny_bind (wpAny_setState_of ho rfl g.fits ?_))
    dsimp only
    rw [byScan_of (knd := intKind prog w) (x := Value.int k tk) rfl hb el]
    simp only [↓reduceIte]
    unfold setAddByScan
    refine wpAny_bind (wpAny_bind (wpAny_rule (wpAny_bind (wpAny_setScan_of (knd := intKind prog w) (intKind_is prog w k tk) ho rfl g.fits el ?_))))
    cases hr : List.findIdx? (fun e => (intKind prog w).is k e.2) es.toList with
    | some j =>
      dsimp only
      refine wpAny_pure (wpAny_pure ?_)
      have q := h false s.heap (Heap.SameBut.refl a s.heap) (by rw [ed]; exact x)
      cases s
      exact q
    | none =>
      obtain ⟨e, he, q⟩ := (iz_at prog w se k).mpr (p.mem_iff.mpr c)
      have := List.findIdx?_eq_none_iff.mp hr e he
      rw [q] at this
      exact Bool.noConfusion this
  · refine set_add x (hs.more x.nodup hk c) fun h' sb y => h _ h' sb ?_
    unfold dd
    exact y
/-- a new set -/
theorem new_set {Q : Value → Shared → Prop} (h : ∀ o, SetIs (txt w) (s.heap.push o) s.heap.objs.size [] → Q (.ref s.heap.objs.size) { s with heap := s.heap.push o }) : wpAny (model prog w) A (newSet (.type "set")) Q E s := by
  unfold newSet
  refine wpAny_bind (by_text ?_)
  dsimp only
  simp only [newObj]
  refine wpAny_bind (wpAny_alloc (wpAny_pure (h _ ?_)))
  exact ⟨#[], 0, _, Heap.get?_push_size _ rfl, (fun e he => by simp at he), good_fresh _, Nat.zero_le _, .nil, .nil⟩
/-- room is made in a set -/
theorem set_room {ns : List Int} {more : Nat} {Q : Unit → Shared → Prop} (x : SetIs b s.heap a ns) (hm : more ≤ 62) (h : ∀ h', Heap.SameBut a s.heap h' → SetIs b h' a ns →
      (ns = [] → ∃ es ep t, h'.get? a = some (setO es ep t) ∧ Good b t es.size ∧ es.size = 0 ∧ more * 5 < t.mask * 3 ∧ more ≤ t.mask) → Q () { s with heap := h' }) : wpAny (model prog w) A (setRoomFor a more) Q E s := by
  obtain ⟨es, ep, t, ho, se, g, h6, p, nd⟩ := id x
  have len : es.size = ns.length := by rw [← p.length_eq, List.length_map, Array.length_toList]
  unfold setRoomFor
  refine wpAny_bind (wpAny_setState_of ho rfl g.fits ?_)
  dsimp only
  unfold SetTable.roomFor
  rw [g.fill]
  by_cases c : (es.size + more) * 5 ≥ t.mask * 3
  · rw [if_pos c]
    dsimp only
    unfold setRelay
    refine wpAny_bind (wpAny_setState_of ho rfl g.fits ?_)
    dsimp only
    rw [g.siz]
    obtain ⟨k1, k2⟩ := above_mask (n := (es.size + more) * 2) (by omega)
    obtain ⟨m1, m2⟩ := k1.ge
    obtain ⟨pl, od, e, r, z, q⟩ := laid_ok k1 t.finger (t.movedTo (sizeAbove ((es.size + more) * 2) - 1)) t.led t.plain (es.map (·.1)) (by rw [Array.size_map]; omega)
    rw [Array.size_map] at z q
    have pp := pick_perm es q
    have sz : (od.filterMap (es[·]?)).size = es.size := by rw [← Array.length_toList, pp.length_eq, Array.length_toList]
    have g7 := g.msk.ge
    rw [if_neg (by rw [sizeLine_eq]; omega)]
    refine wpAny_bind ?_
    unfold SetTable.relaid
    rw [e]
    refine wpAny_ite_split (fun z1 => ?_) fun _ => ?_
    · have z2 : ((od.filterMap (es[·]?)).size != es.size) = true := z1
      rw [sz] at z2
      simp at z2
    refine wpAny_pure (wpAny_storeSet_of ho rfl ?_ (small62 (by show (od.filterMap (es[·]?)).size ≤ 62; omega)))
    have hg := put_get (es' := od.filterMap (es[·]?)) (t' := { mask := sizeAbove ((es.size + more) * 2) - 1, place := pl, dummies := #[], finger := t.finger, led := t.led, moves := t.movedTo (sizeAbove ((es.size + more) * 2) - 1), plain := t.plain }) ho
    have G : Good b { mask := sizeAbove ((es.size + more) * 2) - 1, place := pl, dummies := #[], finger := t.finger, led := t.led, moves := t.movedTo (sizeAbove ((es.size + more) * 2) - 1), plain := t.plain } es.size :=
      { siz := z, dum := rfl, ris := r, msk := k1, room := (by show es.size ≤ sizeAbove ((es.size + more) * 2) - 1; omega), led := g.led, pla := g.pla, few := (by show es.size * 5 < (sizeAbove ((es.size + more) * 2) - 1) * 3; omega) }
    refine h _ (Heap.SameBut.update ..) ⟨_, _, _, hg, se.perm pp, (by rw [sz]; exact G), (by omega), (pp.map iz).trans p, nd⟩ fun hn => ⟨_, _, _, hg, (by rw [sz]; exact G), ?_, ?_, ?_⟩
    · rw [sz, len, hn]; rfl
    · show more * 5 < (sizeAbove ((es.size + more) * 2) - 1) * 3
      omega
    · show more ≤ sizeAbove ((es.size + more) * 2) - 1
      omega
  · rw [if_neg c]
    dsimp only
    refine wpAny_pure ?_
    have q := h s.heap (Heap.SameBut.refl a s.heap) x fun hn => ⟨es, ep, t, ho, g, by rw [len, hn]; rfl, by omega, by have := g.msk.ge; omega⟩
    cases s
    exact q
end
end St

set_option linter.all false
set_option maxRecDepth 100000
namespace St
open PySem PySem.SetTable
section
variable {prog : Program} {w : World} {A : Around} {E : Value → Shared → Prop} {s : Shared} {a c : Addr}
theorem set_in_set : isSubtype (.type "set") (.type "set") = pure true := by
  rw [isSubtype_type]
  kernel_rfl
theorem SE.map {l : List (Int × Value)} (h : SE l) : ∀ e ∈ l, ∃ k t, e = (hashInt k, Value.int k t) := h
/-- into an empty set: slot for slot, or laid clean -/
theorem merge_empty {ns : List Int} {each : Sem Unit} {Q : Unit → Shared → Prop} (x : SetIs (txt w) s.heap a []) (y : SetIs (txt w) s.heap c ns) (hne : a ≠ c)
    (h : ∀ h', Heap.SameBut a s.heap h' → SetIs (txt w) h' a ns → Q () { s with heap := h' }) : wpAny (model prog w) A (setMerge a c each) Q E s := by
  obtain ⟨eo, epo, to, hoo, seo, go, h6, po, ndo⟩ := id y
  have len : eo.size = ns.length := by rw [← po.length_eq, List.length_map, Array.length_toList]
  unfold setMerge
  rw [if_neg (by simpa using hne)]
  refine wpAny_bind (wpAny_setState_of hoo rfl go.fits ?_)
  dsimp only
  by_cases e0 : eo.isEmpty = true
  · rw [if_pos e0]
    have z0 : ns = [] := by
      have : eo.size = 0 := by simpa using e0
      exact List.length_eq_zero_iff.mp (by omega)
    subst z0
    refine wpAny_pure ?_
    have q := h s.heap (Heap.SameBut.refl a s.heap) x
    cases s
    exact q
  rw [if_neg e0]
  refine wpAny_bind (set_room x (by omega) fun h' sb x' room => ?_)
  obtain ⟨es, ep, t, ho, g, z0, few, rm⟩ := room rfl
  refine wpAny_bind (wpAny_setState_of (s := { s with heap := h' }) ho rfl g.fits ?_)
  dsimp only
  have fl : t.fill = 0 := by rw [g.fill]; exact z0
  unfold SetTable.road
  rw [if_neg (by rw [fl]; simp)]
  have gm := g.msk.ge
  by_cases c1 : (t.mask == to.mask && to.dummies.isEmpty) = true
  · rw [if_pos c1]
    dsimp only
    refine wpAny_storeSet_of (s := { s with heap := h' }) ho rfl ?_ (small62 h6)
    have hg := put_get (es' := eo) (t' := { to with finger := t.finger, led := t.led && to.led, moves := t.moves, plain := t.plain && to.plain }) ho
    refine h _ (sb.trans (Heap.SameBut.update ..)) ⟨_, _, _, hg, seo, { siz := go.siz, dum := go.dum, ris := go.ris, msk := go.msk, room := go.room, led := ?_, pla := ?_, few := go.few }, h6, po, ndo⟩
    · show (t.led && to.led) = !(txt w)
      rw [g.led, go.led]
      simp
    · show (t.plain && to.plain) = true
      rw [g.pla, go.pla]
      rfl
  · rw [if_neg c1]
    dsimp only
    obtain ⟨pl, od, e, r, z, q⟩ := laid_ok g.msk t.finger t.moves (t.led && to.led) (t.plain && to.plain) (eo.map (·.1)) (by rw [Array.size_map]; omega)
    rw [Array.size_map] at z q
    have pp := pick_perm eo q
    have sz : (od.filterMap (eo[·]?)).size = eo.size := by rw [← Array.length_toList, pp.length_eq, Array.length_toList]
    refine wpAny_bind ?_
    rw [e]
    refine wpAny_ite_split (fun z1 => ?_) fun _ => ?_
    · have z2 : ((od.filterMap (eo[·]?)).size != eo.size) = true := z1
      rw [sz] at z2
      simp at z2
    refine wpAny_pure (wpAny_storeSet_of (s := { s with heap := h' }) ho rfl ?_ (small62 (by show (od.filterMap (eo[·]?)).size ≤ 62; omega)))
    have hg := put_get (es' := od.filterMap (eo[·]?)) (t' := { mask := t.mask, place := pl, dummies := #[], finger := t.finger, led := t.led && to.led, moves := t.moves, plain := t.plain && to.plain }) ho
    have G : Good (txt w) { mask := t.mask, place := pl, dummies := #[], finger := t.finger, led := t.led && to.led, moves := t.moves, plain := t.plain && to.plain } eo.size :=
      { siz := z, dum := rfl, ris := r, msk := g.msk, room := rm, led := (by show (t.led && to.led) = !(txt w); rw [g.led, go.led]; simp), pla := (by show (t.plain && to.plain) = true; rw [g.pla, go.pla]; rfl), few := few }
    exact h _ (sb.trans (Heap.SameBut.update ..)) ⟨_, _, _, hg, seo.perm pp, (by rw [sz]; exact G), (by omega), (pp.map iz).trans po, ndo⟩
/-- a copy -/
theorem set_copy {ns : List Int} {Q : Value → Shared → Prop} (x : SetIs (txt w) s.heap a ns)
    (h : ∀ h', (∀ b o, s.heap.get? b = some o → h'.get? b = some o) → SetIs (txt w) h' s.heap.objs.size ns → Q (.ref s.heap.objs.size) { s with heap := h' }) : wpAny (model prog w) A (Builtin.Frozenset.copyOf a) Q E s := by
  unfold Builtin.Frozenset.copyOf Builtin.Frozenset.baseOf
  refine wpAny_bind (wpAny_bind (wpAny_isInstance x.ty set_in_set ?_))
  refine wpAny_pure ?_
  simp only [↓reduceIte]
  refine wpAny_bind (new_set fun o n => ?_)
  refine wpAny_bind (wpAny_pure ?_)
  have lt := x.lt
  refine wpAny_bind (merge_empty (s := { s with heap := s.heap.push o }) n (x.keep fun o' e => Heap.get?_push_of_some _ e) (Nat.ne_of_gt lt) fun h' sb y => wpAny_pure ?_)
  exact h h' (fun b o' e => (sb.2 b (Nat.ne_of_lt (Heap.lt_size e))).trans (Heap.get?_push_of_some _ e)) y
/-- into a set that is not empty, one by one -/
theorem merge_into {ns ms : List Int} {nm : String} {Q : Unit → Shared → Prop} (x : SetIs (txt w) s.heap a ns) (y : SetIs (txt w) s.heap c ms) (hne : a ≠ c) (sn : Sml ns) (sm : Sml ms)
    (h : ∀ h' us, Heap.SameBut a s.heap h' → SetIs (txt w) h' a us → (∀ k, k ∈ us ↔ k ∈ ns ∨ k ∈ ms) → Q () { s with heap := h' }) : wpAny (model prog w) A (Builtin.Frozenset.merge nm a c) Q E s := by
  obtain ⟨eo, epo, to, hoo, seo, go, h6, po, ndo⟩ := id y
  have len : eo.size = ms.length := by rw [← po.length_eq, List.length_map, Array.length_toList]
  unfold Builtin.Frozenset.merge
  refine wpAny_bind (wpAny_setEpoch_of hoo rfl go.fits ?_)
  by_cases en : ns = []
  · subst en
    exact merge_empty x y hne fun h' sb z => h h' ms sb z fun k => by simp
  unfold setMerge
  rw [if_neg (by simpa using hne)]
  refine wpAny_bind (wpAny_setState_of hoo rfl go.fits ?_)
  dsimp only
  by_cases e0 : eo.isEmpty = true
  · rw [if_pos e0]
    have z0 : ms = [] := by
      have : eo.size = 0 := by simpa using e0
      exact List.length_eq_zero_iff.mp (by omega)
    subst z0
    refine wpAny_pure ?_
    have q := h s.heap ns (Heap.SameBut.refl a s.heap) x fun k => by simp
    cases s
    exact q
  rw [if_neg e0]
  refine wpAny_bind (set_room x (by omega) fun h' sb x' _ => ?_)
  obtain ⟨es, ep, t, ho, se, g, g6, p, nd⟩ := id x'
  refine wpAny_bind (wpAny_setState_of (s := { s with heap := h' }) ho rfl g.fits ?_)
  dsimp only
  have fl : t.fill ≠ 0 := by
    rw [g.fill]
    intro z
    have : ns.length = 0 := by rw [← p.length_eq, List.length_map, Array.length_toList]; exact z
    exact en (List.length_eq_zero_iff.mp this)
  unfold SetTable.road
  rw [if_pos (by simpa using fl)]
  dsimp only
  have hoo' : h'.get? c = some (setO eo epo to) := (sb.2 c (Ne.symm hne)).trans hoo
  refine wpAny_bind ?_
  unfold setWalkUnseen
  refine wpAny_bind (wpAny_setState_of (s := { s with heap := h' }) hoo' rfl go.fits ?_)
  dsimp only
  refine wpAny_bind (by_text ?_)
  have cw : (txt w || to.led && to.plain || decide (eo.size ≤ 1)) = true := by
    rw [go.led, go.pla]
    cases txt w <;> simp
  rw [if_pos cw]
  refine set_walk (s := { s with heap := h' }) hoo' go ?_
  have wp := wlk_perm (w := w) (a := c) (es := eo) (ep := epo)
  have sw : SE (wlk w c eo epo).toList := seo.perm wp
  have szw : ∀ k, k ∈ (wlk w c eo epo).toList.map iz ↔ k ∈ ms := fun k => ((wp.map iz).trans po).mem_iff
  rw [← Array.forIn_toList]
  have go' : ∀ (l : List (Int × Value)) (h1 : Heap) (us : List Int), SE l → Sml (l.map iz) → Heap.SameBut a s.heap h1 → SetIs (txt w) h1 a us → Sml us → (∀ k, (k ∈ us ∨ k ∈ l.map iz) ↔ (k ∈ ns ∨ k ∈ ms)) →
      wpAny (model prog w) A (forIn l PUnit.unit fun (x : Int × Value) (_ : PUnit) => (do
        let _ ← holding [x.2] (setAddHashed a x.2 x.1)
        Builtin.Frozenset.unchanged nm c epo
        if (((← setState c).2.1) != epo) = true then do unsupported "set.changed-during-merge"; pure (ForInStep.yield PUnit.unit) else pure (ForInStep.yield PUnit.unit) : Sem (ForInStep PUnit))) (fun _ s' => Q () s') E { s with heap := h1 } := by
    intro l
    induction l with
    | nil =>
      intro h1 us _ _ sb1 x1 _ hk
      exact wpAny_pure (h h1 us sb1 x1 fun k => by simpa using hk k)
    | cons e l ih =>
      intro h1 us se1 sm1 sb1 x1 su hk
      obtain ⟨k, tk, rfl⟩ := se1 _ List.mem_cons_self
      rw [List.forIn_cons]
      have hoo1 : h1.get? c = some (setO eo epo to) := (sb1.2 c (Ne.symm hne)).trans hoo
      have kk : 0 ≤ k ∧ k < 62 := sm1 k (List.mem_map.mpr ⟨_, List.mem_cons_self, rfl⟩)
      refine wpAny_bind (wpAny_bind (wpAny_holding (set_dd (s := { s with heap := h1 }) x1 su kk fun r h2 sb2 x2 => ?_)))
      have hoo2 : h2.get? c = some (setO eo epo to) := (sb2.2 c (Ne.symm hne)).trans hoo1
      unfold Builtin.Frozenset.unchanged
      refine wpAny_bind (wpAny_bind (wpAny_setEpoch_of (s := { s with heap := h2 }) hoo2 rfl go.fits ?_))
      rw [if_neg (by simp)]
      refine wpAny_pure ?_
      refine wpAny_bind (wpAny_setState_of (s := { s with heap := h2 }) hoo2 rfl go.fits ?_)
      rw [if_neg (by simp)]
      refine wpAny_pure ?_
      refine ih h2 (dd us k) (fun e he => se1 e (List.mem_cons_of_mem _ he)) (fun z hz => sm1 z (List.mem_cons_of_mem _ hz)) (sb1.trans sb2) x2 (fun z hz => ?_) fun z => ?_
      · rcases mem_dd.mp hz with q | q
        · exact su z q
        · rw [q]; exact kk
      · rw [← hk z, mem_dd, List.map_cons, List.mem_cons]
        show ((z ∈ us ∨ z = k) ∨ z ∈ l.map iz) ↔ (z ∈ us ∨ z = k ∨ z ∈ l.map iz)
        rw [or_assoc]
  refine wpAny_bind (wpAny_mono (go' (wlk w c eo epo).toList h' ns sw (fun z hz => sm z ((szw z).mp hz)) sb x' sn fun k => by rw [szw]) (fun _ s' q => ?_) fun _ _ q => q)
  exact wpAny_pure q
end
end St

set_option linter.all false
set_option maxRecDepth 100000
namespace St
open PySem PySem.SetTable
section
variable {prog : Program} {w : World} {A : Around} {E : Value → Shared → Prop} {s : Shared} {a c : Addr}
theorem en_set_or : entryFor table "set.__or__" = some Builtin.«frozenset.__or__» := entryFor_alias (id' := "frozenset.__or__") (by kernel_rfl) rfl (by decide +kernel) (by kernel_rfl)
theorem any_set {ns : List Int} {Q : Bool → Shared → Prop} (x : SetIs (txt w) s.heap a ns) (h : Q true s) : wpAny (model prog w) A (Builtin.Frozenset.isAnySet (.ref a)) Q E s := by
  unfold Builtin.Frozenset.isAnySet
  refine wpAny_bind (wpAny_isInstance x.ty set_in_set ?_)
  exact wpAny_pure h
/-- a | c -/
theorem set_or {ns ms : List Int} {Q : Value → Shared → Prop} (x : SetIs (txt w) s.heap a ns) (y : SetIs (txt w) s.heap c ms) (hne : a ≠ c) (sn : Sml ns) (sm : Sml ms)
    (h : ∀ h' us, (∀ b o, s.heap.get? b = some o → h'.get? b = some o) → SetIs (txt w) h' s.heap.objs.size us → (∀ k, k ∈ us ↔ k ∈ ns ∨ k ∈ ms) → Q (.ref s.heap.objs.size) { s with heap := h' }) :
    wpAny (model prog w) A (binaryOp .BitOr (.ref a) (.ref c)) Q E s := by
  refine wpAny_binaryOp_same x.ty y.ty F.fills_set_or F.slot_set_or ?_
  refine wpAny_call_entry F.slot_set_or x.ty en_set_or ?_ (F.args_set_or_2 _ _)
  show wpAny _ _ (Builtin.Frozenset.slot1 "__or__" ⟨[.ref a, .ref c], []⟩ >>= _) _ _ s
  refine wpAny_bind (wpAny_bind (wpAny_pure (wpAny_pure ?_)))
  dsimp only
  refine wpAny_bind (wpAny_bind (any_set x ?_))
  refine any_set y ?_
  refine wpAny_ite_split (fun z => absurd z (by decide)) fun _ => ?_
  refine wpAny_bind (wpAny_pure ?_)
  refine wpAny_bind ?_
  refine wpAny_bind (set_copy x fun h1 k1 x1 => ?_)
  have lc := y.lt
  refine wpAny_ite_split (fun _ => ?_) fun z => absurd (by simpa using Ne.symm hne) z
  refine wpAny_bind (wpAny_pure ?_)
  refine wpAny_bind (wpAny_holding ?_)
  unfold Builtin.Frozenset.updateFrom
  have y1 : SetIs (txt w) h1 c ms := y.keep fun o e => k1 _ o e
  refine wpAny_bind (any_set (s := { s with heap := h1 }) y1 ?_)
  rw [if_pos rfl]
  refine wpAny_bind (wpAny_pure ?_)
  refine merge_into (s := { s with heap := h1 }) x1 y1 (Nat.ne_of_gt lc) sn sm fun h2 us sb x2 hk => ?_
  refine wpAny_pure (wpAny_pure ⟨_, rfl, by simp, h h2 us (fun b o e => (sb.2 b (Nat.ne_of_lt (Heap.lt_size e))).trans (k1 b o e)) x2 hk⟩)
end
end St

set_option linter.all false
set_option maxRecDepth 100000
namespace St
open PySem PySem.SetTable PyProof.Rows

def dds (val : Nat → Int) (i : Nat) : List Int := ((List.range i).map val).foldl dd []
theorem dds_succ (val : Nat → Int) (i : Nat) : dds val (i + 1) = dd (dds val i) (val i) := by
  unfold dds
  rw [List.range_succ, List.map_append, List.foldl_append]
  rfl
theorem dds_sml {val : Nat → Int} {n : Nat} (h : ∀ i, i < n → 0 ≤ val i ∧ val i < 62) : ∀ i, i ≤ n → Sml (dds val i) := by
  intro i hi x hx
  have := mem_dds.mp hx
  rcases this with z | z
  · cases z
  · obtain ⟨j, hj, rfl⟩ := List.mem_map.mp z
    exact h j (by have := List.mem_range.mp hj; omega)
section
variable {prog : Program} {w : World} {A : Around} {R : Result → Shared → Prop} {I : Addr} {fp wr : List Addr} {G : Array GenState → Array GenState → Prop} {n : Nat} {P : Nat → Value → Prop} {T : Nat → Shared → Prop} {b : Bool}
/-- the loop of set(..) over a walk of small ints -/
theorem up_loop (W : WalksS prog w A.in1 I fp wr G n P T) (S : Addr) (hSf : S ∉ fp) (val : Nat → Int) (hval : ∀ i v, P i v → ∃ t, v = .int (val i) t) (hb : ∀ i, i < n → 0 ≤ val i ∧ val i < 62) :
    ∀ (k i : Nat) (s : Shared), n - i = k → i ≤ n → T i s → SetIs b s.heap S (dds val i) →
      (∀ s', Moved (S :: wr) G s s' → SetIs b s'.heap S (dds val n) → R (.ok (.ret .none)) s') → codeAny (model prog w) A (.builtin "set.update.loop" ⟨[.ref S, .ref I], []⟩) R s := by
  have hSw : S ∉ wr := fun h => hSf (W.sub _ h)
  have hsub : ∀ b ∈ wr, b ∈ S :: wr := fun b hb => List.mem_cons_of_mem _ hb
  intro k
  induction k with
  | zero =>
    intro i s hk hi st x hR
    have hin : i = n := by omega
    subst hin
    refine codeAny_builtin PyProof.Rows.F.entry_set_update_loop ?_
    rw [Around.under_plainId PyProof.Rows.F.plain_set_update_loop _]
    show wpAny _ A.in1 (pyNext (.ref I) >>= _) _ _ s
    refine wpAny_bind (W.done s _ _ st fun s' hm => ?_)
    show wpAny _ A.in1 (ret Value.none) _ _ s'
    exact wpAny_pure (hR s' (hm.mono hsub) (x.keep fun o e => hm.heap S _ hSw e))
  | succ k ih =>
    intro i s hk hi st x hR
    have hlt : i < n := by omega
    refine codeAny_builtin PyProof.Rows.F.entry_set_update_loop ?_
    rw [Around.under_plainId PyProof.Rows.F.plain_set_update_loop _]
    show wpAny _ A.in1 (pyNext (.ref I) >>= _) _ _ s
    refine wpAny_bind (W.item i s _ _ hlt st fun v s' hP st' hm => ?_)
    obtain ⟨t, rfl⟩ := hval i v hP
    have x' := x.keep fun o e => hm.heap S _ hSw e
    show wpAny _ A.in1 (holding [Value.int (val i) t] (setAdd S (.int (val i) t)) >>= _) _ _ s'
    refine wpAny_bind (wpAny_holding ?_)
    unfold setAdd
    refine wpAny_holding (wpAny_bind ((intKind prog w).pyHash (k := val i) (intKind_is _ _ _ _) ?_))
    refine set_dd (s := { s' with toks := s'.toks + 1 }) x' (dds_sml hb i (by omega)) (hb i hlt) fun r h' sb y => ?_
    rw [← dds_succ] at y
    refine wpAny_pure ⟨plainId_quiet PyProof.Rows.F.plain_set_update_loop _, ih (i + 1) _ (by omega) hlt (W.frame _ s' _ _ st' (Nat.le_succ _) fun c hc o e => ?_) y fun s'' hm'' y'' => ?_⟩
    · exact (sb.2 c fun h : c = S => hSf (by rw [← h]; exact hc)).trans e
    · refine hR s'' (Moved.trans W.gtrans ((hm.mono hsub).then_heap (Nat.le_succ _) fun c o hc e => ?_) hm'') y''
      exact (sb.2 c fun h : c = S => hc (by rw [h]; exact List.mem_cons_self)).trans e
end
section
variable {prog : Program} {w : World} {A : Around} {E : Value → Shared → Prop} {s : Shared}
theorem new_of (a : Value) {Q₁ : Value → Shared → Prop} (h : ∀ led : Bool, led = !txt w → Q₁ (.ref s.heap.objs.size) { s with heap := s.heap.push { cls := .type "set", dict := none, data := .set #[] 0 (.fresh 0 0 led) } }) :
    codeAny (model prog w) A (.call (.builtin "set.__new__") ⟨[.type "set", a], []⟩) (wants Q₁ E) s := by
  refine codeAny_of_tree ?_
  show wpAny _ A.in1 (do checkBuiltinCall "set.__new__" ⟨[.type "set", a], []⟩; again (.builtin "set.__new__" ⟨[.type "set", a], []⟩)) _ _ s
  refine wpAny_bind (wpAny_of_eq (PySem.F.newCall_set_1 a) (wpAny_pure ⟨plainId_quiet PySem.F.plain_set_new _, codeAny_builtin PySem.F.entry_set_new ?_⟩))
  rw [Around.under_plainId PySem.F.plain_set_new _]
  unfold Builtin.«set.__new__» Builtin.Frozenset.newClass
  have hsub := sub_set_self
  obtain ⟨hp, g, d, tk, os⟩ := s
  dsimp only
  wp_walk
  refine wpAny_askSetting (wpAny_pure ?_)
  dsimp only
  simp only [newObj]
  refine wpAny_bind (wpAny_alloc (wpAny_pure ?_))
  exact wpAny_pure (h _ rfl)
set_option maxHeartbeats 3200000 in
/-- set(xs) of a list of small ints -/
theorem set_of_list {l : Addr} {items : Array Value} {ns : List Int} {Q : Value → Shared → Prop} (hh : A.handled = none) (hl : s.heap.IsList l items) (hi : IntsAre items.toList ns) (hs : Sml ns)
    (h : ∀ (h' : Heap) (tk : Nat) (us : List Int), SetIs (txt w) h' s.heap.objs.size us → (∀ k, k ∈ us ↔ k ∈ ns) → (∀ b o, b < s.heap.objs.size → s.heap.get? b = some o → h'.get? b = some o) → Q (.ref s.heap.objs.size) { s with heap := h', toks := tk }) :
    wpAny (model prog w) A (call (.type "set") [.ref l]) Q E s := by
  obtain ⟨c, tl, hmro⟩ := PySem.F.called_set.mro
  have hmade := PySem.F.called_set.made
  have hsub := PySem.F.called_set.sub
  have lenI := hi.length
  have hz : items.size = ns.length := by rw [← lenI, Array.length_toList]
  have hbv : ∀ i, i < items.size → 0 ≤ ns.getD i 0 ∧ ns.getD i 0 < 62 := fun i hlt => by
    have : ns.getD i 0 ∈ ns := by
      rw [List.getD_eq_getElem?_getD, List.getElem?_eq_getElem (by omega)]
      exact List.getElem_mem _
    exact hs _ this
  have dmem : ∀ k, k ∈ dds (fun i => ns.getD i 0) items.size ↔ k ∈ ns := fun k => by
    unfold dds
    rw [mem_dds]
    have e : (List.range items.size).map (fun i => ns.getD i 0) = ns := by
      apply List.ext_getElem
      · simp [hz]
      · intro i h1 h2
        simp [List.getD_eq_getElem?_getD, h2]
    rw [e]
    simp
  refine wpAny_call (codeAny_of_tree ?_)
  show wpAny _ _ (callAny (.type "set") _) _ _ _
  refine wpAny_pure ⟨Code.quiet_builtin _ (by decide +kernel), codeAny_builtin PySem.F.entry_type_call ?_⟩
  rw [Around.under_plain (weight_type_call_type "set" [.ref l] []) rfl]
  have h1 := PySem.F.called_set.notType
  have h2 := PySem.F.called_set.canCreate
  have hct := PySem.F.typeCall_set_1 (.ref l)
  repeat (any_goals (first | assumption | wp_step))
  refine codeAny_mono (new_of (.ref l) (E := E) (Q₁ := fun obj s₁ => ∃ led : Bool, obj = .ref s.heap.objs.size ∧ s₁ = { s with heap := s.heap.push { cls := .type "set", dict := none, data := .set #[] 0 (.fresh 0 0 led) } } ∧ led = !txt w) fun led hc => ⟨led, rfl, rfl, hc⟩) fun r s₁ hr => ?_
  cases r with
  | error e => exact hr
  | ok fl =>
    cases fl with
    | ret obj =>
      obtain ⟨led, rfl, rfl, hled⟩ := hr
      have hS : (s.heap.push { cls := .type "set", dict := none, data := .set #[] 0 (.fresh 0 0 led) }).get? s.heap.objs.size = some { cls := .type "set", dict := none, data := .set #[] 0 (.fresh 0 0 led) } := Heap.get?_push_size _ rfl
      have x0 : SetIs (txt w) (s.heap.push { cls := .type "set", dict := none, data := .set #[] 0 (.fresh 0 0 led) }) s.heap.objs.size [] := ⟨#[], 0, _, hS, (fun e he => by simp at he), (by rw [hled]; exact good_fresh _), Nat.zero_le _, .nil, .nil⟩
      have hT : Shared.TypeIs { s with heap := s.heap.push { cls := .type "set", dict := none, data := .set #[] 0 (.fresh 0 0 led) } } (.ref s.heap.objs.size) "set" := x0.ty
      have hli := PySem.F.called_set.init.lookup
      have hbi := PySem.F.called_set.init.bind (.ref s.heap.objs.size)
      repeat (any_goals (first | assumption | wp_step))
      refine codeAny_mono (codeAny_call_builtin (R := wants (fun r s₂ => r = .none ∧ ∃ h' tk, s₂ = { s with heap := h', toks := tk } ∧ SetIs (txt w) h' s.heap.objs.size (dds (fun i => ns.getD i 0) items.size) ∧
          (∀ b o, b < s.heap.objs.size → s.heap.get? b = some o → h'.get? b = some o)) E) PySem.F.called_set.init.plain PySem.F.entry_set_init (check_set_init_1 hT ?_)) fun r₂ s₂ hr₂ => ?_
      · obtain ⟨ol, hol, hcl, nl, hdl⟩ := hl
        obtain ⟨ocls, odict, odata, oslots⟩ := ol
        simp only at hcl hdl
        subst hcl; subst hdl
        have hol' : (s.heap.push { cls := .type "set", dict := none, data := .set #[] 0 (.fresh 0 0 led) }).get? l = some { cls := .type "list", dict := odict, data := .seq items nl, slots := oslots } := Heap.get?_push_of_some _ hol
        have hsls := PySem.F.sub_list_set
        have hslf := PySem.F.sub_list_frozenset
        have hne : (Value.type "list" == Value.type "dict") = false := by decide
        have hl1 : (s.heap.push { cls := .type "set", dict := none, data := .set #[] 0 (.fresh 0 0 led) }).IsList l items := ⟨_, hol', rfl, nl, rfl⟩
        unfold Builtin.«set.__init__» noKeywords Builtin.Frozenset.updateFrom
        generalize hPI : pyIter = PI
        wp_walk
        subst hPI
        refine wpAny_pyIter_list hl1 ?_
        refine wpAny_bind (wpAny_runValue ?_)
        have hlS : l < s.heap.objs.size := Heap.lt_size hol
        have hh3 : A.in1.in1.in1.handled = none := by simp [hh]
        have sz1 : (s.heap.push { cls := .type "set", dict := none, data := .set #[] 0 (.fresh 0 0 led) }).objs.size = s.heap.objs.size + 1 := Heap.size_push ..
        have hneI : l ≠ (s.heap.push { cls := .type "set", dict := none, data := .set #[] 0 (.fresh 0 0 led) }).objs.size := by rw [sz1]; exact Nat.ne_of_lt (Nat.lt_succ_of_lt hlS)
        have hSf : s.heap.objs.size ∉ [(s.heap.push { cls := .type "set", dict := none, data := .set #[] 0 (.fresh 0 0 led) }).objs.size, l] := by
          rw [sz1]
          simp only [List.mem_cons, List.not_mem_nil, or_false, not_or]
          exact ⟨Nat.ne_of_lt (Nat.lt_succ_self _), Nat.ne_of_gt hlS⟩
        have hval : ∀ (i : Nat) (v : Value), items[i]? = some v → ∃ t, v = .int ((fun i => ns.getD i 0) i) t := fun i v hv => IntsAre.int_at hi i v (by rw [Array.getElem?_toList]; exact hv)
        refine up_loop (b := txt w) ((Walks.list hh3 _ l hneI items).toS) s.heap.objs.size hSf (fun i => ns.getD i 0) hval hbv (items.size - 0) 0 _ (by omega) (Nat.zero_le _)
          ⟨⟨_, Heap.get?_push_size _ rfl, rfl, rfl⟩, (hl1.push _)⟩ (x0.keep fun o' e => Heap.get?_push_of_some _ e) ?_
        intro s' hm hS'
        obtain ⟨h', g', d', tk', os'⟩ := s'
        have eg : g' = s.gens := hm.gens
        have ed : d' = s.drawn := hm.drawn
        have eo : os' = s.os := hm.os
        subst eg; subst ed; subst eo
        show wpAny _ _ _ _ _ _
        refine wpAny_pure ?_
        show wpAny _ _ (ret Value.none) _ _ _
        refine wpAny_pure ⟨rfl, h', tk', rfl, hS', fun b o' hb e => ?_⟩
        refine hm.heap b o' ?_ (Heap.get?_push_of_some _ (Heap.get?_push_of_some _ e))
        rw [sz1]
        simp only [List.mem_cons, List.not_mem_nil, or_false, not_or]
        exact ⟨Nat.ne_of_lt hb, Nat.ne_of_lt (Nat.lt_succ_of_lt hb)⟩
      · cases r₂ with
        | error e => exact hr₂
        | ok fl₂ =>
          cases fl₂ with
          | ret r =>
            obtain ⟨rfl, h', tk, rfl, hS', hk'⟩ := hr₂
            repeat (any_goals (first | assumption | wp_step))
            exact h _ _ _ hS' dmem hk'
          | _ => exact hr₂.elim
    | _ => exact hr.elim
end
end St

set_option linter.all false
set_option maxRecDepth 100000
namespace St
open PySem PySem.SetTable PyProof.Rows PySem.W
section
variable {prog : Program} {w : World} {A : Around} {E : Value → Shared → Prop} {s : Shared} {a : Addr} {es : Array (Int × Value)} {ep : Nat} {t : SetTable}
theorem hint_set {Q : Bool → Shared → Prop} (hT : s.TypeIs (.ref a) "set") (h : Q false s) : wpAny (model prog w) A (Builtin.List.listLengthHint (.ref a)) Q E s := by
  unfold Builtin.List.listLengthHint
  refine wpAny_bind (wpAny_specialOf hT PySem.F.slot_set_len.lookup ?_)
  generalize hid : ("set.__len__" : String) = id0
  wp_delta
  rw [show splitId id0 = some ("set", "__len__") from by subst hid; decide +kernel]
  subst hid
  refine wpAny_bind (wpAny_isInstance (T := "set") (b := true) hT (by rw [isSubtype_type]; kernel_rfl) ?_)
  refine wpAny_ite_split (fun hab => absurd hab (by decide)) (fun _ => ?_)
  refine wpAny_ite_split (fun _ => ?_) (fun hab => absurd (by decide +kernel) hab)
  exact wpAny_bind (wpAny_typeOf hT (wpAny_pure h))
theorem src_set (g : Good (txt w) t es.size) : KdlSrc prog w "set" a a es.size (fun i v => ∃ e, (wlk w a es ep)[i]? = some e ∧ v = e.2) (fun h => h.get? a = some (setO es ep t)) where
  type := fun s h => ⟨_, h, rfl⟩
  there := fun h e => ⟨Heap.lt_size e, Heap.lt_size e⟩
  keep := fun h h' e k => k a (.inl rfl) _ e
  notList := by decide
  notTuple := by decide
  hint := fun A E s Q h q => hint_set ⟨_, h, rfl⟩ q
  iter := fun A s hh e => ⟨_, _, (fun E Q q => set_iter e g q), walks_set hh _ a (Nat.ne_of_lt (Heap.lt_size e)) g, ⟨Heap.get?_push_size _ rfl, Heap.get?_push_of_some _ e⟩⟩
theorem ints_of_SE : ∀ {l : List (Int × Value)}, SE l → IntsAre (l.map (·.2)) (l.map iz)
  | [], _ => .nil
  | e :: l, h => by
    obtain ⟨k, t, rfl⟩ := h e List.mem_cons_self
    exact .cons k t (ints_of_SE fun e he => h e (List.mem_cons_of_mem _ he))
/-- sorted(a) of a set of ints -/
theorem sorted_set {ns : List Int} {Q : Value → Shared → Prop} (hh : A.handled = none) (x : SetIs (txt w) s.heap a ns)
    (h : ∀ (h1 h' : Heap) (tk : Nat) (vs : List Value) (n : Nat) (ms : List Int), (∀ b o, s.heap.get? b = some o → h1.get? b = some o) → (∀ b o, h1.get? b = some o → h'.get? b = some o) → h'.get? h1.objs.size = some { cls := .type "list", data := .seq vs.toArray n } →
      IntsAre vs ms → ms.Perm ns → ms.Pairwise (· ≤ ·) → Q (.ref h1.objs.size) { s with heap := h', toks := tk }) : wpAny (model prog w) A (call (.builtin "sorted") [.ref a]) Q E s := by
  obtain ⟨es, ep, t, ho, se, g, h6, p, nd⟩ := id x
  refine Calls.call_function_entry kind_sorted plain_sorted entry_sorted (args_sorted1 _) ?_
  unfold Builtin.«sorted»
  refine wpAny_bind (m := checkCount "sorted" 1 1 _) (wpAny_pure ?_)
  refine wpAny_bind (kdu_collect (A := A.in1) (src_set (ep := ep) g) hh ho (small62 h6) fun h' tk acc hk hacc => ?_)
  have wp := wlk_perm (w := w) (a := a) (es := es) (ep := ep)
  have al : acc.toList = (wlk w a es ep).toList.map (·.2) := by
    apply List.ext_getElem?
    intro i
    rw [List.getElem?_map, Array.getElem?_toList, Array.getElem?_toList]
    cases q : acc[i]? with
    | some v =>
      obtain ⟨e, he, rfl⟩ := hacc.2 i v q
      rw [he]
      rfl
    | none =>
      have h1 : acc.size ≤ i := by simpa using q
      have h2 : (wlk w a es ep)[i]? = none := Array.getElem?_eq_none (by rw [wlk_size]; rw [hacc.1] at h1; exact h1)
      rw [h2]
      rfl
  have hI : IntsAre acc.toList ((wlk w a es ep).toList.map iz) := by
    rw [al]
    exact ints_of_SE (se.perm wp)
  have hl : acc.toList.length = es.size := by rw [Array.length_toList]; exact hacc.1
  refine wpAny_bind (wpAny_newList ?_ (by rw [hl]; exact small62 h6))
  have hoL : (h'.push (seqObj "list" acc.toList.toArray 0)).get? h'.objs.size = some (seqObj "list" acc.toList.toArray 0) := Heap.get?_push_size _ rfl
  refine wpAny_bind (wpAny_holding (wpAny_call_entry slot_list_sort ⟨_, hoL, rfl⟩ entry_list_sort (list_sort_tree (s := { s with heap := h'.push (seqObj "list" acc.toList.toArray 0), toks := tk }) hoL hI (by omega) fun out ns' a1 a2 a3 => ⟨_, rfl, ?_⟩) (args_list_sort _)))
  refine wpAny_pure ⟨_, rfl, ?_⟩
  obtain ⟨e, he⟩ := sortedHeap_at (out := out) hoL
  refine h h' _ tk out.toList e ns' hk (fun b o q => ?_) (by simpa using he) a1 (a2.trans ((wp.map iz).trans p)) a3
  have lt := Heap.lt_size q
  rw [sortedHeap_old (Nat.ne_of_lt lt) (by rw [Heap.size_push]; exact Nat.lt_succ_of_lt lt)]
  exact Heap.get?_push_of_some _ q
end
end St

set_option Elab.async false
set_option linter.all false
set_option maxRecDepth 100000
namespace L2
open PySem PySem.Spec PyProof.Rows

/-! ### the cells that a block takes from around it -/
def closL (cells : List (Str × Addr)) : List (Str × NameKind) → List (Str × Addr) → List (Str × Addr)
  | [], acc => acc
  | (n, k) :: r, acc => closL cells r (if k == .free then (n, (cells.lookup n).getD 0) :: acc else acc)
theorem closure_eq {scope : Scope} {env : Env} (h : ∀ n, (n, NameKind.free) ∈ scope.names → ∃ c, env.cells.lookup n = some c) : closureFor scope env = pure (closL env.cells scope.names []) := by
  have go : ∀ (l : List (Str × NameKind)) (acc : List (Str × Addr)), (∀ n, (n, NameKind.free) ∈ l → ∃ c, env.cells.lookup n = some c) →
      (forIn l acc fun (x : Str × NameKind) (r : List (Str × Addr)) => (if (x.2 == NameKind.free) = true then do let a ← cellOf env x.1; pure (ForInStep.yield ((x.1, a) :: r)) else pure (ForInStep.yield r) : Sem (ForInStep (List (Str × Addr))))) = pure (closL env.cells l acc) := by
    intro l
    induction l with
    | nil => intro acc _; rfl
    | cons x r ih =>
      intro acc hl
      obtain ⟨n, k⟩ := x
      have hr : ∀ m, (m, NameKind.free) ∈ r → ∃ c, env.cells.lookup m = some c := fun m hm => hl m (List.mem_cons_of_mem _ hm)
      rw [List.forIn_cons]
      by_cases c : (k == NameKind.free) = true
      · have ek : k = .free := by simpa using c
        subst ek
        obtain ⟨a, ea⟩ := hl n List.mem_cons_self
        have ec : cellOf env n = pure a := by unfold cellOf; rw [ea]
        rw [if_pos c]
        dsimp only
        rw [ec]
        show (forIn r ((n, a) :: acc) _ : Sem _) = _
        rw [ih _ hr]
        conv => rhs; unfold closL
        rw [if_pos c, ea]
        rfl
      · rw [if_neg c]
        show (forIn r acc _ : Sem _) = _
        rw [ih _ hr]
        conv => rhs; unfold closL
        rw [if_neg c]
  unfold closureFor
  show (forIn scope.names [] _ >>= fun r => pure r : Sem _) = _
  have e := go scope.names [] h
  exact (congrArg (fun z : Sem (List (Str × Addr)) => z >>= fun r => pure r) e)
theorem closL_of {cells : List (Str × Addr)} : ∀ (l : List (Str × NameKind)) (acc : List (Str × Addr)), (∀ n, (n, NameKind.free) ∈ l → ∃ c, cells.lookup n = some c) → (∀ x c, acc.lookup x = some c → cells.lookup x = some c) →
    ∀ x c, (closL cells l acc).lookup x = some c → cells.lookup x = some c
  | [], acc, _, h => h
  | (n, k) :: r, acc, hl, h => by
    unfold closL
    refine closL_of r _ (fun m hm => hl m (List.mem_cons_of_mem _ hm)) ?_
    intro x c e
    by_cases q : (k == NameKind.free) = true
    · rw [if_pos q] at e
      have ek : k = .free := by simpa using q
      subst ek
      obtain ⟨a, ea⟩ := hl n List.mem_cons_self
      rw [ea] at e
      rw [List.lookup_cons] at e
      by_cases z : (x == n) = true
      · rw [z] at e
        have : x = n := by simpa using z
        subst this
        rw [ea]
        exact e
      · have z' : (x == n) = false := by simpa using z
        rw [z'] at e
        exact h x c e
    · rw [if_neg q] at e
      exact h x c e
theorem closL_has {cells : List (Str × Addr)} {x : Str} : ∀ (l : List (Str × NameKind)) (acc : List (Str × Addr)), (∃ c, acc.lookup x = some c) ∨ (x, NameKind.free) ∈ l → ∃ c, (closL cells l acc).lookup x = some c
  | [], acc, h => by
    rcases h with h | h
    · exact h
    · cases h
  | (n, k) :: r, acc, h => by
    unfold closL
    refine closL_has r _ ?_
    rcases h with ⟨c, h⟩ | h
    · left
      by_cases q : (k == NameKind.free) = true
      · rw [if_pos q, List.lookup_cons]
        by_cases z : (x == n) = true
        · rw [z]; exact ⟨_, rfl⟩
        · have z' : (x == n) = false := by simpa using z
          rw [z']; exact ⟨c, h⟩
      · rw [if_neg q]; exact ⟨c, h⟩
    · rcases List.mem_cons.mp h with h | h
      · left
        cases h
        rw [if_pos (by decide), List.lookup_cons]
        simp
      · exact .inr h
theorem closL_only {cells : List (Str × Addr)} {x : Str} : ∀ (l : List (Str × NameKind)) (acc : List (Str × Addr)), acc.lookup x = none → (x, NameKind.free) ∉ l → (closL cells l acc).lookup x = none
  | [], acc, h, _ => h
  | (n, k) :: r, acc, h, hl => by
    unfold closL
    refine closL_only r _ ?_ fun z => hl (List.mem_cons_of_mem _ z)
    by_cases q : (k == NameKind.free) = true
    · rw [if_pos q, List.lookup_cons]
      have ek : k = .free := by simpa using q
      have z : (x == n) = false := by
        cases z : (x == n) with
        | false => rfl
        | true =>
          have : x = n := by simpa using z
          subst this
          subst ek
          exact absurd List.mem_cons_self hl
      rw [z]
      exact h
    · rw [if_neg q]; exact h

/-! ### the names of a block: own (local) ones first, then those from around it, by their slots there -/
def compOk (env : Env) (sc : Scope) (frees : List Str) : Bool :=
  sc.kind == .function && sc.names.all (fun y => y.2 != .cell) && sc.names.all (fun y => y.2 != .local || sc.names.lookup y.1 == some .local) &&
  sc.names.all (fun y => y.2 != .free || env.kindOf y.1 == some .cell || env.kindOf y.1 == some .free) &&
  frees.all (fun x => sc.names.lookup x == some .free && (env.kindOf x == some .cell || env.kindOf x == some .free))
def subSt (σ : St) (nl : Nat) (js : List Nat) : St := List.replicate nl none ++ js.map fun j => (σ[j]?).join
def cxComp (X : Cx) (N : List Str) (sc : Scope) (C : Addr) (s : Shared) (H : Hp) (fp : List Addr) : Cx :=
  { X with N := N, s₀ := s, H₀ := H, env := compEnvC sc (closL X.env.cells sc.names []) C X.env, outer := X.stack, stack := X.stack, ex := fp,
           fn := fun x => !(sc.names.any fun y => y.1 == x && y.2 == .free), pn := [], xe := fun _ _ => False }
theorem relabel_mem {sc : Scope} {env : Env} {x : Str} {k : NameKind} (h : (relabel sc env).names.lookup x = some k) : (x, k) ∈ sc.names ∨ (k = .cell ∧ (x, NameKind.free) ∈ sc.names) := by
  have h1 := PySem.mem_of_lookup h
  unfold relabel at h1
  obtain ⟨⟨n, q⟩, hm, e⟩ := List.mem_map.mp h1
  dsimp only at e
  by_cases c : (q == NameKind.free && env.scope.kind == .function && env.kindOf n == some .cell) = true
  · rw [if_pos c] at e
    cases e
    have : q = .free := by
      simp only [Bool.and_eq_true] at c
      simpa using c.1.1
    subst this
    exact .inr ⟨rfl, hm⟩
  · rw [if_neg c] at e
    cases e
    exact .inl hm
theorem relabel_free {sc : Scope} {env : Env} {x : Str} : ∀ (l : List (Str × NameKind)), l.lookup x = some .free →
    (l.map fun (n, k) => if (k == NameKind.free && env.scope.kind == .function && env.kindOf n == some .cell) then (n, NameKind.cell) else (n, k)).lookup x = some .cell ∨
    (l.map fun (n, k) => if (k == NameKind.free && env.scope.kind == .function && env.kindOf n == some .cell) then (n, NameKind.cell) else (n, k)).lookup x = some .free
  | [], h => by cases h
  | (n, k) :: r, h => by
    have ih := relabel_free (sc := sc) (env := env) (x := x) r
    rw [List.map_cons]
    rw [List.lookup_cons] at h
    cases z : (x == n) with
    | true =>
      rw [z] at h
      cases h
      dsimp only
      by_cases c : (NameKind.free == NameKind.free && env.scope.kind == .function && env.kindOf n == some .cell) = true
      · rw [if_pos c, List.lookup_cons, z]; exact .inl rfl
      · rw [if_neg c, List.lookup_cons, z]; exact .inr rfl
    | false =>
      rw [z] at h
      dsimp only
      by_cases c : (k == NameKind.free && env.scope.kind == .function && env.kindOf n == some .cell) = true
      · rw [if_pos c, List.lookup_cons, z]; exact ih h
      · rw [if_neg c, List.lookup_cons, z]; exact ih h
structure CompOk (env : Env) (sc : Scope) (frees : List Str) : Prop where
  kind : sc.kind = .function
  nocell : ∀ y ∈ sc.names, y.2 ≠ .cell
  names : ∀ y ∈ sc.names, y.2 = .local → sc.names.lookup y.1 = some .local
  around : ∀ n, (n, NameKind.free) ∈ sc.names → env.kindOf n = some .cell ∨ env.kindOf n = some .free
  frees : ∀ x ∈ frees, sc.names.lookup x = some .free ∧ (env.kindOf x = some .cell ∨ env.kindOf x = some .free)
theorem compOk_of {env : Env} {sc : Scope} {frees : List Str} (h : compOk env sc frees = true) : CompOk env sc frees := by
  unfold compOk at h
  simp only [Bool.and_eq_true, List.all_eq_true, Bool.or_eq_true, bne_iff_ne, beq_iff_eq, ne_eq] at h
  obtain ⟨⟨⟨⟨h1, h2⟩, h3⟩, h4⟩, h5⟩ := h
  refine ⟨h1, h2, fun y hy e => ?_, fun n hn => ?_, h5⟩
  · rcases h3 y hy with z | z
    · exact absurd e z
    · exact z
  · rcases h4 _ hn with (z | z) | z
    · exact absurd rfl z
    · exact .inl z
    · exact .inr z
section
variable {X : Cx} {pins : List (Addr × Obj)} {σ : St} {H : Hp} {s : Shared} {N frees : List Str} {sc : Scope} {nl : Nat} {js : List Nat} {fp : List Addr} {h₁ : Heap} {tk : Nat}
/-- the block's state at its start: s is the state behind the new list, C the next address -/
theorem comp_start (I : Inv X pins σ H s) (ok : CompOk X.env sc frees) (hN : N.length = nl + js.length) (hf : N.drop nl = frees) (hj : js.map (fun j => X.N[j]?) = frees.map some)
    (ff : ∀ b ∈ fp, FpOk X pins H b) (fa : ∀ b ∈ fp, b < s.heap.objs.size) (hns : ∃ m, h₁.Ns s.heap.objs.size m) (k : ∀ b o, s.heap.get? b = some o → h₁.get? b = some o) :
    Inv (cxComp X N sc s.heap.objs.size s H fp) [] (subSt σ nl js) H { s with heap := h₁, toks := tk } := by
  have cl : ∀ n, (n, NameKind.free) ∈ sc.names → ∃ c, X.env.cells.lookup n = some c := fun n hn => I.ok.has n (ok.around n hn)
  have sub : ∀ x c, (closL X.env.cells sc.names []).lookup x = some c → X.env.cells.lookup x = some c := closL_of sc.names [] cl (fun x c e => by cases e)
  obtain ⟨m, hm⟩ := hns
  refine ⟨⟨I.ok.mod, ok.kind, I.ok.glob, I.ok.blt, Nat.le_refl _, fun x y c e1 e2 => I.ok.inj x y c (sub x c e1) (sub y c e2), fun x hx => ?_, fun x c e1 e2 => ?_, I.ok.hd, I.ok.frames, .inl rfl, fun b hb => ⟨Nat.ne_of_lt (fa b hb), fun x c e => (ff b hb).2.2.2.2.1 x c (sub x c e)⟩,
    I.bs, Nat.le_trans I.ok.bsz I.sz, fun b o e hb => ?_, fun b hb hs => ?_, I.stack, I.stkFree⟩, rfl, I.bare, Un.kept k, ⟨m, hm, fun i x v e1 e2 e3 => ?_⟩, fun x c e => ?_, I.hok.fresh (Nat.le_refl _), fun x c e => I.freeC x c (sub x c e), fun p hp => absurd (show p ∈ ([] : List (Addr × Obj)) from hp) (by simp), I.hok.kept k, ?_⟩
  · have hx' : (relabel sc X.env).names.lookup x = some .cell ∨ (relabel sc X.env).names.lookup x = some .free := hx
    have hm' : (x, NameKind.free) ∈ sc.names := by
      rcases hx' with q | q
      · rcases relabel_mem q with z | z
        · exact absurd rfl (ok.nocell _ z)
        · exact z.2
      · rcases relabel_mem q with z | z
        · exact z
        · cases z.1
    exact closL_has sc.names [] (.inr hm')
  · have e1' : (!(sc.names.any fun y => y.1 == x && y.2 == .free)) = true := e1
    have nm : (x, NameKind.free) ∉ sc.names := fun z => by
      have : (sc.names.any fun y => y.1 == x && y.2 == NameKind.free) = true := List.any_eq_true.mpr ⟨_, z, by simp⟩
      rw [this] at e1'
      cases e1'
    have q := closL_only (cells := X.env.cells) sc.names [] rfl nm
    rw [show (closL X.env.cells sc.names []).lookup x = some c from e2] at q
    cases q
  · obtain ⟨_, _, _, z, _⟩ := ff b hb
    rcases z with z | z
    · exact I.ok.noex b o e z
    · exact absurd (Nat.lt_of_lt_of_le (Heap.lt_size (I.ok.bs b o e).1) z) (Nat.lt_irrefl _)
  · obtain ⟨_, f1, f2, _⟩ := ff b hb
    rcases List.mem_cons.mp (I.stkSub b hs) with z | z
    · exact f1 z
    · exact f2 z
  · have hi : i < nl ∨ nl ≤ i := by omega
    rcases hi with hi | hi
    · unfold subSt at e2
      rw [List.getElem?_append_left (by simpa using hi), List.getElem?_replicate, if_pos hi] at e2
      cases e2
    · unfold subSt at e2
      rw [List.getElem?_append_right (by simpa using hi), List.length_replicate, List.getElem?_map] at e2
      cases q : js[i - nl]? with
      | none => rw [q] at e2; cases e2
      | some j =>
        rw [q] at e2
        have e2' : (σ[j]?).join = some v := Option.some.inj e2
        have e4 : σ[j]? = some (some v) := by
          cases z : σ[j]? with
          | none => rw [z] at e2'; cases e2'
          | some y =>
            rw [z] at e2'
            have : y = some v := e2'
            rw [this]
        have ex : frees[i - nl]? = some x := by
          rw [← hf, List.getElem?_drop]
          have : nl + (i - nl) = i := by omega
          rw [this]
          exact e1
        have ej : X.N[j]? = some x := by
          have z := congrArg (fun l => l[i - nl]?) hj
          simp only [List.getElem?_map] at z
          rw [q, ex] at z
          exact Option.some.inj z
        have hx : x ∈ frees := List.mem_of_getElem? ex
        obtain ⟨h1, h2⟩ := ok.frees x hx
        have vis : Vis X.env.scope x := h2.elim (fun z => .inr (.inl z)) fun z => .inr (.inr z)
        obtain ⟨m0, _, look⟩ := I.loc
        obtain ⟨u, ru, lk⟩ := look j x v ej e4 vis
        refine ⟨u, ru, .inr ⟨relabel_free (sc := sc) (env := X.env) sc.names h1, ?_⟩⟩
        obtain ⟨c, hc⟩ := closL_has (cells := X.env.cells) sc.names [] (.inr (PySem.mem_of_lookup h1))
        refine ⟨c, hc, ?_⟩
        rcases lk with ⟨z, _⟩ | ⟨_, c', z, zc⟩
        · rcases h2 with h2 | h2 <;> (rw [h2] at z; cases z)
        · have := sub x c hc
          rw [z] at this
          cases this
          exact zc.keeps k
  · obtain ⟨v, q⟩ := I.cell x c (sub x c e)
    exact ⟨v, q.keeps k⟩
  · unfold subSt
    show _ = N.length
    rw [List.length_append, List.length_replicate, List.length_map, hN]
end

/-! ### tests of a comprehension -/
def PF (X : Cx) (ifs : List Expr) (t : TT) : Prop :=
  ∀ (pins : List (Addr × Obj)) (s : Shared) (σ : St) (H : Hp) (Q : Bool → Hp → Prop), Inv X pins σ H s → t σ H Q →
    wpAny (model X.prog X.w) X.A (forIn ifs true fun c r => if r = true then do let ok ← isTrue c X.env (eval c X.env); pure (ForInStep.yield ok) else pure (ForInStep.yield r)) (TP X pins σ Q) X.xe s
def tAll : TT := fun _ H Q => Q true H
theorem pf_nil {X : Cx} : PF X [] tAll := fun _ _ _ H _ I h => wpAny_tests_nil ⟨H, I, h⟩
theorem pf_one {X : Cx} {c : Expr} {t : TT} (h : PT X c t) : PF X [c] t := fun pins s σ H Q I hw => wpAny_tests_one (h pins s σ H Q I hw)

section
variable {prog : Program} {w : World} {A : Around} {R : Result → Shared → Prop} {s : Shared}
abbrev noE : Value → Shared → Prop := fun _ _ => False
theorem noE_to {α : Type} {M : Model} {t : Sem α} {Q Q' : α → Shared → Prop} {E : Value → Shared → Prop} (h : wpAny M A t Q noE s) (q : ∀ a s, Q a s → Q' a s) : wpAny M A t Q' E s := wpAny_mono h q fun _ _ z => z.elim
/-- the turns of a comprehension, no exception -/
theorem comp_turns {elt tg iter : Expr} {ifs : List Expr} {scope : Scope} {pos : Pos} {it acc : Value} {env : Env} (J : Nat → Shared → Prop)
    (turn : ∀ n s, J n s → wpAny (model prog w) A (pyNext it) (fun r s₁ => match r with
      | none => R (.ok .next) s₁
      | some v => wpAny (model prog w) A (letOwnedTupleGo tg it v) (fun _ s₂ => wpAny (model prog w) A (assign tg env v) (fun _ s₃ =>
          wpAny (model prog w) A (forIn ifs true fun c r => if r = true then do let ok ← isTrue c env (eval c env); pure (ForInStep.yield ok) else pure (ForInStep.yield r)) (fun ok s₄ =>
            if ok = true then wpAny (model prog w) A (eval elt env) (fun x s₅ => wpAny (model prog w) A (call (.builtin "list.append") [acc, x]) (fun _ s₆ => ∃ m, m < n ∧ J m s₆) noE s₅) noE s₄
            else ∃ m, m < n ∧ J m s₄) noE s₃) noE s₂) noE s₁) noE s)
    (n : Nat) (h : J n s) : codeAny (model prog w) A (.compLoop (.ListComp elt [⟨tg, iter, ifs, 0⟩] scope pos) 0 it acc env) R s := by
  refine codeAny_loop rfl J (fun n s hJ => ?_) n h
  show wpAny _ A ((compTurn (.ListComp elt [⟨tg, iter, ifs, 0⟩] scope pos) 0 it acc env).onRaise fun x => do noteFrame x env; theTreesLotGoes x) _ _ s
  refine wpAny_noted ?_
  rw [compTurn_list]
  refine wpAny_bind (wpAny_standAt (wpAny_bind (noE_to (turn n s hJ) fun r s₁ h₁ => ?_)))
  cases r with
  | none => exact wpAny_pure h₁
  | some v =>
    refine wpAny_bind (noE_to h₁ fun _ s₂ h₂ => wpAny_bind (noE_to h₂ fun _ s₃ h₃ => wpAny_bind (noE_to h₃ fun ok s₄ h₄ => ?_)))
    cases ok with
    | false => exact wpAny_pure ⟨rfl, h₄⟩
    | true => exact wpAny_bind (wpAny_bind (noE_to h₄ fun x s₅ h₅ => wpAny_bind (noE_to h₅ fun _ s₆ h₆ => wpAny_pure (wpAny_pure ⟨rfl, h₆⟩))))
end

/-- a comprehension's reading -/
def tComp (wi : TI) (nl : Nat) (js : List Nat) (g : TG) (tc : TT) (te : TE) : TE := fun σ H Q => wi σ H fun J H1 => ∀ D, H1 D = none →
  ∃ W : Nat → Nat → St → Hp → Prop, (∃ m, W 0 m (subSt σ nl js) (upd H1 D (.lst []))) ∧ ∀ i m σ1 H2, W i m σ1 H2 →
    (J.stop i H2 ∧ Q (.ref D) H2) ∨ (J.go i H2 ∧ ∃ N : St → Hp → Prop, (∀ σ' H', N σ' H' → ∃ m', m' < m ∧ W (i + 1) m' σ' H') ∧ ∀ x H3, J.yld i H2 x H3 → g x σ1 H3 fun σ2 H4 => tc σ2 H4 fun b H5 =>
      if b = true then te σ2 H5 fun y H6 => ∃ ys, H6 D = some (.lst ys) ∧ ys.length < sizeLine ∧ N σ2 (upd H6 D (.lst (ys ++ [y])))
      else N σ2 H5)
section
variable {X : Cx} {elt tg iter : Expr} {ifs : List Expr} {sc : Scope} {pos pos0 : Pos} {wi : TI} {g : TG} {tc : TT} {te : TE} {N frees : List Str} {nl : Nat} {js : List Nat}
theorem comp_core {pins : List (Addr × Obj)} {s : Shared} {σ : St} {H : Hp} {P : VK} {use : Option (Value → Sem Unit)} {Q : Value → Shared → Prop} (hc : X.calm = true) (hi : PI X tg iter wi)
    (ok : CompOk X.env sc frees) (hN : N.length = nl + js.length) (hf : N.drop nl = frees) (hj : js.map (fun j => X.N[j]?) = frees.map some)
    (hg : ∀ C s H fp, PG (cxComp X N sc C s H fp) tg g) (ht : ∀ C s H fp, PF (cxComp X N sc C s H fp) ifs tc) (he : ∀ C s H fp, PE (cxComp X N sc C s H fp) elt te)
    (hs : ∀ x, foldedSetIterable iter X.env x = pure x) (I : Inv X pins σ H s) (h : tComp wi nl js g tc te σ H P)
    (fin : ∀ D C s' H', Inv X pins σ H' s' → (∃ m, s'.heap.Ns C m) → FpOk X pins H' C → P (.ref D) H' → compPost (model X.prog X.w) X.A X.xe use Q (.ref D) C (.ok .next) s') :
    wpAny (model X.prog X.w) X.A (comprehension (.ListComp elt [⟨tg, iter, ifs, 0⟩] sc pos) sc X.env pos0 (newList []) false (eval iter X.env) use) Q X.xe s := by
  refine wpAny_comprehension_free rfl hs (closure_eq fun n hn => I.ok.has n (ok.around n hn)) ok.kind ok.names (thn (hi pins s σ H _ I h) fun v s1 h1 => thn h1 fun itv s2 h2 => ?_)
  obtain ⟨it, fp, tn, J, H2, e, I2, T, st2, f2, q2⟩ := h2
  subst e
  have fa : ∀ b ∈ fp, b < s2.heap.objs.size := fun b hb => let ⟨o, e, _⟩ := T.obj _ _ st2 b hb; Heap.lt_size e
  refine wpAny_newObj_type ?_
  obtain ⟨W, ⟨m0, w0⟩, turn⟩ := q2 s2.heap.objs.size (I2.hok.fresh (Nat.le_refl _))
  have I3 : Inv X pins σ (upd H2 s2.heap.objs.size (.lst [])) { s2 with heap := s2.heap.push { cls := .type "list", data := .seq ([] : List Value).toArray } } := I2.lnew (its := []) (t' := s2.toks) .nil (Nat.zero_le _)
  have sz3 : (s2.heap.push { cls := .type "list", data := .seq ([] : List Value).toArray }).objs.size = s2.heap.objs.size + 1 := Heap.size_push ..
  refine wpAny_newFunctionEnv ok.nocell (by intro y hy; simp at hy) (fun h₁ hns₁ hsb₁ => ?_) ok.kind
  generalize hs3 : ({ s2 with heap := s2.heap.push { cls := .type "list", data := .seq ([] : List Value).toArray } } : Shared) = s3 at I3
  have hh3 : s3.heap = s2.heap.push { cls := .type "list", data := .seq ([] : List Value).toArray } := by rw [← hs3]
  have keep : ∀ b o, s3.heap.get? b = some o → h₁.get? b = some o := fun b o e => by
    have lt := Heap.lt_size e
    rw [hh3] at lt e
    exact hsb₁.extBut b o (Nat.ne_of_lt lt) (Heap.get?_push_of_some _ e)
  have up2 : ∀ b o, s2.heap.get? b = some o → h₁.get? b = some o := fun b o e => keep b o (by rw [hh3]; exact Heap.get?_push_of_some _ e)
  have f3 : ∀ b ∈ fp, FpOk X pins (upd H2 s2.heap.objs.size (.lst [])) b := fun b hb => by
    refine ⟨?_, (f2 b hb).2⟩
    rw [upd_ne (Nat.ne_of_lt (fa b hb))]
    exact (f2 b hb).1
  have fa3 : ∀ b ∈ fp, b < s3.heap.objs.size := fun b hb => by rw [hh3, sz3]; exact Nat.lt_succ_of_lt (fa b hb)
  have I4 := comp_start (sc := sc) (N := N) (nl := nl) (js := js) (fp := fp) (tk := s2.toks + ([] : List (Str × Value)).length) I3 ok hN hf hj f3 fa3 ⟨_, by rw [hh3]; exact hns₁⟩ keep
  have szC : s3.heap.objs.size = (s2.heap.push { cls := .type "list", data := .seq ([] : List Value).toArray }).objs.size := by rw [hh3]
  have st4 : tn 0 h₁ := T.keep _ _ _ st2 fun b hb o e => up2 b o e
  -- the iterator's own objects, in the block
  have stat : ∀ {H' : Hp}, (∀ b ∈ fp, H' b = none) → ∀ b ∈ fp, FpOk (cxComp X N sc s3.heap.objs.size s3 (upd H2 s2.heap.objs.size (.lst [])) fp) [] H' b := fun hn b hb =>
    ⟨hn b hb, (I4.ok.exf b hb).1, I4.ok.exfs b hb, .inl hb, (I4.ok.exf b hb).2, fun p hp => absurd (show p ∈ ([] : List (Addr × Obj)) from hp) (by simp)⟩
  have loop : codeAny (model X.prog X.w) X.A (.compLoop (.ListComp elt [⟨tg, iter, ifs, 0⟩] sc pos) 0 (.ref it) (.ref s2.heap.objs.size) (compEnvC sc (closL X.env.cells sc.names []) s3.heap.objs.size X.env))
      (compPost (model X.prog X.w) X.A X.xe use Q (.ref s2.heap.objs.size) s3.heap.objs.size) { s3 with heap := h₁, toks := s2.toks + ([] : List (Str × Value)).length } := by
    refine comp_turns (fun n s' => ∃ i σ' H', Inv (cxComp X N sc s3.heap.objs.size s3 (upd H2 s2.heap.objs.size (.lst [])) fp) [] σ' H' s' ∧ tn i s'.heap ∧ (∀ b ∈ fp, H' b = none) ∧ W i n σ' H') ?_ m0 ⟨0, _, _, I4, st4, fun b hb => (f3 b hb).1, w0⟩
    rintro n s5 ⟨i, σ5, H5, I5, st5, fr5, w5⟩
    rcases turn i n σ5 H5 w5 with ⟨stop, qn⟩ | ⟨go, Nx, hNx, step⟩
    · refine thn (T.done (cxComp X N sc s3.heap.objs.size s3 (upd H2 s2.heap.objs.size (.lst [])) fp) rfl rfl rfl hc i [] s5 σ5 H5 noE I5 (stat fr5) st5 stop) fun r s6 ⟨hr, I6⟩ => ?_
      subst hr
      have u : Un (frs X.stack) fp (upd H2 s2.heap.objs.size (.lst [])) H5 s3.heap s6.heap := I6.base
      have I7 : Inv X pins σ H5 s6 := I3.call' (ch := fp) I6.os u I6.hok I6.bare fun b hb => ⟨(f3 b hb).2.2.2.1, (f3 b hb).2.1, (f3 b hb).2.2.2.2.1, (f3 b hb).2.2.2.2.2⟩
      obtain ⟨mC, hC, _⟩ := I6.loc
      exact fin _ _ s6 H5 I7 ⟨mC, hC⟩ (I3.fpOk (Nat.le_refl _) I6.free) qn
    · refine thn (T.item (cxComp X N sc s3.heap.objs.size s3 (upd H2 s2.heap.objs.size (.lst [])) fp) rfl rfl rfl hc i [] s5 σ5 H5 noE I5 (stat fr5) st5 go) fun r s6 ⟨u, hr, h6⟩ => ?_
      subst hr
      refine thn h6 fun _ s7 ⟨x, H7, I7, r7, y7, st7, fr7⟩ => ?_
      have I7' := I7.pinned (stat fr7) (T.obj _ _ st7)
      refine thn (hg _ _ _ _ _ s7 σ5 H7 x u _ I7' r7 (step x H7 y7)) fun _ s8 ⟨σ8, H8, I8, q8⟩ => ?_
      refine thn (ht _ _ _ _ _ s8 σ8 H8 _ I8 q8) fun ok s9 ⟨H9, I9, q9⟩ => ?_
      have again : ∀ {s' : Shared} {H' : Hp}, Inv (cxComp X N sc s3.heap.objs.size s3 (upd H2 s2.heap.objs.size (.lst [])) fp) ([] ++ pinsAt fp s7.heap) σ8 H' s' → Nx σ8 H' →
          ∃ m, m < n ∧ ∃ i σ' H', Inv (cxComp X N sc s3.heap.objs.size s3 (upd H2 s2.heap.objs.size (.lst [])) fp) [] σ' H' s' ∧ tn i s'.heap ∧ (∀ b ∈ fp, H' b = none) ∧ W i m σ' H' := fun {s' H'} Ia na => by
        obtain ⟨m', hm, wa⟩ := hNx _ _ na
        refine ⟨m', hm, i + 1, σ8, H', Ia.unpinned, T.keep _ _ _ st7 fun b hb o e => (Ia.pin (b, o) (List.mem_append_right _ (List.mem_append_right _ (mem_pinsAt hb e)))).1, fun b hb => ?_, wa⟩
        obtain ⟨o, e, d⟩ := T.obj _ _ st7 b hb
        exact (Ia.pin (b, o) (List.mem_append_right _ (List.mem_append_right _ (mem_pinsAt hb e)))).2.1
      cases ok with
      | false =>
        rw [if_neg Bool.false_ne_true] at q9 ⊢
        exact again I9 q9
      | true =>
        rw [if_pos rfl] at q9 ⊢
        refine thn (he _ _ _ _ _ s9 σ8 H9 _ I9 q9) fun y s10 ⟨v10, H10, I10, r10, ys, hD, hz, wa⟩ => ?_
        refine thn (mt_append _ s10 σ8 H10 (.ref s2.heap.objs.size) [v10] (.ref s2.heap.objs.size) [y] (fun _ H11 => Nx σ8 H11) I10 rfl (.cons r10 .nil) ⟨_, ys, v10, rfl, rfl, hD, hz, wa⟩) fun _ s11 ⟨_, H11, I11, _, w11⟩ => ?_
        exact again I11 w11
  subst hs3
  exact codeAny_compStart_list loop (T.self _ _ _ _ _ st4 loop)
/-- [elt for tg in iter if ..] as a value -/
theorem pe_comp (hc : X.calm = true) (hi : PI X tg iter wi) (ok : compOk X.env sc frees = true) (hN : N.length = nl + js.length) (hf : N.drop nl = frees) (hj : js.map (fun j => X.N[j]?) = frees.map some)
    (hg : ∀ C s H fp, PG (cxComp X N sc C s H fp) tg g) (ht : ∀ C s H fp, PF (cxComp X N sc C s H fp) ifs tc) (he : ∀ C s H fp, PE (cxComp X N sc C s H fp) elt te)
    (hs : ∀ x, foldedSetIterable iter X.env x = pure x := by intro _; rfl) : PE X (.ListComp elt [⟨tg, iter, ifs, 0⟩] sc pos) (tComp wi nl js g tc te) := by
  intro pins s σ H Q I h
  rw [eval_ListComp]
  refine comp_core (use := none) hc hi (compOk_of ok) hN hf hj hg ht he hs I h fun D C s' H' I' hC hfp q => ?_
  obtain ⟨m, hm⟩ := hC
  refine ⟨m, hm, fun h' sb => ⟨.ref D, H', ?_, rfl, q⟩⟩
  exact I'.turned (t' := s'.toks) (fun b o hb e => (sb.2 b hb).trans e) hfp.1 hfp.2.1 hfp.2.2.2.1 hfp.2.2.2.2.1 hfp.2.2.2.2.2
/-- x = [elt for ..] where the store comes ahead of the letting go -/
theorem ps_setC {i : Nat} {x : Str} {pos' posS : Pos} (hX : X.N.Nodup) (hx : X.N[i]? = some x) (hl : Loc X.env.scope x) (hc : X.calm = true) (hi : PI X tg iter wi) (ok : compOk X.env sc frees = true) (hN : N.length = nl + js.length) (hf : N.drop nl = frees)
    (hj : js.map (fun j => X.N[j]?) = frees.map some) (hg : ∀ C s H fp, PG (cxComp X N sc C s H fp) tg g) (ht : ∀ C s H fp, PF (cxComp X N sc C s H fp) ifs tc) (he : ∀ C s H fp, PE (cxComp X N sc C s H fp) elt te)
    (hw : swapsWith (.ListComp elt [⟨tg, iter, ifs, 0⟩] sc pos) (some (.Name x pos')) posS.line X.env = pure true := by rfl) (hs : ∀ x, foldedSetIterable iter X.env x = pure x := by intro _; rfl)
    (hfn : X.fn x = true ∨ X.env.scope.names.lookup x = some .local := by first | exact .inl rfl | exact .inr rfl | assumption) :
    PS X (.Assign [.Name x pos'] (.ListComp elt [⟨tg, iter, ifs, 0⟩] sc pos) posS) (tAsg (tComp wi nl js g tc te) (gName i)) := by
  intro pins s σ H D I h
  rw [exec_Assign_Name_used _ _ _ _ hw]
  refine wpAny_bind (wpAny_standAt (wpAny_bind ?_))
  show wpAny _ X.A (do let _ ← comprehension (.ListComp elt [⟨tg, iter, ifs, 0⟩] sc pos) sc X.env _ (newList []) false (eval iter X.env) (some (assign (.Name x pos') X.env))) _ _ s
  refine wpAny_bind (thn (comp_core (use := some (assign (.Name x pos') X.env)) (Q := fun _ s' => SP X pins D .next s') hc hi (compOk_of ok) hN hf hj hg ht he hs I h fun B C s' H' I' hC hfp q => ?_) fun _ s' hq => wpAny_pure (wpAny_pure hq))
  obtain ⟨m, hm⟩ := hC
  show wpAny _ X.A (assign (.Name x pos') X.env (.ref B)) _ _ s'
  refine wpAny_assign_Name (store_ok2 I' hX hx hl (v := .ref B) rfl (fun s2 I2 ⟨a, sb, ha⟩ => ?_) hfn)
  have nC : C ≠ a := by
    rcases ha with ha | ha
    · rw [ha]; exact hfp.2.1
    · exact fun z => hfp.2.2.2.2.1 x a ha z.symm
  have nH : H' C = none := hfp.1
  refine ⟨m, hm.sameBut sb nC, fun h' sb' => ⟨_, H', ?_, q⟩⟩
  exact I2.turned (t' := s2.toks) (fun b o hb e => (sb'.2 b hb).trans e) nH hfp.2.1 hfp.2.2.2.1 hfp.2.2.2.2.1 hfp.2.2.2.2.2
end
/-! ### the forms one uses -/
theorem comp_range {lo : Int} {n : Nat} {g : TG} {tc : TT} {te : TE} {σ : St} {H : Hp} {D : Addr} {Q : VK} (Pv : Nat → St → Hp → Prop) (h0 : Pv 0 σ H)
    (hs : ∀ i σ H, i < n → Pv i σ H → g (.int (lo + i)) σ H fun σ2 H4 => tc σ2 H4 fun b H5 => if b = true then te σ2 H5 fun y H6 => ∃ ys, H6 D = some (.lst ys) ∧ ys.length < sizeLine ∧ Pv (i + 1) σ2 (upd H6 D (.lst (ys ++ [y]))) else Pv (i + 1) σ2 H5)
    (hd : ∀ σ H, Pv n σ H → Q (.ref D) H) :
    ∃ W : Nat → Nat → St → Hp → Prop, (∃ m, W 0 m σ H) ∧ ∀ i m σ1 H2, W i m σ1 H2 →
      ((Itr lo n).stop i H2 ∧ Q (.ref D) H2) ∨ ((Itr lo n).go i H2 ∧ ∃ N : St → Hp → Prop, (∀ σ' H', N σ' H' → ∃ m', m' < m ∧ W (i + 1) m' σ' H') ∧ ∀ x H3, (Itr lo n).yld i H2 x H3 → g x σ1 H3 fun σ2 H4 => tc σ2 H4 fun b H5 =>
        if b = true then te σ2 H5 fun y H6 => ∃ ys, H6 D = some (.lst ys) ∧ ys.length < sizeLine ∧ N σ2 (upd H6 D (.lst (ys ++ [y]))) else N σ2 H5) := by
  refine ⟨fun i m σ H => m = n - i ∧ i ≤ n ∧ Pv i σ H, ⟨n, by simp, Nat.zero_le _, h0⟩, ?_⟩
  rintro i m σ H ⟨rfl, hi, p⟩
  by_cases hlt : i < n
  · refine .inr ⟨hlt, Pv (i + 1), fun σ' H' p' => ⟨n - (i + 1), by omega, rfl, hlt, p'⟩, fun x H' y => ?_⟩
    obtain ⟨e, y⟩ := y
    subst e y
    exact hs i σ _ hlt p
  · have e : i = n := by omega
    subst e
    exact .inl ⟨Nat.le_refl _, hd σ H p⟩
theorem comp_list {K : PySem.W.Frag} {a : Addr} {xs : List V} {g : TG} {tc : TT} {te : TE} {σ : St} {H : Hp} {D : Addr} {Q : VK} (Pv : Nat → St → Hp → Prop) (h0 : Pv 0 σ H) (hl : ∀ i σ H, i ≤ xs.length → Pv i σ H → SqL K H a xs)
    (hs : ∀ i x σ H, xs[i]? = some x → Pv i σ H → g x σ H fun σ2 H4 => tc σ2 H4 fun b H5 => if b = true then te σ2 H5 fun y H6 => ∃ ys, H6 D = some (.lst ys) ∧ ys.length < sizeLine ∧ Pv (i + 1) σ2 (upd H6 D (.lst (ys ++ [y]))) else Pv (i + 1) σ2 H5)
    (hd : ∀ σ H, Pv xs.length σ H → Q (.ref D) H) :
    ∃ W : Nat → Nat → St → Hp → Prop, (∃ m, W 0 m σ H) ∧ ∀ i m σ1 H2, W i m σ1 H2 →
      ((Itl K a).stop i H2 ∧ Q (.ref D) H2) ∨ ((Itl K a).go i H2 ∧ ∃ N : St → Hp → Prop, (∀ σ' H', N σ' H' → ∃ m', m' < m ∧ W (i + 1) m' σ' H') ∧ ∀ x H3, (Itl K a).yld i H2 x H3 → g x σ1 H3 fun σ2 H4 => tc σ2 H4 fun b H5 =>
        if b = true then te σ2 H5 fun y H6 => ∃ ys, H6 D = some (.lst ys) ∧ ys.length < sizeLine ∧ N σ2 (upd H6 D (.lst (ys ++ [y]))) else N σ2 H5) := by
  refine ⟨fun i m σ H => m = xs.length - i ∧ i ≤ xs.length ∧ Pv i σ H, ⟨xs.length, by simp, Nat.zero_le _, h0⟩, ?_⟩
  rintro i m σ H ⟨rfl, hi, p⟩
  have q := hl i σ H hi p
  by_cases hlt : i < xs.length
  · refine .inr ⟨⟨xs, xs[i], q, by simp [hlt]⟩, Pv (i + 1), fun σ' H' p' => ⟨xs.length - (i + 1), by omega, rfl, hlt, p'⟩, fun x H' y => ?_⟩
    obtain ⟨e, y⟩ := y
    subst e
    exact hs i x σ _ (y xs q) p
  · have e : i = xs.length := by omega
    subst e
    exact .inl ⟨⟨xs, q, Nat.le_refl _⟩, hd σ H p⟩
end L2

set_option Elab.async false
set_option linter.all false
set_option maxRecDepth 100000
namespace L2
open PySem PySem.Spec PyProof.Rows
open St (SetIs Sml txt)

/-! ### sets of small ints -/
def setH (w : World) (a : Addr) (ns : List Int) : HO := .ext fun h => SetIs (txt w) h a ns
theorem Inv.setAt {X : Cx} {pins : List (Addr × Obj)} {σ : St} {H : Hp} {s : Shared} {a : Addr} {ns : List Int} (I : Inv X pins σ H s) (h : H a = some (setH X.w a ns)) : SetIs (txt X.w) s.heap a ns := (I.hok a _ h).1
theorem setH_ok {P : Program} {w : World} {H : Hp} {h : Heap} {a : Addr} {ns : List Int} (x : SetIs (txt w) h a ns) : ObjOk P w H h a (setH w a ns) :=
  ⟨x, (let ⟨_, _, _, e, _⟩ := x; ⟨_, e⟩), fun _ _ p k => p.keep k⟩
section
variable {X : Cx}
def rSet (K : PySem.W.Frag) (w : World) : List V → Hp → VK → Prop := fun xs H Q => ∃ l ns, xs = [.ref l] ∧ SqL K H l (ns.map V.int) ∧ Sml ns ∧ ∀ p us, H p = none → (∀ k, k ∈ us ↔ k ∈ ns) → Q (.ref p) (upd H p (setH w p us))
theorem call_set (hc : X.calm = true) : CallR X (.type "set") (rSet X.K X.w) := by
  intro pins s σ H xs us Q I rv h
  obtain ⟨l, ns, rfl, hq, hs, k⟩ := h
  obtain ⟨u, rfl, ru⟩ := Vals.one rv
  cases ru
  obtain ⟨its, rv2, p, hz⟩ := I.list hq
  refine St.set_of_list (I.ok.hd hc) p.isList (by simpa using intsAre_of rv2) hs fun h' tk us x hk keep => ?_
  have hf : H s.heap.objs.size = none := I.hok.fresh (Nat.le_refl _)
  exact ⟨.ref s.heap.objs.size, _, I.laid (fun b o e => keep b o (Heap.lt_size e) e) (Nat.le_refl _) (setH_ok x), rfl, k _ us hf hk⟩
def rSorted (w : World) : List V → Hp → VK → Prop := fun xs H Q => ∃ (a : Addr) (ns : List Int), xs = [.ref a] ∧ H a = some (setH w a ns) ∧ ∀ (p : Addr) (ms : List Int), H p = none → ms.Perm ns → ms.Nodup → ms.Pairwise (· ≤ ·) → Q (.ref p) (upd H p (.lst (ms.map V.int)))
theorem call_sorted (hc : X.calm = true) : CallR X (.builtin "sorted") (rSorted X.w) := by
  intro pins s σ H xs us Q I rv h
  obtain ⟨a, ns, rfl, ha, k⟩ := h
  obtain ⟨u, rfl, ru⟩ := Vals.one rv
  cases ru
  have x := I.setAt ha
  refine St.sorted_set (I.ok.hd hc) x fun h1 h' tk vs n ms k1 k2 e hi hp hs => ?_
  have I1 : Inv X pins σ H { s with heap := h1 } := I.kept (t' := s.toks) k1
  have hf : H h1.objs.size = none := I1.hok.fresh (Nat.le_refl _)
  have lm : ms.length ≤ 62 := by rw [hp.length_eq]; exact x.len
  exact ⟨.ref h1.objs.size, _, I1.laid (o := .lst (ms.map V.int)) (t' := tk) k2 (Nat.le_refl _) ⟨by rw [List.length_map]; exact St.small62 lm, vs, n, vals_ints hi, e⟩, rfl, k _ ms hf hp (hp.symm.nodup x.nodup) hs⟩
def rOr (w : World) : R2 := fun x y H Q => ∃ a c ns ms, x = .ref a ∧ y = .ref c ∧ H a = some (setH w a ns) ∧ H c = some (setH w c ms) ∧ a ≠ c ∧ Sml ns ∧ Sml ms ∧ ∀ p us, H p = none → (∀ k, k ∈ us ↔ k ∈ ns ∨ k ∈ ms) → Q (.ref p) (upd H p (setH w p us))
theorem op_set_or : OpR X (binaryOp .BitOr) (rOr X.w) := by
  intro pins s σ H x y v u Q I rx ry h
  obtain ⟨a, c, ns, ms, rfl, rfl, ha, hc, ne, s1, s2, k⟩ := h
  cases rx
  cases ry
  refine St.set_or (I.setAt ha) (I.setAt hc) ne s1 s2 fun h' us keep z hk => ?_
  have hf : H s.heap.objs.size = none := I.hok.fresh (Nat.le_refl _)
  exact ⟨.ref s.heap.objs.size, _, I.laid (t' := s.toks) keep (Nat.le_refl _) (setH_ok z), rfl, k _ us hf hk⟩

/-! ### isinstance -/
def rIsi (K : PySem.W.Frag) : List V → Hp → VK → Prop := fun xs H Q => ∃ x c t b, xs = [x, .ty c] ∧ TyOf K H x t ∧ PySem.W.kitOne K t (.type c) = some b ∧ Q (.bl b) H
theorem call_isi : CallR X (.builtin "isinstance") (rIsi X.K) := by
  intro pins s σ H xs us Q I rv h
  obtain ⟨x, c, t, b, rfl, ty, e, k⟩ := h
  obtain ⟨u, v, rfl, ru, rc⟩ := Vals.two rv
  cases (show v = Value.type c from rc)
  exact isinst_ok I ru ty e fun tk => ⟨.bl b, H, I.tok tk, rfl, k⟩
theorem boot_isi : bootBuiltins "isinstance" = some (.builtin "isinstance") := by decide +kernel
theorem boot_setT : bootBuiltins "set" = some (.type "set") := by decide +kernel
theorem boot_intT : bootBuiltins "int" = some (.type "int") := by decide +kernel
theorem boot_boolT : bootBuiltins "bool" = some (.type "bool") := by decide +kernel
theorem boot_listT : bootBuiltins "list" = some (.type "list") := by decide +kernel
theorem boot_zipT : bootBuiltins "zip" = some (.type "zip") := by decide +kernel
theorem boot_sortedB : bootBuiltins "sorted" = some (.builtin "sorted") := by decide +kernel
theorem boot_minB : bootBuiltins "min" = some (.builtin "min") := by decide +kernel
theorem isi_int_int (K : PySem.W.Frag) : PySem.W.kitOne K (.type "int") (.type "int") = some true := by unfold PySem.W.kitOne; rw [if_pos (by decide)]
theorem isi_list_list (K : PySem.W.Frag) : PySem.W.kitOne K (.type "list") (.type "list") = some true := by unfold PySem.W.kitOne; rw [if_pos (by decide)]
theorem isi_int_bool (K : PySem.W.Frag) : PySem.W.kitOne K (.type "int") (.type "bool") = some false := by
  unfold PySem.W.kitOne
  rw [if_neg (by decide)]
  unfold PySem.W.kitCls
  rfl
end
end L2

set_option Elab.async false
set_option linter.all false
set_option maxRecDepth 100000
namespace L2
open PySem PySem.Spec PyProof.Rows

/-! ### zip of two lists -/
theorem Un.laidX {fs ex : List Addr} {H : Hp} {h h' : Heap} {a : Addr} {o : HO} (k : ∀ b u, b ∉ ex → h.get? b = some u → h'.get? b = some u) (hp : h.objs.size ≤ a) (hn : H a = none) : Un fs ex H (upd H a o) h h' where
  keep := fun b u q _ _ hx => k b u hx q
  slot := fun b u q _ _ hx => ⟨u.slots, k b u hx q⟩
  free := fun b u q n _ => by rw [upd_ne (Nat.ne_of_lt (Nat.lt_of_lt_of_le (Heap.lt_size q) hp))]; exact n
  there := fun b u q hx => ⟨u, k b u hx q⟩
  tups := fun b xs q => by rw [upd_ne (ne_of_none q hn)]; exact q
  frzs := fun b u xs q => by rw [upd_ne (ne_of_none q hn)]; exact q
  tbls := fun b ps q => ⟨#[], by rw [upd_ne (ne_of_none q hn), q]; simp⟩
/-- a new object is tracked while untracked records turn -/
theorem Inv.laidX {X : Cx} {pins : List (Addr × Obj)} {σ : St} {H : Hp} {s : Shared} {h' : Heap} {tk : Nat} {a : Addr} {o : HO} {ch : List Addr} (I : Inv X pins σ H s) (k : ∀ b u, b ∉ ch → s.heap.get? b = some u → h'.get? b = some u)
    (hf : ∀ b ∈ ch, FpOk X pins H b) (hp : s.heap.objs.size ≤ a) (new : ObjOk X.prog X.w (upd H a o) h' a o) : Inv X pins σ (upd H a o) { s with heap := h', toks := tk } := by
  have hn : H a = none := I.hok.fresh hp
  refine I.call (ch := ch) (g' := s.gens) (d' := s.drawn) (Un.laidX k hp hn) (fun b u e => ?_) I.bare fun b hb => ⟨(hf b hb).2.2.2.1, (hf b hb).2.1, (hf b hb).2.2.2.2.1, (hf b hb).2.2.2.2.2⟩
  have nch : ∀ c u, H c = some u → c ∉ ch := fun c u e hc => by rw [(hf c hc).1] at e; cases e
  by_cases hb : b = a
  · subst hb
    rw [upd_same] at e
    cases e
    exact new
  · rw [upd_ne hb] at e
    refine (I.hok b u e).stay (fun c v hc q => k c v ?_ q) (fun c q => by rw [upd_ne (ne_of_none q hn)]; exact q) fun c xs q => by rw [upd_ne (ne_of_none q hn)]; exact q
    rcases hc with z | z
    · rw [z]; exact nch b u e
    · exact nch c _ z
/-- untracked records turn -/
theorem Inv.turnX {X : Cx} {pins : List (Addr × Obj)} {σ : St} {H : Hp} {s : Shared} {h' : Heap} {tk : Nat} {ch : List Addr} (I : Inv X pins σ H s) (k : ∀ b u, b ∉ ch → s.heap.get? b = some u → h'.get? b = some u)
    (hf : ∀ b ∈ ch, FpOk X pins H b) : Inv X pins σ H { s with heap := h', toks := tk } := by
  have nch : ∀ c u, H c = some u → c ∉ ch := fun c u e hc => by rw [(hf c hc).1] at e; cases e
  refine I.call (ch := ch) (g' := s.gens) (d' := s.drawn) ⟨fun b u q _ _ hx => k b u hx q, fun b u q _ _ hx => ⟨u.slots, k b u hx q⟩, fun _ _ _ n _ => n, fun b u q hx => ⟨u, k b u hx q⟩, fun _ _ q => q, fun _ _ _ q => q, fun b ps q => ⟨#[], by rw [q]; simp⟩⟩
    (fun b u e => ?_) I.bare fun b hb => ⟨(hf b hb).2.2.2.1, (hf b hb).2.1, (hf b hb).2.2.2.2.1, (hf b hb).2.2.2.2.2⟩
  refine (I.hok b u e).stay (fun c v hc q => k c v ?_ q) (fun c q => q) fun c xs q => q
  rcases hc with z | z
  · rw [z]; exact nch b u e
  · exact nch c _ z
def Itz (K : PySem.W.Frag) (a b : Addr) : It :=
  ⟨fun i H => ∃ xs ys x y, SqL K H a xs ∧ SqL K H b ys ∧ xs[i]? = some x ∧ ys[i]? = some y,
   fun i H v H' => ∃ p x y, H p = none ∧ v = .ref p ∧ H' = upd H p (.tup [x, y]) ∧ (∀ xs, SqL K H a xs → xs[i]? = some x) ∧ ∀ ys, SqL K H b ys → ys[i]? = some y,
   fun i H => ∃ xs ys, SqL K H a xs ∧ SqL K H b ys ∧ i = min xs.length ys.length⟩
theorem turn_zip {P : Program} {w : World} {K : PySem.W.Frag} {elts : List Expr} {k : Nat} {pos : Pos} {z TI TO i1 i2 a b : Addr} (D : ZipApart z TI TO i1 i2 a b) :
    Turn P w K (.Tuple elts k pos) (Itz K a b) [z, TI, TO, i1, i2] z (fun i h => IsZip h z TI TO .none ∧ IsPair h TI (.ref i1) (.ref i2) ∧ (∃ u v, IsPair h TO u v) ∧ h.IsListIter i1 a i ∧ h.IsListIter i2 b i) where
  mem := List.mem_cons_self
  obj := fun i h st c hc => by
    obtain ⟨hz, hTI, ⟨u, v, hTO⟩, ⟨o1, e1, _, d1⟩, ⟨o2, e2, _, d2⟩⟩ := st
    simp only [List.mem_cons, List.not_mem_nil, or_false] at hc
    rcases hc with rfl | rfl | rfl | rfl | rfl
    · exact ⟨_, hz, fun v q => by cases q⟩
    · exact ⟨_, hTI, fun v q => by cases q⟩
    · exact ⟨_, hTO, fun v q => by cases q⟩
    · exact ⟨o1, e1, fun v q => by rw [d1] at q; cases q⟩
    · exact ⟨o2, e2, fun v q => by rw [d2] at q; cases q⟩
  keep := fun i h h' st k => by
    obtain ⟨hz, hTI, ⟨u, v, hTO⟩, h1, h2⟩ := st
    exact ⟨k z (by simp) _ hz, k TI (by simp) _ hTI, ⟨u, v, k TO (by simp) _ hTO⟩, h1.at fun o e => k i1 (by simp) o e, h2.at fun o e => k i2 (by simp) o e⟩
  item := by
    intro X hP hw hK hc i pins s σ H E I hf st hg
    subst hP hw hK
    obtain ⟨xs, ys, x, y, hq, hr, hx, hy⟩ := hg
    obtain ⟨its, rv, p, hz1⟩ := I.list hq
    obtain ⟨its2, rv2, p2, hz2⟩ := I.list hr
    obtain ⟨hz, hTI, hTO, h1, h2⟩ := st
    have W := WalksT.zip2 (prog := X.prog) (w := X.w) (I.ok.hd hc) z TI TO i1 i2 a b D its.toArray its2.toArray
    have l1 := rv.length
    have l2 := rv2.length
    have hi : i < min its.toArray.size its2.toArray.size := by
      have h1 := (List.getElem?_eq_some_iff.mp hx).1
      have h2 := (List.getElem?_eq_some_iff.mp hy).1
      simp only [List.size_toArray]
      omega
    refine W.item i s _ _ hi ⟨hz, hTI, hTO, h1, h2, p.isList, p2.isList⟩ fun T vals h' tk hPt hT hTup hMid keep => ⟨_, rfl, ?_⟩
    refine W.go elts k pos i T _ _ _ hMid fun h'' st' keep' => ?_
    obtain ⟨u, v, hu, hv, rfl⟩ := hPt
    obtain ⟨u', eu, ru⟩ := rv.get hx
    obtain ⟨v', ev, rv'⟩ := rv2.get hy
    have eu' : u = u' := by
      have : its[i]? = some u := by simpa using hu
      rw [eu] at this
      exact (Option.some.inj this).symm
    have ev' : v = v' := by
      have : its2[i]? = some v := by simpa using hv
      rw [ev] at this
      exact (Option.some.inj this).symm
    subst eu' ev'
    have hch : ∀ c ∈ [z, TO, i1, i2], FpOk X pins H c := fun c hc => hf c (by simp only [List.mem_cons, List.not_mem_nil, or_false] at hc ⊢; rcases hc with rfl | rfl | rfl | rfl <;> simp)
    have nT := W.apart i T _ hMid
    obtain ⟨oT, eT, cT⟩ := hTup
    have eT' : h''.get? T = some oT := keep' T oT nT eT
    have I1 : Inv X pins σ (upd H T (.tup [x, y])) { s with heap := h'', toks := tk } := I.laidX (ch := [z, TO, i1, i2]) (fun c o hc e => keep' c o hc (keep c o hc e)) hch hT ⟨(by show 2 ≤ sizeLine; decide), [u, v], .cons ru (.cons rv' .nil), oT, eT', cT⟩
    obtain ⟨s1, s2, s3, s4, s5, _, _⟩ := st'
    refine ⟨.ref T, _, I1, rfl, ⟨T, x, y, I.hok.fresh hT, rfl, rfl, fun xs' h => by rw [I.list_inj h hq]; exact hx, fun ys' h => by rw [I.list_inj h hr]; exact hy⟩, ⟨s1, s2, s3, s4, s5⟩, fun c hc => ?_⟩
    have := (hf c hc).1
    obtain ⟨o, e, _⟩ : ∃ o, s.heap.get? c = some o ∧ True := by
      obtain ⟨hz, hTI, ⟨u, v, hTO⟩, ⟨o1, e1, _⟩, ⟨o2, e2, _⟩⟩ : IsZip s.heap z TI TO .none ∧ IsPair s.heap TI (.ref i1) (.ref i2) ∧ (∃ u v, IsPair s.heap TO u v) ∧ s.heap.IsListIter i1 a i ∧ s.heap.IsListIter i2 b i := ⟨hz, hTI, hTO, h1, h2⟩
      simp only [List.mem_cons, List.not_mem_nil, or_false] at hc
      rcases hc with rfl | rfl | rfl | rfl | rfl
      · exact ⟨_, hz, trivial⟩
      · exact ⟨_, hTI, trivial⟩
      · exact ⟨_, hTO, trivial⟩
      · exact ⟨_, e1, trivial⟩
      · exact ⟨_, e2, trivial⟩
    rw [upd_ne (Nat.ne_of_lt (Nat.lt_of_lt_of_le (Heap.lt_size e) hT))]
    exact this
  done := by
    intro X hP hw hK hc i pins s σ H E I hf st hg
    subst hP hw hK
    obtain ⟨xs, ys, hq, hr, hi⟩ := hg
    obtain ⟨its, rv, p, hz1⟩ := I.list hq
    obtain ⟨its2, rv2, p2, hz2⟩ := I.list hr
    obtain ⟨hz, hTI, hTO, h1, h2⟩ := st
    have W := WalksT.zip2 (prog := X.prog) (w := X.w) (I.ok.hd hc) z TI TO i1 i2 a b D its.toArray its2.toArray
    have e : i = min its.toArray.size its2.toArray.size := by
      rw [hi, rv.length, rv2.length]
      simp
    have hch : ∀ c ∈ [z, TO, i1, i2], FpOk X pins H c := fun c hc => hf c (by simp only [List.mem_cons, List.not_mem_nil, or_false] at hc ⊢; rcases hc with rfl | rfl | rfl | rfl <;> simp)
    refine W.done s _ _ (by rw [← e]; exact ⟨hz, hTI, hTO, h1, h2, p.isList, p2.isList⟩) fun h' tk keep => ⟨rfl, I.turnX (ch := [z, TO, i1, i2]) keep hch⟩
  self := fun _ _ _ _ _ st h => wpAny_pyIter_zip st.1 h
theorem zip_apart (n a b : Nat) (h1 : a < n) (h2 : b < n) : ZipApart (n + 4) (n + 2) (n + 3) n (n + 1) a b := by
  have e : ∀ x y : Nat, x ≠ y → (show Addr from x) ≠ (show Addr from y) := fun _ _ h => h
  constructor <;> (apply e; omega)
section
variable {X : Cx} {elts : List Expr} {k : Nat} {pos0 : Pos}
def iZip (K : PySem.W.Frag) (ta : TA) : TI := fun σ H R => ta σ H fun vs H1 => ∃ a b, vs = [.ref a, .ref b] ∧ (∃ xs, SqL K H1 a xs) ∧ (∃ ys, SqL K H1 b ys) ∧ R (Itz K a b) H1
theorem pi_zip {a b : Expr} {ta : TA} {p pos : Pos} (hg : Gl X "zip") (hm : X.mg "zip" = none) (ha : PA X [a, b] ta) (hs : starEach [a, b] X.env = [(false, eval a X.env), (false, eval b X.env)] := by rfl) (hs2 : starEach [b] X.env = [(false, eval b X.env)] := by rfl) :
    PI X (.Tuple elts k pos0) (.Call (.Name "zip" p) [a, b] [] pos) (iZip X.K ta) := by
  intro pins s σ H R I h
  refine Call_ (ld_blt I hg hm boot_zipT (PyProof.Rows.callWith_type1 (thn (ha pos pins s σ H _ I h) fun us s1 ⟨vs, H1, I1, r1, q1⟩ => ?_) (by rw [hs, hs2]) (by rw [hs2]; rfl)))
  obtain ⟨l1, l2, e, ⟨xs, hq⟩, ⟨ys, hr⟩, q⟩ := q1
  subst e
  obtain ⟨u, v, rfl, ru, rv⟩ := Vals.two r1
  cases ru
  cases rv
  obtain ⟨its, rv, p, hz1⟩ := I1.list hq
  obtain ⟨its2, rv2, p2, hz2⟩ := I1.list hr
  have lt1 : l1 < s1.heap.objs.size := by obtain ⟨_, e, _⟩ := p.isList; exact Heap.lt_size e
  have lt2 : l2 < s1.heap.objs.size := by obtain ⟨_, e, _⟩ := p2.isList; exact Heap.lt_size e
  refine call_zip_2 p.isList p2.isList fun h' hz hTI hTO h1 h2 hsz hk => ?_
  have D : ZipApart (s1.heap.objs.size + 4) (s1.heap.objs.size + 2) (s1.heap.objs.size + 3) s1.heap.objs.size (s1.heap.objs.size + 1) l1 l2 := by
    exact zip_apart _ l1 l2 lt1 lt2
  refine wpAny_pyIter_zip hz ⟨_, _, _, _, H1, rfl, I1.kept (t' := s1.toks) hk, turn_zip D, ⟨hz, hTI, ⟨_, _, hTO⟩, h1, h2⟩, fun c hc => ?_, q⟩
  have le : s1.heap.objs.size ≤ c := by
    simp only [List.mem_cons, List.not_mem_nil, or_false] at hc
    rcases hc with rfl | rfl | rfl | rfl | rfl
    · exact Nat.le_add_right _ _
    · exact Nat.le_add_right _ _
    · exact Nat.le_add_right _ _
    · exact Nat.le_refl _
    · exact Nat.le_add_right _ _
  exact I1.fpOk le (I1.hok.fresh le)
end
theorem comp_zip {K : PySem.W.Frag} {a b : Addr} {xs ys : List V} {n : Nat} {g : TG} {tc : TT} {te : TE} {σ : St} {H : Hp} {D : Addr} {Q : VK} (Pv : Nat → St → Hp → Prop) (h0 : Pv 0 σ H) (hx : xs.length = n) (hy : ys.length = n)
    (hl : ∀ i σ H, i ≤ n → Pv i σ H → SqL K H a xs ∧ SqL K H b ys)
    (hs : ∀ i x y σ H p, xs[i]? = some x → ys[i]? = some y → Pv i σ H → H p = none → g (.ref p) σ (upd H p (.tup [x, y])) fun σ2 H4 => tc σ2 H4 fun b H5 => if b = true then te σ2 H5 fun y H6 => ∃ ys, H6 D = some (.lst ys) ∧ ys.length < sizeLine ∧ Pv (i + 1) σ2 (upd H6 D (.lst (ys ++ [y]))) else Pv (i + 1) σ2 H5)
    (hd : ∀ σ H, Pv n σ H → Q (.ref D) H) :
    ∃ W : Nat → Nat → St → Hp → Prop, (∃ m, W 0 m σ H) ∧ ∀ i m σ1 H2, W i m σ1 H2 →
      ((Itz K a b).stop i H2 ∧ Q (.ref D) H2) ∨ ((Itz K a b).go i H2 ∧ ∃ N : St → Hp → Prop, (∀ σ' H', N σ' H' → ∃ m', m' < m ∧ W (i + 1) m' σ' H') ∧ ∀ x H3, (Itz K a b).yld i H2 x H3 → g x σ1 H3 fun σ2 H4 => tc σ2 H4 fun b H5 =>
        if b = true then te σ2 H5 fun y H6 => ∃ ys, H6 D = some (.lst ys) ∧ ys.length < sizeLine ∧ N σ2 (upd H6 D (.lst (ys ++ [y]))) else N σ2 H5) := by
  refine ⟨fun i m σ H => m = n - i ∧ i ≤ n ∧ Pv i σ H, ⟨n, by simp, Nat.zero_le _, h0⟩, ?_⟩
  rintro i m σ H ⟨rfl, hi, p⟩
  obtain ⟨q1, q2⟩ := hl i σ H hi p
  by_cases hlt : i < n
  · have e1 : xs[i]? = some (xs[i]'(by omega)) := List.getElem?_eq_getElem _
    have e2 : ys[i]? = some (ys[i]'(by omega)) := List.getElem?_eq_getElem _
    refine .inr ⟨⟨xs, ys, _, _, q1, q2, e1, e2⟩, Pv (i + 1), fun σ' H' p' => ⟨n - (i + 1), by omega, rfl, hlt, p'⟩, fun x H' y => ?_⟩
    obtain ⟨r, u, v, hr, rfl, rfl, z1, z2⟩ := y
    exact hs i u v σ H r (z1 xs q1) (z2 ys q2) p hr
  · have e : i = n := by omega
    subst e
    exact .inl ⟨⟨xs, ys, q1, q2, by omega⟩, hd σ H p⟩
end L2

set_option Elab.async false
set_option linter.all false
set_option maxRecDepth 100000
namespace L2
open PySem PySem.Spec PyProof.Rows

theorem same_new {H : Hp} {p : Addr} (h : H p = none) (o : HO) : Same H (upd H p o) := fun b u q => by rw [upd_ne (ne_of_none q h)]; exact q
/-- an object that is new since H is written -/
theorem Same.put {H H' : Hp} {p : Addr} (e : Same H H') (h : H p = none) (o : HO) : Same H (upd H' p o) := fun b u q => by rw [upd_ne (ne_of_none q h)]; exact e b u q
theorem Same.ne {H H' : Hp} {p q : Addr} {o : HO} (h : H p = some o) (h' : H q = none) : p ≠ q := ne_of_none h h'
theorem small {n : Nat} (h : n ≤ 100000) : n ≤ sizeLine := Nat.le_trans h (by decide)

/-! ### a table: a list of rows -/
structure Tb {α : Type} (f : α → V) (H : Hp) (a : Addr) (as : List Addr) (rows : List (List α)) : Prop where
  top : H a = some (.lst (as.map V.ref))
  len : as.length = rows.length
  row : ∀ (i : Nat) (r : Addr) (w : List α), as[i]? = some r → rows[i]? = some w → H r = some (.lst (w.map f))
theorem Tb.same {α : Type} {f : α → V} {H H' : Hp} {a : Addr} {as : List Addr} {rows : List (List α)} (t : Tb f H a as rows) (e : Same H H') : Tb f H' a as rows :=
  ⟨e _ _ t.top, t.len, fun i r w h1 h2 => e _ _ (t.row i r w h1 h2)⟩
theorem Tb.nil {α : Type} {f : α → V} {H : Hp} {a : Addr} (h : H a = some (.lst [])) : Tb (α := α) f H a [] [] := ⟨h, rfl, fun i r w h => by cases h⟩
/-- the i-th row -/
theorem Tb.at {α : Type} {f : α → V} {H : Hp} {a : Addr} {as : List Addr} {rows : List (List α)} (t : Tb f H a as rows) {i : Nat} (hi : i < rows.length) :
    ∃ r, as[i]? = some r ∧ (as.map V.ref)[i]? = some (.ref r) ∧ H r = some (.lst ((rows[i]).map f)) := by
  have h1 : i < as.length := by rw [t.len]; exact hi
  refine ⟨as[i], List.getElem?_eq_getElem h1, ?_, t.row i _ _ (List.getElem?_eq_getElem h1) (List.getElem?_eq_getElem hi)⟩
  rw [List.getElem?_map, List.getElem?_eq_getElem h1]
  rfl
/-- one more row at the end -/
theorem Tb.push {α : Type} {f : α → V} {H H' : Hp} {a r : Addr} {as : List Addr} {rows : List (List α)} {w : List α} (t : Tb f H a as rows) (e : ∀ b o, b ≠ a → H b = some o → H' b = some o) (hr : H' r = some (.lst (w.map f)))
    (na : ∀ (i : Nat) b x, as[i]? = some b → rows[i]? = some x → b ≠ a) (ha : H' a = some (.lst (as.map V.ref ++ [.ref r]))) : Tb f H' a (as ++ [r]) (rows ++ [w]) := by
  refine ⟨by rw [ha, List.map_append]; rfl, by simp [t.len], fun i b x h1 h2 => ?_⟩
  by_cases c : i < as.length
  · rw [List.getElem?_append_left c] at h1
    rw [List.getElem?_append_left (by rw [← t.len]; exact c)] at h2
    exact e _ _ (na i b x h1 h2) (t.row i b x h1 h2)
  · have hl := (List.getElem?_eq_some_iff.mp h1).1
    rw [List.length_append, List.length_singleton] at hl
    have ei : i = as.length := by omega
    subst ei
    rw [List.getElem?_append_right (Nat.le_refl _), Nat.sub_self] at h1
    rw [t.len, List.getElem?_append_right (Nat.le_refl _), Nat.sub_self] at h2
    cases h1
    cases h2
    exact hr
theorem atI_of {α : Type} {xs : List α} {k : Int} {v : α} (h0 : 0 ≤ k) (h : xs[k.toNat]? = some v) : atI xs k = some v := by
  have e : k = ((k.toNat : Nat) : Int) := by omega
  rw [e]
  exact atI_nat h
theorem ixN_of {n : Nat} {k : Int} (h0 : 0 ≤ k) (h : k < n) : ixN n k = some k.toNat := by
  unfold ixN
  rw [if_pos h0, if_pos h]

/-! ### rising lists -/
theorem rising_ext : ∀ {l m : List Int}, l.Pairwise (· < ·) → m.Pairwise (· < ·) → (∀ k, k ∈ l ↔ k ∈ m) → l = m
  | [], [], _, _, _ => rfl
  | [], b :: m, _, _, h => by have := (h b).mpr List.mem_cons_self; cases this
  | a :: l, [], _, _, h => by have := (h a).mp List.mem_cons_self; cases this
  | a :: l, b :: m, h1, h2, h => by
    obtain ⟨p1, q1⟩ := List.pairwise_cons.mp h1
    obtain ⟨p2, q2⟩ := List.pairwise_cons.mp h2
    have e : a = b := by
      rcases List.mem_cons.mp ((h a).mp List.mem_cons_self) with z | z
      · exact z
      · rcases List.mem_cons.mp ((h b).mpr List.mem_cons_self) with y | y
        · exact y.symm
        · have := p2 a z
          have := p1 b y
          omega
    subst e
    congr 1
    refine rising_ext q1 q2 fun k => ?_
    constructor
    · intro hk
      rcases List.mem_cons.mp ((h k).mp (List.mem_cons_of_mem _ hk)) with z | z
      · have := p1 k hk
        omega
      · exact z
    · intro hk
      rcases List.mem_cons.mp ((h k).mpr (List.mem_cons_of_mem _ hk)) with z | z
      · have := p2 k hk
        omega
      · exact z
theorem rising_of {l : List Int} (h : l.Pairwise (· ≤ ·)) (nd : l.Nodup) : l.Pairwise (· < ·) := by
  have := List.Pairwise.and h nd
  exact this.imp fun ⟨a, b⟩ => by omega
/-- the places of a row of marks -/
def due (bs : List Bool) : List Int := ((List.range bs.length).filter fun i => bs.getD i false).map Int.ofNat
theorem due_rising (bs : List Bool) : (due bs).Pairwise (· < ·) := by
  unfold due
  rw [List.pairwise_map]
  refine List.Pairwise.imp (fun {a b} h => ?_) (List.Pairwise.filter _ List.pairwise_lt_range)
  show (a : Int) < (b : Int)
  omega
theorem mem_due {bs : List Bool} {k : Int} : k ∈ due bs ↔ 0 ≤ k ∧ bs[k.toNat]? = some true := by
  unfold due
  constructor
  · intro h
    obtain ⟨i, hi, rfl⟩ := List.mem_map.mp h
    obtain ⟨h1, h2⟩ := List.mem_filter.mp hi
    have h1' := List.mem_range.mp h1
    refine ⟨Int.natCast_nonneg _, ?_⟩
    show bs[i]? = some true
    rw [List.getD_eq_getElem?_getD, List.getElem?_eq_getElem h1'] at h2
    rw [List.getElem?_eq_getElem h1']
    simpa using h2
  · rintro ⟨h0, h⟩
    have hl := (List.getElem?_eq_some_iff.mp h).1
    refine List.mem_map.mpr ⟨k.toNat, List.mem_filter.mpr ⟨List.mem_range.mpr hl, ?_⟩, by show ((k.toNat : Nat) : Int) = k; omega⟩
    rw [List.getD_eq_getElem?_getD, h]
    rfl
theorem due_len (bs : List Bool) : (due bs).length ≤ bs.length := by
  unfold due
  rw [List.length_map]
  exact Nat.le_trans (List.length_filter_le _ _) (by rw [List.length_range]; exact Nat.le_refl _)
/-! ### a reading's first part -/
theorem seq_asg {te : TE} {g : TG} {u : TS} {D : Ends} {σ : St} {H : Hp} (h : te σ H fun x H1 => g x σ H1 (u D)) : tSeq (tAsg te g) u D σ H := h
theorem cons_of {te : TE} {tr : TA} {σ : St} {H : Hp} {Q : List V → Hp → Prop} (h : te σ H fun x H1 => tr σ H1 fun xs H2 => Q (x :: xs) H2) : tCons te tr σ H Q := h
theorem call_of {sp : Sp} {dvs : List V} {E : XK} {t : TA} {σ : St} {H : Hp} {Q : VK} (h : t σ H fun vs H1 => sp (vs ++ dvs) H1 Q E) : tCall sp dvs E t σ H Q := h
theorem drop_of {te : TE} {D : Ends} {σ : St} {H : Hp} (h : te σ H fun _ H1 => D.nx σ H1) : tDrop te D σ H := h
theorem seq_of {t u : TS} {D : Ends} {σ : St} {H : Hp} (h : t { D with nx := u D } σ H) : tSeq t u D σ H := h
end L2

set_option Elab.async false
set_option linter.all false
set_option maxRecDepth 100000
namespace L2
open PySem PySem.Spec PyProof.Rows

/-! ### range(hi, lo, -1) -/
def ItrD (hi : Int) (n : Nat) : It := ⟨fun i _ => i < n, fun i H x H' => H' = H ∧ x = .int (hi - i), fun i _ => n ≤ i⟩
theorem turn_down {P : Program} {w : World} {K : PySem.W.Frag} {tg : Expr} (it : Addr) (hi : Int) (n : Nat) : Turn P w K tg (ItrD hi n) [it] it (fun i h => IsRangeIter h it (hi + (i : Nat) * (-1)) ((n : Int) - (i : Nat)) (-1)) where
  mem := List.mem_cons_self
  obj := fun i h st b hb => by
    rw [List.mem_singleton.mp hb]
    refine ⟨_, st, fun v z => ?_⟩
    have z' : Data.fields _ = Data.cell v := z
    cases z'
  keep := fun i h h' st k => k it List.mem_cons_self _ st
  item := by
    intro X hP hw hK hc i pins s σ H E I hf st hg
    subst hP hw hK
    obtain ⟨f0, f1, f2, f3, f4, f5⟩ := hf it List.mem_cons_self
    have W := Walks.range (prog := X.prog) (w := X.w) (I.ok.hd hc) it hi (-1) n
    refine W.item i s _ _ hg st fun v h' tk hv st' kk => ?_
    obtain ⟨t, rfl⟩ := hv
    have I1 : Inv X pins σ H { s with heap := h', toks := tk } := I.turned (fun b o hb e => kk b o (fun z => hb (List.mem_singleton.mp z)) e) f0 f1 f3 f4 f5
    refine ⟨_, rfl, go_of (s := { s with heap := h', toks := tk }) (n := "range_iterator") st' rfl rfl (by decide) ⟨.int (hi - i), H, I1, ⟨t, ?_⟩, ⟨rfl, rfl⟩, st', fun b hb => (hf b hb).1⟩⟩
    congr 1
    omega
  done := by
    intro X hP hw hK hc i pins s σ H E I hf st hg
    subst hP hw hK
    obtain ⟨f0, f1, f2, f3, f4, f5⟩ := hf it List.mem_cons_self
    exact wpAny_pyNext_range_end (I.ok.hd hc) st (by have : n ≤ i := hg; omega) fun h' eb => ⟨rfl, I.turned (t' := s.toks) (fun b o hb e => eb b o hb e) f0 f1 f3 f4 f5⟩
  self := fun _ _ _ _ _ st h => wpAny_pyIter_rangeiter st h
theorem size_down (a b : Int) : Builtin.Range.rangeSize a b (-1) = (((a - b).toNat : Nat) : Int) := by
  unfold Builtin.Range.rangeSize
  rw [if_neg (by decide), show (-(-1) : Int) = 1 by decide]
  split <;> omega
theorem small_down {a b : Int} (ha : -(2 ^ 61) ≤ a) (ha' : a < 2 ^ 61) (hb : -(2 ^ 61) ≤ b) (hb' : b < 2 ^ 61) : Builtin.Range.small a b (-1) = true := by
  unfold Builtin.Range.small
  rw [size_down]
  simp only [Builtin.Range.rangeFitsLong, Bool.and_eq_true, Bool.or_eq_true, decide_eq_true_eq, beq_iff_eq, show ¬ ((-1 : Int) > 0) by decide, if_false]
  omega
def iRngD (ta : TA) : TI := fun σ H R => ta σ H fun vs H1 => ∃ a b : Int, vs = [.int a, .int b, .int (-1)] ∧ (-(2 ^ 61) ≤ a ∧ a < 2 ^ 61 ∧ -(2 ^ 61) ≤ b ∧ b < 2 ^ 61) ∧ R (ItrD a (a - b).toNat) H1
theorem pi_rangeD {X : Cx} {tg x y z : Expr} {ta : TA} {p pos : Pos} (hg : Gl X "range") (hm : X.mg "range" = none) (ha : PA X [x, y, z] ta) (hs : starEach [x, y, z] X.env = (false, eval x X.env) :: starEach [y, z] X.env := by rfl)
    (hs2 : (backTo pos (starEach [y, z] X.env)).any (·.1) = false := by rfl) : PI X tg (.Call (.Name "range" p) [x, y, z] [] pos) (iRngD ta) := by
  intro pins s σ H R I h
  refine Call_ (ld_blt I hg hm boot_range (PyProof.Rows.callWith_type1 (thn (ha pos pins s σ H _ I h) fun us s1 ⟨vs, H1, I1, r1, q1⟩ => ?_) hs hs2))
  obtain ⟨a, b, e, ⟨h1, h2, h3, h4⟩, q⟩ := q1
  subst e
  cases r1 with
  | cons r rr =>
    cases rr with
    | cons r' rr =>
      cases rr with
      | cons r'' rr =>
        cases rr
        obtain ⟨t, rfl⟩ := r
        obtain ⟨t', rfl⟩ := r'
        obtain ⟨t'', rfl⟩ := r''
        refine call_range_3 (by decide) ?_ (.inl (PyProof.noPylong_small (by decide)))
        refine wpAny_pyIter_range (IsRange.new ..) (small_down h1 h2 h3 h4) ?_
        have I2 : Inv X pins σ H1 { s1 with heap := s1.heap.push { cls := .type "range", data := .fields #[.int a t, .int b t', .int (-1) t''] }, toks := s1.toks } := I1.kept fun b o e => Heap.get?_push_of_some _ e
        refine ⟨_, _, _, _, H1, rfl, I2.kept (t' := s1.toks) fun b o e => Heap.get?_push_of_some _ e, turn_down _ a (a - b).toNat, ?_, fun c hc => ?_, q⟩
        · show IsRangeIter _ _ (a + ((0 : Nat) : Int) * (-1)) ((((a - b).toNat : Nat) : Int) - ((0 : Nat) : Int)) (-1)
          have e1 : a + ((0 : Nat) : Int) * (-1) = a := by simp
          have e2 : (((a - b).toNat : Nat) : Int) - ((0 : Nat) : Int) = Builtin.Range.rangeSize a b (-1) := by rw [size_down]; simp
          rw [e1, e2]
          exact Heap.get?_push_size _ rfl
        · rw [List.mem_singleton.mp hc]
          exact I2.fpOk (Nat.le_refl _) (I2.hok.fresh (Nat.le_refl _))
theorem for_down {hi : Int} {n : Nat} {g : TG} {tb : TS} {D : Ends} {σ : St} {H : Hp} (Pv : Nat → St → Hp → Prop) (h0 : Pv 0 σ H)
    (hs : ∀ i σ H, i < n → Pv i σ H → g (.int (hi - i)) σ H fun σ2 H2 => tb { D with nx := Pv (i + 1), ct := Pv (i + 1), bk := D.nx } σ2 H2) (hd : ∀ σ H, Pv n σ H → D.nx σ H) :
    ∃ W : Nat → Nat → St → Hp → Prop, (∃ m, W 0 m σ H) ∧ ∀ i m σ H, W i m σ H →
      ((ItrD hi n).stop i H ∧ D.nx σ H) ∨ ((ItrD hi n).go i H ∧ ∃ N : St → Hp → Prop, (∀ σ' H', N σ' H' → ∃ m', m' < m ∧ W (i + 1) m' σ' H') ∧ ∀ x H', (ItrD hi n).yld i H x H' → g x σ H' fun σ2 H2 => tb { D with nx := N, ct := N, bk := D.nx } σ2 H2) := by
  refine ⟨fun i m σ H => m = n - i ∧ i ≤ n ∧ Pv i σ H, ⟨n, by simp, Nat.zero_le _, h0⟩, ?_⟩
  rintro i m σ H ⟨rfl, hi', p⟩
  by_cases hlt : i < n
  · refine .inr ⟨hlt, Pv (i + 1), fun σ' H' p' => ⟨n - (i + 1), by omega, rfl, hlt, p'⟩, fun x H' y => ?_⟩
    obtain ⟨e, y⟩ := y
    subst e y
    exact hs i σ _ hlt p
  · have e : i = n := by omega
    subst e
    exact .inl ⟨Nat.le_refl _, hd σ H p⟩

/-! ### two equal tables: != says no -/
section
variable {X : Cx}
theorem vals_at {xs : List V} {its : List Value} (r : Vals xs its) {j : Nat} (h : j < its.toArray.size) : ∃ x, xs[j]? = some x ∧ RelV x its.toArray[j] := by
  have hj : j < its.length := by simpa using h
  have hx : j < xs.length := by rw [r.length]; exact hj
  obtain ⟨u, eu, ru⟩ := Vals.get r (List.getElem?_eq_getElem hx)
  refine ⟨_, List.getElem?_eq_getElem hx, ?_⟩
  have : its.toArray[j] = u := by
    rw [List.getElem?_eq_getElem hj] at eu
    have := Option.some.inj eu
    simpa using this
  rw [this]
  exact ru
def rNeT : R2 := fun x y H Q => ∃ (a b : Addr) (as bs : List Addr) (R : List (List Int)), x = .ref a ∧ y = .ref b ∧ Tb V.int H a as R ∧ Tb V.int H b bs R ∧ Q (.bl false) H
theorem op_ne_tab (hu : X.A.units + 1 < cLine) : OpR X (compareOp .NotEq) rNeT := by
  intro pins s σ H x y v u Q I rx ry h
  obtain ⟨a, b, as, bs, R, rfl, rfl, ta, tb, q⟩ := h
  cases rx
  cases ry
  obtain ⟨i1, r1, p1, z1⟩ := I.list (.of ta.top)
  obtain ⟨i2, r2, p2, z2⟩ := I.list (.of tb.top)
  have l1 : i1.toArray.size = R.length := by rw [List.size_toArray, ← r1.length, List.length_map, ta.len]
  have l2 : i2.toArray.size = R.length := by rw [List.size_toArray, ← r2.length, List.length_map, tb.len]
  have hall : ∀ n : Nat, (List.range n).all (fun _ => true) = true := fun n => List.all_eq_true.mpr fun _ _ => rfl
  have key : SeqAt.RcNeAt X.A s (.ref a) (.ref b) (!(List.range i1.toArray.size).all fun _ => true) := by
    refine SeqAt.RcNeAt.lists p1.isList p2.isList (by rw [l1, l2]) (by omega) fun j h1 h2 => ?_
    obtain ⟨x1, e1, q1⟩ := vals_at r1 h1
    obtain ⟨x2, e2, q2⟩ := vals_at r2 h2
    have jR : j < R.length := by rw [← l1]; exact h1
    obtain ⟨c1, d1, f1, g1⟩ := ta.at jR
    obtain ⟨c2, d2, f2, g2⟩ := tb.at jR
    rw [f1] at e1
    rw [f2] at e2
    cases e1
    cases e2
    have w1 : i1.toArray[j] = .ref c1 := q1
    have w2 : i2.toArray[j] = .ref c2 := q2
    rw [w1, w2]
    by_cases c : c1 = c2
    · subst c
      exact SeqAt.EqAt.same _
    · obtain ⟨k1, s1, m1, _⟩ := I.list (.of g1)
      obtain ⟨k2, s2, m2, _⟩ := I.list (.of g2)
      have n1 : k1.toArray.size = R[j].length := by rw [List.size_toArray, ← s1.length, List.length_map]
      have n2 : k2.toArray.size = R[j].length := by rw [List.size_toArray, ← s2.length, List.length_map]
      refine SeqAt.EqAt.of_refs c ?_
      have inner : SeqAt.RcAt X.A.in1 s (.ref c1) (.ref c2) ((List.range k1.toArray.size).all fun _ => true) := by
        refine SeqAt.RcAt.lists m1.isList m2.isList (by rw [n1, n2]) hu fun t t1 t2 => ?_
        obtain ⟨y1, o1, u1⟩ := vals_at s1 t1
        obtain ⟨y2, o2, u2⟩ := vals_at s2 t2
        rw [o1] at o2
        cases o2
        obtain ⟨z, rfl⟩ : ∃ z, y1 = V.int z := by
          rw [List.getElem?_map] at o1
          cases q : (R[j])[t]? with
          | none => rw [q] at o1; cases o1
          | some z => rw [q] at o1; exact ⟨z, (Option.some.inj o1).symm⟩
        have := eqAt_V (A := X.A.in1.in1) (s := s) u1 u2 rfl rfl
        have e : eqV (.int z) (.int z) = true := by show (z == z) = true; simp
        rw [e] at this
        exact this
      rw [hall] at inner
      exact inner
  rw [hall] at key
  exact key X.prog X.w X.xe _ ⟨.bl false, H, I, rfl, q⟩
end
end L2

set_option Elab.async false
set_option linter.all false
set_option maxRecDepth 100000
namespace L2
open PySem PySem.Spec PyProof.Rows

/-! ### texts by their signs -/
def T (l : List Nat) : Str := ⟨l.toArray⟩
theorem T_len (l : List Nat) : (T l).length = l.length := by
  show (l.toArray).size = l.length
  simp
theorem T_app (l m : List Nat) : T l ++ T m = T (l ++ m) := by
  show (⟨l.toArray ++ m.toArray⟩ : Str) = ⟨(l ++ m).toArray⟩
  simp
theorem T_inj {l m : List Nat} (h : T l = T m) : l = m := by
  have : l.toArray.toList = m.toArray.toList := by
    have := congrArg (fun x : Str => x.cps.toList) h
    exact this
  simpa using this
theorem T_iff {l m : List Nat} : V.str (T l) = V.str (T m) ↔ l = m := ⟨fun h => T_inj (by injection h), fun h => by rw [h]⟩
theorem T_at (l : List Nat) (i : Nat) : (T l).cps[i]? = l[i]? := by
  show l.toArray[i]? = l[i]?
  simp
theorem T_size (l : List Nat) : (T l).cps.size = l.length := by
  show l.toArray.size = l.length
  simp

/-! ### iteration over a text -/
theorem striter_kind (x : Str) : ["enumerate", "zip", "dict_itemiterator", "dict_reverseitemiterator", "odict_iterator", "itertools.zip_longest", "itertools.pairwise"].contains (strIterType x) = false := by
  unfold strIterType
  split <;> decide
theorem walks_str {prog : Program} {w : World} {A : Around} (hh : A.handled = none) (I : Addr) (x : Str) (t : Tok) :
    Walks prog w A I [I] [I] x.cps.size (SignAt x) (fun i h => h.IsStrIter I (strIterType x) x t i) := by
  unfold strIterType
  split
  · exact Walks.strAscii hh I x t
  · exact Walks.strWide hh I x t
theorem draws_str {prog : Program} {w : World} {A : Around} (hh : A.handled = none) (I : Addr) (x : Str) (t : Tok) :
    Draws prog w A I [I] x.cps.size (fun i v => ∃ c u, x.cps[i]? = some c ∧ v = .str ⟨#[c]⟩ u) (fun i h => h.IsStrIter I (strIterType x) x t i) := by
  unfold strIterType
  split
  · exact Draws.strAscii hh I x t
  · exact Draws.strWide hh I x t
def Its (l : List Nat) : It := ⟨fun i _ => i < l.length, fun i H v H' => H' = H ∧ ∃ c, l[i]? = some c ∧ v = .str (T [c]), fun i _ => i = l.length⟩
theorem turn_str {P : Program} {w : World} {K : PySem.W.Frag} {tg : Expr} (it : Addr) (l : List Nat) (t : Tok) : Turn P w K tg (Its l) [it] it (fun i h => h.IsStrIter it (strIterType (T l)) (T l) t i) where
  mem := by simp
  obj := fun i h st b hb => by
    have e : b = it := by simpa using hb
    subst e
    obtain ⟨o, e, c, d⟩ := st
    exact ⟨o, e, fun v z => by rw [d] at z; cases z⟩
  keep := fun i h h' st k => by
    obtain ⟨o, e, r⟩ := st
    exact ⟨o, k it (by simp) o e, r⟩
  item := by
    intro X hP hw hK hc i pins s σ H E I hf st hg
    subst hP hw hK
    obtain ⟨f0, f1, f2, f3, f4, f5⟩ := hf it (by simp)
    have W := walks_str (prog := X.prog) (w := X.w) (I.ok.hd hc) it (T l) t
    refine W.item i s _ _ (by rw [T_size]; exact hg) st fun v h' tk hv st' kk => ?_
    obtain ⟨c, u, hcu, rfl⟩ := hv
    rw [T_at] at hcu
    have I1 : Inv X pins σ H { s with heap := h', toks := tk } := I.turned (fun b o hb e => kk b o (by simpa using hb) e) f0 f1 f3 f4 f5
    obtain ⟨o, e, cl, d⟩ := id st'
    exact ⟨_, rfl, go_of (s := { s with heap := h', toks := tk }) e cl d (striter_kind _) ⟨.str (T [c]), H, I1, ⟨u, rfl⟩, ⟨rfl, c, hcu, rfl⟩, st', fun b hb => (hf b hb).1⟩⟩
  done := by
    intro X hP hw hK hc i pins s σ H E I hf st hg
    subst hP hw hK
    obtain ⟨f0, f1, f2, f3, f4, f5⟩ := hf it (by simp)
    have W := walks_str (prog := X.prog) (w := X.w) (I.ok.hd hc) it (T l) t
    have hi : i = (T l).cps.size := by rw [T_size]; exact hg
    subst hi
    exact W.done s _ _ st fun h' tk keep => ⟨rfl, I.turned (fun b o hb e => keep b o (by simpa using hb) e) f0 f1 f3 f4 f5⟩
  self := fun A i s Q E st h => by
    unfold strIterType at st
    split at st
    · exact wpAny_pyIter_striter_ascii st h
    · exact wpAny_pyIter_striter_wide st h
section
variable {X : Cx} {tg : Expr}
def iStr (tl : TE) : TI := fun σ H R => tl σ H fun x H1 => ∃ l, x = .str (T l) ∧ R (Its l) H1
theorem pi_str {l : Expr} {tl : TE} (hl : PE X l tl) : PI X tg l (iStr tl) := by
  intro pins s σ H R I h
  refine thn (hl pins s σ H _ I h) fun v s1 ⟨x, H1, I1, r1, q1⟩ => ?_
  obtain ⟨cs, rfl, q⟩ := q1
  obtain ⟨t, rfl⟩ := r1
  refine wpAny_pyIter_strU ?_
  refine ⟨s1.heap.objs.size, [s1.heap.objs.size], _, _, H1, rfl, I1.kept (t' := s1.toks) fun b o e => Heap.get?_push_of_some _ e, turn_str _ cs t, ⟨_, Heap.get?_push_size _ rfl, rfl, rfl⟩, fun b hb => ?_, q⟩
  have e : b = s1.heap.objs.size := by simpa using hb
  subst e
  exact I1.fpOk (Nat.le_refl _) (I1.hok.fresh (Nat.le_refl _))
end
theorem for_str {l : List Nat} {g : TG} {tb : TS} {D : Ends} {σ : St} {H : Hp} (Pv : Nat → St → Hp → Prop) (h0 : Pv 0 σ H)
    (hs : ∀ i c σ H, l[i]? = some c → Pv i σ H → g (.str (T [c])) σ H fun σ2 H2 => tb { D with nx := Pv (i + 1), ct := Pv (i + 1), bk := D.nx } σ2 H2) (hd : ∀ σ H, Pv l.length σ H → D.nx σ H) :
    ∃ W : Nat → Nat → St → Hp → Prop, (∃ m, W 0 m σ H) ∧ ∀ i m σ H, W i m σ H →
      ((Its l).stop i H ∧ D.nx σ H) ∨ ((Its l).go i H ∧ ∃ N : St → Hp → Prop, (∀ σ' H', N σ' H' → ∃ m', m' < m ∧ W (i + 1) m' σ' H') ∧ ∀ x H', (Its l).yld i H x H' → g x σ H' fun σ2 H2 => tb { D with nx := N, ct := N, bk := D.nx } σ2 H2) := by
  refine ⟨fun i m σ H => m = l.length - i ∧ i ≤ l.length ∧ Pv i σ H, ⟨l.length, by simp, Nat.zero_le _, h0⟩, ?_⟩
  rintro i m σ H ⟨rfl, hi, p⟩
  by_cases hlt : i < l.length
  · refine .inr ⟨hlt, Pv (i + 1), fun σ' H' p' => ⟨l.length - (i + 1), by omega, rfl, hlt, p'⟩, fun x H' y => ?_⟩
    obtain ⟨e, c, hc, y⟩ := y
    subst e y
    exact hs i c σ _ hc p
  · have e : i = l.length := by omega
    subst e
    exact .inl ⟨rfl, hd σ H p⟩

/-! ### enumerate of a text -/
def Ite (l : List Nat) : It :=
  ⟨fun i _ => i < l.length, fun i H v H' => ∃ p c, H p = none ∧ v = .ref p ∧ H' = upd H p (.tup [.int i, .str (T [c])]) ∧ l[i]? = some c, fun i _ => i = l.length⟩
theorem turn_enum {P : Program} {w : World} {K : PySem.W.Frag} {elts : List Expr} {k : Nat} {pos : Pos} {e it : Addr} (ne : e ≠ it) (l : List Nat) (t : Tok) :
    Turn P w K (.Tuple elts k pos) (Ite l) [e, it] e (fun i h => (∃ old, IsEnum h e it i old) ∧ h.IsStrIter it (strIterType (T l)) (T l) t i) where
  mem := List.mem_cons_self
  obj := fun i h st c hc => by
    obtain ⟨⟨old, he⟩, o1, e1, _, d1⟩ := st
    simp only [List.mem_cons, List.not_mem_nil, or_false] at hc
    rcases hc with rfl | rfl
    · exact ⟨_, he, fun v q => by cases q⟩
    · exact ⟨o1, e1, fun v q => by rw [d1] at q; cases q⟩
  keep := fun i h h' st k => by
    obtain ⟨⟨old, he⟩, o1, e1, r⟩ := st
    exact ⟨⟨old, k e (by simp) _ he⟩, o1, k it (by simp) o1 e1, r⟩
  item := by
    intro X hP hw hK hc i pins s σ H E I hf st hg
    subst hP hw hK
    have hin : X.A.in1.handled = none := I.ok.hd hc
    have W := WalksT.enumerateD (A := X.A) (draws_str (prog := X.prog) (w := X.w) hin it (T l) t) e ne (by simpa using ne) (by simp)
    refine W.item i s _ _ (by rw [T_size]; exact hg) st fun Tt vals h' tk hPt hT hTup hMid keep => ⟨_, rfl, ?_⟩
    refine W.go elts k pos i Tt _ _ _ hMid fun h'' st' keep' => ?_
    obtain ⟨ti, x, ⟨c, u, hcu, rfl⟩, rfl⟩ := hPt
    rw [T_at] at hcu
    have hch : ∀ c ∈ [e, it], FpOk X pins H c := hf
    have nT := W.apart i Tt _ hMid
    obtain ⟨oT, eT, cT⟩ := hTup
    have eT' : h''.get? Tt = some oT := keep' Tt oT nT eT
    have I1 : Inv X pins σ (upd H Tt (.tup [.int i, .str (T [c])])) { s with heap := h'', toks := tk } := I.laidX (ch := [e, it]) (fun c o hc e => keep' c o hc (keep c o hc e)) hch hT ⟨(by show 2 ≤ sizeLine; decide), [.int i ti, .str ⟨#[c]⟩ u], .cons ⟨ti, rfl⟩ (.cons ⟨u, rfl⟩ .nil), oT, eT', cT⟩
    refine ⟨.ref Tt, _, I1, rfl, ⟨Tt, c, I.hok.fresh hT, rfl, rfl, hcu⟩, st', fun c hc => ?_⟩
    have fr := (hf c hc).1
    obtain ⟨o, eo⟩ : ∃ o, s.heap.get? c = some o := by
      obtain ⟨⟨old, he⟩, o1, e1, _⟩ := st
      simp only [List.mem_cons, List.not_mem_nil, or_false] at hc
      rcases hc with rfl | rfl
      · exact ⟨_, he⟩
      · exact ⟨_, e1⟩
    rw [upd_ne (Nat.ne_of_lt (Nat.lt_of_lt_of_le (Heap.lt_size eo) hT))]
    exact fr
  done := by
    intro X hP hw hK hc i pins s σ H E I hf st hg
    subst hP hw hK
    have hin : X.A.in1.handled = none := I.ok.hd hc
    have W := WalksT.enumerateD (A := X.A) (draws_str (prog := X.prog) (w := X.w) hin it (T l) t) e ne (by simpa using ne) (by simp)
    have hi : i = (T l).cps.size := by rw [T_size]; exact hg
    subst hi
    exact W.done s _ _ st fun h' tk keep => ⟨rfl, I.turnX (ch := [e, it]) keep hf⟩
  self := fun _ _ _ _ _ st h => by
    obtain ⟨⟨old, he⟩, _⟩ := st
    exact wpAny_pyIter_enum he h
theorem boot_enumT : bootBuiltins "enumerate" = some (.type "enumerate") := by decide +kernel
section
variable {X : Cx} {elts : List Expr} {k : Nat} {pos0 : Pos}
def iEnum (ta : TA) : TI := fun σ H R => ta σ H fun vs H1 => ∃ l, vs = [.str (T l)] ∧ R (Ite l) H1
theorem pi_enum {a : Expr} {ta : TA} {p pos : Pos} (hg : Gl X "enumerate") (hm : X.mg "enumerate" = none) (ha : PA X [a] ta) (hs : starEach [a] X.env = [(false, eval a X.env)] := by rfl) :
    PI X (.Tuple elts k pos0) (.Call (.Name "enumerate" p) [a] [] pos) (iEnum ta) := by
  intro pins s σ H R I h
  refine Call_ (ld_blt I hg hm boot_enumT (PyProof.Rows.callWith_type1 (thn (ha pos pins s σ H _ I h) fun us s1 ⟨vs, H1, I1, r1, q1⟩ => ?_) hs rfl))
  obtain ⟨l, rfl, q⟩ := q1
  obtain ⟨u, rfl, ru⟩ := Vals.one r1
  obtain ⟨t, rfl⟩ := ru
  refine call_enumerate_str fun h' he hit hsz hk => ?_
  refine wpAny_pyIter_enum he ⟨_, _, _, _, H1, rfl, I1.kept (t' := s1.toks) hk, turn_enum (e := s1.heap.objs.size + 1) (it := s1.heap.objs.size) (Nat.succ_ne_self _) l t, ⟨⟨_, he⟩, hit⟩, fun c hc => ?_, q⟩
  have le : s1.heap.objs.size ≤ c := by
    simp only [List.mem_cons, List.not_mem_nil, or_false] at hc
    rcases hc with rfl | rfl
    · exact Nat.le_add_right _ _
    · exact Nat.le_refl _
  exact I1.fpOk le (I1.hok.fresh le)
end
theorem for_enum {l : List Nat} {g : TG} {tb : TS} {D : Ends} {σ : St} {H : Hp} (Pv : Nat → St → Hp → Prop) (h0 : Pv 0 σ H)
    (hs : ∀ i c σ H p, l[i]? = some c → Pv i σ H → H p = none → g (.ref p) σ (upd H p (.tup [.int i, .str (T [c])])) fun σ2 H2 => tb { D with nx := Pv (i + 1), ct := Pv (i + 1), bk := D.nx } σ2 H2) (hd : ∀ σ H, Pv l.length σ H → D.nx σ H) :
    ∃ W : Nat → Nat → St → Hp → Prop, (∃ m, W 0 m σ H) ∧ ∀ i m σ H, W i m σ H →
      ((Ite l).stop i H ∧ D.nx σ H) ∨ ((Ite l).go i H ∧ ∃ N : St → Hp → Prop, (∀ σ' H', N σ' H' → ∃ m', m' < m ∧ W (i + 1) m' σ' H') ∧ ∀ x H', (Ite l).yld i H x H' → g x σ H' fun σ2 H2 => tb { D with nx := N, ct := N, bk := D.nx } σ2 H2) := by
  refine ⟨fun i m σ H => m = l.length - i ∧ i ≤ l.length ∧ Pv i σ H, ⟨l.length, by simp, Nat.zero_le _, h0⟩, ?_⟩
  rintro i m σ H ⟨rfl, hi, p⟩
  by_cases hlt : i < l.length
  · refine .inr ⟨hlt, Pv (i + 1), fun σ' H' p' => ⟨l.length - (i + 1), by omega, rfl, hlt, p'⟩, fun x H' y => ?_⟩
    obtain ⟨r, c, hr, y, e, hc⟩ := y
    subst e y
    exact hs i c σ _ r hc p hr
  · have e : i = l.length := by omega
    subst e
    exact .inl ⟨rfl, hd σ H p⟩
theorem comp_enum {l : List Nat} {g : TG} {tc : TT} {te : TE} {σ : St} {H : Hp} {D : Addr} {Q : VK} (Pv : Nat → St → Hp → Prop) (h0 : Pv 0 σ H)
    (hs : ∀ i c σ H p, l[i]? = some c → Pv i σ H → H p = none → g (.ref p) σ (upd H p (.tup [.int i, .str (T [c])])) fun σ2 H4 => tc σ2 H4 fun b H5 => if b = true then te σ2 H5 fun y H6 => ∃ ys, H6 D = some (.lst ys) ∧ ys.length < sizeLine ∧ Pv (i + 1) σ2 (upd H6 D (.lst (ys ++ [y]))) else Pv (i + 1) σ2 H5)
    (hd : ∀ σ H, Pv l.length σ H → Q (.ref D) H) :
    ∃ W : Nat → Nat → St → Hp → Prop, (∃ m, W 0 m σ H) ∧ ∀ i m σ1 H2, W i m σ1 H2 →
      ((Ite l).stop i H2 ∧ Q (.ref D) H2) ∨ ((Ite l).go i H2 ∧ ∃ N : St → Hp → Prop, (∀ σ' H', N σ' H' → ∃ m', m' < m ∧ W (i + 1) m' σ' H') ∧ ∀ x H3, (Ite l).yld i H2 x H3 → g x σ1 H3 fun σ2 H4 => tc σ2 H4 fun b H5 =>
        if b = true then te σ2 H5 fun y H6 => ∃ ys, H6 D = some (.lst ys) ∧ ys.length < sizeLine ∧ N σ2 (upd H6 D (.lst (ys ++ [y]))) else N σ2 H5) := by
  refine ⟨fun i m σ H => m = l.length - i ∧ i ≤ l.length ∧ Pv i σ H, ⟨l.length, by simp, Nat.zero_le _, h0⟩, ?_⟩
  rintro i m σ H ⟨rfl, hi, p⟩
  by_cases hlt : i < l.length
  · refine .inr ⟨hlt, Pv (i + 1), fun σ' H' p' => ⟨l.length - (i + 1), by omega, rfl, hlt, p'⟩, fun x H' y => ?_⟩
    obtain ⟨r, c, hr, y, e, hc⟩ := y
    subst e y
    exact hs i c σ _ r hc p hr
  · have e : i = l.length := by omega
    subst e
    exact .inl ⟨rfl, hd σ H p⟩

/-! ### texts: <=, slices -/
section
variable {X : Cx}
theorem op_le_str : OpR X (compareOp .LtE) (fun x y H Q => ∃ i j, x = .str i ∧ y = .str j ∧ Q (.bl (!decide (j.cps.toList < i.cps.toList))) H) := by
  intro pins s σ H x y v u Q I rx ry h
  obtain ⟨i, j, rfl, rfl, q⟩ := h
  obtain ⟨t, rfl⟩ := rx
  obtain ⟨t', rfl⟩ := ry
  exact PySem.P.le_str (fin_bl I q rfl)
def cutN (l : List Nat) (lo hi : Option Int) : List Nat := (l.drop (HT.sIx l.length 0 lo)).take (HT.sIx l.length l.length hi - HT.sIx l.length 0 lo)
theorem clip_lo (n : Nat) (lo : Option Int) : (match lo with | none => (0 : Int) | some i => max 0 (min (if i < 0 then i + n else i) n)) = ((HT.sIx n 0 lo : Nat) : Int) := by
  cases lo with
  | none => rfl
  | some i =>
    show max 0 (min (if i < 0 then i + n else i) n) = ((if i < 0 then (i + (n : Int)).toNat else min i.toNat n : Nat) : Int)
    by_cases h : i < 0
    · rw [if_pos h, if_pos h]
      omega
    · rw [if_neg h, if_neg h]
      omega
theorem clip_hi (n : Nat) (hi : Option Int) : (match hi with | none => (n : Int) | some i => max 0 (min (if i < 0 then i + n else i) n)) = ((HT.sIx n n hi : Nat) : Int) := by
  cases hi with
  | none => rfl
  | some i =>
    show max 0 (min (if i < 0 then i + n else i) n) = ((if i < 0 then (i + (n : Int)).toNat else min i.toNat n : Nat) : Int)
    by_cases h : i < 0
    · rw [if_pos h, if_pos h]
      omega
    · rw [if_neg h, if_neg h]
      omega
theorem sliceIx (lo hi : Option Int) (n : Nat) : Builtin.Str.strSliceIndices lo hi 1 n = (List.range (HT.sIx n n hi - HT.sIx n 0 lo)).map (HT.sIx n 0 lo + ·) := by
  have e : Builtin.Str.strSliceIndices lo hi 1 n = sliceRange (match lo with | none => (0 : Int) | some i => max 0 (min (if i < 0 then i + n else i) n)) (match hi with | none => (n : Int) | some i => max 0 (min (if i < 0 then i + n else i) n)) 1 := by
    cases lo <;> cases hi <;> rfl
  rw [e, clip_lo, clip_hi, sliceRange_one]
theorem slice_T (l : List Nat) (lo hi : Option Int) : Txt.slice (T l) lo hi = T (cutN l lo hi) := by
  unfold Txt.slice
  rw [T_len, sliceIx]
  have a1 := HT.sIx_le l.length 0 (Nat.zero_le _) lo
  have a2 := HT.sIx_le l.length l.length (Nat.le_refl _) hi
  by_cases c : (HT.sIx l.length l.length hi - HT.sIx l.length 0 lo) = l.length
  · rw [if_pos (by simp [c])]
    have e0 : HT.sIx l.length 0 lo = 0 ∨ l.length = 0 := by omega
    unfold cutN
    rw [c]
    rcases e0 with z | z
    · rw [z]
      simp
    · have : l = [] := List.eq_nil_of_length_eq_zero z
      subst this
      simp
  · rw [if_neg (by simp [c])]
    show (⟨(((List.range _).map _).filterMap ((T l).cps[·]?)).toArray⟩ : Str) = ⟨(cutN l lo hi).toArray⟩
    rw [pick_run]
    rfl
def rSlS : V → Option Int → Option Int → Hp → VK → Prop := fun x lo hi H Q => ∃ l, x = .str (T l) ∧ l.length ≤ sizeLine ∧ Q (.str (T (cutN l lo hi))) H
theorem sl_str : SlR X rSlS := by
  intro pins s σ H x v vl vu lo hi sl Q I rx hs pl pu h
  obtain ⟨l, rfl, hz, q⟩ := h
  obtain ⟨t, rfl⟩ := rx
  refine ⟨"str", _, PySem.F.slot_str_getitem.lookup, typeIs_str _ _ _, ?_⟩
  have hz' : (Txt.slice (T l) lo hi).length ≤ sizeLine := Nat.le_trans (Txt.slice_le _ _ _) (by rw [T_len]; exact hz)
  have fin : ∀ t' k, EP X pins σ Q (.str (Txt.slice (T l) lo hi) t') { s with toks := k } := fun t' k => ⟨.str (T (cutN l lo hi)), H, I.tok _, ⟨t', by rw [slice_T]⟩, q⟩
  cases pl with
  | none => cases pu with
    | none => exact wpAny_getItem_str_slice (l := none) (u := none) (st := none) hs rfl (post_val_or_str ⟨hz', fin⟩)
    | int j uj => exact wpAny_getItem_str_slice (l := none) (u := some (j, uj)) (st := none) hs rfl (post_val_or_str ⟨hz', fin⟩)
  | int i ui => cases pu with
    | none => exact wpAny_getItem_str_slice (l := some (i, ui)) (u := none) (st := none) hs rfl (post_val_or_str ⟨hz', fin⟩)
    | int j uj => exact wpAny_getItem_str_slice (l := some (i, ui)) (u := some (j, uj)) (st := none) hs rfl (post_val_or_str ⟨hz', fin⟩)

/-! ### a list against [] -/
def rNil (K : PySem.W.Frag) (neg : Bool) : R2 := fun x y H Q => ∃ (a b : Addr) (xs : List V), x = .ref a ∧ y = .ref b ∧ SqL K H a xs ∧ H b = some (.lst []) ∧ Q (.bl (if neg then !xs.isEmpty else xs.isEmpty)) H
theorem op_eq_nil (hu : X.A.units < cLine) : OpR X (compareOp .Eq) (rNil X.K false) := by
  intro pins s σ H x y v u Q I rx ry h
  obtain ⟨a, b, xs, rfl, rfl, ha, hb, q⟩ := h
  cases rx
  cases ry
  obtain ⟨i1, r1, p1, z1⟩ := I.list ha
  obtain ⟨i2, r2, p2, z2⟩ := I.list (.of hb)
  have l2 : i2 = [] := by cases r2; rfl
  subst l2
  cases xs with
  | nil =>
    have l1 : i1 = [] := by cases r1; rfl
    subst l1
    exact SeqAt.eq_listAt (e := fun _ => true) p1.isList p2.isList rfl hu (fun j h1 _ => absurd h1 (Nat.not_lt_zero _)) ⟨.bl true, H, I, rfl, q⟩
  | cons x xs =>
    refine SeqAt.eq_list_lengthsAt p1.isList p2.isList ?_ hu ⟨.bl false, H, I, rfl, q⟩
    have := r1.length
    cases i1 with
    | nil => cases this
    | cons _ _ => simp
theorem op_ne_nil (hu : X.A.units < cLine) : OpR X (compareOp .NotEq) (rNil X.K true) := by
  intro pins s σ H x y v u Q I rx ry h
  obtain ⟨a, b, xs, rfl, rfl, ha, hb, q⟩ := h
  cases rx
  cases ry
  obtain ⟨i1, r1, p1, z1⟩ := I.list ha
  obtain ⟨i2, r2, p2, z2⟩ := I.list (.of hb)
  have l2 : i2 = [] := by cases r2; rfl
  subst l2
  cases xs with
  | nil =>
    have l1 : i1 = [] := by cases r1; rfl
    subst l1
    exact (SeqAt.RcNeAt.lists (e := fun _ => true) p1.isList p2.isList rfl hu (fun j h1 _ => absurd h1 (Nat.not_lt_zero _))) X.prog X.w X.xe _ ⟨.bl false, H, I, rfl, q⟩
  | cons x xs =>
    refine (SeqAt.RcNeAt.lists_lengths p1.isList p2.isList ?_ hu) X.prog X.w X.xe _ ⟨.bl true, H, I, rfl, q⟩
    have := r1.length
    cases i1 with
    | nil => cases this
    | cons _ _ => simp
end
end L2

set_option linter.all false
namespace Sm
/-! ### what a pattern tells of the pieces of a string, and what a text does to a pile -/
abbrev G := Nat → Nat → Prop
def gN : G := fun _ _ => False
def gB (b : List Nat) (c : Nat) : G := fun i j => j = i + 1 ∧ ∃ x, b[i]? = some x ∧ (c = 46 ∨ x = c)
def gJ (l u : G) : G := fun i j => ∃ k, l i k ∧ u k j
def gE (l u : G) : G := fun i j => l i j ∨ u i j
inductive gM (n : Nat) (g : G) : Nat → Nat → Prop
  | here (i : Nat) (h : i < n) : gM n g i i
  | more (i k j : Nat) (hk : i < k) (h : g i k) (t : gM n g k j) : gM n g i j
/-- a grid over n places -/
def Up (n : Nat) (g : G) : Prop := ∀ i j, g i j → i ≤ j ∧ j < n
theorem up_B (b : List Nat) (c : Nat) : Up (b.length + 1) (gB b c) := by
  rintro i j ⟨rfl, x, h, _⟩
  have := (List.getElem?_eq_some_iff.mp h).1
  omega
theorem up_J {n : Nat} {l u : G} (hl : Up n l) (hu : Up n u) : Up n (gJ l u) := by
  rintro i j ⟨k, h1, h2⟩
  have := hl _ _ h1
  have := hu _ _ h2
  omega
theorem up_E {n : Nat} {l u : G} (hl : Up n l) (hu : Up n u) : Up n (gE l u) := by
  rintro i j (h | h)
  · exact hl _ _ h
  · exact hu _ _ h
theorem up_M {n : Nat} {g : G} (hg : Up n g) : Up n (gM n g) := by
  intro i j h
  induction h with
  | here i h => omega
  | more i k j hk h t ih => omega
theorem gM_first {n : Nat} {g : G} {i j : Nat} : gM n g i j ↔ (j = i ∧ i < n) ∨ ∃ k, i < k ∧ g i k ∧ gM n g k j := by
  constructor
  · intro h
    cases h with
    | here _ h => exact .inl ⟨rfl, h⟩
    | more _ k _ hk h t => exact .inr ⟨k, hk, h, t⟩
  · rintro (⟨rfl, h⟩ | ⟨k, hk, h, t⟩)
    · exact .here _ h
    · exact .more _ k _ hk h t
/-- one sign -/
def step (b : List Nat) (c : Nat) (p : List G) : Option (List G) :=
  if c = 42 then (if 1 ≤ p.length then some (p.take (p.length - 1) ++ [gM (b.length + 1) (p.getD (p.length - 1) gN)]) else none)
  else if c = 43 then (if 2 ≤ p.length then some (p.take (p.length - 2) ++ [gJ (p.getD (p.length - 2) gN) (p.getD (p.length - 1) gN)]) else none)
  else if c = 47 then (if 2 ≤ p.length then some (p.take (p.length - 2) ++ [gE (p.getD (p.length - 2) gN) (p.getD (p.length - 1) gN)]) else none)
  else if (97 ≤ c ∧ c ≤ 122) ∨ c = 46 then some (p ++ [gB b c]) else none
def run (b : List Nat) : List Nat → List G → Option (List G)
  | [], p => some p
  | c :: t, p => (step b c p).bind (run b t)
theorem run_app (b : List Nat) : ∀ (t u : List Nat) (p : List G), run b (t ++ u) p = (run b t p).bind (run b u)
  | [], u, p => rfl
  | c :: t, u, p => by
    show (step b c p).bind (run b (t ++ u)) = ((step b c p).bind (run b t)).bind (run b u)
    cases step b c p with
    | none => rfl
    | some q => exact run_app b t u q
theorem run_one (b : List Nat) (c : Nat) (p : List G) : run b [c] p = step b c p := by
  show (step b c p).bind (run b []) = step b c p
  cases step b c p <;> rfl
/-- a text that writes a pattern -/
def Wf (t : List Nat) : Prop := ∀ (b : List Nat) (p : List G), ∃ g, run b t p = some (p ++ [g])
theorem wf_leaf {c : Nat} (h : (97 ≤ c ∧ c ≤ 122) ∨ c = 46) : Wf [c] := fun b p => by
  refine ⟨gB b c, ?_⟩
  rw [run_one]
  unfold step
  rw [if_neg (by omega), if_neg (by omega), if_neg (by omega), if_pos h]
theorem wf_star {t : List Nat} (h : Wf t) : Wf (t ++ [42]) := fun b p => by
  obtain ⟨g, e⟩ := h b p
  refine ⟨gM (b.length + 1) g, ?_⟩
  rw [run_app, e]
  show run b [42] (p ++ [g]) = _
  rw [run_one]
  unfold step
  have hl : (p ++ [g]).length - 1 = p.length := by simp
  rw [if_pos rfl, if_pos (by simp), hl]
  simp
theorem wf_two {t u : List Nat} {c : Nat} (h : Wf t) (h' : Wf u) (hc : c = 43 ∨ c = 47) : Wf (t ++ u ++ [c]) := fun b p => by
  obtain ⟨g, e⟩ := h b p
  obtain ⟨g', e'⟩ := h' b (p ++ [g])
  have key : run b (t ++ u) p = some (p ++ [g] ++ [g']) := by
    rw [run_app, e]
    exact e'
  have hl2 : (p ++ [g] ++ [g']).length - 2 = p.length := by simp
  have hl1 : (p ++ [g] ++ [g']).length - 1 = p.length + 1 := by simp
  have h2 : 2 ≤ (p ++ [g] ++ [g']).length := by simp
  have tk : (p ++ [g] ++ [g']).take p.length = p := by simp
  rcases hc with rfl | rfl
  · refine ⟨gJ g g', ?_⟩
    rw [run_app, key]
    show run b [43] (p ++ [g] ++ [g']) = _
    rw [run_one]
    unfold step
    rw [if_neg (by decide), if_pos rfl, if_pos h2, hl2, hl1, tk]
    simp
  · refine ⟨gE g g', ?_⟩
    rw [run_app, key]
    show run b [47] (p ++ [g] ++ [g']) = _
    rw [run_one]
    unfold step
    rw [if_neg (by decide), if_neg (by decide), if_pos rfl, if_pos h2, hl2, hl1, tk]
    simp
/-- ahead of the i-th sign -/
theorem run_at {b t : List Nat} {p q : List G} (h : run b t p = some q) (i : Nat) : ∃ r, run b (t.take i) p = some r := by
  have e : t = t.take i ++ t.drop i := (List.take_append_drop i t).symm
  rw [e, run_app] at h
  cases z : run b (t.take i) p with
  | none => rw [z] at h; cases h
  | some r => exact ⟨r, rfl⟩
theorem run_step {b t : List Nat} {p q r : List G} {i c : Nat} (h : run b t p = some q) (hr : run b (t.take i) p = some r) (hc : t[i]? = some c) : ∃ r', step b c r = some r' ∧ run b (t.take (i + 1)) p = some r' := by
  obtain ⟨r', e⟩ := run_at h (i + 1)
  have : t.take (i + 1) = t.take i ++ [c] := by rw [List.take_add_one, hc]; rfl
  refine ⟨r', ?_, e⟩
  rw [this, run_app, hr] at e
  rw [← run_one]
  exact e
/-- which steps there are -/
theorem step_cases {b : List Nat} {c : Nat} {p r : List G} (h : step b c p = some r) :
    (c = 42 ∧ 1 ≤ p.length ∧ r = p.take (p.length - 1) ++ [gM (b.length + 1) (p.getD (p.length - 1) gN)]) ∨
    (c = 43 ∧ 2 ≤ p.length ∧ r = p.take (p.length - 2) ++ [gJ (p.getD (p.length - 2) gN) (p.getD (p.length - 1) gN)]) ∨
    (c = 47 ∧ 2 ≤ p.length ∧ r = p.take (p.length - 2) ++ [gE (p.getD (p.length - 2) gN) (p.getD (p.length - 1) gN)]) ∨
    (((97 ≤ c ∧ c ≤ 122) ∨ c = 46) ∧ r = p ++ [gB b c]) := by
  unfold step at h
  by_cases h1 : c = 42
  · rw [if_pos h1] at h
    by_cases l : 1 ≤ p.length
    · rw [if_pos l] at h
      exact .inl ⟨h1, l, (Option.some.inj h).symm⟩
    · rw [if_neg l] at h
      cases h
  rw [if_neg h1] at h
  by_cases h2 : c = 43
  · rw [if_pos h2] at h
    by_cases l : 2 ≤ p.length
    · rw [if_pos l] at h
      exact .inr (.inl ⟨h2, l, (Option.some.inj h).symm⟩)
    · rw [if_neg l] at h
      cases h
  rw [if_neg h2] at h
  by_cases h3 : c = 47
  · rw [if_pos h3] at h
    by_cases l : 2 ≤ p.length
    · rw [if_pos l] at h
      exact .inr (.inr (.inl ⟨h3, l, (Option.some.inj h).symm⟩))
    · rw [if_neg l] at h
      cases h
  rw [if_neg h3] at h
  by_cases h4 : (97 ≤ c ∧ c ≤ 122) ∨ c = 46
  · rw [if_pos h4] at h
    exact .inr (.inr (.inr ⟨h4, (Option.some.inj h).symm⟩))
  · rw [if_neg h4] at h
    cases h
/-- how many patterns a sign takes off -/
def taken (c : Nat) : Nat := if c = 42 then 1 else if c = 43 ∨ c = 47 then 2 else 0
theorem step_len {b : List Nat} {c : Nat} {p r : List G} (h : step b c p = some r) : taken c ≤ p.length ∧ r.length = p.length - taken c + 1 ∧ (c = 42 ∨ c = 43 ∨ c = 47 ∨ c = 46 ∨ (97 ≤ c ∧ c ≤ 122)) := by
  unfold taken
  rcases step_cases h with ⟨rfl, l, rfl⟩ | ⟨rfl, l, rfl⟩ | ⟨rfl, l, rfl⟩ | ⟨hc, rfl⟩
  · refine ⟨l, ?_, .inl rfl⟩
    simp
  · refine ⟨l, ?_, .inr (.inl rfl)⟩
    simp
  · refine ⟨l, ?_, .inr (.inr (.inl rfl))⟩
    simp
  · rw [if_neg (by omega), if_neg (by omega)]
    refine ⟨Nat.zero_le _, by simp, ?_⟩
    omega
theorem step_up {b : List Nat} {c : Nat} {p r : List G} (hp : ∀ g ∈ p, Up (b.length + 1) g) (h : step b c p = some r) : ∀ g ∈ r, Up (b.length + 1) g := by
  have dl : ∀ i, Up (b.length + 1) (p.getD i gN) := fun i => by
    rw [List.getD_eq_getElem?_getD]
    cases e : p[i]? with
    | none => intro _ _ z; exact z.elim
    | some g => exact hp g (List.mem_of_getElem? e)
  intro g hg
  rcases step_cases h with ⟨rfl, l, rfl⟩ | ⟨rfl, l, rfl⟩ | ⟨rfl, l, rfl⟩ | ⟨hc, rfl⟩ <;> rcases List.mem_append.mp hg with z | z
  · exact hp g (List.mem_of_mem_take z)
  · rw [List.mem_singleton.mp z]; exact up_M (dl _)
  · exact hp g (List.mem_of_mem_take z)
  · rw [List.mem_singleton.mp z]; exact up_J (dl _) (dl _)
  · exact hp g (List.mem_of_mem_take z)
  · rw [List.mem_singleton.mp z]; exact up_E (dl _) (dl _)
  · exact hp g z
  · rw [List.mem_singleton.mp z]; exact up_B b c
theorem run_up {b : List Nat} : ∀ {t : List Nat} {p r : List G}, (∀ g ∈ p, Up (b.length + 1) g) → run b t p = some r → ∀ g ∈ r, Up (b.length + 1) g
  | [], p, r, hp, h => by
    cases h
    exact hp
  | c :: t, p, r, hp, h => by
    have h' : (step b c p).bind (run b t) = some r := h
    cases e : step b c p with
    | none => rw [e] at h'; cases h'
    | some q =>
      rw [e] at h'
      exact run_up (step_up hp e) h'
end Sm
namespace Sm
/-! ### the first fault -/
def okc (c : Nat) : Bool := decide (c = 42 ∨ c = 43 ∨ c = 47 ∨ c = 46 ∨ (97 ≤ c ∧ c ≤ 122))
def flt : List Nat → Nat → Nat → Option Nat
  | [], p, h => if h = 1 then none else some p
  | c :: t, p, h => if okc c = true ∧ taken c ≤ h then flt t (p + 1) (h - taken c + 1) else some p
theorem flt_run {b : List Nat} : ∀ {t : List Nat} {p r : List G} (i : Nat), run b t p = some r → r.length = 1 → flt t i p.length = none
  | [], p, r, i, h, hr => by
    cases h
    show (if p.length = 1 then none else some i) = none
    rw [if_pos hr]
  | c :: t, p, r, i, h, hr => by
    have h' : (step b c p).bind (run b t) = some r := h
    cases e : step b c p with
    | none => rw [e] at h'; cases h'
    | some q =>
      rw [e] at h'
      obtain ⟨l1, l2, l3⟩ := step_len e
      show (if okc c = true ∧ taken c ≤ p.length then flt t (i + 1) (p.length - taken c + 1) else some i) = none
      rw [if_pos ⟨decide_eq_true l3, l1⟩, ← l2]
      exact flt_run (i + 1) h' hr
theorem wf_run {t : List Nat} (h : Wf t) (b : List Nat) : ∃ g, run b t [] = some [g] := by
  obtain ⟨g, e⟩ := h b []
  exact ⟨g, e⟩
theorem wf_flt {t : List Nat} (h : Wf t) : flt t 0 0 = none := by
  obtain ⟨g, e⟩ := wf_run h []
  exact flt_run (p := []) 0 e rfl
end Sm

set_option linter.all false
namespace Sm
/-! ### patterns, the text that writes one, the strings that fit it -/
inductive Re where
  | leaf (c : Nat) (h : (97 ≤ c ∧ c ≤ 122) ∨ c = 46)
  | j (a b : Re) | e (a b : Re) | m (a : Re)
def post : Re → List Nat
  | .leaf c _ => [c]
  | .j a b => post a ++ post b ++ [43]
  | .e a b => post a ++ post b ++ [47]
  | .m a => post a ++ [42]
def gr (b : List Nat) : Re → G
  | .leaf c _ => gB b c
  | .j x y => gJ (gr b x) (gr b y)
  | .e x y => gE (gr b x) (gr b y)
  | .m x => gM (b.length + 1) (gr b x)
theorem run_post (b : List Nat) : ∀ (r : Re) (p : List G), run b (post r) p = some (p ++ [gr b r])
  | .leaf c h, p => by
    show run b [c] p = _
    rw [run_one]
    unfold step
    rw [if_neg (by omega), if_neg (by omega), if_neg (by omega), if_pos h]
    rfl
  | .m x, p => by
    show run b (post x ++ [42]) p = _
    rw [run_app, run_post b x p]
    show run b [42] (p ++ [gr b x]) = _
    rw [run_one]
    unfold step
    have hl : (p ++ [gr b x]).length - 1 = p.length := by simp
    rw [if_pos rfl, if_pos (by simp), hl]
    simp [gr]
  | .j x y, p => by
    show run b (post x ++ post y ++ [43]) p = _
    rw [run_app, run_app, run_post b x p]
    show Option.bind (run b (post y) (p ++ [gr b x])) (run b [43]) = _
    rw [run_post b y]
    show run b [43] (p ++ [gr b x] ++ [gr b y]) = _
    rw [run_one]
    unfold step
    have hl2 : (p ++ [gr b x] ++ [gr b y]).length - 2 = p.length := by simp
    have hl1 : (p ++ [gr b x] ++ [gr b y]).length - 1 = p.length + 1 := by simp
    have tk : (p ++ [gr b x] ++ [gr b y]).take p.length = p := by simp
    rw [if_neg (by decide), if_pos rfl, if_pos (by simp), hl2, hl1, tk]
    simp [gr]
  | .e x y, p => by
    show run b (post x ++ post y ++ [47]) p = _
    rw [run_app, run_app, run_post b x p]
    show Option.bind (run b (post y) (p ++ [gr b x])) (run b [47]) = _
    rw [run_post b y]
    show run b [47] (p ++ [gr b x] ++ [gr b y]) = _
    rw [run_one]
    unfold step
    have hl2 : (p ++ [gr b x] ++ [gr b y]).length - 2 = p.length := by simp
    have hl1 : (p ++ [gr b x] ++ [gr b y]).length - 1 = p.length + 1 := by simp
    have tk : (p ++ [gr b x] ++ [gr b y]).take p.length = p := by simp
    rw [if_neg (by decide), if_neg (by decide), if_pos rfl, if_pos (by simp), hl2, hl1, tk]
    simp [gr]
theorem up_gr (b : List Nat) : ∀ r : Re, Up (b.length + 1) (gr b r)
  | .leaf c _ => up_B b c
  | .j x y => up_J (up_gr b x) (up_gr b y)
  | .e x y => up_E (up_gr b x) (up_gr b y)
  | .m x => up_M (up_gr b x)
inductive Star (P : List Nat → Prop) : List Nat → Prop
  | nil : Star P []
  | cons (u v : List Nat) (h : P u) (t : Star P v) : Star P (u ++ v)
def Ln : Re → List Nat → Prop
  | .leaf c _ => fun s => ∃ x, s = [x] ∧ (c = 46 ∨ x = c)
  | .j a b => fun s => ∃ u v, s = u ++ v ∧ Ln a u ∧ Ln b v
  | .e a b => fun s => Ln a s ∨ Ln b s
  | .m a => Star (Ln a)
theorem Star.one {P : List Nat → Prop} {u : List Nat} (h : P u) : Star P u := by
  have := Star.cons u [] h .nil
  rwa [List.append_nil] at this
theorem Star.two {P : List Nat → Prop} {u v : List Nat} (h : P u) (h' : P v) : Star P (u ++ v) := .cons u v h (.one h')
theorem Star.three {P : List Nat → Prop} {u v w : List Nat} (h : P u) (h' : P v) (h'' : P w) : Star P (u ++ v ++ w) := by
  rw [List.append_assoc]
  exact .cons u _ h (.two h' h'')
/-! ### a piece fits by its own beads alone -/
def pc (b : List Nat) (i j : Nat) : List Nat := (b.drop i).take (j - i)
theorem pc_app {b : List Nat} {i k j : Nat} (h1 : i ≤ k) (h2 : k ≤ j) : pc b i j = pc b i k ++ pc b k j := by
  unfold pc
  have e : j - i = (k - i) + (j - k) := by omega
  rw [e, List.take_add, List.drop_drop]
  congr 3
  omega
theorem pc_len {b : List Nat} {i j : Nat} (h1 : i ≤ j) (h2 : j ≤ b.length) : (pc b i j).length = j - i := by
  unfold pc
  rw [List.length_take, List.length_drop]
  omega
theorem pc_cut {b u v : List Nat} {i j : Nat} (h1 : i ≤ j) (h2 : j ≤ b.length) (e : pc b i j = u ++ v) : i ≤ i + u.length ∧ i + u.length ≤ j ∧ pc b i (i + u.length) = u ∧ pc b (i + u.length) j = v := by
  have hl := pc_len h1 h2
  rw [e, List.length_append] at hl
  have hk : i + u.length ≤ j := by omega
  have e2 := pc_app (b := b) (Nat.le_add_right i u.length) hk
  rw [e] at e2
  have l1 := pc_len (b := b) (Nat.le_add_right i u.length) (by omega)
  have := List.append_inj e2 (by rw [l1]; omega)
  exact ⟨by omega, hk, this.1.symm, this.2.symm⟩
theorem gM_star {b : List Nat} {g : G} {P : List Nat → Prop} (hg : ∀ i j, g i j ↔ i ≤ j ∧ j ≤ b.length ∧ P (pc b i j)) {i j : Nat} : gM (b.length + 1) g i j ↔ i ≤ j ∧ j ≤ b.length ∧ Star P (pc b i j) := by
  constructor
  · intro h
    induction h with
    | here i h =>
      refine ⟨Nat.le_refl _, by omega, ?_⟩
      have : pc b i i = [] := by unfold pc; simp
      rw [this]
      exact .nil
    | more i k j hk h t ih =>
      obtain ⟨a1, a2, a3⟩ := (hg i k).mp h
      obtain ⟨b1, b2, b3⟩ := ih
      refine ⟨by omega, b2, ?_⟩
      rw [pc_app a1 b1]
      exact .cons _ _ a3 b3
  · rintro ⟨h1, h2, h⟩
    generalize e : pc b i j = s at h
    induction h generalizing i with
    | nil =>
      have := pc_len h1 h2
      rw [e] at this
      have : i = j := by simp at this; omega
      subst this
      exact .here i (by omega)
    | cons u v hu hv ih =>
      obtain ⟨c1, c2, c3, c4⟩ := pc_cut h1 h2 e
      have key := ih (i := i + u.length) c2 c4
      by_cases z : u.length = 0
      · have : i + u.length = i := by omega
        rw [this] at key
        exact key
      · exact .more i (i + u.length) j (by omega) ((hg _ _).mpr ⟨c1, by omega, by rw [c3]; exact hu⟩) key
theorem gr_iff (b : List Nat) : ∀ (r : Re) (i j : Nat), gr b r i j ↔ i ≤ j ∧ j ≤ b.length ∧ Ln r (pc b i j)
  | .leaf c h, i, j => by
    show (j = i + 1 ∧ ∃ x, b[i]? = some x ∧ (c = 46 ∨ x = c)) ↔ _
    constructor
    · rintro ⟨rfl, x, hx, hc⟩
      obtain ⟨hl, e⟩ := List.getElem?_eq_some_iff.mp hx
      refine ⟨by omega, by omega, x, ?_, hc⟩
      unfold pc
      rw [List.drop_eq_getElem_cons hl, e]
      have : i + 1 - i = 1 := by omega
      rw [this]
      simp
    · rintro ⟨h1, h2, x, hx, hc⟩
      have hl := pc_len h1 h2
      rw [hx] at hl
      have hj : j = i + 1 := by simp at hl; omega
      subst hj
      refine ⟨rfl, x, ?_, hc⟩
      have hi : i < b.length := by omega
      unfold pc at hx
      have e1 : i + 1 - i = 1 := by omega
      rw [e1] at hx
      have h0 := congrArg (fun l => l[0]?) hx
      simpa [List.getElem?_take, List.getElem?_drop] using h0
  | .j x y, i, j => by
    show (∃ k, gr b x i k ∧ gr b y k j) ↔ _
    constructor
    · rintro ⟨k, h1, h2⟩
      obtain ⟨a1, a2, a3⟩ := (gr_iff b x i k).mp h1
      obtain ⟨b1, b2, b3⟩ := (gr_iff b y k j).mp h2
      exact ⟨by omega, b2, _, _, pc_app a1 b1, a3, b3⟩
    · rintro ⟨h1, h2, u, v, e, hu, hv⟩
      obtain ⟨c1, c2, c3, c4⟩ := pc_cut h1 h2 e
      exact ⟨i + u.length, (gr_iff b x _ _).mpr ⟨c1, by omega, by rw [c3]; exact hu⟩, (gr_iff b y _ _).mpr ⟨c2, h2, by rw [c4]; exact hv⟩⟩
  | .e x y, i, j => by
    show (gr b x i j ∨ gr b y i j) ↔ _
    rw [gr_iff b x, gr_iff b y]
    constructor
    · rintro (⟨h1, h2, h3⟩ | ⟨h1, h2, h3⟩)
      · exact ⟨h1, h2, .inl h3⟩
      · exact ⟨h1, h2, .inr h3⟩
    · rintro ⟨h1, h2, h3 | h3⟩
      · exact .inl ⟨h1, h2, h3⟩
      · exact .inr ⟨h1, h2, h3⟩
  | .m x, i, j => gM_star (gr_iff b x)
end Sm

set_option Elab.async false
set_option linter.all false
set_option maxRecDepth 100000
namespace L2
open PySem PySem.Spec PyProof.Rows
open PySem.W (CodeHd tabObj fnX fnMade envX codeHdIn codeHd_of_K)

/-! ### function objects made by a def within a def: the code object, the cell, the function -/
structure FnS where
  name : Str
  qual : Str
  params : Arguments
  body : List Stmt
  scope : Scope
def codeH (c : Addr) (q : Str) : HO := .ext fun h => h.CodeRec (.ref c) q
def cellH (c : Addr) (x : V) : HO := .ext fun h => ∃ u, RelV x u ∧ h.IsCell c (some u)
def fnH (f : Addr) (S : FnS) (cl : List (Str × Addr)) (c : Addr) : HO := .ext fun h => ∃ doc pm ctv, h.get? f = some (fnMade S.name S.qual S.params S.body S.scope cl doc pm c ctv)
theorem codeH_ok {P : Program} {w : World} {H : Hp} {h : Heap} {c : Addr} {q : Str} (x : h.CodeRec (.ref c) q) : ObjOk P w H h c (codeH c q) := by
  refine ⟨x, ?_, fun h1 h2 p k => ?_⟩
  · obtain ⟨c₂, o, vs, t, e, ho, _⟩ := x
    cases e
    exact ⟨o, ho⟩
  · obtain ⟨c₂, o, vs, t, e, ho, r⟩ := p
    cases e
    exact ⟨c, o, vs, t, rfl, k o ho, r⟩
theorem cellH_ok {P : Program} {w : World} {H : Hp} {h : Heap} {c : Addr} {x : V} (z : ∃ u, RelV x u ∧ h.IsCell c (some u)) : ObjOk P w H h c (cellH c x) := by
  refine ⟨z, ?_, fun h1 h2 p k => ?_⟩
  · obtain ⟨u, _, o, ho, _⟩ := z
    exact ⟨o, ho⟩
  · obtain ⟨u, r, o, ho, d⟩ := p
    exact ⟨u, r, o, k o ho, d⟩
theorem fnH_ok {P : Program} {w : World} {H : Hp} {h : Heap} {f c : Addr} {S : FnS} {cl : List (Str × Addr)} {doc pm ctv : Value} (x : h.get? f = some (fnMade S.name S.qual S.params S.body S.scope cl doc pm c ctv)) : ObjOk P w H h f (fnH f S cl c) :=
  ⟨⟨doc, pm, ctv, x⟩, ⟨_, x⟩, fun h1 h2 ⟨d, p, t, e⟩ k => ⟨d, p, t, k _ e⟩⟩

/-! ### a code table grows, two objects are new -/
section
variable {X : Cx} {pins : List (Addr × Obj)} {σ : St} {H : Hp} {s : Shared}
theorem Inv.tabled {P c f : Addr} {ps more : Array Value} {o1 o2 : HO} {h' : Heap} {tk : Nat} (I : Inv X pins σ H s) (hP : H P = some (.tbl ps)) (k : ∀ b o, b ≠ P → s.heap.get? b = some o → h'.get? b = some o) (hP' : h'.get? P = some (tabObj (ps ++ more)))
    (hc : s.heap.objs.size ≤ c) (hf : s.heap.objs.size ≤ f) (ncf : c ≠ f) (n1 : ∀ H', ObjOk X.prog X.w H' h' c o1) (n2 : ∀ H', ObjOk X.prog X.w H' h' f o2) :
    Inv X pins σ (upd (upd (upd H P (.tbl (ps ++ more))) c o1) f o2) { s with heap := h', toks := tk } := by
  have lP : P < s.heap.objs.size := I.hok.lt hP
  have cP : c ≠ P := fun z => by rw [z] at hc; exact absurd (Nat.lt_of_lt_of_le lP hc) (Nat.lt_irrefl _)
  have fP : f ≠ P := fun z => by rw [z] at hf; exact absurd (Nat.lt_of_lt_of_le lP hf) (Nat.lt_irrefl _)
  have old : ∀ b, b ≠ P → b ≠ c → b ≠ f → (upd (upd (upd H P (.tbl (ps ++ more))) c o1) f o2) b = H b := fun b h1 h2 h3 => by rw [upd_ne h3, upd_ne h2, upd_ne h1]
  have nc : ∀ b u, H b = some u → b ≠ c ∧ b ≠ f := fun b u e => ⟨fun z => absurd (Nat.lt_of_lt_of_le (I.hok.lt e) (by rw [z]; exact hc)) (Nat.lt_irrefl _), fun z => absurd (Nat.lt_of_lt_of_le (I.hok.lt e) (by rw [z]; exact hf)) (Nat.lt_irrefl _)⟩
  have lt' : ∀ b o, s.heap.get? b = some o → b ≠ c ∧ b ≠ f := fun b o e => ⟨Nat.ne_of_lt (Nat.lt_of_lt_of_le (Heap.lt_size e) hc), Nat.ne_of_lt (Nat.lt_of_lt_of_le (Heap.lt_size e) hf)⟩
  have nP : ∀ b, H b = none → b ≠ P := fun b n z => by rw [z, hP] at n; cases n
  refine I.un ⟨fun b o e n _ _ => k b o (nP b n) e, fun b o e n _ _ => ⟨o.slots, k b o (nP b n) e⟩, fun b o e n _ => ?_, fun b o e _ => ?_, fun b xs e => ?_, fun b o u e => ?_, fun b qs e => ?_⟩ fun b u e => ?_
  · rw [old b (nP b n) (lt' b o e).1 (lt' b o e).2]
    exact n
  · by_cases z : b = P
    · rw [z]; exact ⟨_, hP'⟩
    · exact ⟨o, k b o z e⟩
  · rw [old b (ne_of e hP (by intro z; cases z)) (nc b _ e).1 (nc b _ e).2]
    exact e
  · rw [old b (ne_of e hP (by intro z; cases z)) (nc b _ e).1 (nc b _ e).2]
    exact e
  · by_cases z : b = P
    · subst z
      rw [hP] at e
      cases e
      exact ⟨more, by rw [upd_ne (Ne.symm fP), upd_ne (Ne.symm cP), upd_same]⟩
    · exact ⟨#[], by rw [old b z (nc b _ e).1 (nc b _ e).2, e]; simp⟩
  · by_cases z1 : b = f
    · subst z1
      rw [upd_same] at e
      cases e
      exact n2 _
    rw [upd_ne z1] at e
    by_cases z2 : b = c
    · subst z2
      rw [upd_same] at e
      cases e
      exact n1 _
    rw [upd_ne z2] at e
    by_cases z3 : b = P
    · subst z3
      rw [upd_same] at e
      cases e
      exact hP'
    rw [upd_ne z3] at e
    refine (I.hok b u e).stay (fun d v hd q => k d v ?_ q) (fun d q => ?_) fun d xs q => ?_
    · rcases hd with z | z
      · rw [z]; exact z3
      · exact ne_of z hP (by intro y; cases y)
    · rw [old d (ne_of q hP (by intro y; cases y)) (nc d _ q).1 (nc d _ q).2]
      exact q
    · rw [old d (ne_of q hP (by intro y; cases y)) (nc d _ q).1 (nc d _ q).2]
      exact q
end
/-- the module's __builtins__ -/
def BmAt (mg : Str → Option Value) (base : Heap) : Prop := ∃ bm ob, mg "__builtins__" = some (.ref bm) ∧ bm ≠ builtinsNs ∧ base.get? bm = some ob ∧ ob.cls = .type "module" ∧ ob.dict = some builtinsNs ∧ ob.data = .plain
/-! ### def within a def -/
def tDef (i : Nat) (P : Addr) (pos : Pos) (S : FnS) (cl : List (Str × Addr)) : TS := fun D σ H => ∃ ps : Array Value, H P = some (.tbl ps) ∧ TriplesOk ps.toList ∧
  ((codeAmong pos ps.toList = none ∧ ∀ c' f, H c' = none → H f = none → c' ≠ f → D.nx (σ.set i (some (.ref f))) (upd (upd (upd H P (.tbl (ps ++ #[rawInt pos.line, rawInt pos.col, .ref c']))) c' (codeH c' S.qual)) f (fnH f S cl c'))) ∨
   ∃ c', codeAmong pos ps.toList = some (.ref c') ∧ ∀ f, H f = none → D.nx (σ.set i (some (.ref f))) (upd H f (fnH f S cl c')))
theorem ps_def {X : Cx} {i : Nat} {name : Str} {params : Arguments} {body : List Stmt} {scope : Scope} {pos : Pos} {c P : Addr} (hN : X.N.Nodup) (hi : X.N[i]? = some name) (hx : Loc X.env.scope name) (hd0 : params.defaults = []) (hk0 : params.kw_defaults = [])
    (ha : annTrees params none X.env = []) (hcode : X.env.code = .ref c) (hC : codeHdIn X.K c P = true) (hcl : ∀ n, (n, NameKind.free) ∈ scope.names → ∃ c, X.env.cells.lookup n = some c) (hB : BmAt X.mg X.base)
    (hf : X.fn name = true ∨ X.env.scope.names.lookup name = some .local := by first | exact .inl rfl | exact .inr rfl) :
    PS X (.FunctionDef name params body [] none [] scope none name pos) (tDef i P pos ⟨name, qualnameIn X.env name name, params, body, scope⟩ (closL X.env.cells scope.names [])) := by
  intro pins s σ H D I h
  obtain ⟨ps, hP, ht, h⟩ := h
  have hPo : s.heap.get? P = some (tabObj ps) := I.hok P _ hP
  have hgs : s.heap.Ns mainGlobals X.mg := I.mod.glob.keeps I.bk
  have C : CodeHd s.heap c P := codeHd_of_K I.kIn hC
  obtain ⟨bm, ob, b1, b2, b3, b4, b5, b6⟩ := hB
  have hgP : mainGlobals ≠ P := fun q => by
    obtain ⟨o, es, ep, e, hd, _⟩ := hgs
    rw [q, hPo] at e
    cases e
    cases hd
  have hbP : bm ≠ P := fun q => by
    have := (I.bs bm ob b3).2
    rw [q, hP] at this
    cases this
  have hbG : bm ≠ mainGlobals := fun q => by
    obtain ⟨o, es, ep, e, hd, _⟩ := hgs
    have e2 := I.bk bm ob b3
    rw [q, e] at e2
    cases e2
    rw [hd] at b6
    cases b6
  have hB' : s.heap.BuiltinsAt X.mg P := ⟨bm, ob, b1, b2, hbG, hbP, I.bk _ _ b3, b4, b5, b6⟩
  refine PySem.W.nestDef_K hd0 hk0 ha ?_
  rcases h with ⟨hn, k⟩ | ⟨c', hf', k⟩
  · refine PySem.W.makeFunction_K (mg := X.mg) (closure_eq hcl) I.ok.glob hgs hcode C hPo ht hn hgP hB' fun c' ctv doc h' tk hx' hge hlt hrec htb => ?_
    have hff : s.heap.objs.size ≤ h'.objs.size := Nat.le_trans hge (Nat.le_of_lt hlt)
    have I' := I.tabled (c := c') (f := h'.objs.size) (h' := h'.push (fnMade name (qualnameIn X.env name name) params body scope (closL X.env.cells scope.names []) doc ((X.mg "__name__").getD .none) c' ctv)) (tk := tk) (o1 := codeH c' (qualnameIn X.env name name))
      (o2 := fnH h'.objs.size ⟨name, qualnameIn X.env name name, params, body, scope⟩ (closL X.env.cells scope.names []) c') hP (fun b o hb e => Heap.get?_push_of_some _ (hx' b o hb e)) (Heap.get?_push_of_some _ htb) hge hff (Nat.ne_of_lt hlt)
      (fun _ => codeH_ok (hrec.push _)) (fun _ => fnH_ok (S := ⟨name, qualnameIn X.env name name, params, body, scope⟩) (Heap.get?_push_size _ rfl))
    exact store_ok I' hN hi hx (v := .ref h'.objs.size) rfl (fun s' I'' => ⟨_, _, I'', k c' h'.objs.size (I.hok.fresh hge) (I.hok.fresh hff) (Nat.ne_of_lt hlt)⟩) hf
  · refine PySem.W.makeFunction_hit (mg := X.mg) (closure_eq hcl) I.ok.glob hgs hcode C hPo ht hf' hB' fun ctv doc h' tk hk hsz => ?_
    have I' := I.laid (a := h'.objs.size) (o := fnH h'.objs.size ⟨name, qualnameIn X.env name name, params, body, scope⟩ (closL X.env.cells scope.names []) c') (t' := tk) (h' := h'.push (fnMade name (qualnameIn X.env name name) params body scope (closL X.env.cells scope.names []) doc ((X.mg "__name__").getD .none) c' ctv))
      (fun b o e => Heap.get?_push_of_some _ (hk b o e)) hsz (fnH_ok (S := ⟨name, qualnameIn X.env name name, params, body, scope⟩) (Heap.get?_push_size _ rfl))
    exact store_ok I' hN hi hx (v := .ref h'.objs.size) rfl (fun s' I'' => ⟨_, _, I'', k h'.objs.size (I.hok.fresh hsz)⟩) hf

/-! ### a frame is left -/
theorem Un.leave {fs : List Addr} {H H' : Hp} {h h1 h' : Heap} {L : Addr} (k : ∀ b o, h.get? b = some o → h1.get? b = some o) (hL : h.objs.size ≤ L) (u : Un (L :: fs) [] H H' h1 h') : Un fs [] H H' h h' := by
  have ne : ∀ b o, h.get? b = some o → b ≠ L := fun b o e => Nat.ne_of_lt (Nat.lt_of_lt_of_le (Heap.lt_size e) hL)
  exact ⟨fun b o e n hb hx => u.keep b o (k b o e) n (fun z => (List.mem_cons.mp z).elim (ne b o e) hb) hx, fun b o e n hb hx => u.slot b o (k b o e) n (List.mem_cons_of_mem _ hb) hx,
    fun b o e n hx => u.free b o (k b o e) n hx, fun b o e hx => u.there b o (k b o e) hx, u.tups, u.frzs, u.tbls⟩
end L2

set_option Elab.async false
set_option linter.all false
set_option maxRecDepth 100000
namespace L2
open PySem PySem.Spec PyProof.Rows
open PySem.W (CodeHd tabObj fnX fnMade envX codeHdIn codeHd_of_K)
section
variable {X : Cx} {pins : List (Addr × Obj)} {σ : St} {H : Hp} {s s' : Shared} {h1 : Heap} {tk : Nat} {env : Env} {m : Str → Option Value}
theorem frs_cons {env : Env} {l : List Env} {L : Addr} (h : env.frame = some L) : frs (env :: l) = L :: frs l := by
  unfold frs
  rw [List.filterMap_cons, h]
/-- a callee's frame is laid: what its own callees want -/
theorem Inv.env0X (I : Inv X pins σ H s) (hn : h1.Ns s.heap.objs.size m) (k : ∀ b o, s.heap.get? b = some o → h1.get? b = some o) (hk : env.scope.kind ≠ .module) (hf : env.frame = some s.heap.objs.size) (hsz : s.heap.objs.size ≤ h1.objs.size) :
    Env0 X.prog X.w X.K X.mg X.base (X.A.deeper env) (env :: X.stack) { s with heap := h1, toks := tk } H := by
  refine ⟨Around.frames_deeper I.ok.frames, I.ok.mod, fun b o e => ⟨k _ _ (I.bs b o e).1, (I.bs b o e).2⟩, Nat.le_trans (Nat.le_trans I.ok.bsz I.sz) hsz, ?_, fun b hb => ?_, I.hok.kept k, I.bare⟩
  · refine Heap.FunFrames.cons hk hf hn (Heap.get?_none_of_le (Nat.le_trans I.ok.bsz I.sz)) ?_
    exact I.stack.of_keeps fun b o e _ => ⟨o, k b o e, rfl⟩
  · rw [frs_cons hf] at hb
    rcases List.mem_cons.mp hb with z | z
    · rw [z]; exact I.hok.fresh (Nat.le_refl _)
    · exact I.stkFree b z
/-- .. and the frame is left -/
theorem Inv.afterX {Q : VK} {u : Value} (I : Inv X pins σ H s) (k : ∀ b o, s.heap.get? b = some o → h1.get? b = some o) (hf : env.frame = some s.heap.objs.size) (h : CE (env :: X.stack) X.prog X.w H { s with heap := h1, toks := tk } Q u s') : EP X pins σ Q u s' := by
  obtain ⟨v, H', os, bare, un, hok, r, q⟩ := h
  rw [frs_cons hf] at un
  exact I.after ⟨v, H', os, bare, Un.leave k (Nat.le_refl _) un, hok, r, q⟩
/-- a closure is called -/
theorem call_clos {f c' : Addr} {S : FnS} {cl : List (Str × Addr)} {us : List Value} {binds : List (Str × Value)} {Q : Value → Shared → Prop} {E : Value → Shared → Prop} (I : Inv X pins σ H s) (hf : H f = some (fnH f S cl c')) (hc : H c' = some (codeH c' S.qual)) (hroom : X.A.depth < recursionLimit)
    (hbind : ∀ doc pm ctv, BindsTo s (fnX S.name S.qual S.params S.body S.scope cl .none .none doc pm none (.ref c') ctv) ⟨us, []⟩ binds) (hcell : ∀ x ∈ S.scope.names, x.2 ≠ .cell) (hloc : ∀ x ∈ binds, S.scope.names.lookup x.1 = some .local)
    (hco : S.scope.isCoroutine = false) (hgen : S.scope.isGenerator = false) (hk : S.scope.kind = .function)
    (h : ∀ h1, h1.Ns s.heap.objs.size (fun x => binds.reverse.lookup x) → (∀ b o, s.heap.get? b = some o → h1.get? b = some o) →
      wpAny (model X.prog X.w) (X.A.deeper (envX S.qual S.scope s.heap.objs.size f (.ref c') cl)) (execs S.body (envX S.qual S.scope s.heap.objs.size f (.ref c') cl)) (fun fl s' => Q (match fl with | .ret v => v | _ => .none) s') (fun _ _ => False) { s with heap := h1, toks := s.toks + binds.length }) :
    wpAny (model X.prog X.w) X.A (call (.ref f) us) Q E s := by
  obtain ⟨doc, pm, ctv, ho⟩ := (I.hok f _ hf).1
  have hcd : s.heap.CodeRec (.ref c') S.qual := (I.hok c' _ hc).1
  refine wpAny_call (codeAny_call_def (fd := fnX S.name S.qual S.params S.body S.scope cl .none .none doc pm none (.ref c') ctv) (body := S.body) (binds := binds) hroom ho rfl I.nolimit hcd rfl (hbind doc pm ctv) hcell hloc (fun h1 hns hk1 => ?_) hco hgen hk)
  exact wpAny_mono (h h1 hns hk1) (fun fl s' q => q) fun _ _ z => z.elim
end
end L2

set_option Elab.async false
set_option linter.all false
set_option maxRecDepth 100000
namespace L2
open PySem PySem.Spec PyProof.Rows
open PySem.W (CodeHd tabObj codeHdIn codeHd_of_K tabIn noTabs)
/-! ### the law's call, with the code table of one def tracked besides the script -/
theorem noTab_at {K : PySem.W.Frag} {h : Heap} {P : Addr} {o : Obj} (hK : noTabs K = true) (X : K.In h) (hP : h.get? P = some (tabObj #[])) (e : K.lookup P = some o) : False := by
  have h2 := List.all_eq_true.mp hK (P, o) (PySem.W.mem_of_lookupK e)
  have h3 := X P o e
  rw [hP] at h3
  cases h3
  exact absurd (show false = true from h2) Bool.false_ne_true
theorem law_callT {P : Program} {w : World} {K : PySem.W.Frag} {mg mb : Str → Option Value} {CX : CXT} {k : Nat} {fa a c Pt : Addr} {fd : FuncData} {x : Str} {sp : Sp} {s₁ : Shared} {vs : List Value} {ns : List Int}
    (KX : K.In s₁.heap) (hns : s₁.heap.Ns mainGlobals mg) (hb : s₁.heap.Ns builtinsNs mb) (hbb : ∀ x : Str, x ≠ "__name__" → mb x = bootBuiltins x) (hlim : s₁.heap.NoLimit) (hg : s₁.gens = #[])
    (ha : s₁.heap.get? a = some { cls := .type "list", data := .seq vs.toArray }) (hi : IntsAre vs ns) (hl : ns.length ≤ sizeLine) (hr : Room k callerA)
    (hC : CodeHd s₁.heap c Pt) (hP : s₁.heap.get? Pt = some (tabObj #[])) (hnt : noTabs K = true) (hbm : BmAt mg s₁.heap)
    (F : ∀ base : Heap, K.In base → base.Ns mainGlobals mg → BmAt mg base → FnOk P w K mg base CX k fa fd [x] sp) (hbind : ∀ (s : Shared) (u : Value), BindsTo s fd ⟨[u], []⟩ [(x, u)])
    (hsp : ∀ H : Hp, SqL K H a (ns.map V.int) → H Pt = some (.tbl #[]) → sp [.ref a] H (fun v _ => v = .bl true) fun _ _ _ => False)
    (hCX : ∀ H e s', CX [] H s₁ (fun _ _ _ => False) e s' → False) :
    codeAny (model P w) callerA (.call (.ref fa) ⟨[.ref a], []⟩) (fun r s' => r = .ok (.ret (.bool true)) ∧ OldK s₁.heap s'.heap ∧ s'.os = s₁.os ∧ AllBare s'.gens) s₁ := by
  have rv := vals_ints hi
  have lenV := hi.length
  have naP : a ≠ Pt := fun z => by
    rw [z, hP] at ha
    cases ha
  have core : ∀ H : Hp, (∀ b, b ≠ Pt → H b = none ∨ ∃ o xs, H b = some (.frz o (.lst xs))) → SqL K H a (ns.map V.int) → H Pt = some (.tbl #[]) → HOk P w H s₁.heap → (∀ b, H b ≠ none → b = a ∨ b = Pt) → (H a ≠ none → K.lookup a = none) →
      codeAny (model P w) callerA (.call (.ref fa) ⟨[.ref a], []⟩) (fun r s' => r = .ok (.ret (.bool true)) ∧ OldK s₁.heap s'.heap ∧ s'.os = s₁.os ∧ AllBare s'.gens) s₁ := by
    intro H hO hS hT hok hA hK
    have base_of : ∀ {b : Addr} {o : Obj}, s₁.heap.get? b = some o → H b = none → (hidT s₁.heap H).get? b = some o := fun e n => hidT_get e n
    have free_of : ∀ {b : Addr} {o : Obj}, s₁.heap.get? b = some o → (∀ ws : Array Value, o ≠ { cls := .type "list", data := .seq ws }) → o ≠ tabObj #[] → H b = none := fun {b o} e n1 n2 => by
      cases q : H b with
      | none => rfl
      | some u =>
        rcases hA b (by rw [q]; simp) with z | z
        · subst z
          rw [ha] at e; cases e
          exact absurd rfl (n1 _)
        · subst z
          rw [hP] at e; cases e
          exact absurd rfl n2
    have noA : ∀ {b : Addr} {o : Obj} {es : Array DictEntry} {ep : Nat}, s₁.heap.get? b = some o → o.data = .dict es ep → H b = none := fun {b o es ep} e d => by
      refine free_of e (fun ws z => ?_) fun z => ?_
      · rw [z] at d; cases d
      · rw [z] at d; cases d
    have nsK : ∀ {b : Addr} {m : Str → Option Value}, s₁.heap.Ns b m → (hidT s₁.heap H).Ns b m := fun {b m} ⟨o, es, ep, e, d, r⟩ => ⟨o, es, ep, base_of e (noA e d), d, r⟩
    have hKb : K.In (hidT s₁.heap H) := fun b o e => base_of (KX b o e) (by
      cases q : H b with
      | none => rfl
      | some u =>
        rcases hA b (by rw [q]; simp) with z | z
        · subst z
          rw [hK (by rw [q]; simp)] at e; cases e
        · subst z
          exact (noTab_at hnt KX hP e).elim)
    have hM : Mod K mg (hidT s₁.heap H) := ⟨hKb, nsK hns, ⟨mb, nsK hb, hbb⟩, let ⟨mc, h1, h2⟩ := hlim; ⟨mc, nsK h1, h2⟩⟩
    have hB : BmAt mg (hidT s₁.heap H) := by
      obtain ⟨bm, ob, b1, b2, b3, b4, b5, b6⟩ := hbm
      refine ⟨bm, ob, b1, b2, base_of b3 (free_of b3 (fun ws z => ?_) fun z => ?_), b4, b5, b6⟩
      · rw [z] at b6; cases b6
      · rw [z] at b6; cases b6
    have e0 : Env0 P w K mg (hidT s₁.heap H) callerA [] s₁ H := ⟨rfl, hM, fun b o e => of_hidT e, Nat.le_of_eq (hidT_size _ _), trivial, fun b hb => absurd (show b ∈ ([] : List Addr) from hb) (by simp), hok, .of_eq hg⟩
    refine codeAny_mono ((F _ hKb (nsK hns) hB).run callerA [] s₁ H ⟨[.ref a], []⟩ [.ref a] [.ref a] _ _ hr e0 (hbind s₁ (.ref a)) (.cons rfl .nil) (hsp H hS hT)) fun r s' h => ?_
    cases r with
    | error e => exact (hCX H e s' h).elim
    | ok fl =>
      cases fl with
      | next => exact False.elim h
      | brk => exact False.elim h
      | cont => exact False.elim h
      | ret u =>
        obtain ⟨v, H', os, bare, un, hok', r', q⟩ := h
        have q' : v = .bl true := q
        subst q'
        obtain rfl : u = Value.bool true := r'
        obtain ⟨more, hT'⟩ := un.tbls Pt _ hT
        have hP' : s'.heap.get? Pt = some (tabObj (#[] ++ more)) := hok' Pt _ hT'
        have keep : ∀ b o, b ≠ Pt → s₁.heap.get? b = some o → s'.heap.get? b = some o := fun b o nb e => by
          cases q : H b with
          | none => exact un.keep b o e q (by intro z; exact absurd (show b ∈ ([] : List Addr) from z) (by simp)) (by simp)
          | some u =>
            rcases hO b nb with z | ⟨ob, xs, z⟩
            · rw [q] at z; cases z
            · have z2 := un.frzs b ob _ z
              obtain ⟨e1, _⟩ := hok b _ z
              obtain ⟨e2, _⟩ := hok' b _ z2
              rw [e] at e1; cases e1
              exact e2
        refine ⟨rfl, ⟨fun b o e => ?_, fun b o e => ?_⟩, os, bare⟩
        · by_cases nb : b = Pt
          · subst nb
            rw [hP] at e
            cases e
            exact .inr (.inl ⟨(hC.tab hP).isCodeTable, rfl, #[], more, rfl, hP'⟩)
          · exact .inl (keep b o nb e)
        · by_cases nb : b = Pt
          · subst nb
            exact ⟨_, hP'⟩
          · exact ⟨o, keep b o nb e⟩
  cases hk : K.lookup a with
  | some o =>
    have e := KX a o hk
    rw [ha] at e
    cases e
    refine core (fun b => if b = Pt then some (.tbl #[]) else none) (fun b nb => .inl (if_neg nb)) (.inr ⟨_, vs.toArray, _, hk, rfl, rfl, rfl, by rw [List.size_toArray, lenV]; exact hl, by simpa using rv⟩) (if_pos rfl) (fun b u z => ?_) (fun b z => ?_) fun z => absurd (if_neg naP) z
    · by_cases hb : b = Pt
      · have z' := (if_pos hb).symm.trans z
        cases z'
        subst hb
        exact hP
      · have z' := (if_neg hb).symm.trans z
        cases z'
    · by_cases hb : b = Pt
      · exact .inr hb
      · exact absurd (if_neg hb) z
  | none =>
    refine core (fun b => if b = Pt then some (.tbl #[]) else if b = a then some (.frz { cls := .type "list", data := .seq vs.toArray } (.lst (ns.map V.int))) else none) (fun b nb => ?_) (.inl (.inr ⟨{ cls := .type "list", data := .seq vs.toArray }, (if_neg naP).trans (if_pos rfl)⟩)) (if_pos rfl) (fun b u z => ?_) (fun b z => ?_) fun _ => hk
    · by_cases hb : b = a
      · exact .inr ⟨_, _, (if_neg nb).trans (if_pos hb)⟩
      · exact .inl ((if_neg nb).trans (if_neg hb))
    · by_cases hc : b = Pt
      · have z' := (if_pos hc).symm.trans z
        cases z'
        subst hc
        exact hP
      · by_cases hb : b = a
        · have z' := ((if_neg hc).trans (if_pos hb)).symm.trans z
          cases z'
          subst hb
          exact ⟨ha, by rw [List.length_map]; exact hl, vs, _, rv, ha⟩
        · have z' := ((if_neg hc).trans (if_neg hb)).symm.trans z
          cases z'
    · by_cases hc : b = Pt
      · exact .inr hc
      · by_cases hb : b = a
        · exact .inl hb
        · exact absurd ((if_neg hc).trans (if_neg hb)) z
theorem walk_ofT {l : PySem.W.OpenLaw} {n k : Nat} {q : Program} {loose : List Str} {XP : (Str → Option Value) → Heap → Prop} {YP : World → Heap → Prop} {d : DefRec} {K : Params → PySem.W.Frag} {CX : World → CXT} {sp : World → Addr → Sp} {x y : Str}
    (hn : l.most = some n) (hn2 : n ≤ sizeLine) (hdf : d.params.defaults = []) (hr : Room k callerA)
    (hY : ∀ (w : World) (h : Heap), YP w h → (K w.params).In h)
    (F : ∀ (w : World) (mg : Str → Option Value) (fa : Addr) (h : Heap), (K w.params).In h → h.Ns mainGlobals mg → mg d.name = some (.ref fa) →
      ∃ (fd : FuncData) (c Pt : Addr) (dr : DefRec), (∀ (s : Shared) (u : Value), BindsTo s fd ⟨[u], []⟩ [(x, u)]) ∧ (recsOf q).find? (fun e => e.name == y) = some dr ∧ tabIn (K w.params) y = some (c, Pt) ∧ noTabs (K w.params) = true ∧
        ∀ base : Heap, (K w.params).In base → base.Ns mainGlobals mg → BmAt mg base → FnOk l.prog w (K w.params) mg base (CX w) k fa fd [x] (sp w Pt))
    (hsp : ∀ (w : World) (Pt : Addr) (H : Hp) (a : Addr) (ns : List Int), ns.length ≤ n → SqL (K w.params) H a (ns.map V.int) → H Pt = some (.tbl #[]) → sp w Pt [.ref a] H (fun v _ => v = .bl true) fun _ _ _ => False)
    (hCX : ∀ (w : World) (H : Hp) (s : Shared) (e : Value) (s' : Shared), CX w [] H s (fun _ _ _ => False) e s' → False) :
    PySem.W.WalkO q loose XP YP l.row.toRowW d [] (fun f vs => PySem.call f vs) := by
  refine Att.attach_call hn hdf fun w s₀ s₁ mg mb fa o pm cd doc a vs ns G Y ho hd hcd hmg hobj hints hlen hg => ?_
  have KX := hY w _ Y
  obtain ⟨fd, c, Pt, dr, hb, hrc, htb, hnt, hF⟩ := F w mg fa _ KX G.T.g hmg
  obtain ⟨hC, hP⟩ := PySem.W.tab_of G.T KX hrc htb
  exact law_callT KX G.T.g G.T.b G.T.builtins G.T.nolimit hg hobj hints (Nat.le_trans hlen hn2) hr hC hP hnt G.T.bmain hF hb (fun H hS hT => hsp w Pt H a ns hlen hS hT) fun H e s' => hCX w H s₁ e s'
end L2

set_option Elab.async false
set_option linter.all false
set_option maxRecDepth 100000
namespace L2
open PySem PySem.Spec PyProof.Rows
theorem hobj_there {P : Program} {w : World} {H : Hp} {h : Heap} {a : Addr} {o : HO} (x : ObjOk P w H h a o) : ∃ ob, h.get? a = some ob := by
  match o, x with
  | .lst _, ⟨_, _, _, _, q⟩ => exact ⟨_, q⟩
  | .tup _, ⟨_, _, _, ob, q, _⟩ => exact ⟨ob, q⟩
  | .dK _, ⟨_, _, _, _, ob, _, _, q, _⟩ => exact ⟨ob, q⟩
  | .dT _, ⟨_, _, _, _, ob, _, _, q, _⟩ => exact ⟨ob, q⟩
  | .set _ _, ⟨ob, _, _, _, q, _⟩ => exact ⟨ob, q⟩
  | .ins _ _ _, ⟨_, _, _, q, _⟩ => exact ⟨_, q⟩
  | .own _, q => exact q
  | .xd _, ⟨_, ⟨ob, _, _, q, _⟩, _⟩ => exact ⟨ob, q⟩
  | .rng _ _, ⟨_, _, _, q⟩ => exact ⟨_, q⟩
  | .frz ob _, ⟨q, _⟩ => exact ⟨ob, q⟩
  | .tbl _, q => exact ⟨_, q⟩
  | .met _ _, q => exact ⟨_, q⟩
  | .ext _, ⟨_, q, _⟩ => exact q
/-! ### an exception flies: what was there stays, the frames up to their slots -/
structure Raised (P : Program) (w : World) (fs : List Addr) (H H' : Hp) (h₀ h' B : Heap) : Prop where
  un : Un fs [] H H' h₀ h'
  hok : HOk P w H' h'
  frees : ∀ b ∈ fs, H' b = none
  dicts : ∀ b ∈ fs, ∃ o, h'.get? b = some o ∧ ∀ vs, o.data ≠ .fields vs
  bc : ∀ b o, h'.get? b = some o → b ∉ fs → (H' b ≠ none ∨ ∃ o₀, h₀.get? b = some o₀) → B.get? b = some o
section
variable {P : Program} {w : World} {fs : List Addr} {H H' : Hp} {h₀ h' h'' B : Heap}
/-- the object there, and where it goes -/
theorem Raised.old (r : Raised P w fs H H' h₀ h' B) {b : Addr} (hb : H' b ≠ none ∨ ∃ o₀, h₀.get? b = some o₀) : ∃ o, h'.get? b = some o := by
  rcases hb with hb | ⟨o₀, hb⟩
  · cases e : H' b with
    | none => exact absurd e hb
    | some u =>
      exact hobj_there (r.hok b u e)
  · exact r.un.there b o₀ hb (by simp)
theorem Raised.step (r : Raised P w fs H H' h₀ h' B) (st : B.StaysIn h'') (up : h'.UpToSlots h'') : Raised P w fs H H' h₀ h'' B := by
  have keep : ∀ b o, h'.get? b = some o → b ∉ fs → (H' b ≠ none ∨ ∃ o₀, h₀.get? b = some o₀) → h''.get? b = some o := fun b o e n hb => st b o (r.bc b o e n hb)
  have fr : ∀ b o, h'.get? b = some o → b ∈ fs → ∃ sl, h''.get? b = some { o with slots := sl } := fun b o e hb => by
    obtain ⟨o', e', nf⟩ := r.dicts b hb
    rw [e] at e'
    cases e'
    exact up b o e nf
  refine ⟨⟨fun b o e n hb hx => keep b o (r.un.keep b o e n hb hx) hb (.inr ⟨o, e⟩), fun b o e n hb hx => ?_, r.un.free, fun b o e hx => ?_, r.un.tups, r.un.frzs, r.un.tbls⟩, fun b u e => ?_, r.frees, fun b hb => ?_, fun b o e n hb => ?_⟩
  · obtain ⟨sl, e1⟩ := r.un.slot b o e n hb hx
    obtain ⟨sl', e2⟩ := fr b _ e1 hb
    exact ⟨sl', e2⟩
  · obtain ⟨o', e1⟩ := r.un.there b o e hx
    by_cases hb : b ∈ fs
    · obtain ⟨sl, e2⟩ := fr b o' e1 hb
      exact ⟨_, e2⟩
    · exact ⟨o', keep b o' e1 hb (.inr ⟨o, e⟩)⟩
  · refine (r.hok b u e).stay (fun d v hd q => ?_) (fun _ q => q) fun _ _ q => q
    have td : H' d ≠ none := by
      rcases hd with z | z
      · rw [z, e]; simp
      · rw [z]; simp
    exact keep d v q (fun z => td (r.frees d z)) (.inl td)
  · obtain ⟨o, e, nf⟩ := r.dicts b hb
    obtain ⟨sl, e2⟩ := fr b o e hb
    exact ⟨_, e2, nf⟩
  · obtain ⟨o', e'⟩ := r.old hb
    have z := keep b o' e' n hb
    rw [e] at z
    cases z
    exact r.bc b o e' n hb
end
/-- how an exception of the class at C lies behind a call -/
def CXN (P : Program) (w : World) (C : Addr) : CXT := fun outer H s E e s' =>
  ∃ (ea : Addr) (a0 : Value) (H' : Hp) (B : Heap), e = .ref ea ∧ s'.os = s.os ∧ AllBare s'.gens ∧ Raised P w (frs outer) H H' s.heap s'.heap B ∧ Heap.FlyingW B outer ea (.ref C) a0 s'.heap ∧ E (.ref C) none H'
section
variable {P : Program} {w : World} {K : PySem.W.Frag} {mg : Str → Option Value} {base : Heap} {N : List Str} {qual : Str} {scope : Scope} {f C : Addr} {cd : Value} {A : Around} {outer : List Env} {s : Shared} {H : Hp} {E : XK} {pins : List (Addr × Obj)} {σ : St}
/-- behind a call that raised: the caller's state -/
theorem Inv.raised {X : Cx} {H H' : Hp} {s s' : Shared} {B : Heap} (I : Inv X pins σ H s) (os : s'.os = s.os) (bare : AllBare s'.gens) (r : Raised X.prog X.w (frs X.stack) H H' s.heap s'.heap B) : Inv X pins σ H' s' :=
  I.call' os r.un r.hok bare fun b z => absurd z (by simp)
/-- the frame is left -/
theorem leave_fly {CX : CXT} {H1 H2 : Hp} {s1 s2 : Shared} {h'' B : Heap} {ea : Addr} {a0 : Value} (I : Inv (cxOf CX P w K mg base N qual scope f cd A outer s H E) pins σ H1 s1) (os : s2.os = s1.os) (bare : AllBare s2.gens)
    (r : Raised P w (frs (envOfC qual scope s.heap.objs.size f cd :: outer)) H1 H2 s1.heap s2.heap B) (fl : Heap.FlyingW B outer ea (.ref C) a0 h'') (up : s2.heap.UpToSlots h'') (hE : E (.ref C) none H2) :
    CXN P w C outer H s E (.ref ea) { s2 with heap := h'' } := by
  have r' := r.step fl.1 up
  have J : Inv (cxOf CX P w K mg base N qual scope f cd A outer s H E) pins σ H2 { s2 with heap := h'' } := I.raised (s' := { s2 with heap := h'' }) os bare r'
  have sub : ∀ b, b ∈ frs outer → b ∈ frs (envOfC qual scope s.heap.objs.size f cd :: outer) := fun b hb => by
    rw [frs_cons (L := s.heap.objs.size) rfl]
    exact List.mem_cons_of_mem _ hb
  refine ⟨ea, a0, H2, B, rfl, J.os, bare, ⟨J.base, J.hok, fun b hb => r'.frees b (sub b hb), fun b hb => r'.dicts b (sub b hb), fun b o e n hb => r'.bc b o e (fun z => ?_) ?_⟩, fl, hE⟩
  · rw [frs_cons (L := s.heap.objs.size) rfl] at z
    rcases List.mem_cons.mp z with z | z
    · rcases hb with hb | ⟨o₀, hb⟩
      · rw [z] at hb
        exact hb J.free
      · exact absurd (Heap.lt_size hb) (by rw [z]; exact Nat.lt_irrefl _)
    · exact n z
  · rcases hb with hb | ⟨o₀, hb⟩
    · exact .inl hb
    · exact .inr (I.base.there b o₀ hb (List.not_mem_nil))
/-- a callee's exception passes on -/
theorem passN : Passes (CXN P w C) (cxOf (CXN P w C) P w K mg base N qual scope f cd A outer s H E) E := by
  intro pins σ H1 s1 e s2 I h
  obtain ⟨ea, a0, H2, B, rfl, os, bare, r, fl, hE⟩ := h
  show wpAny _ _ _ _ _ _
  refine wpAny_leaves_onW (L := s.heap.objs.size) I.ok.frames rfl fl fun h' fl' up => ?_
  exact leave_fly I os bare r fl' up hE
/-- an exception is made and leaves the frame -/
theorem leave_made {H1 : Hp} {s1 : Shared} {h' : Heap} {ea : Addr} {vs : List Value} (I : Inv (cxOf (CXN P w C) P w K mg base N qual scope f cd A outer s H E) pins σ H1 s1) (hx : Heap.MadeExcOf s1.heap h' ea (.ref C) vs) (hE : E (.ref C) none H1) :
    (cxOf (CXN P w C) P w K mg base N qual scope f cd A outer s H E).xe (.ref ea) { s1 with heap := h' } := by
  have hin : ∀ env ∈ (envOfC qual scope s.heap.objs.size f cd :: outer), ∀ b, env.frame = some b → b ∈ frs (envOfC qual scope s.heap.objs.size f cd :: outer) := fun env he b hb => List.mem_filterMap.mpr ⟨env, he, hb⟩
  show wpAny _ _ _ _ _ _
  refine wpAny_leaves_madeW (base := PySem.W.hideAll s1.heap (frs (envOfC qual scope s.heap.objs.size f cd :: outer))) (h := s1.heap) (L := s.heap.objs.size) I.ok.frames rfl (fun b o q => PySem.W.of_hideAll _ q) (PySem.W.funFrames_hide I.stack hin) hx fun h'' t fl _ _ up => ?_
  have r : Raised P w (frs (envOfC qual scope s.heap.objs.size f cd :: outer)) H1 H1 s1.heap h' (PySem.W.hideAll s1.heap (frs (envOfC qual scope s.heap.objs.size f cd :: outer))) := by
    refine ⟨Un.kept hx.keeps, I.hok.kept hx.keeps, I.stkFree, fun b hb => ?_, fun b o e n hb => ?_⟩
    · obtain ⟨_, o, ho, nf⟩ := I.stack.mem hb
      exact ⟨o, hx.keeps b o ho, nf⟩
    · have e1 : s1.heap.get? b = some o := by
        rcases hb with hb | ⟨o₀, hb⟩
        · cases q : H1 b with
          | none => exact absurd q hb
          | some u =>
            obtain ⟨o', e'⟩ := hobj_there (I.hok b u q)
            have := hx.keeps b o' e'
            rw [e] at this
            cases this
            exact e'
        · have := hx.keeps b o₀ hb
          rw [e] at this
          cases this
          exact hb
      exact PySem.W.hideAll_get _ e1 n
  exact leave_fly (s2 := { s1 with heap := h' }) I rfl I.bare r fl up hE
end
end L2

set_option Elab.async false
set_option linter.all false
set_option maxRecDepth 100000
namespace L2
open PySem PySem.Spec PyProof.Rows
/-! ### the words of an exception -/
def Lows (l : List Nat) : Prop := l.length ≤ 1000 ∧ ∀ c ∈ l, c < 1000
theorem repr_small {l : List Nat} (h : Lows l) : (reprText (T l)).length ≤ 10002 := by
  have := PySem.StrLaws.reprText_len (T l) (fun c hc => Nat.lt_trans (h.2 c hc) (by decide))
  rw [T_len] at this
  have := h.1
  omega
section
variable {X : Cx} {e1 e2 : Expr} {t1 t2 : TE} {k : Str} {n : Nat} {p1 p2 p3 pos : Pos}
def tMsg (t1 t2 : TE) : TE := fun σ H Q => t1 σ H fun v1 H1 => ∃ l, v1 = .str (T l) ∧ Lows l ∧ t2 σ H1 fun v2 H2 => ∃ p : Nat, v2 = .int p ∧ p ≤ 1000 ∧ ∀ z, Q (.str z) H2
theorem pe_msg (h1 : PE X e1 t1) (h2 : PE X e2 t2) (hk : k.length ≤ 1000) : PE X (.JoinedStr [.FormattedValue e1 114 none p1, .Constant (.str k) n p2, .FormattedValue e2 (-1) none p3] pos) (tMsg t1 t2) := by
  intro pins s σ H Q I h
  refine wpAny_JoinedStr ?_
  show wpAny _ _ (eval (.FormattedValue e1 114 none p1) X.env) _ _ _
  refine wpAny_FormattedValue_repr (thn (h1 pins s σ H _ I h) fun u s1 ⟨v, H1, I1, r1, l, ev, hl, q1⟩ => ?_)
  subst ev
  obtain ⟨tk, rfl⟩ := r1
  have b1 := repr_small hl
  refine wpAny_pyReprObj_gives (typeIs_str _ _ _) F.slot_str_repr F.entry_str_repr (F.args_str_repr_1 _) (gives_str_repr _ _) ?_ rfl (small (by omega))
  refine PyProof.Rows.formatField_str (fun t' tk' => ?_) (small (by omega))
  refine ⟨_, _, rfl, ?_, ?_⟩
  · rw [strLen_append]
    show 0 + _ ≤ _
    exact small (by omega)
  show wpAny _ _ (eval (.Constant (.str k) n p2) X.env) _ _ _
  refine Calls.Constant_str ⟨_, _, rfl, ?_, ?_⟩
  · rw [strLen_append, strLen_append]
    show 0 + _ + _ ≤ _
    exact small (by omega)
  show wpAny _ _ (eval (.FormattedValue e2 (-1) none p3) X.env) _ _ _
  refine wpAny_FormattedValue_plain (thn (h2 pins _ σ H1 _ (I1.tok _) q1) fun u2 s2 ⟨v2, H2, I2, r2, p, ev2, hp, q2⟩ => ?_)
  subst ev2
  obtain ⟨tk2, rfl⟩ := r2
  have hd : ((p : Nat) : Int).natAbs.log2 < 1920 := by
    rw [Int.natAbs_natCast]
    by_cases z : p = 0
    · subst z; decide
    · have : p.log2 < 10 := (Nat.log2_lt z).mpr (Nat.lt_of_le_of_lt hp (by decide))
      omega
  have b2 : (Str.ofString (toString ((p : Nat) : Int))).length ≤ 5 := by
    rw [PySem.ofString_length]
    exact int_text_length_le10 (k := 4) (by decide) (by rw [Int.natAbs_natCast]; omega)
  refine wpAny_formatField_int hd ⟨_, _, rfl, ?_, ?_⟩
  · rw [strLen_append, strLen_append, strLen_append]
    show 0 + _ + _ + _ ≤ _
    exact small (by omega)
  refine ⟨?_, .str _, H2, (I2.tok _), ⟨_, rfl⟩, q2 _⟩
  rw [strLen_append, strLen_append, strLen_append]
  show 0 + _ + _ + _ ≤ _
  exact small (by omega)
end
/-! ### raise -/
section
variable {P : Program} {w : World} {K : PySem.W.Frag} {mg : Str → Option Value} {base : Heap} {N : List Str} {qual : Str} {scope : Scope} {f C : Addr} {cd : Value} {A : Around} {outer : List Env} {s₀ : Shared} {H₀ : Hp} {E : XK}
def tRaise (C : Addr) (E : XK) (t : TA) : TS := fun _ σ H => t σ H fun vs H1 => vs.length ≤ 1000 ∧ E (.ref C) none H1
theorem ps_raise {B newId initId : String} {bm : List Value} {x : Str} {np cpos pos : Pos} {e₀ : Expr} {rest : List Expr} {t : TA} (O : OwnCls x C bm newId mg base) (FB : ExcBaseFacts B newId initId bm)
    (hg : Gl (cxOf (CXN P w C) P w K mg base N qual scope f cd A outer s₀ H₀ E) x) (ha : PA (cxOf (CXN P w C) P w K mg base N qual scope f cd A outer s₀ H₀ E) (e₀ :: rest) t)
    (he : starEach (e₀ :: rest) (envOfC qual scope s₀.heap.objs.size f cd) = (false, eval e₀ (envOfC qual scope s₀.heap.objs.size f cd)) :: starEach rest (envOfC qual scope s₀.heap.objs.size f cd) := by rfl)
    (hpl : (backTo cpos (starEach rest (envOfC qual scope s₀.heap.objs.size f cd))).any (·.1) = false := by rfl) (hd : (x == ("__debug__" : Str)) = false := by decide) :
    PS (cxOf (CXN P w C) P w K mg base N qual scope f cd A outer s₀ H₀ E) (.Raise (some (.Call (.Name x np) (e₀ :: rest) [] cpos)) none pos) (tRaise C E t) := by
  intro pins s σ H D I h
  obtain ⟨tl, Nc, nm, q, bs, hdct, sn, sub, ab, col, dd, k0, k1, k2, k3, k5, mN, hC, hN, hni, TL⟩ := O.obj
  have ha' := ha
  refine wpAny_Raise_call_subT (C := C) (nm := nm) (q := q) (N := Nc) (bs := bs) (bm := tl) (hdct := hdct) (sn := sn) (sub := sub) (ab := ab) (col := col) (dd := dd) (k0 := k0) (k1 := k1) (k2 := k2) (k3 := k3) (k5 := k5) FB (mN := mN) (TL.hasType FB.hasBase) (I.ok.hd rfl)
    (by show (backTo cpos (starEach (e₀ :: rest) (envOfC qual scope s₀.heap.objs.size f cd))).any (·.1) = false; rw [he]; show (false || (backTo cpos (starEach rest (envOfC qual scope s₀.heap.objs.size f cd))).any (·.1)) = false; rw [hpl]; rfl) hni (ld_glob I hg O.bound ⟨rfl, ?_⟩ hd)
  have go := ha cpos pins s σ H _ I h
  have he' : starEach (e₀ :: rest) (cxOf (CXN P w C) P w K mg base N qual scope f cd A outer s₀ H₀ E).env = (false, eval e₀ (envOfC qual scope s₀.heap.objs.size f cd)) :: starEach rest (envOfC qual scope s₀.heap.objs.size f cd) := he
  rw [he'] at go ⊢
  refine Calls.evalArgs_plain (thn go fun us s1 ⟨vs, H1, I1, rv, hl, hE⟩ => ⟨rfl, ?_, I1.bk _ _ hC, hN.keeps I1.bk, TL.keeps I1.bk, fun h' e hm => leave_made I1 hm hE⟩)
  show us.length ≤ sizeLine
  rw [← rv.length]
  exact small (by omega)
end
/-- the first statement does not go through -/
def tHead (t : TS) : TS := fun D σ H => t { nx := fun _ _ => False, rt := D.rt, bk := D.bk, ct := D.ct } σ H
theorem pss_head {X : Cx} {st : Stmt} {rest : List Stmt} {t : TS} (h : PS X st t) : PSs X (st :: rest) (tHead t) := by
  intro pins s σ H D I q
  refine wpAny_execs_cons (thn (h pins s σ H _ I q) fun fl s1 z => ?_)
  cases fl with
  | next => obtain ⟨_, _, _, z⟩ := z; exact z.elim
  | ret v => exact z
  | brk => exact z
  | cont => exact z
/-- two promises of one def -/
theorem FnOk.two {P : Program} {w : World} {K : PySem.W.Frag} {mg : Str → Option Value} {base : Heap} {CX : CXT} {k : Nat} {f : Addr} {fd : FuncData} {ps : List Str} {sp1 sp2 : Sp} (F1 : FnOk P w K mg base CX0 k f fd ps sp1) (F2 : FnOk P w K mg base CX k f fd ps sp2) :
    FnOk P w K mg base CX k f fd ps (fun vs H Q E => sp1 vs H Q E ∨ sp2 vs H Q E) := by
  refine ⟨fun vs H Q E h => h.elim (F1.len vs H Q E) (F2.len vs H Q E), fun A outer s H args us vs Q E hr e0 hb r h => ?_⟩
  rcases h with h | h
  · refine codeAny_mono (F1.run A outer s H args us vs Q E hr e0 hb r h) fun x s' z => ?_
    cases x with
    | error e => exact z.elim
    | ok fl => cases fl <;> exact z
  · exact F2.run A outer s H args us vs Q E hr e0 hb r h
/-- a def that may raise -/
theorem okX {P : Program} {w : World} {K : PySem.W.Frag} {mg : Str → Option Value} {base : Heap} {C : Addr} {x qual : Str} {st : Stmt} {f : Addr} {fd : FuncData} {N ps : List Str} {k : Nat} {sp : Sp} (F : Fun K x qual st f fd) (S : FnScope N ps (defScope st))
    (len : ∀ vs H Q E, sp vs H Q E → vs.length = ps.length)
    (hbody : ∀ (cdv : Value) (A : Around) (outer : List Env) (s : Shared) (H : Hp) (vs : List V) (Q : VK) (E : XK), Room k (A.deeper (envOfC qual (defScope st) s.heap.objs.size f cdv)) → sp vs H Q E →
      ∃ t, PSs (cxOf (CXN P w C) P w K mg base N qual (defScope st) f cdv A outer s H E) (defBody st) t ∧ t { nx := fun _ H' => Q .non H', rt := Q } (start N vs) H) : FnOk P w K mg base (CXN P w C) (k + 1) f fd ps sp := by
  obtain ⟨oc, od, kV, doc, pm, an, cdv, ct, osl, rfl, lk, hcd⟩ := F.ex
  exact fn_of lk hcd S len fun A outer s H vs Q E hr hsp => hbody cdv A outer s H vs Q E hr hsp
end L2

set_option Elab.async false
set_option linter.all false
set_option maxRecDepth 100000
namespace L2
open PySem PySem.Spec PyProof.Rows
open PySem.W (Looks kit_cls kitCls exmOne exm_one)
/-! ### a def whose body is run by hand -/
theorem fn_raw {CX : CXT} {P : Program} {w : World} {K : PySem.W.Frag} {mg : Str → Option Value} {base : Heap} {x qual : Str} {st : Stmt} {f : Addr} {fd : FuncData} {N ps : List Str} {k : Nat} {sp : Sp} (F : Fun K x qual st f fd) (S : FnScope N ps (defScope st))
    (len : ∀ vs H Q E, sp vs H Q E → vs.length = ps.length)
    (hbody : ∀ (cdv : Value) (A : Around) (outer : List Env) (s : Shared) (H : Hp) (vs : List V) (Q : VK) (E : XK) (s1 : Shared), Room k (A.deeper (envOfC qual (defScope st) s.heap.objs.size f cdv)) → sp vs H Q E →
      Inv (cxOf CX P w K mg base N qual (defScope st) f cdv A outer s H E) [] (start N vs) H s1 →
      wpAny (model P w) (A.deeper (envOfC qual (defScope st) s.heap.objs.size f cdv)) (execs (defBody st) (envOfC qual (defScope st) s.heap.objs.size f cdv)) (fun fl s' => ∃ u, fl = .ret u ∧ CE outer P w H s Q u s') (fun _ _ => False) s1) :
    FnOk P w K mg base CX (k + 1) f fd ps sp := by
  obtain ⟨oc, od, kV, doc, pm, an, cdv, ct, osl, rfl, lk, hcd⟩ := F.ex
  refine ⟨len, fun A outer s H args us vs Q E hr e0 hb r hsp => ?_⟩
  have KX : K.In s.heap := e0.mod.kin.keeps fun b o e => (e0.bs b o e).1
  have hkind : ∀ y ∈ ps.zip us, (defScope st).names.lookup y.1 = some .local ∨ ((defScope st).names.lookup y.1 = some .cell ∧ ((cellsFrom (s.heap.objs.size + 1) (defScope st).names []).lookup y.1).isSome = true) := fun ⟨n, v⟩ hy =>
    (S.par n (List.of_mem_zip hy).1).imp (fun q => q) fun q => ⟨q, PySem.W.cellsFrom_some _ _ _ (.inl q)⟩
  refine codeAny_call_function hr.depth (KX _ _ lk) rfl S.co S.gen rfl (PySem.W.codeRec_of KX hcd) (hb _ _ _ _ (wpAny_newFunctionEnv_cells S.kind hkind fun env he s1 x => ?_))
  subst he
  refine ⟨(e0.mod.nolimit.keeps fun b o e => (e0.bs b o e).1).keeps x.toInCall.keep, codeAny_func ?_⟩
  refine wpAny_mono (hbody cdv A outer s H vs Q E s1 (hr.deeper _) hsp (inv_start S hr.hd e0 (len _ _ _ _ hsp) r x)) (fun fl s' hs => ?_) fun e s' z => z.elim
  obtain ⟨u, rfl, h⟩ := hs
  exact h
/-- the def's end, from its state -/
theorem Inv.ce {CX : CXT} {P : Program} {w : World} {K : PySem.W.Frag} {mg : Str → Option Value} {base : Heap} {N : List Str} {qual : Str} {scope : Scope} {f : Addr} {cd : Value} {A : Around} {outer : List Env} {s s' : Shared} {H H' : Hp} {E : XK} {pins : List (Addr × Obj)} {σ : St} {Q : VK} {v : V} {u : Value}
    (J : Inv (cxOf CX P w K mg base N qual scope f cd A outer s H E) pins σ H' s') (rv : RelV v u) (q : Q v H') : CE outer P w H s Q u s' := ⟨v, H', J.os, J.bare, J.base, J.hok, rv, q⟩
theorem Inv.nopins {X : Cx} {pins : List (Addr × Obj)} {σ : St} {H : Hp} {s : Shared} (I : Inv X pins σ H s) : Inv X [] σ H s := I.pins_of fun p hp => absurd hp (by simp)

/-! ### try .. except -/
section
variable {X : Cx} {pins : List (Addr × Obj)} {σ : St} {H : Hp} {s s' : Shared} {C D L : Addr} {E : XK} {x : Str} {np hp : Pos} {b₀ : Stmt} {suite : List Stmt} {rest : List ExceptHandler} {Q : Flow → Shared → Prop} {Ex : Value → Shared → Prop} {e : Value}
theorem caught0 (I : Inv X pins σ H s) (hst : X.stack = X.env :: X.outer) (hf : X.env.frame = some L) (hg : Gl X x) (hm : X.mg x = some (.ref D)) (hx : exmOne X.K (.ref C) (.ref D) = some true) (h : CXN X.prog X.w C X.stack H s E e s')
    (k : ∀ (ea : Addr) (H' : Hp) (s'' : Shared) (Ey : Value → Shared → Prop), Inv X pins σ H' s'' → E (.ref C) none H' → (∃ ob, s''.heap.get? ea = some ob ∧ ob.cls = .ref C) → wpAny (model X.prog X.w) (X.A.mark (some (.ref ea))) (execs (b₀ :: suite) X.env) Q Ey s'')
    (hd : (x == ("__debug__" : Str)) = false := by decide) :
    wpAny (model X.prog X.w) X.A (noteFrame e X.env) (fun _ s₂ => wpAny (model X.prog X.w) X.A (setFlight e none) (fun _ s₃ => wpAny (model X.prog X.w) X.A (handleBy e X.env (.ExceptHandler (some (.Name x np)) none (b₀ :: suite) hp :: rest)) Q Ex s₃) Ex s₂) Ex s' := by
  obtain ⟨ea, a0, H', B, rfl, os, bare, r, fl, hE⟩ := h
  have fl' := fl
  rw [hst] at fl'
  have fr := I.ok.frames
  rw [hst] at fr
  refine wpAny_looks_onW fr hf fl' fun h4 held up4 => ?_
  refine wpAny_landsW held fun h5 fl5 up5 => ?_
  have r5 := (r.step held.1 up4).step fl5.1 up5
  have I5 : Inv X pins σ H' { s' with heap := h5 } := I.raised (s' := { s' with heap := h5 }) os bare r5
  obtain ⟨ob, hob, hcls⟩ := fl5.there
  refine wpAny_handleBy_cons (codeAny_handlers_test (Calls.Name_function_global I.ok.kind hg (Calls.loadGlobal_global (mg := X.mg) (by rw [I.ok.glob]; exact I5.mod.glob.keeps I5.bk) hm ?_) hd)) (by intro q; cases q)
  have LT : Looks (model X.prog X.w) h5 (typeOf (.ref ea)) (.ref C) := hcls ▸ (Looks.ld hob).andThen .now
  refine (exm_one (K := X.K) I5.kIn LT hx).here ?_
  refine codeAny_handlers_suite ?_
  refine lands_againW fl5 fun h6 fl6 up6 => ?_
  have r6 := r5.step fl6.1 up6
  exact k ea H' _ _ (I.raised (s' := { s' with heap := h6 }) os bare r6) hE fl6.there
theorem caughtB {n : Str} {i : Nat} (I : Inv X pins σ H s) (hst : X.stack = X.env :: X.outer) (hf : X.env.frame = some L) (hg : Gl X x) (hm : X.mg x = some (.ref D)) (hx : exmOne X.K (.ref C) (.ref D) = some true) (h : CXN X.prog X.w C X.stack H s E e s')
    (hN : X.N.Nodup) (hi : X.N[i]? = some n) (hl : X.env.scope.names.lookup n = some .local)
    (k : ∀ (ea : Addr) (H' : Hp) (s'' : Shared) (Ey : Value → Shared → Prop), Inv X pins (σ.set i (some (.ref ea))) H' s'' → E (.ref C) none H' → (∃ ob, s''.heap.get? ea = some ob ∧ ob.cls = .ref C) →
      wpAny (model X.prog X.w) (X.A.mark (some (.ref ea))) (execs (b₀ :: suite) X.env) (fun f s₄ => wpAny (model X.prog X.w) X.A (do bindName X.env n .none; unbindBehindTheSuite X.env n hp) (fun _ s₅ => Q f s₅) Ex s₄) Ey s'')
    (hd : (x == ("__debug__" : Str)) = false := by decide) :
    wpAny (model X.prog X.w) X.A (noteFrame e X.env) (fun _ s₂ => wpAny (model X.prog X.w) X.A (setFlight e none) (fun _ s₃ => wpAny (model X.prog X.w) X.A (handleBy e X.env (.ExceptHandler (some (.Name x np)) (some n) (b₀ :: suite) hp :: rest)) Q Ex s₃) Ex s₂) Ex s' := by
  obtain ⟨ea, a0, H', B, rfl, os, bare, r, fl, hE⟩ := h
  have fl' := fl
  rw [hst] at fl'
  have fr := I.ok.frames
  rw [hst] at fr
  refine wpAny_looks_onW fr hf fl' fun h4 held up4 => ?_
  refine wpAny_landsW held fun h5 fl5 up5 => ?_
  have r5 := (r.step held.1 up4).step fl5.1 up5
  have I5 : Inv X pins σ H' { s' with heap := h5 } := I.raised (s' := { s' with heap := h5 }) os bare r5
  obtain ⟨ob, hob, hcls⟩ := fl5.there
  refine wpAny_handleBy_cons (codeAny_handlers_test (Calls.Name_function_global I.ok.kind hg (Calls.loadGlobal_global (mg := X.mg) (by rw [I.ok.glob]; exact I5.mod.glob.keeps I5.bk) hm ?_) hd)) (by intro q; cases q)
  have LT : Looks (model X.prog X.w) h5 (typeOf (.ref ea)) (.ref C) := hcls ▸ (Looks.ld hob).andThen .now
  refine (exm_one (K := X.K) I5.kIn LT hx).here ?_
  refine codeAny_handlers_suite_as ?_
  refine lands_againW fl5 fun h6 fl6 up6 => ?_
  have r6 := r5.step fl6.1 up6
  have I6 : Inv X pins σ H' { s' with heap := h6 } := I.raised (s' := { s' with heap := h6 }) os bare r6
  obtain ⟨ob6, hob6, hcls6⟩ := fl6.there
  refine store_ok2 (v := .ref ea) I6 hN hi (.inl hl) rfl (fun s7 I7 ⟨a, sb, ha⟩ => ?_) (.inr hl)
  refine k ea H' s7 _ I7 hE ⟨ob6, (sb.2 ea (fun z => ?_)).trans hob6, hcls6⟩
  obtain ⟨oe, vs, T0, oT, ts, e1, _, e3, _⟩ := fl6.2.2.2
  rcases ha with ha | ha
  · obtain ⟨m, ⟨oL, es, ep, eL, dL, _⟩, _⟩ := I6.loc
    have e1' : h6.get? ea = some oe := e1
    have eL' : h6.get? X.env.locals = some oL := eL
    rw [z, ha, eL'] at e1'
    cases e1'
    rw [dL] at e3
    cases e3
  · obtain ⟨v, oc, ec, dc⟩ := I6.cell n a ha
    have e1' : h6.get? ea = some oe := e1
    have ec' : h6.get? a = some oc := ec
    rw [z, ec'] at e1'
    cases e1'
    rw [dc] at e3
    cases e3
end
/-- isinstance of an exception -/
theorem isi_exc {K : PySem.W.Frag} {P : Program} {w : World} {A : Around} {E : Value → Shared → Prop} {s : Shared} {Q : Value → Shared → Prop} {ea C : Addr} {ob : Obj} {Ty : String} (KX : K.In s.heap) (hob : s.heap.get? ea = some ob) (hc : ob.cls = .ref C) (hk : kitCls K (.ref C) (.type Ty) = some true) (h : Q (.bool true) s) :
    wpAny (model P w) A (call (.builtin "isinstance") [.ref ea, .type Ty]) Q E s := by
  obtain ⟨l1, l2, l3⟩ := kit_cls (M := model P w) KX hk
  have l0 : Looks (model P w) s.heap (typeOf (.ref ea)) (.ref C) := hc ▸ (Looks.ld hob).andThen .now
  have l4 : Looks (model P w) s.heap (isInstance (.ref ea) (.type Ty)) true := l0.andThen l3
  refine PyProof.Rows.call_isinstance_of ?_ (by intro q; cases q)
  unfold Builtin.«isinstance.nested»
  refine wpAny_bind (l0.here ?_)
  rw [if_neg (by intro q; cases eq_of_beq q)]
  refine wpAny_bind (l1.here ?_)
  rw [if_pos (by decide)]
  refine wpAny_bind (wpAny_bind (m := isType (.type Ty)) (wpAny_pure (a := true) ?_))
  refine wpAny_bind (m := isInstance (.ref ea) (.type Ty)) (l4.here ?_)
  exact wpAny_pure (a := true) (wpAny_pure h)
end L2

set_option Elab.async false
set_option linter.all false
set_option maxRecDepth 100000
namespace L2
open PySem PySem.Spec PyProof.Rows
def xeOf (X : Cx) (hs : List ExceptHandler) (Q : Flow → Shared → Prop) (Ex : Value → Shared → Prop) : Value → Shared → Prop := fun e s₁ =>
  wpAny (model X.prog X.w) X.A (noteFrame e X.env) (fun _ s₂ => wpAny (model X.prog X.w) X.A (setFlight e none) (fun _ s₃ => wpAny (model X.prog X.w) X.A (handleBy e X.env hs) Q Ex s₃) Ex s₂) Ex s₁
theorem try_run {X : Cx} {body : List Stmt} {h₀ : ExceptHandler} {hs : List ExceptHandler} {pos : Pos} {σ : St} {H : Hp} {s : Shared} {Q : Flow → Shared → Prop} {Ex : Value → Shared → Prop} {t : TS} {D : Ends} (hb : PSs (X.wish (xeOf X (h₀ :: hs) Q Ex)) body t) (I : Inv X [] σ H s) (q : t D σ H)
    (fin : ∀ fl s2, SP X [] D fl s2 → Q fl s2) : wpAny (model X.prog X.w) X.A (exec (.Try body (h₀ :: hs) [] [] pos) X.env) Q Ex s := by
  refine wpAny_Try_except (thn (hb [] s σ H D (I.wish _) q) fun f s₁ z => ?_)
  cases f with
  | next =>
    obtain ⟨σ', H', J, z⟩ := z
    exact wpAny_execs_nil (fin .next s₁ ⟨σ', H', J.unwish, z⟩)
  | ret u =>
    obtain ⟨v, σ', H', J, z⟩ := z
    exact fin (.ret u) s₁ ⟨v, σ', H', J.unwish, z⟩
  | brk =>
    obtain ⟨σ', H', J, z⟩ := z
    exact fin .brk s₁ ⟨σ', H', J.unwish, z⟩
  | cont =>
    obtain ⟨σ', H', J, z⟩ := z
    exact fin .cont s₁ ⟨σ', H', J.unwish, z⟩
theorem Inv.ceBut {CX : CXT} {P : Program} {w : World} {K : PySem.W.Frag} {mg : Str → Option Value} {base : Heap} {N : List Str} {qual : Str} {scope : Scope} {f : Addr} {cd : Value} {A : Around} {outer : List Env} {s s' : Shared} {H H' : Hp} {E : XK} {pins : List (Addr × Obj)} {σ : St} {Q : VK} {v : V} {u : Value} {h' : Heap} {tk : Nat}
    (J : Inv (cxOf CX P w K mg base N qual scope f cd A outer s H E) pins σ H' s') (sb : Heap.SameBut s.heap.objs.size s'.heap h') (rv : RelV v u) (q : Q v H') : CE outer P w H s Q u { s' with heap := h', toks := tk } := by
  have ne : ∀ b o, s.heap.get? b = some o → b ≠ s.heap.objs.size := fun b o e => Nat.ne_of_lt (Heap.lt_size e)
  have fr : H' s.heap.objs.size = none := J.free
  refine ⟨v, H', J.os, J.bare, ⟨fun b o e n hb hx => (sb.2 b (ne b o e)).trans (J.base.keep b o e n hb hx), fun b o e n hb hx => ?_, J.base.free, fun b o e hx => ?_, J.base.tups, J.base.frzs, J.base.tbls⟩, fun b o e => ?_, rv, q⟩
  · obtain ⟨sl, z⟩ := J.base.slot b o e n hb hx
    exact ⟨sl, (sb.2 b (ne b o e)).trans z⟩
  · obtain ⟨o', z⟩ := J.base.there b o e hx
    exact ⟨o', (sb.2 b (ne b o e)).trans z⟩
  · refine (J.hok b o e).stay (fun d x hd z => (sb.2 d fun y => ?_).trans z) (fun _ z => z) fun _ _ z => z
    rw [y] at hd
    rcases hd with hd | hd
    · rw [← hd, fr] at e; cases e
    · rw [fr] at hd; cases hd
/-- a built-in's name, whatever runs around -/
theorem ld_bltA {X : Cx} {M : Model} {A : Around} {E : Value → Shared → Prop} {pins : List (Addr × Obj)} {s : Shared} {σ : St} {H : Hp} {x : Str} {u : Value} {pos : Pos} {Q : Value → Shared → Prop} (I : Inv X pins σ H s) (hg : Gl X x) (hm : X.mg x = none) (hv : bootBuiltins x = some u) (h : Q u s)
    (hn : x ≠ "__name__" := by decide) (hd : (x == ("__debug__" : Str)) = false := by decide) : wpAny M A (eval (.Name x pos) X.env) Q E s := by
  obtain ⟨mb, n1, n2⟩ := I.mod.blt
  have gl : s.heap.Ns X.env.globals X.mg := by rw [I.ok.glob]; exact I.mod.glob.keeps I.bk
  have bl : s.heap.Ns X.env.builtins mb := by rw [I.ok.blt]; exact n1.keeps I.bk
  exact Calls.Name_function_global I.ok.kind hg (Calls.loadGlobal_builtin gl hm bl ((n2 x hn).trans hv) h) hd
theorem boot_ValueError : bootBuiltins "ValueError" = some (.type "ValueError") := by decide +kernel
end L2

set_option Elab.async false
set_option linter.all false
set_option maxRecDepth 100000
namespace L2
open PySem PySem.Spec PyProof.Rows
/-! ### "".join of signs, a text some times -/
theorem str_T (x : Str) : x = T x.cps.toList := by
  obtain ⟨a⟩ := x
  obtain ⟨l⟩ := a
  rfl
theorem fold_cat : ∀ (n : Nat) (a acc : Array Nat), ((List.replicate n a).foldl (· ++ ·) acc).size = acc.size + n * a.size
  | 0, a, acc => by simp
  | n + 1, a, acc => by
    rw [List.replicate_succ, List.foldl_cons, fold_cat n a (acc ++ a), Array.size_append, Nat.succ_mul]
    omega
def rMulS : R2 := fun x y H Q => ∃ (l : List Nat) (n : Nat), x = .str (T l) ∧ y = .int (n : Int) ∧ 1 ≤ n ∧ n ≤ 10 ∧ l.length ≤ 1000 ∧ ∀ l' : List Nat, l'.length = l.length * n → Q (.str (T l')) H
section
variable {X : Cx}
theorem op_mul_str : OpR X (binaryOp .Mult) rMulS := by
  intro pins s σ H x y v u Q I rx ry h
  obtain ⟨l, n, rfl, rfl, h1, h10, hl, k⟩ := h
  obtain ⟨t, rfl⟩ := rx
  obtain ⟨tu, rfl⟩ := ry
  have hm : l.length * n ≤ 10000 := Nat.le_trans (Nat.mul_le_mul hl h10) (by decide)
  have tl := T_len l
  refine PySem.P.mul_str ?_ (fun _ _ => ?_) (fun _ _ => ?_) ?_
  · rw [decide_eq_false (by omega), decide_eq_false (by omega)]
    rfl
  · rw [tl]
    have : (1000 : Int) ≤ (2 ^ 63 - 1) / (n : Int) := by
      rw [Int.le_ediv_iff_mul_le (by omega)]
      omega
    omega
  · rw [tl, Int.toNat_natCast]
    unfold Builtin.Str.tooLong
    exact decide_eq_false (Nat.not_lt.mpr (small (by omega)))
  · rw [if_neg (by omega)]
    by_cases q : ((n : Int) == 1 || (T l).length == 0) = true
    · rw [if_pos q]
      refine ⟨.str (T l), H, I, ⟨t, rfl⟩, k l ?_⟩
      rw [tl] at q
      rcases Bool.or_eq_true_iff.mp q with z | z
      · have z' : (n : Int) = 1 := eq_of_beq z
        have : n = 1 := by omega
        rw [this, Nat.mul_one]
      · have z' : l.length = 0 := eq_of_beq z
        rw [z', Nat.zero_mul]
    · rw [if_neg q]
      have sz : ((List.replicate n (T l).cps).foldl (· ++ ·) #[]).size = l.length * n := by
        rw [fold_cat]
        show 0 + n * l.toArray.size = _
        rw [List.size_toArray, Nat.mul_comm]
        omega
      rw [Int.toNat_natCast]
      refine ⟨?_, .str (T ((List.replicate n (T l).cps).foldl (· ++ ·) #[]).toList), H, I.tok _, ⟨s.toks, ?_⟩, k _ ?_⟩
      · show ((List.replicate n (T l).cps).foldl (· ++ ·) #[]).size ≤ _
        rw [sz]
        exact small (by omega)
      · rw [← str_T ⟨(List.replicate n (T l).cps).foldl (· ++ ·) #[]⟩]
      · rw [Array.length_toList, sz]
theorem glued_one : ∀ (cs : List Nat) (acc : Array Nat), (cs.map fun c => T [c]).foldl (fun a (p : Str) => a ++ (T []).cps ++ p.cps) acc = acc ++ cs.toArray
  | [], acc => by simp
  | c :: r, acc => by
    rw [List.map_cons, List.foldl_cons, glued_one r]
    show acc ++ #[] ++ #[c] ++ r.toArray = acc ++ (c :: r).toArray
    simp
theorem glued_T (cs : List Nat) : Builtin.Str.glued (T []) (cs.map fun c => T [c]) = T cs := by
  cases cs with
  | nil => rfl
  | cons c r =>
    unfold Builtin.Str.glued
    show (⟨(r.map fun c => T [c]).foldl (fun a (p : Str) => a ++ (T []).cps ++ p.cps) #[c]⟩ : Str) = T (c :: r)
    rw [glued_one]
    show (⟨#[c] ++ r.toArray⟩ : Str) = ⟨(c :: r).toArray⟩
    simp
theorem vals_signs : ∀ {cs : List Nat} {us : List Value}, Vals (cs.map fun c => V.str (T [c])) us → ∃ l : List (Str × Tok), us = strValues l ∧ l.map (·.1) = cs.map fun c => T [c]
  | [], _, .nil => ⟨[], rfl, rfl⟩
  | c :: r, _, .cons rv rr => by
    obtain ⟨t, rfl⟩ := rv
    obtain ⟨l, rfl, e⟩ := vals_signs rr
    exact ⟨(T [c], t) :: l, rfl, by rw [List.map_cons, List.map_cons, e]⟩
theorem fold_len : ∀ (cs : List Nat) (n : Nat), (cs.map fun c => T [c]).foldl (fun (a : Nat) (p : Str) => a + p.length + (T []).length) n = n + cs.length
  | [], n => rfl
  | c :: r, n => by
    rw [List.map_cons, List.foldl_cons, fold_len r, List.length_cons]
    show n + 1 + 0 + r.length = _
    omega
def rJoin : V → List V → Hp → VK → Prop := fun x xs H Q => ∃ (p : Addr) (cs : List Nat), x = .str (T []) ∧ xs = [.ref p] ∧ H p = some (.lst (cs.map fun c => V.str (T [c]))) ∧ cs.length ≤ 1000 ∧ Q (.str (T cs)) H
theorem mt_join : MtR X "str.join" rJoin := by
  intro pins s σ H x xs v us Q I rx rs h
  obtain ⟨p, cs, rfl, rfl, hp, hl, k⟩ := h
  obtain ⟨t, rfl⟩ := rx
  obtain ⟨u, rfl, ru⟩ := Vals.one rs
  cases (show u = .ref p from ru)
  obtain ⟨_, its, n, rv, hobj⟩ := (show ObjOk X.prog X.w H s.heap p (.lst (cs.map fun c => V.str (T [c]))) from I.hok p _ hp)
  obtain ⟨l, rfl, el⟩ := vals_signs rv
  have ll : l.length = cs.length := by
    have := congrArg List.length el
    simpa using this
  have tl : Builtin.Str.tooLong ((l.map (·.1)).toArray.foldl (fun a (p : Str) => a + p.length + (T []).length) 0) = false := by
    rw [el, List.foldl_toArray, fold_len]
    unfold Builtin.Str.tooLong
    exact decide_eq_false (Nat.not_lt.mpr (small (by omega)))
  refine call_meets PySem.F.slot_str_join (typeIs_str _ _ _) PySem.F.entry_str_join (PySem.F.args_str_join_2 _ _) (meets_str_join_list (T []) t p l tl) ⟨⟨_, hobj, rfl, n, rfl⟩, ?_⟩
  match l, el, ll with
  | [], el, ll =>
    have : cs = [] := List.length_eq_zero_iff.mp ll.symm
    subst this
    exact ⟨by decide, .str (T []), H, I.tok _, ⟨_, rfl⟩, k⟩
  | [q], el, ll =>
    match cs, el, ll with
    | [c], el, _ =>
      have e1 : q.1 = T [c] := by simpa using el
      obtain ⟨q1, q2⟩ := q
      cases (show q1 = T [c] from e1)
      exact ⟨.str (T [c]), H, I, ⟨_, rfl⟩, k⟩
  | q :: q' :: l', el, ll =>
    show _ ∧ _
    have e1 : Builtin.Str.glued (T []) ((q :: q' :: l').map (·.1)) = T cs := by rw [el, glued_T]
    rw [e1]
    exact ⟨by rw [T_len]; exact small (by omega), .str (T cs), H, I.tok _, ⟨_, rfl⟩, k⟩
end
end L2

set_option Elab.async false
set_option linter.all false
set_option maxRecDepth 100000
namespace L2
open PySem PySem.Spec PyProof.Rows
open PySem.W (CodeHd tabObj codeHdIn codeHd_of_K tabIn noTabs)
/-- names that the text does not bind -/
def Free (q : Program) (loose : List Str) (mg : Str → Option Value) : Prop := ∀ x, x ∉ startupNames → x ∉ loose → x ∉ (recsOf q).map (·.name) → x ∉ (litsOf q).map (·.1) → x ∉ (clssOf q loose).map (·.name) → mg x = none
/-! ### the law's call, with the code table of one def tracked besides the script -/
theorem law_callE {P : Program} {w : World} {K : PySem.W.Frag} {mg mb : Str → Option Value} {CX : CXT} {k : Nat} {fa a c Pt : Addr} {fd : FuncData} {x : Str} {sp : Sp} {s₁ : Shared} {vs : List Value} {ns : List Int}
    (KX : K.In s₁.heap) (hns : s₁.heap.Ns mainGlobals mg) (hb : s₁.heap.Ns builtinsNs mb) (hbb : ∀ x : Str, x ≠ "__name__" → mb x = bootBuiltins x) (hlim : s₁.heap.NoLimit) (hg : s₁.gens = #[])
    (ha : s₁.heap.get? a = some { cls := .type "list", data := .seq vs.toArray }) (hi : IntsAre vs ns) (hl : ns.length ≤ sizeLine) (hr : Room k callerA)
    (hC : CodeHd s₁.heap c Pt) (hP : s₁.heap.get? Pt = some (tabObj #[])) (hnt : noTabs K = true) (hbm : BmAt mg s₁.heap)
    (F : ∀ base : Heap, Mod K mg base → BmAt mg base → FnOk P w K mg base CX k fa fd [x] sp) (hbind : ∀ (s : Shared) (u : Value), BindsTo s fd ⟨[u], []⟩ [(x, u)])
    (hsp : ∀ H : Hp, SqL K H a (ns.map V.int) → H Pt = some (.tbl #[]) → sp [.ref a] H (fun v _ => v = .bl true) fun _ _ _ => False)
    (hCX : ∀ H e s', CX [] H s₁ (fun _ _ _ => False) e s' → False) :
    codeAny (model P w) callerA (.call (.ref fa) ⟨[.ref a], []⟩) (fun r s' => r = .ok (.ret (.bool true)) ∧ OldK s₁.heap s'.heap ∧ s'.os = s₁.os ∧ AllBare s'.gens) s₁ := by
  have rv := vals_ints hi
  have lenV := hi.length
  have naP : a ≠ Pt := fun z => by
    rw [z, hP] at ha
    cases ha
  have core : ∀ H : Hp, (∀ b, b ≠ Pt → H b = none ∨ ∃ o xs, H b = some (.frz o (.lst xs))) → SqL K H a (ns.map V.int) → H Pt = some (.tbl #[]) → HOk P w H s₁.heap → (∀ b, H b ≠ none → b = a ∨ b = Pt) → (H a ≠ none → K.lookup a = none) →
      codeAny (model P w) callerA (.call (.ref fa) ⟨[.ref a], []⟩) (fun r s' => r = .ok (.ret (.bool true)) ∧ OldK s₁.heap s'.heap ∧ s'.os = s₁.os ∧ AllBare s'.gens) s₁ := by
    intro H hO hS hT hok hA hK
    have base_of : ∀ {b : Addr} {o : Obj}, s₁.heap.get? b = some o → H b = none → (hidT s₁.heap H).get? b = some o := fun e n => hidT_get e n
    have free_of : ∀ {b : Addr} {o : Obj}, s₁.heap.get? b = some o → (∀ ws : Array Value, o ≠ { cls := .type "list", data := .seq ws }) → o ≠ tabObj #[] → H b = none := fun {b o} e n1 n2 => by
      cases q : H b with
      | none => rfl
      | some u =>
        rcases hA b (by rw [q]; simp) with z | z
        · subst z
          rw [ha] at e; cases e
          exact absurd rfl (n1 _)
        · subst z
          rw [hP] at e; cases e
          exact absurd rfl n2
    have noA : ∀ {b : Addr} {o : Obj} {es : Array DictEntry} {ep : Nat}, s₁.heap.get? b = some o → o.data = .dict es ep → H b = none := fun {b o es ep} e d => by
      refine free_of e (fun ws z => ?_) fun z => ?_
      · rw [z] at d; cases d
      · rw [z] at d; cases d
    have nsK : ∀ {b : Addr} {m : Str → Option Value}, s₁.heap.Ns b m → (hidT s₁.heap H).Ns b m := fun {b m} ⟨o, es, ep, e, d, r⟩ => ⟨o, es, ep, base_of e (noA e d), d, r⟩
    have hKb : K.In (hidT s₁.heap H) := fun b o e => base_of (KX b o e) (by
      cases q : H b with
      | none => rfl
      | some u =>
        rcases hA b (by rw [q]; simp) with z | z
        · subst z
          rw [hK (by rw [q]; simp)] at e; cases e
        · subst z
          exact (noTab_at hnt KX hP e).elim)
    have hM : Mod K mg (hidT s₁.heap H) := ⟨hKb, nsK hns, ⟨mb, nsK hb, hbb⟩, let ⟨mc, h1, h2⟩ := hlim; ⟨mc, nsK h1, h2⟩⟩
    have hB : BmAt mg (hidT s₁.heap H) := by
      obtain ⟨bm, ob, b1, b2, b3, b4, b5, b6⟩ := hbm
      refine ⟨bm, ob, b1, b2, base_of b3 (free_of b3 (fun ws z => ?_) fun z => ?_), b4, b5, b6⟩
      · rw [z] at b6; cases b6
      · rw [z] at b6; cases b6
    have e0 : Env0 P w K mg (hidT s₁.heap H) callerA [] s₁ H := ⟨rfl, hM, fun b o e => of_hidT e, Nat.le_of_eq (hidT_size _ _), trivial, fun b hb => absurd (show b ∈ ([] : List Addr) from hb) (by simp), hok, .of_eq hg⟩
    refine codeAny_mono ((F _ hM hB).run callerA [] s₁ H ⟨[.ref a], []⟩ [.ref a] [.ref a] _ _ hr e0 (hbind s₁ (.ref a)) (.cons rfl .nil) (hsp H hS hT)) fun r s' h => ?_
    cases r with
    | error e => exact (hCX H e s' h).elim
    | ok fl =>
      cases fl with
      | next => exact False.elim h
      | brk => exact False.elim h
      | cont => exact False.elim h
      | ret u =>
        obtain ⟨v, H', os, bare, un, hok', r', q⟩ := h
        have q' : v = .bl true := q
        subst q'
        obtain rfl : u = Value.bool true := r'
        obtain ⟨more, hT'⟩ := un.tbls Pt _ hT
        have hP' : s'.heap.get? Pt = some (tabObj (#[] ++ more)) := hok' Pt _ hT'
        have keep : ∀ b o, b ≠ Pt → s₁.heap.get? b = some o → s'.heap.get? b = some o := fun b o nb e => by
          cases q : H b with
          | none => exact un.keep b o e q (by intro z; exact absurd (show b ∈ ([] : List Addr) from z) (by simp)) (by simp)
          | some u =>
            rcases hO b nb with z | ⟨ob, xs, z⟩
            · rw [q] at z; cases z
            · have z2 := un.frzs b ob _ z
              obtain ⟨e1, _⟩ := hok b _ z
              obtain ⟨e2, _⟩ := hok' b _ z2
              rw [e] at e1; cases e1
              exact e2
        refine ⟨rfl, ⟨fun b o e => ?_, fun b o e => ?_⟩, os, bare⟩
        · by_cases nb : b = Pt
          · subst nb
            rw [hP] at e
            cases e
            exact .inr (.inl ⟨(hC.tab hP).isCodeTable, rfl, #[], more, rfl, hP'⟩)
          · exact .inl (keep b o nb e)
        · by_cases nb : b = Pt
          · subst nb
            exact ⟨_, hP'⟩
          · exact ⟨o, keep b o nb e⟩
  cases hk : K.lookup a with
  | some o =>
    have e := KX a o hk
    rw [ha] at e
    cases e
    refine core (fun b => if b = Pt then some (.tbl #[]) else none) (fun b nb => .inl (if_neg nb)) (.inr ⟨_, vs.toArray, _, hk, rfl, rfl, rfl, by rw [List.size_toArray, lenV]; exact hl, by simpa using rv⟩) (if_pos rfl) (fun b u z => ?_) (fun b z => ?_) fun z => absurd (if_neg naP) z
    · by_cases hb : b = Pt
      · have z' := (if_pos hb).symm.trans z
        cases z'
        subst hb
        exact hP
      · have z' := (if_neg hb).symm.trans z
        cases z'
    · by_cases hb : b = Pt
      · exact .inr hb
      · exact absurd (if_neg hb) z
  | none =>
    refine core (fun b => if b = Pt then some (.tbl #[]) else if b = a then some (.frz { cls := .type "list", data := .seq vs.toArray } (.lst (ns.map V.int))) else none) (fun b nb => ?_) (.inl (.inr ⟨{ cls := .type "list", data := .seq vs.toArray }, (if_neg naP).trans (if_pos rfl)⟩)) (if_pos rfl) (fun b u z => ?_) (fun b z => ?_) fun _ => hk
    · by_cases hb : b = a
      · exact .inr ⟨_, _, (if_neg nb).trans (if_pos hb)⟩
      · exact .inl ((if_neg nb).trans (if_neg hb))
    · by_cases hc : b = Pt
      · have z' := (if_pos hc).symm.trans z
        cases z'
        subst hc
        exact hP
      · by_cases hb : b = a
        · have z' := ((if_neg hc).trans (if_pos hb)).symm.trans z
          cases z'
          subst hb
          exact ⟨ha, by rw [List.length_map]; exact hl, vs, _, rv, ha⟩
        · have z' := ((if_neg hc).trans (if_neg hb)).symm.trans z
          cases z'
    · by_cases hc : b = Pt
      · exact .inr hc
      · by_cases hb : b = a
        · exact .inl hb
        · exact absurd ((if_neg hc).trans (if_neg hb)) z
theorem walk_ofE {l : PySem.W.OpenLaw} {n k : Nat} {q : Program} {loose : List Str} {XP : (Str → Option Value) → Heap → Prop} {YP : World → Heap → Prop} {d : DefRec} {K : Params → PySem.W.Frag} {CX : World → CXT} {sp : World → Addr → Sp} {x y : Str}
    (hn : l.most = some n) (hn2 : n ≤ sizeLine) (hdf : d.params.defaults = []) (hr : Room k callerA)
    (hY : ∀ (w : World) (h : Heap), YP w h → (K w.params).In h)
    (F : ∀ (w : World) (mg : Str → Option Value) (fa : Addr) (h : Heap), (K w.params).In h → h.Ns mainGlobals mg → mg d.name = some (.ref fa) → (∃ lo, Free q lo mg) →
      ∃ (fd : FuncData) (c Pt : Addr) (dr : DefRec), (∀ (s : Shared) (u : Value), BindsTo s fd ⟨[u], []⟩ [(x, u)]) ∧ (recsOf q).find? (fun e => e.name == y) = some dr ∧ tabIn (K w.params) y = some (c, Pt) ∧ noTabs (K w.params) = true ∧
        ∀ base : Heap, Mod (K w.params) mg base → BmAt mg base → FnOk l.prog w (K w.params) mg base (CX w) k fa fd [x] (sp w Pt))
    (hsp : ∀ (w : World) (Pt : Addr) (H : Hp) (a : Addr) (ns : List Int), ns.length ≤ n → SqL (K w.params) H a (ns.map V.int) → H Pt = some (.tbl #[]) → sp w Pt [.ref a] H (fun v _ => v = .bl true) fun _ _ _ => False)
    (hCX : ∀ (w : World) (H : Hp) (s : Shared) (e : Value) (s' : Shared), CX w [] H s (fun _ _ _ => False) e s' → False) :
    PySem.W.WalkO q loose XP YP l.row.toRowW d [] (fun f vs => PySem.call f vs) := by
  refine Att.attach_call hn hdf fun w s₀ s₁ mg mb fa o pm cd doc a vs ns G Y ho hd hcd hmg hobj hints hlen hg => ?_
  have KX := hY w _ Y
  obtain ⟨fd, c, Pt, dr, hb, hrc, htb, hnt, hF⟩ := F w mg fa _ KX G.T.g hmg ⟨_, G.T.free⟩
  obtain ⟨hC, hP⟩ := PySem.W.tab_of G.T KX hrc htb
  exact law_callE KX G.T.g G.T.b G.T.builtins G.T.nolimit hg hobj hints (Nat.le_trans hlen hn2) hr hC hP hnt G.T.bmain hF hb (fun H hS hT => hsp w Pt H a ns hlen hS hT) fun H e s' => hCX w H s₁ e s'
end L2

set_option Elab.async false
set_option linter.all false
set_option maxRecDepth 100000
namespace B
open PySem L2
def top (i : Nat) : Stmt := PySem.Challenge.pw_beadfit_k01_first_fault.main.body.getD i (.Pass ⟨0, 0, 0, 0⟩)
abbrev sBeadError : Stmt := top 1
abbrev sNoPattern : Stmt := top 2
abbrev sTAKEN : Stmt := top 4
abbrev sTaken : Stmt := top 5
abbrev sFault : Stmt := top 6
abbrev sRefuse : Stmt := top 7
abbrev sEnds : Stmt := top 9
abbrev sJoined : Stmt := top 10
abbrev sEither : Stmt := top 11
abbrev sMany : Stmt := top 12
abbrev sBeadT : Stmt := top 14
abbrev sBy : Stmt := top 15
abbrev sOf : Stmt := top 17
abbrev sFits : Stmt := top 19
abbrev sMatcher : Stmt := top 20
abbrev sLongest : Stmt := top 21
abbrev sFinds : Stmt := top 22
abbrev sWhole : Stmt := top 24
abbrev sAt : Stmt := top 25
abbrev sThen : Stmt := top 26
abbrev sRep : Stmt := top 27
abbrev sLeaf : Stmt := top 28
abbrev sGrown : Stmt := top 29
abbrev sMarred : Stmt := top 30
abbrev sExpected : Stmt := top 31
abbrev sRefused : Stmt := top 32
abbrev sBase : Stmt := top 33
abbrev sLaw : Stmt := top 34
structure Txt (mg : Str → Option Value) : Prop where
  len : mg "len" = none
  rng : mg "range" = none
  isi : mg "isinstance" = none
  int : mg "int" = none
  bool : mg "bool" = none
  list : mg "list" = none
  sorted : mg "sorted" = none
  set : mg "set" = none
  zip : mg "zip" = none
  enum : mg "enumerate" = none
  max : mg "max" = none
  min : mg "min" = none
  tuple : mg "tuple" = none
end B

set_option Elab.async false
set_option linter.all false
set_option maxRecDepth 100000
namespace B
open PySem L2
open St (Sml)
section
variable {P : Program} {w : World} {K : PySem.W.Frag} {mg : Str → Option Value} {base : Heap}
/-! ### _law_at -/
def spAt (K : PySem.W.Frag) : Sp := fun vs H Q _ => ∃ (a : Addr) (ns : List Int) (k : Int), vs = [.ref a, .int k] ∧ SqL K H a (ns.map V.int) ∧ 0 ≤ k ∧ Q (.int (ns.getD k.toNat 0)) H
theorem scAt : FnScope ["_law_script", "_law_k"] ["_law_script", "_law_k"] (defScope sAt) := ⟨rfl, rfl, rfl, by decide +kernel, rfl, by decide +kernel, by decide +kernel⟩
theorem ok_at {f : Addr} {fd : FuncData} (F : Fun K "_law_at" "_law_at" sAt f fd) (T : Txt mg) : FnOk P w K mg base CX0 1 f fd ["_law_script", "_law_k"] (spAt K) := by
  refine F.ok scAt (fun vs H Q E h => ?_) (fun cdv A outer s H vs Q E hr h => ?_)
  · obtain ⟨a, ns, k, rfl, _⟩ := h
    rfl
  obtain ⟨a, ns, k, rfl, hS, h0, q⟩ := h
  refine ⟨_, pss_cons (ps_if (pt_cmpR op_lt (pv 1) (pe_callB call_len_seq rfl T.len PySem.boot_len (pa_cons (pv 0) pa_nil)) (nomark _)) (pss_one (ps_ret (pe_ix ix_list (pv 0) (pv 1) (fun _ _ => rfl)))) pss_nil) (pss_one (ps_ret pe_int)), ?_⟩
  refine ⟨_, rfl, _, rfl, a, _, rfl, .inl hS, _, _, rfl, rfl, _, rfl, ?_⟩
  have hl : (ns.map V.int).length = ns.length := List.length_map _
  refine ite2 (fun c => ?_) (fun c => ?_)
  · have c' : k < (((ns.map V.int).length : Nat) : Int) := of_decide_eq_true c
    rw [hl] at c'
    have hk : k.toNat < ns.length := by omega
    refine ⟨_, rfl, _, rfl, a, _, k, .int (ns.getD k.toNat 0), rfl, rfl, hS, atI_of h0 ?_, q⟩
    rw [List.getElem?_map, List.getElem?_eq_getElem hk, List.getD_eq_getElem?_getD, List.getElem?_eq_getElem hk]
    rfl
  · have c' : ¬ k < (((ns.map V.int).length : Nat) : Int) := of_decide_eq_false (Bool.eq_false_iff.mpr c)
    rw [hl] at c'
    have e : ns.getD k.toNat 0 = 0 := by rw [List.getD_eq_getElem?_getD, List.getElem?_eq_none (by omega)]; rfl
    rw [e] at q
    exact q

/-! ### _law_cut_fits -/
def cell (L : List (List Bool)) (i j : Nat) : Bool := (L.getD i []).getD j false
structure Sq (n : Nat) (L : List (List Bool)) : Prop where
  len : L.length = n
  row : ∀ (i : Nat) w, L[i]? = some w → w.length = n
theorem Tb.ix {α : Type} {f : α → V} {H : Hp} {a : Addr} {as : List Addr} {rows : List (List α)} (t : Tb f H a as rows) {k : Int} (h0 : 0 ≤ k) (h : k < rows.length) :
    ∃ r w, atI (as.map V.ref) k = some (.ref r) ∧ rows[k.toNat]? = some w ∧ H r = some (.lst (w.map f)) ∧ as[k.toNat]? = some r := by
  have hk : k.toNat < rows.length := by omega
  obtain ⟨r, h1, h2, h3⟩ := t.at hk
  exact ⟨r, rows[k.toNat], atI_of h0 h2, List.getElem?_eq_getElem hk, h3, h1⟩
theorem row_ix {α : Type} {f : α → V} {w : List α} {k : Int} (h0 : 0 ≤ k) (h : k < w.length) : ∃ x, atI (w.map f) k = some (f x) ∧ w[k.toNat]? = some x := by
  have hk : k.toNat < w.length := by omega
  refine ⟨w[k.toNat], atI_of h0 ?_, List.getElem?_eq_getElem hk⟩
  rw [List.getElem?_map, List.getElem?_eq_getElem hk]
  rfl
theorem cell_of {L : List (List Bool)} {w : List Bool} {i j : Nat} {b : Bool} (h1 : L[i]? = some w) (h2 : w[j]? = some b) : cell L i j = b := by
  have e : L.getD i [] = w := by
    rw [List.getD_eq_getElem?_getD, h1]
    rfl
  unfold cell
  rw [e, List.getD_eq_getElem?_getD, h2]
  rfl
def cutB (L U : List (List Bool)) (i j : Nat) : Bool := (List.range (j + 1 - i)).any fun d => cell L i (i + d) && cell U (i + d) j
def spCut : Sp := fun vs H Q _ => ∃ (a b : Addr) (as bs : List Addr) (L U : List (List Bool)) (i j n : Nat), vs = [.ref a, .ref b, .int i, .int j] ∧ Tb V.bl H a as L ∧ Tb V.bl H b bs U ∧ Sq n L ∧ Sq n U ∧ i ≤ j ∧ j < n ∧ n ≤ 31 ∧ Q (.bl (cutB L U i j)) H
end
theorem upd_free {H H' : Hp} {q r : Addr} {o : HO} (g : Same H H') (h : (upd H' q o) r = none) : H r = none ∧ H' r = none := by
  have ne : r ≠ q := fun z => by rw [z, upd_same] at h; cases h
  rw [upd_ne ne] at h
  exact ⟨g.free h, h⟩
section
variable {P : Program} {w : World} {K : PySem.W.Frag} {mg : Str → Option Value} {base : Heap}

/-! ### ends_behind -/
def spEnds (K : PySem.W.Frag) : Sp := fun vs H Q _ => ∃ (p t : Addr) (ts : List Addr) (ps : List Int) (rows : List (List Int)), vs = [.ref p, .ref t] ∧ SqL K H p (ps.map V.int) ∧ Tb V.int H t ts rows ∧ (∀ x ∈ ps, 0 ≤ x ∧ x < (rows.length : Int)) ∧ ps.length ≤ 62 ∧
  (∀ r ∈ rows, Sml r ∧ r.length ≤ 62) ∧ ∀ (q : Addr) (H' : Hp) (ms : List Int), Same H H' → H q = none → H' q = some (.lst (ms.map V.int)) → ms.Pairwise (· < ·) → (∀ k, k ∈ ms ↔ ∃ x ∈ ps, k ∈ rows.getD x.toNat []) → Q (.ref q) H'
theorem scEnds : FnScope ["places", "table", "ends", "place"] ["places", "table"] (defScope sEnds) := ⟨rfl, rfl, rfl, by decide +kernel, rfl, by decide +kernel, by decide +kernel⟩
theorem flat_len {rows : List (List Int)} (h : ∀ r ∈ rows, r.length ≤ 62) : ∀ ps : List Int, (ps.flatMap fun x => rows.getD x.toNat []).length ≤ ps.length * 62
  | [] => Nat.zero_le _
  | x :: ps => by
    have h1 : (rows.getD x.toNat []).length ≤ 62 := by
      rw [List.getD_eq_getElem?_getD]
      cases e : rows[x.toNat]? with
      | none => exact Nat.zero_le _
      | some r => exact h r (List.mem_of_getElem? e)
    have := flat_len h ps
    rw [List.flatMap_cons, List.length_append, List.length_cons]
    omega
theorem ok_ends {f : Addr} {fd : FuncData} (F : Fun K "ends_behind" "ends_behind" sEnds f fd) (T : Txt mg) : FnOk P w K mg base CX0 1 f fd ["places", "table"] (spEnds K) := by
  refine F.ok scEnds (fun vs H Q E h => ?_) (fun cdv A outer s H vs Q E hr h => ?_)
  · obtain ⟨p, t, ts, ps, rows, rfl, _⟩ := h
    rfl
  obtain ⟨p, t, ts, ps, rows, rfl, hS, tb, hin, hps, hrow, k⟩ := h
  refine ⟨_, pss_cons (ps_set (i := 2) scEnds.nd rfl (Or.inl rfl) (pe_lst pa_nil))
    (pss_cons (ps_for PassesOwn.never rfl (pi_list (pv 0)) (pg_name (i := 3) scEnds.nd rfl (Or.inl rfl))
      (pss_one (ps_expr (pe_bm PySem.F.plainAttrs_list PySem.F.slot_list_extend PySem.F.type_list_extend mt_extend (pv 2) (pa_cons (pe_ix ix_list (pv 1) (pv 3) (fun _ _ => rfl)) pa_nil)))))
    (pss_one (ps_ret (pe_callB (call_sorted rfl) rfl T.sorted boot_sortedB (pa_cons (pe_callTy (call_set rfl) rfl T.set boot_setT (pa_cons (pv 2) pa_nil)) pa_nil))))), ?_⟩
  refine ⟨(by show 0 ≤ sizeLine; decide), fun e he => ?_⟩
  have flatL := flat_len (rows := rows) fun r hr => (hrow r hr).2
  have tl : ∀ i, (ps.take i).length ≤ 62 := fun i => Nat.le_trans (by rw [List.length_take]; omega) hps
  refine ⟨_, rfl, p, rfl, ⟨_, (same_new he _).seq hS⟩, for_list (K := K) (a := p) (xs := ps.map V.int) (fun i σ H2 => ∃ v, σ = [some (.ref p), some (.ref t), some (.ref e), v] ∧ Same H H2 ∧
      H2 e = some (.lst (((ps.take i).flatMap fun x => rows.getD x.toNat []).map V.int)))
    ⟨none, rfl, same_new he _, upd_same⟩ (fun i σ H2 _ ⟨_, _, s2, _⟩ => s2.seq hS) ?_ ?_⟩
  · rintro i y σ H2 hi ⟨v, rfl, s2, hE⟩
    obtain ⟨x, hx, rfl⟩ : ∃ x, ps[i]? = some x ∧ y = V.int x := by
      rw [List.getElem?_map] at hi
      cases q : ps[i]? with
      | none => rw [q] at hi; cases hi
      | some z => rw [q] at hi; exact ⟨z, rfl, (Option.some.inj hi).symm⟩
    obtain ⟨h0, h1⟩ := hin x (List.mem_of_getElem? hx)
    obtain ⟨r, rw', a1, b1, c1, _⟩ := Tb.ix (tb.same s2) h0 h1
    have er : rows.getD x.toNat [] = rw' := by rw [List.getD_eq_getElem?_getD, b1]; rfl
    have lr : rw'.length ≤ 62 := (hrow rw' (List.mem_of_getElem? b1)).2
    have step : (ps.take (i + 1)).flatMap (fun x => rows.getD x.toNat []) = (ps.take i).flatMap (fun x => rows.getD x.toNat []) ++ rw' := by
      rw [List.take_add_one, hx, List.flatMap_append]
      show _ ++ (rows.getD x.toNat [] ++ []) = _
      rw [er, List.append_nil]
    refine ⟨_, rfl, .inl ⟨rfl, _, .of hE⟩, _, rfl, _, rfl, t, _, _, _, rfl, rfl, .of (tb.same s2).top, a1, e, r, _, _, rfl, rfl, hE, c1, ?_, _, rfl, s2.put he _, ?_⟩
    · have := flatL (ps.take i)
      have := tl i
      rw [List.length_map, List.length_map]
      exact small (by omega)
    · rw [upd_same, step, List.map_append]
  · rintro σ H2 ⟨v, rfl, s2, hE⟩
    rw [List.length_map, List.take_length] at hE
    have sm : Sml (ps.flatMap fun x => rows.getD x.toNat []) := fun z hz => by
      obtain ⟨x, hx, hz⟩ := List.mem_flatMap.mp hz
      rw [List.getD_eq_getElem?_getD] at hz
      cases q : rows[x.toNat]? with
      | none => rw [q] at hz; cases hz
      | some r => rw [q] at hz; exact (hrow r (List.mem_of_getElem? q)).1 z hz
    refine ⟨_, rfl, e, _, rfl, .of hE, sm, fun q us hq hk => ⟨q, us, rfl, upd_same, fun r ms hr hp nd hs => ?_⟩⟩
    obtain ⟨r1, r2⟩ := upd_free s2 hr
    refine k r _ ms (s2.trans ((same_new hq _).trans (same_new hr _))) r1 upd_same (rising_of hs nd) fun z => ?_
    rw [hp.mem_iff, hk, List.mem_flatMap]

/-! ### tables of ints -/
structure Ti (n : Nat) (R : List (List Int)) : Prop where
  len : R.length = n
  row : ∀ (i : Nat) w, R[i]? = some w → w.length ≤ n ∧ ∀ x ∈ w, 0 ≤ x ∧ x < (n : Int)
theorem Ti.mem {n : Nat} {R : List (List Int)} (h : Ti n R) : ∀ r ∈ R, r.length ≤ n ∧ ∀ x ∈ r, 0 ≤ x ∧ x < (n : Int) := fun r hr => by
  obtain ⟨i, hi, e⟩ := List.getElem_of_mem hr
  exact h.row i r (by rw [List.getElem?_eq_getElem hi, e])
/-- what a new table's rows are: rising, and told by a word -/
def Rows (R : List (List Int)) (M : Nat → Int → Prop) : Prop := ∀ (i : Nat) w, R[i]? = some w → w.Pairwise (· < ·) ∧ ∀ k, k ∈ w ↔ M i k
theorem Rows.push {R : List (List Int)} {M : Nat → Int → Prop} {w : List Int} (h : Rows R M) (h1 : w.Pairwise (· < ·)) (h2 : ∀ k, k ∈ w ↔ M R.length k) : Rows (R ++ [w]) M := fun i x hx => by
  by_cases c : i < R.length
  · rw [List.getElem?_append_left c] at hx
    exact h i x hx
  · have hl := (List.getElem?_eq_some_iff.mp hx).1
    rw [List.length_append, List.length_singleton] at hl
    have ei : i = R.length := by omega
    subst ei
    rw [List.getElem?_append_right (Nat.le_refl _), Nat.sub_self] at hx
    cases hx
    exact ⟨h1, h2⟩
/-- a table under way in a comprehension -/
structure Up (H0 H : Hp) (D : Addr) (i : Nat) (M : Nat → Int → Prop) (cs : List Addr) (R : List (List Int)) : Prop where
  same : Same H0 H
  tb : Tb V.int H D cs R
  len : R.length = i
  rows : Rows R M
  ne : ∀ c ∈ cs, c ≠ D
theorem Up.start {H0 H1 : Hp} {D : Addr} {M : Nat → Int → Prop} (s : Same H0 H1) (hD : H1 D = none) : Up H0 (upd H1 D (.lst [])) D 0 M [] [] :=
  ⟨s.trans (same_new hD _), Tb.nil upd_same, rfl, (fun i w h => by cases h), fun c h => by cases h⟩
theorem Up.more {H0 H H' : Hp} {D q : Addr} {i : Nat} {M : Nat → Int → Prop} {cs : List Addr} {R : List (List Int)} {ms : List Int} (u : Up H0 H D i M cs R) (hD0 : H0 D = none) (s : Same H H') (hq : H q = none) (hm : H' q = some (.lst (ms.map V.int)))
    (h1 : ms.Pairwise (· < ·)) (h2 : ∀ k, k ∈ ms ↔ M i k) : Up H0 (upd H' D (.lst (cs.map V.ref ++ [.ref q]))) D (i + 1) M (cs ++ [q]) (R ++ [ms]) := by
  have qD : q ≠ D := fun z => by rw [z, u.tb.top] at hq; cases hq
  refine ⟨(u.same.trans s).put hD0 _, u.tb.push (fun b o hb e => by rw [upd_ne hb]; exact s b o e) (by rw [upd_ne qD]; exact hm) (fun j b x e _ => u.ne b (List.mem_of_getElem? e)) upd_same, by rw [List.length_append, List.length_singleton, u.len],
    u.rows.push h1 (by rw [u.len]; exact h2), fun c hc => ?_⟩
  rcases List.mem_append.mp hc with z | z
  · exact u.ne c z
  · rw [List.mem_singleton.mp z]; exact qD

/-! ### joined -/
def Mj (R1 R2 : List (List Int)) (i : Nat) (k : Int) : Prop := ∃ x ∈ R1.getD i [], k ∈ R2.getD x.toNat []
def spTwo (M : List (List Int) → List (List Int) → Nat → Int → Prop) : Sp := fun vs H Q _ => ∃ (a b : Addr) (as bs : List Addr) (R1 R2 : List (List Int)) (n : Nat), vs = [.ref a, .ref b] ∧ Tb V.int H a as R1 ∧ Tb V.int H b bs R2 ∧ Ti n R1 ∧ Ti n R2 ∧ n ≤ 31 ∧
  ∀ (c : Addr) (cs : List Addr) (H' : Hp) (R3 : List (List Int)), Same H H' → H c = none → Tb V.int H' c cs R3 → R3.length = n → Rows R3 (M R1 R2) → Q (.ref c) H'
theorem ndJ : (["row", "second"] : List Str).Nodup := by decide +kernel
theorem ndE : (["row", "beside"] : List Str).Nodup := by decide +kernel
theorem scJoined : FnScope ["first", "second"] ["first", "second"] (defScope sJoined) := ⟨rfl, rfl, rfl, by decide +kernel, rfl, by decide +kernel, by decide +kernel⟩
theorem ok_joined {f g : Addr} {fd gd : FuncData} (F : Fun K "joined" "joined" sJoined f fd) (G : FnOk P w K mg base CX0 1 g gd ["places", "table"] (spEnds K)) (bG : Binds K gd ["places", "table"] []) (kG : PySem.W.keepIn K (.ref g) = true) (mG : mg "ends_behind" = some (.ref g)) :
    FnOk P w K mg base CX0 2 f fd ["first", "second"] (spTwo Mj) := by
  refine F.ok scJoined (fun vs H Q E h => ?_) (fun cdv A outer s H vs Q E hr h => ?_)
  · obtain ⟨a, b, as, bs, R1, R2, n, rfl, _⟩ := h
    rfl
  obtain ⟨a, b, as, bs, R1, R2, n, rfl, t1, t2, i1, i2, hn, k⟩ := h
  refine ⟨_, pss_one (ps_ret (pe_comp (N := ["row", "second"]) (frees := ["second"]) (nl := 1) (js := [1]) rfl (pi_list (pv 0)) rfl rfl rfl rfl (fun C s H fp => pg_name (i := 0) ndJ rfl (Or.inl rfl)) (fun C s H fp => pf_nil)
    (fun C s H fp => pe_call G hr rfl mG kG bG .nil pass0 (pa_cons (pv 0) (pa_cons (pv 1) pa_nil))))), ?_⟩
  refine ⟨_, rfl, a, rfl, ⟨_, .of t1.top⟩, fun D hD => comp_list (K := K) (a := a) (xs := as.map V.ref) (fun i σ H2 => ∃ v cs R3, σ = [v, some (.ref b)] ∧ Up H H2 D i (Mj R1 R2) cs R3) ⟨none, [], [], rfl, Up.start (Same.refl H) hD⟩
    (fun i σ H2 _ ⟨_, _, _, _, u⟩ => .of (t1.same u.same).top) ?_ ?_⟩
  · rintro i y σ H2 hi ⟨v, cs, R3, rfl, u⟩
    obtain ⟨r, hr', rfl⟩ : ∃ r, as[i]? = some r ∧ y = V.ref r := by
      rw [List.getElem?_map] at hi
      cases q : as[i]? with
      | none => rw [q] at hi; cases hi
      | some z => rw [q] at hi; exact ⟨z, rfl, (Option.some.inj hi).symm⟩
    have il : i < R1.length := by rw [← t1.len]; exact (List.getElem?_eq_some_iff.mp hr').1
    have e1 : R1[i]? = some R1[i] := List.getElem?_eq_getElem il
    have row1 := (t1.same u.same).row i r _ hr' e1
    obtain ⟨l1, b1⟩ := i1.row i _ e1
    refine ⟨_, rfl, _, rfl, r, b, bs, R1[i], R2, rfl, .of row1, t2.same u.same, ?_, by omega, ?_, fun q H3 ms s3 hq hm p1 p2 => ?_⟩
    · intro x hx
      rw [i2.len]
      exact b1 x hx
    · intro r2 hr2
      obtain ⟨z1, z2⟩ := i2.mem r2 hr2
      exact ⟨fun x hx => by have := z2 x hx; omega, by omega⟩
    · refine ⟨_, s3 _ _ u.tb.top, ?_, _, cs ++ [q], R3 ++ [ms], rfl, u.more hD s3 hq hm p1 fun z => ?_⟩
      · have := u.tb.len
        have := u.len
        have := i1.len
        rw [List.length_map]
        exact Nat.lt_of_le_of_lt (show cs.length ≤ 1000 by omega) (by decide)
      · rw [p2]
        unfold Mj
        rw [List.getD_eq_getElem?_getD, e1]
        rfl
  · rintro σ H2 ⟨v, cs, R3, rfl, u⟩
    exact k D cs H2 R3 u.same hD u.tb (by rw [u.len, List.length_map, t1.len, i1.len]) u.rows

/-! ### either -/
def Me (R1 R2 : List (List Int)) (i : Nat) (k : Int) : Prop := k ∈ R1.getD i [] ∨ k ∈ R2.getD i []
theorem scEither : FnScope ["one", "other"] ["one", "other"] (defScope sEither) := ⟨rfl, rfl, rfl, by decide +kernel, rfl, by decide +kernel, by decide +kernel⟩
theorem ok_either {f : Addr} {fd : FuncData} (F : Fun K "either" "either" sEither f fd) (T : Txt mg) : FnOk P w K mg base CX0 1 f fd ["one", "other"] (spTwo Me) := by
  refine F.ok scEither (fun vs H Q E h => ?_) (fun cdv A outer s H vs Q E hr h => ?_)
  · obtain ⟨a, b, as, bs, R1, R2, n, rfl, _⟩ := h
    rfl
  obtain ⟨a, b, as, bs, R1, R2, n, rfl, t1, t2, i1, i2, hn, k⟩ := h
  refine ⟨_, pss_one (ps_ret (pe_comp (N := ["row", "beside"]) (frees := []) (nl := 2) (js := []) (g := gTup K 2 (gCons (gName 0) (gCons (gName 1) gNil))) (te := tCB (rSorted w) (tCons (tOp (rOr w) (tCB (rSet K w) (tCons (tVar 0) tNil)) (tCB (rSet K w) (tCons (tVar 1) tNil))) tNil)) rfl (pi_zip rfl T.zip (pa_cons (pv 0) (pa_cons (pv 1) pa_nil))) rfl rfl rfl rfl
    (fun C s H fp => pg_tup rfl (pgs_cons (pg_name (i := 0) ndE rfl (Or.inl rfl)) (pgs_cons (pg_name (i := 1) ndE rfl (Or.inl rfl)) pgs_nil))) (fun C s H fp => pf_nil)
    (fun C s H fp => pe_callB (call_sorted rfl) rfl T.sorted boot_sortedB (pa_cons (pe_op op_set_or (pe_callTy (call_set rfl) rfl T.set boot_setT (pa_cons (pv 0) pa_nil)) (pe_callTy (call_set rfl) rfl T.set boot_setT (pa_cons (pv 1) pa_nil))) pa_nil)))), ?_⟩
  refine ⟨_, rfl, _, rfl, a, b, rfl, ⟨_, .of t1.top⟩, ⟨_, .of t2.top⟩, fun D hD => comp_zip (K := K) (a := a) (b := b) (xs := as.map V.ref) (ys := bs.map V.ref) (n := n) (fun i σ H2 => ∃ v v' cs R3, σ = [v, v'] ∧ Up H H2 D i (Me R1 R2) cs R3)
    ⟨none, none, [], [], rfl, Up.start (Same.refl H) hD⟩ (by rw [List.length_map, t1.len, i1.len]) (by rw [List.length_map, t2.len, i2.len]) (fun i σ H2 _ ⟨_, _, _, _, _, u⟩ => ⟨.of (t1.same u.same).top, .of (t2.same u.same).top⟩) ?_ ?_⟩
  · rintro i x y σ H2 p hx hy ⟨v, v', cs, R3, rfl, u⟩ hp
    obtain ⟨r1, hr1, rfl⟩ : ∃ r, as[i]? = some r ∧ x = V.ref r := by
      rw [List.getElem?_map] at hx
      cases q : as[i]? with
      | none => rw [q] at hx; cases hx
      | some z => rw [q] at hx; exact ⟨z, rfl, (Option.some.inj hx).symm⟩
    obtain ⟨r2, hr2, rfl⟩ : ∃ r, bs[i]? = some r ∧ y = V.ref r := by
      rw [List.getElem?_map] at hy
      cases q : bs[i]? with
      | none => rw [q] at hy; cases hy
      | some z => rw [q] at hy; exact ⟨z, rfl, (Option.some.inj hy).symm⟩
    have il : i < R1.length := by rw [← t1.len]; exact (List.getElem?_eq_some_iff.mp hr1).1
    have il2 : i < R2.length := by rw [← t2.len]; exact (List.getElem?_eq_some_iff.mp hr2).1
    have e1 : R1[i]? = some R1[i] := List.getElem?_eq_getElem il
    have e2 : R2[i]? = some R2[i] := List.getElem?_eq_getElem il2
    have g0 : Same H2 (upd H2 p (.tup [.ref r1, .ref r2])) := same_new hp _
    have row1 := g0 _ _ ((t1.same u.same).row i r1 _ hr1 e1)
    have row2 := g0 _ _ ((t2.same u.same).row i r2 _ hr2 e2)
    obtain ⟨l1, b1⟩ := i1.row i _ e1
    obtain ⟨l2, b2⟩ := i2.row i _ e2
    have s1 : Sml R1[i] := fun x hx => by have := b1 x hx; omega
    have s2 : Sml R2[i] := fun x hx => by have := b2 x hx; omega
    refine ⟨p, _, rfl, .of upd_same, rfl, _, _, rfl, _, _, rfl, rfl, ?_⟩
    refine ⟨_, rfl, r1, R1[i], rfl, .of row1, s1, fun q1 us1 hq1 hk1 => ?_⟩
    have g1 := g0.trans (same_new hq1 (setH w q1 us1))
    refine ⟨_, rfl, r2, R2[i], rfl, .of (same_new hq1 _ _ _ row2), s2, fun q2 us2 hq2 hk2 => ?_⟩
    have g2 := g1.trans (same_new hq2 (setH w q2 us2))
    have n12 : q1 ≠ q2 := fun z => by rw [← z, upd_same] at hq2; cases hq2
    have m1 : Sml us1 := fun x hx => s1 x ((hk1 x).mp hx)
    have m2 : Sml us2 := fun x hx => s2 x ((hk2 x).mp hx)
    refine ⟨q1, q2, us1, us2, rfl, rfl, (by rw [upd_ne n12]; exact upd_same), upd_same, n12, m1, m2, fun q3 us3 hq3 hk3 => ⟨q3, us3, rfl, upd_same, fun q4 ms hq4 hpm nd hs => ?_⟩⟩
    have g3 := g2.trans (same_new hq3 (setH w q3 us3))
    have g4 := g3.trans (same_new hq4 (.lst (ms.map V.int)))
    have f4 : H2 q4 = none := g3.free hq4
    refine ⟨_, g4 _ _ u.tb.top, ?_, _, _, cs ++ [q4], R3 ++ [ms], rfl, u.more hD g4 f4 upd_same (rising_of hs nd) fun z => ?_⟩
    · have := u.tb.len
      have := u.len
      have := i1.len
      rw [List.length_map]
      exact Nat.lt_of_le_of_lt (show cs.length ≤ 1000 by omega) (by decide)
    · rw [hpm.mem_iff, hk3, hk1, hk2]
      unfold Me
      rw [List.getD_eq_getElem?_getD, List.getD_eq_getElem?_getD, e1, e2]
      rfl
  · rintro σ H2 ⟨v, v', cs, R3, rfl, u⟩
    exact k D cs H2 R3 u.same hD u.tb u.len u.rows
end
def Upper (L : List (List Bool)) : Prop := ∀ i j, cell L i j = true → i ≤ j
theorem cell_none {L : List (List Bool)} {i j : Nat} (h : L[i]? = none) : cell L i j = false := by
  have e : L.getD i [] = [] := by rw [List.getD_eq_getElem?_getD, h]; rfl
  unfold cell
  rw [e]
  rfl
theorem cell_row {L : List (List Bool)} {i j : Nat} {w : List Bool} (h : L[i]? = some w) : cell L i j = w.getD j false := by
  have e : L.getD i [] = w := by rw [List.getD_eq_getElem?_getD, h]; rfl
  unfold cell
  rw [e]
theorem getD_set (w : List Bool) (e j : Nat) (x : Bool) (he : e < w.length) : (w.set e x).getD j false = if j = e then x else w.getD j false := by
  rw [List.getD_eq_getElem?_getD, List.getD_eq_getElem?_getD]
  by_cases c : j = e
  · subst c
    rw [List.getElem?_set_self he, if_pos rfl]
    rfl
  · rw [List.getElem?_set_ne (Ne.symm c), if_neg c]
theorem cell_set {L : List (List Bool)} {b e : Nat} {w : List Bool} (hb : L[b]? = some w) (he : e < w.length) (x : Bool) (i j : Nat) : cell (L.set b (w.set e x)) i j = if i = b ∧ j = e then x else cell L i j := by
  have hl := (List.getElem?_eq_some_iff.mp hb).1
  by_cases c : i = b
  · subst c
    rw [cell_row (List.getElem?_set_self hl), cell_row hb, getD_set _ _ _ _ he]
    by_cases d : j = e
    · rw [if_pos d, if_pos ⟨rfl, d⟩]
    · rw [if_neg d, if_neg (fun z => d z.2)]
  · rw [if_neg (fun z => c z.1)]
    have q : (L.set b (w.set e x))[i]? = L[i]? := List.getElem?_set_ne (Ne.symm c)
    cases z : L[i]? with
    | none => rw [cell_none (by rw [q, z]), cell_none z]
    | some v => rw [cell_row (by rw [q, z]), cell_row z]
theorem Sq.set {n b e : Nat} {L : List (List Bool)} {w : List Bool} (s : Sq n L) (hb : L[b]? = some w) (x : Bool) : Sq n (L.set b (w.set e x)) := by
  refine ⟨by rw [List.length_set]; exact s.len, fun i v h => ?_⟩
  by_cases c : i = b
  · subst c
    rw [List.getElem?_set_self (List.getElem?_eq_some_iff.mp hb).1] at h
    cases h
    rw [List.length_set]
    exact s.row _ _ hb
  · rw [List.getElem?_set_ne (Ne.symm c)] at h
    exact s.row _ _ h
theorem Tb.setRow {α : Type} {f : α → V} {H : Hp} {a r : Addr} {as : List Addr} {rows : List (List α)} {i : Nat} {w : List α} (t : Tb f H a as rows) (nd : as.Nodup) (na : a ∉ as) (hr : as[i]? = some r) (hw : rows[i]? = some w) (w' : List α) :
    Tb f (upd H r (.lst (w'.map f))) a as (rows.set i w') := by
  have rm : r ∈ as := List.mem_of_getElem? hr
  have ar : a ≠ r := fun z => na (by rw [z]; exact rm)
  refine ⟨by rw [upd_ne ar]; exact t.top, by rw [List.length_set]; exact t.len, fun j b x h1 h2 => ?_⟩
  by_cases c : j = i
  · subst c
    rw [hr] at h1
    cases h1
    rw [List.getElem?_set_self (List.getElem?_eq_some_iff.mp hw).1] at h2
    cases h2
    exact upd_same
  · rw [List.getElem?_set_ne (Ne.symm c)] at h2
    have ne : b ≠ r := fun z => by
      obtain ⟨l1, e1⟩ := List.getElem?_eq_some_iff.mp h1
      obtain ⟨l2, e2⟩ := List.getElem?_eq_some_iff.mp hr
      exact c ((List.getElem_inj nd).mp (e1.trans (z.trans e2.symm)))
    rw [upd_ne ne]
    exact t.row j b x h1 h2
/-- a grid that is new since H -/
structure Gr (H H' : Hp) (D : Addr) (cs : List Addr) (L : List (List Bool)) (n : Nat) : Prop where
  same : Same H H'
  tb : Tb V.bl H' D cs L
  sq : Sq n L
  dn : H D = none
  cn : ∀ c ∈ cs, H c = none
  nd : cs.Nodup
  ne : D ∉ cs
/-- a mark is set -/
theorem Gr.set {H H' : Hp} {D r : Addr} {cs : List Addr} {L : List (List Bool)} {n b e : Nat} {w : List Bool} (g : Gr H H' D cs L n) (hr : cs[b]? = some r) (hb : L[b]? = some w) (x : Bool) :
    Gr H (upd H' r (.lst ((w.map V.bl).set e (.bl x)))) D cs (L.set b (w.set e x)) n := by
  have em : (w.map V.bl).set e (.bl x) = (w.set e x).map V.bl := by rw [List.map_set]
  rw [em]
  exact ⟨g.same.put (g.cn r (List.mem_of_getElem? hr)) _, Tb.setRow g.tb g.nd g.ne hr hb _, g.sq.set hb x, g.dn, g.cn, g.nd, g.ne⟩
theorem rep_flat (n : Nat) : (List.replicate n [V.bl false]).flatten = (List.replicate n false).map V.bl := by
  induction n with
  | zero => rfl
  | succ n ih => rw [List.replicate_succ, List.flatten_cons, ih, List.replicate_succ]; rfl
theorem sq_rep (n : Nat) : Sq n (List.replicate n (List.replicate n false)) := by
  refine ⟨List.length_replicate, fun i w h => ?_⟩
  have := List.mem_of_getElem? h
  rw [List.eq_of_mem_replicate this, List.length_replicate]
theorem cell_rep (m n i j : Nat) : cell (List.replicate m (List.replicate n false)) i j = false := by
  cases h : (List.replicate m (List.replicate n false))[i]? with
  | none => exact cell_none h
  | some w =>
    rw [cell_row h, List.eq_of_mem_replicate (List.mem_of_getElem? h), List.getD_eq_getElem?_getD, List.getElem?_replicate]
    split <;> rfl
def dueN (w : List Bool) (i : Nat) : List Int := ((List.range i).filter fun j => w.getD j false).map Int.ofNat
theorem dueN_len (w : List Bool) : dueN w w.length = due w := rfl
theorem dueN_succ (w : List Bool) (i : Nat) : dueN w (i + 1) = if w.getD i false = true then dueN w i ++ [(i : Int)] else dueN w i := by
  unfold dueN
  rw [List.range_succ, List.filter_append, List.map_append]
  by_cases c : w.getD i false = true
  · rw [if_pos c, List.filter_cons, if_pos c]
    rfl
  · rw [if_neg c, List.filter_cons, if_neg c]
    simp
theorem dueN_le (w : List Bool) (i : Nat) : (dueN w i).length ≤ i := by
  unfold dueN
  rw [List.length_map]
  exact Nat.le_trans (List.length_filter_le _ _) (by rw [List.length_range]; exact Nat.le_refl _)
theorem getD_of {w : List Bool} {i : Nat} {b : Bool} (h : w[i]? = some b) : w.getD i false = b := by rw [List.getD_eq_getElem?_getD, h]; rfl
abbrev rLen (K : PySem.W.Frag) : List V → Hp → VK → Prop := fun xs H Q => ∃ p ys, xs = [.ref p] ∧ (SqL K H p ys ∨ SqT K H p ys) ∧ Q (.int ys.length) H
theorem bnd {n : Nat} (h : n ≤ 1000) : n < sizeLine := Nat.lt_of_le_of_lt h (by decide)
/-! ### the mathematics -/
theorem cell_iff {L : List (List Bool)} {i : Nat} {w : List Bool} {k : Int} (h : L[i]? = some w) : k ∈ due w ↔ 0 ≤ k ∧ cell L i k.toNat = true := by
  rw [mem_due, cell_row h, List.getD_eq_getElem?_getD]
  constructor
  · rintro ⟨a, b⟩
    exact ⟨a, by rw [b]; rfl⟩
  · rintro ⟨a, b⟩
    refine ⟨a, ?_⟩
    cases q : w[k.toNat]? with
    | none => rw [q] at b; cases b
    | some x => rw [q] at b; cases x <;> first | rfl | cases b
theorem due_at {L : List (List Bool)} {i : Nat} {w : List Bool} (h : L[i]? = some w) : (L.map due).getD i [] = due w := by
  rw [List.getD_eq_getElem?_getD, List.getElem?_map, h]
  rfl
theorem ti_due {n : Nat} {L : List (List Bool)} (s : Sq n L) : Ti n (L.map due) := by
  refine ⟨by rw [List.length_map]; exact s.len, fun i w h => ?_⟩
  rw [List.getElem?_map] at h
  cases q : L[i]? with
  | none => rw [q] at h; cases h
  | some v =>
    rw [q] at h
    cases h
    have lv := s.row i v q
    refine ⟨by rw [← lv]; exact due_len v, fun x hx => ?_⟩
    obtain ⟨h0, h1⟩ := mem_due.mp hx
    have := (List.getElem?_eq_some_iff.mp h1).1
    omega
/-- rows told by a word are those of a grid told by it -/
theorem rows_due {n : Nat} {R : List (List Int)} {M : List (List Bool)} {W : Nat → Int → Prop} (s : Sq n M) (hl : R.length = n) (h : Rows R W) (hm : ∀ i, i < n → ∀ k, W i k ↔ 0 ≤ k ∧ cell M i k.toNat = true) : R = M.map due := by
  apply List.ext_getElem?
  intro i
  by_cases c : i < n
  · have e1 : R[i]? = some (R[i]'(by omega)) := List.getElem?_eq_getElem _
    have e2 : M[i]? = some (M[i]'(by rw [s.len]; exact c)) := List.getElem?_eq_getElem _
    rw [List.getElem?_map, e2, e1]
    obtain ⟨h1, h2⟩ := h i _ e1
    refine congrArg some (rising_ext h1 (due_rising _) fun k => ?_)
    rw [h2, hm i c, cell_iff e2]
  · rw [List.getElem?_eq_none (by omega), List.getElem?_eq_none (by rw [List.length_map, s.len]; omega)]
/-- which cells are done -/
def dn (n i d p q : Nat) : Bool := decide (p ≤ q ∧ q < n ∧ (p < i ∨ (p = i ∧ q < i + d)))
theorem cell_out {n : Nat} {L : List (List Bool)} (s : Sq n L) {i j : Nat} (h : cell L i j = true) : i < n ∧ j < n := by
  cases q : L[i]? with
  | none => rw [cell_none q] at h; cases h
  | some w =>
    rw [cell_row q, List.getD_eq_getElem?_getD] at h
    cases z : w[j]? with
    | none => rw [z] at h; cases h
    | some b =>
      have := s.row i w q
      have h1 := (List.getElem?_eq_some_iff.mp q).1
      have h2 := (List.getElem?_eq_some_iff.mp z).1
      rw [s.len] at h1
      omega
theorem cutB_iff {L U : List (List Bool)} {i j : Nat} : cutB L U i j = true ↔ ∃ c, i ≤ c ∧ c ≤ j ∧ cell L i c = true ∧ cell U c j = true := by
  unfold cutB
  rw [List.any_eq_true]
  constructor
  · rintro ⟨d, hd, h⟩
    rw [Bool.and_eq_true] at h
    have := List.mem_range.mp hd
    exact ⟨i + d, by omega, by omega, h.1, h.2⟩
  · rintro ⟨c, h1, h2, h3, h4⟩
    refine ⟨c - i, List.mem_range.mpr (by omega), ?_⟩
    have e : i + (c - i) = c := by omega
    rw [e, h3, h4]
    rfl
theorem Gr.frame {H H' : Hp} {D r : Addr} {cs : List Addr} {L : List (List Bool)} {n : Nat} (g : Gr H H' D cs L n) (h1 : r ∉ cs) (h2 : r ≠ D) (h3 : H r = none) (o : HO) : Gr H (upd H' r o) D cs L n := by
  refine ⟨g.same.put h3 _, ⟨by rw [upd_ne h2.symm]; exact g.tb.top, g.tb.len, fun i b w e1 e2 => ?_⟩, g.sq, g.dn, g.cn, g.nd, g.ne⟩
  have : b ≠ r := fun z => h1 (z ▸ List.mem_of_getElem? e1)
  rw [upd_ne this]
  exact g.tb.row i b w e1 e2
theorem Gr.base {H0 H H' : Hp} {D : Addr} {cs : List Addr} {L : List (List Bool)} {n : Nat} (g : Gr H H' D cs L n) (s : Same H0 H) : Gr H0 H' D cs L n :=
  ⟨s.trans g.same, g.tb, g.sq, s.free g.dn, fun c hc => s.free (g.cn c hc), g.nd, g.ne⟩
theorem Gr.later {H H' H2 : Hp} {D : Addr} {cs : List Addr} {L : List (List Bool)} {n : Nat} (g : Gr H H' D cs L n) (s : Same H' H2) : Gr H H2 D cs L n :=
  ⟨g.same.trans s, g.tb.same s, g.sq, g.dn, g.cn, g.nd, g.ne⟩
/-- two grids, the second of them new behind the first -/
theorem Gr.apart {H H1 H2 : Hp} {D D' : Addr} {cs cs' : List Addr} {L L' : List (List Bool)} {n n' : Nat} (g : Gr H H1 D cs L n) (g' : Gr H1 H2 D' cs' L' n') : (∀ c ∈ cs, c ∉ cs' ∧ c ≠ D') ∧ (∀ c ∈ cs', c ∉ cs ∧ c ≠ D) := by
  have at1 : ∀ c ∈ cs, H1 c ≠ none := fun c hc => by
    obtain ⟨j, hj, e⟩ := List.getElem_of_mem hc
    have hj' : j < L.length := by rw [← g.tb.len]; exact hj
    rw [g.tb.row j c _ (by rw [List.getElem?_eq_getElem hj, e]) (List.getElem?_eq_getElem hj')]
    simp
  refine ⟨fun c hc => ⟨fun z => at1 c hc (g'.cn c z), fun z => at1 c hc (z ▸ g'.dn)⟩, fun c hc => ⟨fun z => at1 c z (g'.cn c hc), fun z => ?_⟩⟩
  have := g'.cn c hc
  rw [z, g.tb.top] at this
  cases this

/-! ### chains of pieces -/
inductive Rc (G : List (List Int)) : Int → Int → Prop
  | refl (p : Int) : Rc G p p
  | step {p x k : Int} : x ∈ G.getD p.toNat [] → Rc G x k → Rc G p k
theorem Rc.first {G : List (List Int)} {p k : Int} (h : Rc G p k) : k = p ∨ ∃ x ∈ G.getD p.toNat [], x ≠ p ∧ Rc G x k := by
  induction h with
  | refl p => exact .inl rfl
  | @step p x k hx hr ih =>
    by_cases c : x = p
    · subst c
      exact ih
    · exact .inr ⟨x, hx, c, hr⟩
theorem Rc.snoc {G : List (List Int)} {p y k : Int} (h : Rc G p y) (hk : k ∈ G.getD y.toNat []) : Rc G p k := by
  induction h with
  | refl p => exact .step hk (.refl k)
  | step hx _ ih => exact .step hx (ih hk)
/-- pieces lead upward and stay below n -/
structure Tu (n : Nat) (G : List (List Int)) : Prop where
  len : G.length = n
  row : ∀ (i : Nat) w, G[i]? = some w → w.length ≤ n ∧ ∀ x ∈ w, (i : Int) ≤ x ∧ x < (n : Int)
theorem Tu.at {n : Nat} {G : List (List Int)} (t : Tu n G) {p x : Int} (hp : 0 ≤ p) (h : x ∈ G.getD p.toNat []) : p ≤ x ∧ x < (n : Int) ∧ p < (n : Int) := by
  rw [List.getD_eq_getElem?_getD] at h
  cases q : G[p.toNat]? with
  | none => rw [q] at h; cases h
  | some w =>
    rw [q] at h
    have := (t.row _ w q).2 x h
    have l := (List.getElem?_eq_some_iff.mp q).1
    rw [t.len] at l
    omega
theorem Rc.up {n : Nat} {G : List (List Int)} (t : Tu n G) {p k : Int} (h : Rc G p k) (hp : 0 ≤ p) (hn : p < n) : p ≤ k ∧ k < n := by
  induction h with
  | refl p => exact ⟨Int.le_refl _, hn⟩
  | step hx _ ih =>
    obtain ⟨h1, h2, _⟩ := t.at hp hx
    have := ih (by omega) h2
    omega
theorem Rc.last {n : Nat} {G : List (List Int)} (t : Tu n G) {p k : Int} (h : Rc G p k) (hp : 0 ≤ p) (hn : p < n) : k = p ∨ ∃ y, Rc G p y ∧ y < k ∧ k ∈ G.getD y.toNat [] := by
  induction h with
  | refl p => exact .inl rfl
  | @step p x k hx hr ih =>
    obtain ⟨h1, h2, _⟩ := t.at hp hx
    rcases ih (by omega) h2 with e | ⟨y, ry, ly, hy⟩
    · subst e
      by_cases c : k = p
      · exact .inl c
      · exact .inr ⟨p, .refl p, by omega, hx⟩
    · exact .inr ⟨y, .step hx ry, ly, hy⟩
theorem Tb.setTop {α : Type} {f : α → V} {H H' : Hp} {D q : Addr} {cs : List Addr} {R : List (List α)} {w : List α} {p : Nat} (t : Tb f H D cs R) (ne : ∀ c ∈ cs, c ≠ D) (s : Same H H') (hq : H' q = some (.lst (w.map f))) (qD : q ≠ D) :
    Tb f (upd H' D (.lst ((cs.map V.ref).set p (.ref q)))) D (cs.set p q) (R.set p w) := by
  refine ⟨by rw [upd_same, List.map_set], by rw [List.length_set, List.length_set]; exact t.len, fun i b x h1 h2 => ?_⟩
  by_cases c : p = i
  · subst c
    have l1 := (List.getElem?_eq_some_iff.mp h1).1
    have l2 := (List.getElem?_eq_some_iff.mp h2).1
    rw [List.length_set] at l1 l2
    rw [List.getElem?_set_self l1] at h1
    rw [List.getElem?_set_self l2] at h2
    cases h1
    cases h2
    rw [upd_ne qD]
    exact hq
  · rw [List.getElem?_set_ne c] at h1 h2
    rw [upd_ne (ne b (List.mem_of_getElem? h1))]
    exact s _ _ (t.row i b x h1 h2)
def ones (n : Nat) : List (List Int) := (List.range n).map fun (i : Nat) => [(i : Int)]
theorem ones_at {n i : Nat} {w : List Int} (h : (ones n)[i]? = some w) : w = [(i : Int)] := by
  unfold ones at h
  rw [List.getElem?_map] at h
  cases q : (List.range n)[i]? with
  | none => rw [q] at h; cases h
  | some j =>
    rw [q] at h
    have := (List.getElem?_eq_some_iff.mp q)
    obtain ⟨l, e⟩ := this
    rw [List.getElem_range] at e
    cases h
    rw [e]
/-- the table behind i turns from the end -/
def Half (G : List (List Int)) (n i : Nat) (R : List (List Int)) : Prop := R.length = n ∧ ∀ (p : Nat) w, R[p]? = some w → (p < n - i → w = [(p : Int)]) ∧ (n - i ≤ p → w.Pairwise (· < ·) ∧ ∀ k, k ∈ w ↔ Rc G p k)
theorem Half.row {n i : Nat} {G R : List (List Int)} (h : Half G n i R) (t : Tu n G) (p : Nat) (w : List Int) (hw : R[p]? = some w) : (∀ x ∈ w, 0 ≤ x ∧ x < (n : Int)) ∧ w.Pairwise (· < ·) := by
  have lp := (List.getElem?_eq_some_iff.mp hw).1
  rw [h.1] at lp
  obtain ⟨h1, h2⟩ := h.2 p w hw
  by_cases c : p < n - i
  · rw [h1 c]
    exact ⟨fun x hx => by rw [List.mem_singleton.mp hx]; omega, List.pairwise_singleton _ _⟩
  · obtain ⟨q1, q2⟩ := h2 (by omega)
    exact ⟨fun x hx => by have := Rc.up t ((q2 x).mp hx) (by omega) (by omega); omega, q1⟩
theorem rising_len {n : Nat} {w : List Int} (h : w.Pairwise (· < ·)) (hb : ∀ x ∈ w, 0 ≤ x ∧ x < (n : Int)) : w.length ≤ n := by
  have := St.sub_len w ((List.range n).map Int.ofNat) (h.imp fun {a b} z => by omega) fun x hx => by
    have := hb x hx
    exact List.mem_map.mpr ⟨x.toNat, List.mem_range.mpr (by omega), by show ((x.toNat : Nat) : Int) = x; omega⟩
  simpa using this
theorem Half.turn {n i : Nat} {G R : List (List Int)} (h : Half G n i R) (t : Tu n G) (hi : i < n) {ms : List Int} (h1 : ms.Pairwise (· < ·)) (h2 : ∀ k, k ∈ ms ↔ ∃ x ∈ ((n - 1 - i : Nat) : Int) :: G.getD (n - 1 - i) [], k ∈ R.getD x.toNat []) :
    Half G n (i + 1) (R.set (n - 1 - i) ms) := by
  refine ⟨by rw [List.length_set]; exact h.1, fun p w hw => ?_⟩
  by_cases c : n - 1 - i = p
  · have lp : n - 1 - i < R.length := by rw [h.1]; omega
    rw [← c, List.getElem?_set_self lp] at hw
    cases hw
    refine ⟨fun z => by omega, fun _ => ⟨h1, fun k => ?_⟩⟩
    have gp : G.getD p [] = G.getD (p : Int).toNat [] := by rw [Int.toNat_natCast]
    have rp : ∀ q : Nat, q < n → ∃ w, R[q]? = some w ∧ R.getD q [] = w := fun q hq => by
      have e : R[q]? = some (R[q]'(by rw [h.1]; exact hq)) := List.getElem?_eq_getElem _
      exact ⟨_, e, by rw [List.getD_eq_getElem?_getD, e]; rfl⟩
    obtain ⟨w0, e0, d0⟩ := rp p (by omega)
    have w0e := (h.2 p w0 e0).1 (by omega)
    rw [h2, c, gp]
    constructor
    · rintro ⟨x, hx, hk⟩
      rcases List.mem_cons.mp hx with rfl | hx
      · rw [Int.toNat_natCast, d0, w0e] at hk
        rw [List.mem_singleton.mp hk]
        exact .refl _
      · obtain ⟨b1, b2, _⟩ := t.at (by omega) hx
        obtain ⟨wx, ex, dx⟩ := rp x.toNat (by omega)
        rw [dx] at hk
        by_cases cx : x.toNat = p
        · have xp : x = (p : Int) := by omega
          subst xp
          rw [Int.toNat_natCast] at ex
          rw [e0] at ex
          cases ex
          rw [w0e] at hk
          rw [List.mem_singleton.mp hk]
          exact .refl _
        · have := ((h.2 x.toNat wx ex).2 (by omega)).2 k
          have xe : ((x.toNat : Nat) : Int) = x := by omega
          rw [xe] at this
          exact .step hx (this.mp hk)
    · intro hr
      rcases hr.first with e | ⟨x, hx, nx, rx⟩
      · subst e
        exact ⟨_, List.mem_cons_self, by rw [Int.toNat_natCast, d0, w0e]; exact List.mem_singleton.mpr rfl⟩
      · obtain ⟨b1, b2, _⟩ := t.at (by omega) hx
        obtain ⟨wx, ex, dx⟩ := rp x.toNat (by omega)
        refine ⟨x, List.mem_cons_of_mem _ hx, ?_⟩
        rw [dx]
        have := ((h.2 x.toNat wx ex).2 (by omega)).2 k
        have xe : ((x.toNat : Nat) : Int) = x := by omega
        rw [xe] at this
        exact this.mpr rx
  · rw [List.getElem?_set_ne c] at hw
    have lp := (List.getElem?_eq_some_iff.mp hw).1
    rw [h.1] at lp
    obtain ⟨q1, q2⟩ := h.2 p w hw
    exact ⟨fun z => q1 (by omega), fun z => q2 (by omega)⟩
section
variable {P : Program} {w : World} {K : PySem.W.Frag} {mg : Str → Option Value} {base : Heap}
/-! ### many -/
theorem comp_many {t : Addr} {ts : List Addr} {G : List (List Int)} {n : Nat} {H : Hp} (tb : Tb V.int H t ts G) (hg : G.length = n) (hn : n ≤ 31) (Q : VK) (k : ∀ D cs H1, H D = none → Same H H1 → Tb V.int H1 D cs (ones n) → (∀ c ∈ cs, c ≠ D) → Q (.ref D) H1) :
    tComp (iRng1 (tCons (tCB (rLen K) (tCons (tVar 0) tNil)) tNil)) 1 [] (gName 0) tAll (tLst (tCons (tVar 0) tNil)) [some (.ref t), none, none] H Q := by
  have lt : (ts.map V.ref).length = n := by rw [List.length_map, tb.len, hg]
  refine ⟨_, rfl, t, _, rfl, .inl (.of tb.top), _, rfl, by omega, by omega, ?_⟩
  rw [Int.toNat_natCast, lt]
  intro D hD
  refine comp_range (lo := 0) (n := n) (D := D) (fun i σ H2 => ∃ v cs, σ = [v] ∧ Same H H2 ∧ Tb V.int H2 D cs (ones i) ∧ ∀ c ∈ cs, c ≠ D) ?_ ?_ ?_
  · exact ⟨none, [], rfl, same_new hD _, Tb.nil upd_same, fun c h => by cases h⟩
  · rintro i σ H2 hi ⟨v, cs, rfl, s2, t2, ne⟩
    refine ⟨_, rfl, (by show 1 ≤ sizeLine; decide), fun q hq => ?_⟩
    have qD : q ≠ D := fun z => by rw [z, t2.top] at hq; cases hq
    have g1 := same_new hq (.lst [V.int ((0 : Int) + (i : Int))])
    have e0 : (0 : Int) + (i : Int) = (i : Int) := by omega
    have l2 := t2.len
    unfold ones at l2
    rw [List.length_map, List.length_range] at l2
    refine ⟨_, g1 _ _ t2.top, ?_, _, cs ++ [q], rfl, (s2.trans g1).put hD _, ?_, fun c hc => ?_⟩
    · rw [List.length_map]
      exact bnd (by omega)
    · have eo : ones (i + 1) = ones i ++ [[(i : Int)]] := by
        unfold ones
        rw [List.range_succ, List.map_append]
        rfl
      rw [eo]
      exact t2.push (fun b o hb e => by rw [upd_ne hb]; exact g1 b o e) (by rw [upd_ne qD, upd_same, e0]; rfl) (fun j b x e _ => ne b (List.mem_of_getElem? e)) upd_same
    · rcases List.mem_append.mp hc with z | z
      · exact ne c z
      · rw [List.mem_singleton.mp z]; exact qD
  · rintro σ H2 ⟨v, cs, rfl, s2, t2, ne⟩
    exact k D cs H2 hD s2 t2 ne
def spMany : Sp := fun vs H Q _ => ∃ (t : Addr) (ts : List Addr) (G : List (List Int)) (n : Nat), vs = [.ref t] ∧ Tb V.int H t ts G ∧ Tu n G ∧ n ≤ 31 ∧
  ∀ (D : Addr) (cs : List Addr) (H' : Hp) (R : List (List Int)), Same H H' → H D = none → Tb V.int H' D cs R → R.length = n → Rows R (fun p k => Rc G p k) → Q (.ref D) H'
theorem scMany : FnScope ["told", "rows", "place"] ["told"] (defScope sMany) := ⟨rfl, rfl, rfl, by decide +kernel, rfl, by decide +kernel, by decide +kernel⟩
theorem ndM : (["place"] : List Str).Nodup := by decide +kernel
theorem ok_many {f g : Addr} {fd gd : FuncData} (F : Fun K "many" "many" sMany f fd) (T : Txt mg) (E1 : FnOk P w K mg base CX0 1 g gd ["places", "table"] (spEnds K)) (bG : Binds K gd ["places", "table"] []) (kG : PySem.W.keepIn K (.ref g) = true) (mG : mg "ends_behind" = some (.ref g)) :
    FnOk P w K mg base CX0 2 f fd ["told"] spMany := by
  refine F.ok scMany (fun vs H Q E h => ?_) (fun cdv A outer s H vs Q E hr h => ?_)
  · obtain ⟨t, ts, G, n, rfl, _⟩ := h
    rfl
  obtain ⟨t, ts, G, n, rfl, tb, tu, hn, k⟩ := h
  refine ⟨_, pss_cons (ps_setC (i := 1) (N := ["place"]) (frees := []) (nl := 1) (js := []) scMany.nd rfl (Or.inl rfl) rfl (pi_range1 rfl T.rng (pa_cons (pe_callB call_len_seq rfl T.len PySem.boot_len (pa_cons (pv 0) pa_nil)) pa_nil)) rfl rfl rfl rfl
      (fun C s H fp => pg_name (i := 0) ndM rfl (Or.inl rfl)) (fun C s H fp => pf_nil) (fun C s H fp => pe_lst (pa_cons (pv 0) pa_nil)))
    (pss_cons (ps_for PassesOwn.never rfl (pi_rangeD rfl T.rng (pa_cons (pe_op op_sub (pe_callB call_len_seq rfl T.len PySem.boot_len (pa_cons (pv 0) pa_nil)) pe_int) (pa_cons (pe_un un_neg pe_int) (pa_cons (pe_un un_neg pe_int) pa_nil)))) (pg_name (i := 2) scMany.nd rfl (Or.inl rfl))
      (pss_one (ps_asg (pe_call E1 hr rfl mG kG bG .nil pass0 (pa_cons (pe_op op_cat (pe_lst (pa_cons (pv 2) pa_nil)) (pe_ix ix_list (pv 0) (pv 2) (fun _ _ => rfl))) (pa_cons (pv 1) pa_nil))) (pg_sub (pv 1) (pv 2) set_list))))
    (pss_one (ps_ret (pv 1)))), ?_⟩
  refine seq_asg (comp_many tb tu.len hn _ fun D cs H1 hD s1 t1 ne => ?_)
  have lt : (ts.map V.ref).length = n := by rw [List.length_map, tb.len, tu.len]
  refine ⟨_, rfl, t, _, rfl, .inl (.of (tb.same s1).top), _, _, rfl, rfl, _, rfl, _, rfl, _, _, rfl, ⟨by omega, by omega, by decide, by decide⟩, ?_⟩
  have eN : ((((ts.map V.ref).length : Nat) : Int) - 1 - -1).toNat = n := by omega
  rw [eN]
  refine for_down (n := n) (fun i σ H2 => ∃ v cs R, σ = [some (.ref t), some (.ref D), v] ∧ Same H H2 ∧ Tb V.int H2 D cs R ∧ Half G n i R ∧ ∀ c ∈ cs, c ≠ D) ?_ ?_ ?_
  · refine ⟨none, cs, ones n, rfl, s1, t1, ⟨by unfold ones; rw [List.length_map, List.length_range], fun p w hw => ⟨fun _ => ones_at hw, fun z => ?_⟩⟩, ne⟩
    have := (List.getElem?_eq_some_iff.mp hw).1
    unfold ones at this
    rw [List.length_map, List.length_range] at this
    omega
  · rintro i σ H2 hi ⟨v, cs, R, rfl, s2, t2, hf, ne⟩
    have ep : (((ts.map V.ref).length : Nat) : Int) - 1 - (i : Int) = ((n - 1 - i : Nat) : Int) := by omega
    have pn : n - 1 - i < n := by omega
    rw [ep]
    obtain ⟨r, gw, a1, b1, c1, _⟩ := Tb.ix (tb.same s2) (k := ((n - 1 - i : Nat) : Int)) (by omega) (by rw [tu.len]; omega)
    rw [Int.toNat_natCast] at b1
    obtain ⟨lg, bg⟩ := tu.row _ _ b1
    have gd' : G.getD (n - 1 - i) [] = gw := by rw [List.getD_eq_getElem?_getD, b1]; rfl
    refine ⟨_, rfl, (by show 1 ≤ sizeLine; decide), fun p hp => ?_⟩
    have g1 := same_new hp (.lst [V.int ((n - 1 - i : Nat) : Int)])
    refine ⟨_, rfl, _, rfl, t, _, _, _, rfl, rfl, .of (((tb.same s2).same g1).top), a1, p, r, _, _, rfl, rfl, upd_same, g1 _ _ c1, ?_, fun q hq => ?_⟩
    · rw [List.length_map, List.length_singleton]
      exact small (by omega)
    have g2 := g1.trans (same_new hq (.lst ([V.int ((n - 1 - i : Nat) : Int)] ++ gw.map V.int)))
    refine ⟨_, rfl, q, D, cs, ((n - 1 - i : Nat) : Int) :: gw, R, rfl, .of upd_same, t2.same g2, ?_, ?_, ?_, fun e H3 ms s3 he hm p1 p2 => ?_⟩
    · intro x hx
      rw [hf.1]
      rcases List.mem_cons.mp hx with rfl | hx
      · omega
      · have := bg x hx
        omega
    · rw [List.length_cons]
      omega
    · intro rr hrr
      obtain ⟨j, hj, ej⟩ := List.getElem_of_mem hrr
      obtain ⟨z1, z2⟩ := hf.row tu j rr (by rw [List.getElem?_eq_getElem hj, ej])
      have := rising_len z2 z1
      exact ⟨fun x hx => by have := z1 x hx; omega, by omega⟩
    · have eD : e ≠ D := fun z => by rw [z, (t2.same g2).top] at he; cases he
      have lc : ((cs.map V.ref).length : Nat) = n := by rw [List.length_map, t2.len, hf.1]
      have t3 := (t2.same g2).same s3
      refine ⟨_, rfl, _, rfl, D, _, _, n - 1 - i, rfl, rfl, t3.top, (by rw [ixN_of (by omega) (by rw [lc]; omega), Int.toNat_natCast]), _, cs.set (n - 1 - i) e, R.set (n - 1 - i) ms, rfl, ((s2.trans g2).trans s3).put hD _,
        Tb.setTop (t2.same g2) ne s3 hm eD, hf.turn tu hi p1 (by rw [gd']; exact p2), fun c hc => ?_⟩
      rcases List.mem_or_eq_of_mem_set hc with z | z
      · exact ne c z
      · rw [z]; exact eD
  · rintro σ H2 ⟨v, cs, R, rfl, s2, t2, hf, ne⟩
    exact ⟨_, rfl, k D cs H2 R s2 hD t2 hf.1 fun p w hw => (hf.2 p w hw).2 (by omega)⟩
end
end B

set_option Elab.async false
set_option linter.all false
set_option maxRecDepth 100000
namespace B
open PySem L2
open St (Sml)
section
variable {P : Program} {w : World} {K : PySem.W.Frag} {mg : Str → Option Value} {base : Heap}
/-! ### _law_whole -/
def spWhole : Sp := fun vs H Q _ => ∃ i, vs = [.int i] ∧ Q (.bl true) H
theorem scWhole : FnScope ["_law_found"] ["_law_found"] (defScope sWhole) := ⟨rfl, rfl, rfl, by decide +kernel, rfl, by decide +kernel, by decide +kernel⟩
theorem ok_whole {f : Addr} {fd : FuncData} (F : Fun K "_law_whole" "_law_whole" sWhole f fd) (T : Txt mg) : FnOk P w K mg base CX0 1 f fd ["_law_found"] spWhole := by
  refine F.ok scWhole (fun vs H Q E h => ?_) (fun cdv A outer s H vs Q E hr h => ?_)
  · obtain ⟨i, rfl, _⟩ := h
    rfl
  obtain ⟨i, rfl, k⟩ := h
  refine ⟨_, pss_one (ps_ret (pe_and (pe_callB call_isi rfl T.isi boot_isi (pa_cons (pv 0) (pa_cons (pe_bltn rfl T.int boot_intT (v := .ty "int") rfl) pa_nil)))
    (pe_one (pe_not (pe_callB call_isi rfl T.isi boot_isi (pa_cons (pv 0) (pa_cons (pe_bltn rfl T.bool boot_boolT (v := .ty "bool") rfl) pa_nil))))))), ?_⟩
  refine ⟨_, rfl, _, _, _, _, rfl, .int i, isi_int_int _, _, rfl, ?_⟩
  refine iteT ?_
  exact ⟨_, rfl, _, _, _, _, rfl, .int i, isi_int_bool _, _, rfl, k⟩

end
end B

set_option Elab.async false
set_option linter.all false
set_option maxRecDepth 100000
namespace B
open PySem L2
open St (Sml)
open Sm (G gN gB gJ gE gM run step Wf flt okc)
/-! ### a dict of the module -/
structure KD (P : Program) (w : World) (K : PySem.W.Frag) (d : Addr) (kvs : List (Key × V)) : Prop where
  at' : ∀ h : Heap, K.In h → (d == sysModules) = false ∧ ∃ vs, KV kvs vs ∧ h.DictOf (mixKind P w) d vs
def tGetK (d : Addr) (kvs : List (Key × V)) (to ty : TE) : TE := fun σ H Q => to σ H fun x H1 => x = .ref d ∧ ty σ H1 fun y H2 => ∃ k : Key, y = kV k ∧ Q ((valV kvs k).getD .non) H2
theorem pe_getK {X : Cx} {o e : Expr} {apos cpos : Pos} {to ty : TE} {d : Addr} {kvs : List (Key × V)} (D : KD X.prog X.w X.K d kvs) (ho : PE X o to) (he : PE X e ty)
    (hbase : attributeBase o "get" X.env (eval o X.env) = eval o X.env := by rfl)
    (hfew : ((backTo cpos (starEach [e] X.env)).all (fun x => !x.1) && (backToKw cpos (keywordEach [] X.env)).all (fun x => x.1.isSome)
      && decide (([e] : List Expr).length + ([] : List Keyword).length + (if ([] : List Keyword).isEmpty then 0 else 1) < 30)) = true := by rfl)
    (hline : (apos.endLine == cpos.line) = true := by rfl) (htrees : backTo cpos (starEach [e] X.env) = [(false, eval e X.env)] := by rfl) :
    PE X (.Call (.Attribute o "get" apos) [e] [] cpos) (tGetK d kvs to ty) := by
  intro pins s σ H Q I h
  refine wpAny_Call_method hbase hfew hline PySem.F.plainAttrs_dict PySem.F.slot_dict_get PySem.F.type_dict_get (thn (ho pins s σ H _ I h) fun u s1 ⟨x, H1, I1, rx, ex, q1⟩ => ?_)
  subst ex
  obtain rfl : u = Value.ref d := rx
  obtain ⟨hd, vs, rel, dd⟩ := D.at' _ I1.kIn
  refine ⟨dd.typeIs, fun b q => ?_, ?_⟩
  · cases q
    obtain ⟨ob, _, _, h1, h2, _⟩ := dd
    exact ⟨ob, h1, h2.2.1⟩
  rw [htrees]
  refine Calls.callWith_builtin rfl (Calls.evalArgs_plain (Calls.spliced_cons (thn (he pins s1 σ H1 _ I1 q1) fun iv s2 ⟨y, H2, I2, ry, k, ey, q2⟩ => Calls.spliced_nil ?_)))
  subst ey
  obtain ⟨hd, vs, rel, dd⟩ := D.at' _ I2.kIn
  exact call_meetsIn PySem.F.slot_dict_get dd.typeIs PySem.F.entry_dict_get (PySem.F.args_dict_get_2 _ _) (meets_dict_get (mixKind X.prog X.w) d (kV_is ry) hd) ⟨_, dd.mapOf, ⟨_, H2, I2.tok _, (rel.val k).getD (d := .non) rfl, q2⟩⟩

/-! ### taken_by -/
def TK : List (Key × V) := [(.inr (T [46]), .int 0), (.inr (T [42]), .int 1), (.inr (T [43]), .int 2), (.inr (T [47]), .int 2)]
def tkV (c : Nat) : V := if 97 ≤ c ∧ c ≤ 122 then .int 0 else (valV TK (.inr (T [c]))).getD .non
theorem tkV_ok {c : Nat} (h : okc c = true) : tkV c = .int (Sm.taken c) := by
  rcases of_decide_eq_true h with rfl | rfl | rfl | rfl | h
  · decide
  · decide
  · decide
  · decide
  · unfold tkV Sm.taken
    rw [if_pos h, if_neg (by omega), if_neg (by omega)]
    rfl
theorem tkV_no {c : Nat} (h : okc c = false) : tkV c = .non := by
  have n := of_decide_eq_false h
  have ne : ∀ d, d ≠ c → ¬ (Sum.inr (T [d]) : Key) = Sum.inr (T [c]) := fun d hd z => hd (by have := T_inj (Sum.inr.inj z); simpa using this)
  unfold tkV TK
  rw [if_neg (by omega), valV_neg (ne 46 (by omega)), valV_neg (ne 42 (by omega)), valV_neg (ne 43 (by omega)), valV_neg (ne 47 (by omega)), valV_nil]
  rfl
theorem lt_one (c d : Nat) : decide (([c] : List Nat) < [d]) = decide (c < d) := by
  apply decide_eq_decide.mpr
  constructor
  · intro h
    cases h with
    | cons h => cases h
    | rel h => exact h
  · intro h
    exact List.Lex.rel h
section
variable {P : Program} {w : World} {K : PySem.W.Frag} {mg : Str → Option Value} {base : Heap}
def spTaken : Sp := fun vs H Q _ => ∃ c, vs = [.str (T [c])] ∧ Q (tkV c) H
theorem scTaken : FnScope ["sign"] ["sign"] (defScope sTaken) := ⟨rfl, rfl, rfl, by decide +kernel, rfl, by decide +kernel, by decide +kernel⟩
theorem str_a : (("a" : Str)).cps.toList = [97] := by decide +kernel
theorem str_z : (("z" : Str)).cps.toList = [122] := by decide +kernel
theorem ok_taken {f d : Addr} {fd : FuncData} (F : Fun K "taken_by" "taken_by" sTaken f fd) (D : KD P w K d TK) (mT : mg "TAKEN" = some (.ref d)) : FnOk P w K mg base CX0 1 f fd ["sign"] spTaken := by
  refine F.ok scTaken (fun vs H Q E h => ?_) (fun cdv A outer s H vs Q E hr h => ?_)
  · obtain ⟨c, rfl, _⟩ := h
    rfl
  obtain ⟨c, rfl, k⟩ := h
  refine ⟨_, pss_cons (ps_if (pt_chain op_le_str op_le_str pe_str (pv 0) pe_str) (pss_one (ps_ret pe_int)) pss_nil) (pss_one (ps_ret (pe_getK D (pe_glob rfl mT (v := .ref d) rfl) (pv 0)))), ?_⟩
  refine ⟨_, rfl, _, _, rfl, rfl, _, rfl, ?_⟩
  have e1 : decide ((T [c]).cps.toList < (("a" : Str)).cps.toList) = decide (c < 97) := by rw [str_a]; exact lt_one c 97
  have e2 : decide ((("z" : Str)).cps.toList < (T [c]).cps.toList) = decide (122 < c) := by rw [str_z]; exact lt_one 122 c
  have last : ¬ (97 ≤ c ∧ c ≤ 122) → tC (.ref d) [some (V.str (T [c]))] H fun x H1 => x = .ref d ∧ tVar 0 [some (V.str (T [c]))] H1 fun y H2 => ∃ kk : Key, y = kV kk ∧ Q ((valV TK kk).getD .non) H2 := fun n => by
    refine ⟨rfl, _, rfl, .inr (T [c]), rfl, ?_⟩
    unfold tkV at k
    rw [if_neg n] at k
    exact k
  by_cases h1 : c < 97
  · rw [e1, decide_eq_true h1]
    refine iteF ⟨_, rfl, iteF ?_⟩
    exact last (by omega)
  · rw [e1, decide_eq_false h1]
    refine iteT ⟨_, _, rfl, rfl, _, rfl, ?_⟩
    by_cases h2 : 122 < c
    · rw [e2, decide_eq_true h2]
      refine iteF ?_
      exact last (by omega)
    · rw [e2, decide_eq_false h2]
      refine iteT ?_
      unfold tkV at k
      rw [if_pos ⟨by omega, by omega⟩] at k
      exact k

/-! ### fault -/
def ofO : Option Nat → V
  | none => .non
  | some p => .int p
def spFault : Sp := fun vs H Q _ => ∃ l : List Nat, vs = [.str (T l)] ∧ l.length ≤ 1000 ∧ ∀ H', Same H H' → Q (ofO (flt l 0 0)) H'
abbrev nFault : List Str := ["text", "height", "place", "sign", "taken"]
theorem scFault : FnScope nFault ["text"] (defScope sFault) := ⟨rfl, rfl, rfl, by decide +kernel, rfl, by decide +kernel, by decide +kernel⟩
theorem ok_fault {f g : Addr} {fd gd : FuncData} (F : Fun K "fault" "fault" sFault f fd) (T1 : Txt mg) (G1 : FnOk P w K mg base CX0 1 g gd ["sign"] spTaken) (bG : Binds K gd ["sign"] []) (kG : PySem.W.keepIn K (.ref g) = true) (mG : mg "taken_by" = some (.ref g)) :
    FnOk P w K mg base CX0 2 f fd ["text"] spFault := by
  refine F.ok scFault (fun vs H Q E h => ?_) (fun cdv A outer s H vs Q E hr h => ?_)
  · obtain ⟨l, rfl, _⟩ := h
    rfl
  obtain ⟨l, rfl, hl, k⟩ := h
  refine ⟨_, pss_cons (ps_set (i := 1) scFault.nd rfl (Or.inl rfl) pe_int)
    (pss_cons (ps_for PassesOwn.never rfl (pi_enum rfl T1.enum (pa_cons (pv 0) pa_nil)) (pg_tup (n := 2) rfl (pgs_cons (pg_name (i := 2) scFault.nd rfl (Or.inl rfl)) (pgs_cons (pg_name (i := 3) scFault.nd rfl (Or.inl rfl)) pgs_nil)))
      (pss_cons (ps_set (i := 4) scFault.nd rfl (Or.inl rfl) (pe_call G1 hr rfl mG kG bG .nil pass0 (pa_cons (pv 3) pa_nil)))
      (pss_cons (ps_if (PW.pt (pw_or (pt_cmpR op_isN (pv 4) pe_non (nomark _)) (pw_or1 (pt_cmpR op_gt (pv 4) (pv 1) (nomark _))))) (pss_one (ps_ret (pv 2))) pss_nil)
      (pss_one (ps_set (i := 1) scFault.nd rfl (Or.inl rfl) (pe_op op_add (pe_op op_sub (pv 1) (pv 4)) pe_int))))))
    (pss_cons (ps_if (pt_cmpR op_eq (pv 1) pe_int (nomark _)) (pss_one (ps_ret pe_non)) pss_nil)
    (pss_one (ps_ret (pe_callB call_len_str rfl T1.len PySem.boot_len (pa_cons (pv 0) pa_nil)))))), ?_⟩
  refine ⟨_, rfl, l, rfl, ?_⟩
  refine for_enum (l := l) (fun i σ H2 => ∃ (h : Nat) (v2 v3 v4 : Option V), σ = [some (.str (T l)), some (.int h), v2, v3, v4] ∧ Same H H2 ∧ flt l 0 0 = flt (l.drop i) i h) ?_ ?_ ?_
  · exact ⟨0, none, none, none, rfl, Same.refl H, rfl⟩
  · rintro i c σ H2 p hc ⟨h, v2, v3, v4, rfl, s2, ef⟩ hp
    have s3 := s2.trans (same_new hp (.tup [.int i, .str (T [c])]))
    have ed : l.drop i = c :: l.drop (i + 1) := by
      have hi := (List.getElem?_eq_some_iff.mp hc)
      obtain ⟨hi, e⟩ := hi
      rw [List.drop_eq_getElem_cons hi, e]
    rw [ed] at ef
    refine ⟨p, _, rfl, .of upd_same, rfl, _, _, rfl, _, _, rfl, rfl, ?_⟩
    refine ⟨_, rfl, c, rfl, ?_⟩
    refine ⟨_, rfl, rfl, _, rfl, ?_⟩
    cases oc : okc c with
    | false =>
      have e1 : tkV c = .non := tkV_no oc
      rw [e1]
      refine iteT (iteT ⟨_, rfl, ?_⟩)
      have ef' : flt l 0 0 = some i := by
        rw [ef]
        show (if okc c = true ∧ Sm.taken c ≤ h then _ else some i) = some i
        rw [if_neg (fun z => by rw [oc] at z; cases z.1)]
      have := k _ s3
      rw [ef'] at this
      exact this
    | true =>
      have e1 : tkV c = .int (Sm.taken c) := tkV_ok oc
      rw [e1]
      refine iteF ⟨_, rfl, _, rfl, _, _, rfl, rfl, _, rfl, ?_⟩
      by_cases hh : Sm.taken c ≤ h
      · have d1 : decide ((h : Int) < ((Sm.taken c : Nat) : Int)) = false := decide_eq_false (by omega)
        rw [d1]
        refine iteF ⟨_, rfl, _, rfl, _, _, rfl, rfl, _, _, rfl, rfl, ?_⟩
        refine ⟨h - Sm.taken c + 1, some (.int i), some (.str (T [c])), some (.int (Sm.taken c)), ?_, s3, ?_⟩
        · have e2 : (h : Int) - ((Sm.taken c : Nat) : Int) + 1 = ((h - Sm.taken c + 1 : Nat) : Int) := by omega
          show [some (V.str (T l)), some (V.int ((h : Int) - ((Sm.taken c : Nat) : Int) + 1)), some (V.int i), some (.str (T [c])), some (.int (Sm.taken c))] = _
          rw [e2]
        · rw [ef]
          show (if okc c = true ∧ Sm.taken c ≤ h then flt (l.drop (i + 1)) (i + 1) (h - Sm.taken c + 1) else some i) = _
          rw [if_pos ⟨oc, hh⟩]
      · have d1 : decide ((h : Int) < ((Sm.taken c : Nat) : Int)) = true := decide_eq_true (by omega)
        rw [d1]
        refine iteT ⟨_, rfl, ?_⟩
        have ef' : flt l 0 0 = some i := by
          rw [ef]
          show (if okc c = true ∧ Sm.taken c ≤ h then _ else some i) = some i
          rw [if_neg (fun z => hh z.2)]
        have := k _ s3
        rw [ef'] at this
        exact this
  · rintro σ H2 ⟨h, v2, v3, v4, rfl, s2, ef⟩
    rw [List.drop_length] at ef
    have ef : flt l 0 0 = if h = 1 then none else some l.length := ef
    have := k H2 s2
    refine ⟨_, rfl, rfl, _, rfl, ?_⟩
    by_cases h1 : h = 1
    · rw [ef, if_pos h1] at this
      have d1 : decide (V.int (h : Int) = V.int 1) = true := decide_eq_true (by rw [h1]; rfl)
      rw [d1]
      exact iteT this
    · rw [ef, if_neg h1] at this
      have d1 : decide (V.int (h : Int) = V.int 1) = false := decide_eq_false (fun z => h1 (by injection z with z; omega))
      rw [d1]
      refine iteF ⟨_, rfl, _, rfl, ?_, ?_⟩
      · rw [T_len]
        exact small (by omega)
      · rw [T_len]
        exact this

/-! ### refuse_faulty: nothing to refuse -/
def spRefuse : Sp := fun vs H Q _ => ∃ l : List Nat, vs = [.str (T l)] ∧ l.length ≤ 1000 ∧ flt l 0 0 = none ∧ ∀ H', Same H H' → Q .non H'
theorem scRefuse : FnScope ["text", "place"] ["text"] (defScope sRefuse) := ⟨rfl, rfl, rfl, by decide +kernel, rfl, by decide +kernel, by decide +kernel⟩
theorem ok_refuse {f g : Addr} {fd gd : FuncData} (F : Fun K "refuse_faulty" "refuse_faulty" sRefuse f fd) (G1 : FnOk P w K mg base CX0 2 g gd ["text"] spFault) (bG : Binds K gd ["text"] []) (kG : PySem.W.keepIn K (.ref g) = true) (mG : mg "fault" = some (.ref g)) :
    FnOk P w K mg base CX0 3 f fd ["text"] spRefuse := by
  refine F.ok scRefuse (fun vs H Q E h => ?_) (fun cdv A outer s H vs Q E hr h => ?_)
  · obtain ⟨l, rfl, _⟩ := h
    rfl
  obtain ⟨l, rfl, hl, ef, k⟩ := h
  refine ⟨_, pss_cons (ps_set (i := 1) scRefuse.nd rfl (Or.inl rfl) (pe_call G1 hr rfl mG kG bG .nil pass0 (pa_cons (pv 0) pa_nil)))
    (pss_one (ps_if (pt_cmpR op_notN (pv 1) pe_non (nomark _)) pss_never pss_nil)), ?_⟩
  refine ⟨_, rfl, l, rfl, hl, fun H' s' => ?_⟩
  rw [ef]
  exact ⟨_, rfl, rfl, _, rfl, iteF (k H' s')⟩
end
end B

set_option Elab.async false
set_option linter.all false
set_option maxRecDepth 100000
namespace B
open PySem L2
open St (Sml)
open Sm (G gN gB gJ gE gM run step Wf flt okc)
/-! ### tables told by a grid -/
def told (g : G) : Nat → Int → Prop := fun i k => 0 ≤ k ∧ g i k.toNat
def TabP (n : Nat) (H : Hp) (a : Addr) (g : G) : Prop := ∃ as R, Tb V.int H a as R ∧ R.length = n ∧ Rows R (told g)
theorem TabP.same {n : Nat} {H H' : Hp} {a : Addr} {g : G} (t : TabP n H a g) (s : Same H H') : TabP n H' a g := by
  obtain ⟨as, R, tb, l, r⟩ := t
  exact ⟨as, R, tb.same s, l, r⟩
theorem rows_mem {n : Nat} {R : List (List Int)} {g : G} (l : R.length = n) (h : Rows R (told g)) (u : Sm.Up n g) (i : Nat) (k : Int) : k ∈ R.getD i [] ↔ told g i k := by
  rw [List.getD_eq_getElem?_getD]
  cases e : R[i]? with
  | none =>
    have hi : n ≤ i := by rw [← l]; exact List.getElem?_eq_none_iff.mp e
    constructor
    · intro z; cases z
    · rintro ⟨_, z⟩
      have := u _ _ z
      omega
  | some w => exact (h i w e).2 k
theorem rows_tu {n : Nat} {R : List (List Int)} {g : G} (l : R.length = n) (h : Rows R (told g)) (u : Sm.Up n g) : Tu n R := by
  refine ⟨l, fun i w e => ?_⟩
  obtain ⟨h1, h2⟩ := h i w e
  have bd : ∀ x ∈ w, (i : Int) ≤ x ∧ x < (n : Int) := fun x hx => by
    obtain ⟨x0, gx⟩ := (h2 x).mp hx
    have := u _ _ gx
    omega
  exact ⟨rising_len h1 fun x hx => by have := bd x hx; omega, bd⟩
theorem Tu.ti {n : Nat} {R : List (List Int)} (t : Tu n R) : Ti n R := ⟨t.len, fun i w e => ⟨(t.row i w e).1, fun x hx => by have := (t.row i w e).2 x hx; omega⟩⟩
theorem Rows.imp {R : List (List Int)} {M M' : Nat → Int → Prop} (h : Rows R M) (q : ∀ i, i < R.length → ∀ k, M i k ↔ M' i k) : Rows R M' := fun i w e => by
  obtain ⟨h1, h2⟩ := h i w e
  exact ⟨h1, fun k => (h2 k).trans (q i (List.getElem?_eq_some_iff.mp e).1 k)⟩
theorem told_J {n : Nat} {R1 R2 : List (List Int)} {g1 g2 : G} (l1 : R1.length = n) (l2 : R2.length = n) (h1 : Rows R1 (told g1)) (h2 : Rows R2 (told g2)) (u1 : Sm.Up n g1) (u2 : Sm.Up n g2) (i : Nat) (k : Int) : Mj R1 R2 i k ↔ told (gJ g1 g2) i k := by
  unfold Mj
  constructor
  · rintro ⟨x, hx, hk⟩
    obtain ⟨x0, a⟩ := (rows_mem l1 h1 u1 i x).mp hx
    obtain ⟨k0, b⟩ := (rows_mem l2 h2 u2 _ k).mp hk
    exact ⟨k0, x.toNat, a, b⟩
  · rintro ⟨k0, m, a, b⟩
    exact ⟨(m : Int), (rows_mem l1 h1 u1 i _).mpr ⟨by omega, by simpa using a⟩, (rows_mem l2 h2 u2 _ k).mpr ⟨k0, by simpa using b⟩⟩
theorem told_E {n : Nat} {R1 R2 : List (List Int)} {g1 g2 : G} (l1 : R1.length = n) (l2 : R2.length = n) (h1 : Rows R1 (told g1)) (h2 : Rows R2 (told g2)) (u1 : Sm.Up n g1) (u2 : Sm.Up n g2) (i : Nat) (k : Int) : Me R1 R2 i k ↔ told (gE g1 g2) i k := by
  unfold Me
  rw [rows_mem l1 h1 u1, rows_mem l2 h2 u2]
  constructor
  · rintro (⟨a, b⟩ | ⟨a, b⟩)
    · exact ⟨a, .inl b⟩
    · exact ⟨a, .inr b⟩
  · rintro ⟨a, b | b⟩
    · exact .inl ⟨a, b⟩
    · exact .inr ⟨a, b⟩
theorem rc_gM {n : Nat} {R : List (List Int)} {g : G} (l : R.length = n) (h : Rows R (told g)) (u : Sm.Up n g) {p k : Int} (r : Rc R p k) : 0 ≤ p → p < n → 0 ≤ k ∧ gM n g p.toNat k.toNat := by
  induction r with
  | refl p => exact fun h0 h1 => ⟨h0, .here _ (by omega)⟩
  | @step p x k hx hr ih =>
    intro h0 h1
    obtain ⟨x0, gx⟩ := (rows_mem l h u _ x).mp hx
    have := u _ _ gx
    obtain ⟨k0, gk⟩ := ih x0 (by omega)
    refine ⟨k0, ?_⟩
    by_cases c : p.toNat = x.toNat
    · rw [c]; exact gk
    · exact .more _ x.toNat _ (by omega) gx gk
theorem gM_rc {n : Nat} {R : List (List Int)} {g : G} (l : R.length = n) (h : Rows R (told g)) (u : Sm.Up n g) {i j : Nat} (r : gM n g i j) : Rc R (i : Int) (j : Int) := by
  induction r with
  | here i _ => exact .refl _
  | more i k j hk hg _ ih => exact .step ((rows_mem l h u _ _).mpr ⟨by omega, by simpa using hg⟩) ih
theorem told_M {n : Nat} {R : List (List Int)} {g : G} (l : R.length = n) (h : Rows R (told g)) (u : Sm.Up n g) (i : Nat) (hi : i < n) (k : Int) : Rc R (i : Int) k ↔ told (gM n g) i k := by
  constructor
  · intro r
    have := rc_gM l h u r (by omega) (by omega)
    simpa [told] using this
  · rintro ⟨k0, r⟩
    have := gM_rc l h u r
    have e : ((k.toNat : Nat) : Int) = k := by omega
    rw [e] at this
    exact this
theorem s43 : ("+" : Str) = T [43] := by decide +kernel
theorem s47 : ("/" : Str) = T [47] := by decide +kernel
theorem s42 : ("*" : Str) = T [42] := by decide +kernel
theorem s46 : ("." : Str) = T [46] := by decide +kernel
theorem sgn (c d : Nat) {x : Str} (hx : x = T [d]) : decide (V.str (T [c]) = V.str x) = decide (c = d) := by
  subst hx
  apply decide_eq_decide.mpr
  rw [T_iff]
  constructor
  · intro z; simpa using z
  · intro z; rw [z]
theorem cut_to (xs : List V) (k : Nat) : cutV xs none (some (k : Int)) = xs.take k := by
  have e2 : HT.sIx xs.length xs.length (some (k : Int)) = min k xs.length := HT.sIx_nat _ _ k
  unfold cutV
  rw [HT.sIx_none, e2, List.drop_zero, Nat.sub_zero]
  by_cases c : k ≤ xs.length
  · rw [Nat.min_eq_left c]
  · rw [Nat.min_eq_right (by omega), List.take_length, List.take_of_length_le (by omega)]
theorem cut_from (xs : List V) (k : Nat) : cutV xs (some (k : Int)) none = xs.drop k := by
  have e2 : HT.sIx xs.length 0 (some (k : Int)) = min k xs.length := HT.sIx_nat _ _ k
  unfold cutV
  rw [HT.sIx_none, e2]
  by_cases c : k ≤ xs.length
  · rw [Nat.min_eq_left c, List.take_of_length_le (by rw [List.length_drop]; exact Nat.le_refl _)]
  · rw [Nat.min_eq_right (by omega), List.drop_length, List.drop_of_length_le (by omega)]
    simp

section
variable {P : Program} {w : World} {K : PySem.W.Frag} {mg : Str → Option Value} {base : Heap}
/-! ### bead_table -/
theorem ndB : (["place", "bead", "sign"] : List Str).Nodup := by decide +kernel
abbrev teB : TE := tIf (tOr (tTest (tOp rEq (tVar 2) (tC (.str ".")))) (tTest (tOp rEq (tVar 2) (tVar 1)))) (tLst (tCons (tOp (rI0 fun i j => .int (i + j)) (tVar 0) (tC (.int 1))) tNil)) (tLst tNil)
theorem comp_bead {c : Nat} {b : List Nat} {H : Hp} {v2 : Option V} (hb : b.length ≤ 30) (Q : VK) (k : ∀ D cs R H1, H D = none → Up H H1 D b.length (told (gB b c)) cs R → Q (.ref D) H1) :
    tComp (iEnum (tCons (tVar 1) tNil)) 2 [0] (gTup K 2 (gCons (gName 0) (gCons (gName 1) gNil))) tAll teB [some (.str (T [c])), some (.str (T b)), v2] H Q := by
  refine ⟨_, rfl, b, rfl, fun D hD => ?_⟩
  refine comp_enum (l := b) (D := D) (fun i σ H2 => ∃ v v' cs R, σ = [v, v', some (.str (T [c]))] ∧ Up H H2 D i (told (gB b c)) cs R) ?_ ?_ ?_
  · exact ⟨none, none, [], [], rfl, Up.start (Same.refl H) hD⟩
  · rintro i x σ H2 p hx ⟨v, v', cs, R, rfl, u⟩ hp
    have hi := (List.getElem?_eq_some_iff.mp hx).1
    have g0 : Same H2 (upd H2 p (.tup [.int i, .str (T [x])])) := same_new hp _
    have fin : ∀ (ms : List Int), ms.Pairwise (· < ·) → (∀ k, k ∈ ms ↔ told (gB b c) i k) → ∀ q, (upd H2 p (.tup [.int i, .str (T [x])])) q = none →
        ∃ ys, (upd (upd H2 p (.tup [.int i, .str (T [x])])) q (.lst (ms.map V.int))) D = some (.lst ys) ∧ ys.length < sizeLine ∧ ∃ v v' cs R, [some (V.int i), some (.str (T [x])), some (.str (T [c]))] = [v, v', some (.str (T [c]))] ∧
          Up H (upd (upd (upd H2 p (.tup [.int i, .str (T [x])])) q (.lst (ms.map V.int))) D (.lst (ys ++ [.ref q]))) D (i + 1) (told (gB b c)) cs R := fun ms m1 m2 q hq => by
      have g1 := g0.trans (same_new hq (.lst (ms.map V.int)))
      refine ⟨cs.map V.ref, g1 _ _ u.tb.top, ?_, _, _, cs ++ [q], R ++ [ms], rfl, u.more hD g1 (g0.free hq) upd_same m1 m2⟩
      have := u.tb.len
      have := u.len
      rw [List.length_map]
      exact bnd (by omega)
    refine ⟨p, _, rfl, .of upd_same, rfl, _, _, rfl, _, _, rfl, rfl, ?_⟩
    refine ⟨_, rfl, rfl, _, rfl, ?_⟩
    have key : (c = 46 ∨ x = c) ∨ ¬ (c = 46 ∨ x = c) := Classical.em _
    have yes : (c = 46 ∨ x = c) → ∀ k, k ∈ [(i : Int) + 1] ↔ told (gB b c) i k := fun hc k => by
      rw [List.mem_singleton]
      constructor
      · rintro rfl
        exact ⟨by omega, by omega, x, hx, hc⟩
      · rintro ⟨k0, e, _⟩
        omega
    have no : ¬ (c = 46 ∨ x = c) → ∀ k, k ∈ ([] : List Int) ↔ told (gB b c) i k := fun hc k => by
      constructor
      · intro z; cases z
      · rintro ⟨_, _, y, hy, z⟩
        rw [hx] at hy
        cases hy
        exact (hc z).elim
    have one : ∀ q, (upd H2 p (.tup [.int i, .str (T [x])])) q = none → (c = 46 ∨ x = c) → _ := fun q hq hc => fin [(i : Int) + 1] (by simp) (yes hc) q hq
    rw [sgn c 46 s46]
    by_cases h1 : c = 46
    · rw [decide_eq_true h1]
      refine iteT (iteT ⟨_, rfl, _, _, rfl, rfl, (by show 1 ≤ sizeLine; decide), fun q hq => ?_⟩)
      exact one q hq (.inl h1)
    · rw [decide_eq_false h1]
      refine iteF ⟨_, rfl, _, rfl, rfl, _, rfl, ?_⟩
      have e2 : decide (V.str (T [c]) = V.str (T [x])) = decide (c = x) := sgn c x rfl
      rw [e2]
      by_cases h2 : c = x
      · rw [decide_eq_true h2]
        refine iteT ⟨_, rfl, _, _, rfl, rfl, (by show 1 ≤ sizeLine; decide), fun q hq => ?_⟩
        exact one q hq (.inr h2.symm)
      · rw [decide_eq_false h2]
        refine iteF ⟨(by show 0 ≤ sizeLine; decide), fun q hq => ?_⟩
        exact fin [] List.Pairwise.nil (no fun z => z.elim h1 fun z => h2 z.symm) q hq
  · rintro σ H2 ⟨v, v', cs, R, rfl, u⟩
    exact k D cs R H2 hD u
def spBeadT : Sp := fun vs H Q _ => ∃ (c : Nat) (b : List Nat), vs = [.str (T [c]), .str (T b)] ∧ b.length ≤ 30 ∧ ∀ (a : Addr) (H' : Hp), Same H H' → TabP (b.length + 1) H' a (gB b c) → Q (.ref a) H'
theorem scBeadT : FnScope ["sign", "beads", "rows"] ["sign", "beads"] (defScope sBeadT) := ⟨rfl, rfl, rfl, by decide +kernel, rfl, by decide +kernel, by decide +kernel⟩
theorem ok_beadT {f : Addr} {fd : FuncData} (F : Fun K "bead_table" "bead_table" sBeadT f fd) (T1 : Txt mg) : FnOk P w K mg base CX0 1 f fd ["sign", "beads"] spBeadT := by
  refine F.ok scBeadT (fun vs H Q E h => ?_) (fun cdv A outer s H vs Q E hr h => ?_)
  · obtain ⟨c, b, rfl, _⟩ := h
    rfl
  obtain ⟨c, b, rfl, hb, k⟩ := h
  refine ⟨_, pss_cons (ps_setC (i := 2) (N := ["place", "bead", "sign"]) (frees := ["sign"]) (nl := 2) (js := [0]) (g := gTup K 2 (gCons (gName 0) (gCons (gName 1) gNil))) (tc := tAll) (te := teB) scBeadT.nd rfl (Or.inl rfl) rfl (pi_enum rfl T1.enum (pa_cons (pv 1) pa_nil)) rfl rfl rfl rfl
      (fun C s H fp => pg_tup rfl (pgs_cons (pg_name (i := 0) ndB rfl (Or.inl rfl)) (pgs_cons (pg_name (i := 1) ndB rfl (Or.inl rfl)) pgs_nil))) (fun C s H fp => pf_nil)
      (fun C s H fp => pe_ifExp (PW.pt (pw_or (pt_cmpR op_eq (pv 2) pe_str (nomark _)) (pw_or1 (pt_cmpR op_eq (pv 2) (pv 1) (nomark _))))) (pe_lst (pa_cons (pe_op op_add (pv 0) pe_int) pa_nil)) (pe_lst pa_nil)))
    (pss_one (ps_ret (pe_op op_cat (pv 2) (pe_lst (pa_cons (pe_lst pa_nil) pa_nil))))), ?_⟩
  refine seq_asg (comp_bead (K := K) hb _ fun D cs R H1 hD u => ?_)
  refine ⟨_, rfl, (by show 0 ≤ sizeLine; decide), fun p hp => ⟨(by show 1 ≤ sizeLine; decide), fun q hq => ?_⟩⟩
  have g1 := same_new hp (.lst [])
  have g2 := g1.trans (same_new hq (.lst [.ref p]))
  have lc : cs.length = b.length := by rw [u.tb.len, u.len]
  refine ⟨D, q, _, _, rfl, rfl, g2 _ _ u.tb.top, upd_same, ?_, fun r hr' => ?_⟩
  · rw [List.length_map, List.length_singleton]
    exact small (by omega)
  have g3 := g2.trans (same_new hr' (.lst (cs.map V.ref ++ [.ref p])))
  refine k r _ (u.same.trans g3) ⟨cs ++ [p], R ++ [[]], ?_, ?_, ?_⟩
  · have t3 := u.tb.same g3
    have pe : (upd (upd (upd H1 p (.lst [])) q (.lst [.ref p])) r (.lst (cs.map V.ref ++ [.ref p]))) p = some (.lst []) := by
      have n1 : p ≠ q := fun z => by rw [← z, upd_same] at hq; cases hq
      have n2 : p ≠ r := fun z => by rw [← z, upd_ne n1, upd_same] at hr'; cases hr'
      rw [upd_ne n2, upd_ne n1, upd_same]
    refine ⟨by rw [upd_same, List.map_append]; rfl, by simp [u.tb.len], fun i x y h1 h2 => ?_⟩
    by_cases ci : i < cs.length
    · rw [List.getElem?_append_left ci] at h1
      rw [List.getElem?_append_left (by rw [← u.tb.len]; exact ci)] at h2
      exact t3.row i x y h1 h2
    · have hl := (List.getElem?_eq_some_iff.mp h1).1
      rw [List.length_append, List.length_singleton] at hl
      have ei : i = cs.length := by omega
      subst ei
      rw [List.getElem?_append_right (Nat.le_refl _), Nat.sub_self] at h1
      rw [u.tb.len, List.getElem?_append_right (Nat.le_refl _), Nat.sub_self] at h2
      cases h1
      cases h2
      exact pe
  · rw [List.length_append, List.length_singleton, u.len]
  · refine u.rows.push List.Pairwise.nil fun z => ?_
    rw [u.len]
    constructor
    · intro y; cases y
    · rintro ⟨_, _, x, hx, _⟩
      have := (List.getElem?_eq_some_iff.mp hx).1
      omega

/-! ### table_by -/
def ByC (n : Nat) (H : Hp) (b : List Nat) (c : Nat) (xs : List V) (g : G) : Prop :=
  (c = 43 ∧ ∃ a0 a1 g0 g1, xs = [.ref a0, .ref a1] ∧ TabP n H a0 g0 ∧ TabP n H a1 g1 ∧ Sm.Up n g0 ∧ Sm.Up n g1 ∧ g = gJ g0 g1) ∨
  (c = 47 ∧ ∃ a0 a1 g0 g1, xs = [.ref a0, .ref a1] ∧ TabP n H a0 g0 ∧ TabP n H a1 g1 ∧ Sm.Up n g0 ∧ Sm.Up n g1 ∧ g = gE g0 g1) ∨
  (c = 42 ∧ ∃ a0 g0, xs = [.ref a0] ∧ TabP n H a0 g0 ∧ Sm.Up n g0 ∧ g = gM n g0) ∨
  ((c ≠ 43 ∧ c ≠ 47 ∧ c ≠ 42) ∧ g = gB b c)
def spBy : Sp := fun vs H Q _ => ∃ (c : Nat) (b : List Nat) (t : Addr) (xs : List V) (g : G), vs = [.str (T [c]), .ref t, .str (T b)] ∧ b.length ≤ 30 ∧ H t = some (.lst xs) ∧ ByC (b.length + 1) H b c xs g ∧
  ∀ (a : Addr) (H' : Hp), Same H H' → TabP (b.length + 1) H' a g → Q (.ref a) H'
theorem scBy : FnScope ["sign", "taken", "beads"] ["sign", "taken", "beads"] (defScope sBy) := ⟨rfl, rfl, rfl, by decide +kernel, rfl, by decide +kernel, by decide +kernel⟩
/-- a def that is called -/
structure Callee (P : Program) (w : World) (K : PySem.W.Frag) (mg : Str → Option Value) (base : Heap) (x : Str) (k : Nat) (ps : List Str) (sp : Sp) (f : Addr) (fd : FuncData) : Prop where
  ok : FnOk P w K mg base CX0 k f fd ps sp
  bd : Binds K fd ps []
  kp : PySem.W.keepIn K (.ref f) = true
  at' : mg x = some (.ref f)
theorem ok_by {f fJ fE fM fB : Addr} {fd dJ dE dM dB : FuncData} (F : Fun K "table_by" "table_by" sBy f fd)
    (J1 : Callee P w K mg base "joined" 2 ["first", "second"] (spTwo Mj) fJ dJ) (E1 : Callee P w K mg base "either" 1 ["one", "other"] (spTwo Me) fE dE) (M1 : Callee P w K mg base "many" 2 ["told"] spMany fM dM) (B1 : Callee P w K mg base "bead_table" 1 ["sign", "beads"] spBeadT fB dB) :
    FnOk P w K mg base CX0 3 f fd ["sign", "taken", "beads"] spBy := by
  refine F.ok scBy (fun vs H Q E h => ?_) (fun cdv A outer s H vs Q E hr h => ?_)
  · obtain ⟨c, b, t, xs, g, rfl, _⟩ := h
    rfl
  obtain ⟨c, b, t, xs, g, rfl, hb, ht, hc, k⟩ := h
  have hr1 : Room 1 _ := hr.mono (show 1 ≤ 2 by decide)
  refine ⟨_, pss_cons (ps_if (pt_cmpR op_eq (pv 0) pe_str (nomark _)) (pss_one (ps_ret (pe_call J1.ok hr rfl J1.at' J1.kp J1.bd .nil pass0 (pa_cons (pe_ix ix_list (pv 1) pe_int (fun _ _ => rfl)) (pa_cons (pe_ix ix_list (pv 1) pe_int (fun _ _ => rfl)) pa_nil))))) pss_nil)
    (pss_cons (ps_if (pt_cmpR op_eq (pv 0) pe_str (nomark _)) (pss_one (ps_ret (pe_call E1.ok hr1 rfl E1.at' E1.kp E1.bd .nil pass0 (pa_cons (pe_ix ix_list (pv 1) pe_int (fun _ _ => rfl)) (pa_cons (pe_ix ix_list (pv 1) pe_int (fun _ _ => rfl)) pa_nil))))) pss_nil)
    (pss_cons (ps_if (pt_cmpR op_eq (pv 0) pe_str (nomark _)) (pss_one (ps_ret (pe_call M1.ok hr rfl M1.at' M1.kp M1.bd .nil pass0 (pa_cons (pe_ix ix_list (pv 1) pe_int (fun _ _ => rfl)) pa_nil)))) pss_nil)
    (pss_one (ps_ret (pe_call B1.ok hr1 rfl B1.at' B1.kp B1.bd .nil pass0 (pa_cons (pv 0) (pa_cons (pv 2) pa_nil))))))), ?_⟩
  refine ⟨_, rfl, rfl, _, rfl, ?_⟩
  rw [sgn c 43 s43]
  rcases hc with ⟨rfl, a0, a1, g0, g1, rfl, t0, t1, u0, u1, rfl⟩ | ⟨rfl, a0, a1, g0, g1, rfl, t0, t1, u0, u1, rfl⟩ | ⟨rfl, a0, g0, rfl, t0, u0, rfl⟩ | ⟨⟨n1, n2, n3⟩, rfl⟩
  · obtain ⟨as, R1, tb1, l1, r1⟩ := t0
    obtain ⟨bs, R2, tb2, l2, r2⟩ := t1
    refine iteT ⟨_, rfl, t, _, _, _, rfl, rfl, .of ht, rfl, _, rfl, t, _, _, _, rfl, rfl, .of ht, rfl, ?_⟩
    refine ⟨a0, a1, as, bs, R1, R2, b.length + 1, rfl, tb1, tb2, (rows_tu l1 r1 u0).ti, (rows_tu l2 r2 u1).ti, by omega, fun c3 cs H' R3 s' _ t3 l3 h3 => k c3 H' s' ⟨cs, R3, t3, l3, h3.imp fun i _ z => ?_⟩⟩
    exact told_J l1 l2 r1 r2 u0 u1 i z
  · obtain ⟨as, R1, tb1, l1, r1⟩ := t0
    obtain ⟨bs, R2, tb2, l2, r2⟩ := t1
    refine iteF ⟨_, rfl, rfl, _, rfl, ?_⟩
    rw [sgn 47 47 s47]
    refine iteT ⟨_, rfl, t, _, _, _, rfl, rfl, .of ht, rfl, _, rfl, t, _, _, _, rfl, rfl, .of ht, rfl, ?_⟩
    refine ⟨a0, a1, as, bs, R1, R2, b.length + 1, rfl, tb1, tb2, (rows_tu l1 r1 u0).ti, (rows_tu l2 r2 u1).ti, by omega, fun c3 cs H' R3 s' _ t3 l3 h3 => k c3 H' s' ⟨cs, R3, t3, l3, h3.imp fun i _ z => ?_⟩⟩
    exact told_E l1 l2 r1 r2 u0 u1 i z
  · obtain ⟨as, R1, tb1, l1, r1⟩ := t0
    refine iteF ⟨_, rfl, rfl, _, rfl, ?_⟩
    rw [sgn 42 47 s47]
    refine iteF ⟨_, rfl, rfl, _, rfl, ?_⟩
    rw [sgn 42 42 s42]
    refine iteT ⟨_, rfl, t, _, _, _, rfl, rfl, .of ht, rfl, ?_⟩
    refine ⟨a0, as, R1, b.length + 1, rfl, tb1, rows_tu l1 r1 u0, by omega, fun c3 cs H' R3 s' _ t3 l3 h3 => k c3 H' s' ⟨cs, R3, t3, l3, h3.imp fun i hi z => ?_⟩⟩
    exact told_M l1 r1 u0 i (by rw [← l3]; exact hi) z
  · rw [decide_eq_false n1]
    refine iteF ⟨_, rfl, rfl, _, rfl, ?_⟩
    rw [sgn c 47 s47, decide_eq_false n2]
    refine iteF ⟨_, rfl, rfl, _, rfl, ?_⟩
    rw [sgn c 42 s42, decide_eq_false n3]
    exact iteF ⟨_, rfl, _, rfl, c, b, rfl, hb, k⟩
end
end B

set_option Elab.async false
set_option linter.all false
set_option maxRecDepth 100000
namespace B
open PySem L2
open St (Sml)
open Sm (G gN gB gJ gE gM run step Wf flt okc)
/-! ### a pile of tables -/
structure Pl {α : Type} (Tp : Hp → Addr → α → Prop) (H : Hp) (xs : List V) (gs : List α) : Prop where
  len : xs.length = gs.length
  at' : ∀ (i : Nat) (x : V) (g : α), xs[i]? = some x → gs[i]? = some g → ∃ a, x = .ref a ∧ Tp H a g
theorem Pl.nil {α : Type} {Tp : Hp → Addr → α → Prop} {H : Hp} : Pl Tp H [] [] := ⟨rfl, fun i x g h => by cases h⟩
theorem Pl.same {α : Type} {Tp : Hp → Addr → α → Prop} {H H' : Hp} {xs : List V} {gs : List α} (p : Pl Tp H xs gs) (h : ∀ a g, Tp H a g → Tp H' a g) : Pl Tp H' xs gs := ⟨p.len, fun i x g h1 h2 => by
  obtain ⟨a, e, t⟩ := p.at' i x g h1 h2
  exact ⟨a, e, h a g t⟩⟩
theorem Pl.take {α : Type} {Tp : Hp → Addr → α → Prop} {H : Hp} {xs : List V} {gs : List α} (p : Pl Tp H xs gs) (k : Nat) : Pl Tp H (xs.take k) (gs.take k) := by
  refine ⟨by rw [List.length_take, List.length_take, p.len], fun i x g h1 h2 => ?_⟩
  rw [List.getElem?_take] at h1 h2
  by_cases c : i < k
  · rw [if_pos c] at h1 h2
    exact p.at' i x g h1 h2
  · rw [if_neg c] at h1
    cases h1
theorem Pl.push {α : Type} {Tp : Hp → Addr → α → Prop} {H : Hp} {xs : List V} {gs : List α} {a : Addr} {g : α} (p : Pl Tp H xs gs) (t : Tp H a g) : Pl Tp H (xs ++ [.ref a]) (gs ++ [g]) := by
  refine ⟨by simp [p.len], fun i x g' h1 h2 => ?_⟩
  by_cases c : i < xs.length
  · rw [List.getElem?_append_left c] at h1
    rw [List.getElem?_append_left (by rw [← p.len]; exact c)] at h2
    exact p.at' i x g' h1 h2
  · have hl := (List.getElem?_eq_some_iff.mp h1).1
    rw [List.length_append, List.length_singleton] at hl
    have ei : i = xs.length := by omega
    subst ei
    rw [List.getElem?_append_right (Nat.le_refl _), Nat.sub_self] at h1
    rw [p.len, List.getElem?_append_right (Nat.le_refl _), Nat.sub_self] at h2
    cases h1
    cases h2
    exact ⟨a, rfl, t⟩
/-- the uppermost -/
theorem Pl.last {α : Type} {Tp : Hp → Addr → α → Prop} {H : Hp} {xs : List V} {gs : List α} (p : Pl Tp H xs gs) (h : 1 ≤ xs.length) : ∃ ys hs a g, xs = ys ++ [.ref a] ∧ gs = hs ++ [g] ∧ Pl Tp H ys hs ∧ Tp H a g := by
  have hl : xs.length - 1 < xs.length := by omega
  have hg : xs.length - 1 < gs.length := by rw [← p.len]; exact hl
  obtain ⟨a, ea, t⟩ := p.at' (xs.length - 1) _ _ (List.getElem?_eq_getElem hl) (List.getElem?_eq_getElem hg)
  have e1 : xs = xs.take (xs.length - 1) ++ [xs[xs.length - 1]] := by
    have := List.take_append_drop (xs.length - 1) xs
    rw [List.drop_eq_getElem_cons hl, List.drop_of_length_le (by omega)] at this
    exact this.symm
  have e2 : gs = gs.take (xs.length - 1) ++ [gs[xs.length - 1]] := by
    have := List.take_append_drop (xs.length - 1) gs
    rw [List.drop_eq_getElem_cons hg, List.drop_of_length_le (by rw [← p.len]; omega)] at this
    exact this.symm
  exact ⟨xs.take (xs.length - 1), gs.take (xs.length - 1), a, gs[xs.length - 1], by rw [← ea]; exact e1, e2, p.take _, t⟩
theorem Pl.get {Tp : Hp → Addr → G → Prop} {H : Hp} {xs : List V} {gs : List G} (p : Pl Tp H xs gs) {i : Nat} (h : i < gs.length) : ∃ a, xs[i]? = some (.ref a) ∧ Tp H a (gs.getD i gN) ∧ gs.getD i gN ∈ gs := by
  have h' : i < xs.length := by rw [p.len]; exact h
  have e1 : xs[i]? = some xs[i] := List.getElem?_eq_getElem h'
  have e2 : gs[i]? = some gs[i] := List.getElem?_eq_getElem h
  obtain ⟨a, ea, t⟩ := p.at' i _ _ e1 e2
  have e3 : gs.getD i gN = gs[i] := by rw [List.getD_eq_getElem?_getD, e2]; rfl
  refine ⟨a, by rw [e1, ea], by rw [e3]; exact t, by rw [e3]; exact List.getElem_mem _⟩
/-! ### all stays but the object at D -/
def Kp (D : Addr) (H H' : Hp) : Prop := ∀ a o, a ≠ D → H a = some o → H' a = some o
theorem Kp.refl {D : Addr} (H : Hp) : Kp D H H := fun _ _ _ h => h
theorem Kp.of {D : Addr} {H H' : Hp} (e : Same H H') : Kp D H H' := fun a o _ h => e a o h
theorem Kp.put {D : Addr} {H : Hp} {o : HO} : Kp D H (upd H D o) := fun a u n h => by rw [upd_ne n]; exact h
theorem Kp.trans {D : Addr} {H H1 H2 : Hp} (a : Kp D H H1) (b : Kp D H1 H2) : Kp D H H2 := fun c o n h => b c o n (a c o n h)
theorem Kp.to {D : Addr} {H0 H H' : Hp} (k : Kp D H H') (hD : H0 D = none) (s : Same H0 H) : Same H0 H' := fun a o h => k a o (ne_of_none h hD) (s a o h)
theorem drop1 {xs : List V} {x : V} (h : xs[xs.length - 1]? = some x) : xs.drop (xs.length - 1) = [x] := by
  obtain ⟨hl, e⟩ := List.getElem?_eq_some_iff.mp h
  rw [List.drop_eq_getElem_cons hl, e, List.drop_of_length_le (by omega)]
theorem drop2 {xs : List V} {x y : V} (h2 : 2 ≤ xs.length) (h : xs[xs.length - 2]? = some x) (h' : xs[xs.length - 1]? = some y) : xs.drop (xs.length - 2) = [x, y] := by
  obtain ⟨hl, e⟩ := List.getElem?_eq_some_iff.mp h
  have e2 : xs.length - 2 + 1 = xs.length - 1 := by omega
  rw [List.drop_eq_getElem_cons hl, e, e2, drop1 h']
theorem sub_nat {m t : Nat} {H : Hp} {Q : VK} (h : t ≤ m) (q : Q (.int ((m - t : Nat) : Int)) H) : (rI0 fun i j => .int (i - j)) (.int (m : Int)) (.int (t : Int)) H Q := by
  refine ⟨_, _, rfl, rfl, ?_⟩
  have e : (m : Int) - (t : Int) = ((m - t : Nat) : Int) := by omega
  show Q (.int ((m : Int) - (t : Int))) H
  rw [e]
  exact q
/-- what a step takes off the pile, for table_by -/
theorem byC_of {n : Nat} {H : Hp} {b : List Nat} {c : Nat} {xs : List V} {gs r : List G} (hn : n = b.length + 1) (p : Pl (TabP n) H xs gs) (up : ∀ g ∈ gs, Sm.Up n g) (h : step b c gs = some r) :
    ∃ g, ByC n H b c (xs.drop (xs.length - Sm.taken c)) g ∧ r = gs.take (gs.length - Sm.taken c) ++ [g] := by
  rcases Sm.step_cases h with ⟨rfl, l, rfl⟩ | ⟨rfl, l, rfl⟩ | ⟨rfl, l, rfl⟩ | ⟨hc, rfl⟩
  · obtain ⟨a, e, t, m⟩ := p.get (i := gs.length - 1) (by omega)
    refine ⟨_, .inr (.inr (.inl ⟨rfl, a, _, ?_, t, up _ m, by rw [hn]⟩)), rfl⟩
    show xs.drop (xs.length - 1) = _
    rw [← p.len] at e
    exact drop1 e
  · obtain ⟨a, e, t, m⟩ := p.get (i := gs.length - 2) (by omega)
    obtain ⟨a', e', t', m'⟩ := p.get (i := gs.length - 1) (by omega)
    refine ⟨_, .inl ⟨rfl, a, a', _, _, ?_, t, t', up _ m, up _ m', rfl⟩, rfl⟩
    show xs.drop (xs.length - 2) = _
    rw [← p.len] at e e'
    exact drop2 (by rw [p.len]; exact l) e e'
  · obtain ⟨a, e, t, m⟩ := p.get (i := gs.length - 2) (by omega)
    obtain ⟨a', e', t', m'⟩ := p.get (i := gs.length - 1) (by omega)
    refine ⟨_, .inr (.inl ⟨rfl, a, a', _, _, ?_, t, t', up _ m, up _ m', rfl⟩), rfl⟩
    show xs.drop (xs.length - 2) = _
    rw [← p.len] at e e'
    exact drop2 (by rw [p.len]; exact l) e e'
  · have t0 : Sm.taken c = 0 := by
      unfold Sm.taken
      rw [if_neg (by omega), if_neg (by omega)]
    refine ⟨gB b c, .inr (.inr (.inr ⟨by omega, rfl⟩)), ?_⟩
    rw [t0, Nat.sub_zero, List.take_length]

section
variable {P : Program} {w : World} {K : PySem.W.Frag} {mg : Str → Option Value} {base : Heap}
/-! ### table_of -/
def spOf : Sp := fun vs H Q _ => ∃ (l b : List Nat) (g : G), vs = [.str (T l), .str (T b)] ∧ l.length ≤ 1000 ∧ b.length ≤ 30 ∧ run b l [] = some [g] ∧ ∀ (a : Addr) (H' : Hp), Same H H' → TabP (b.length + 1) H' a g → Q (.ref a) H'
abbrev nOf : List Str := ["text", "beads", "pile", "sign", "left"]
theorem scOf : FnScope nOf ["text", "beads"] (defScope sOf) := ⟨rfl, rfl, rfl, by decide +kernel, rfl, by decide +kernel, by decide +kernel⟩
theorem ok_of {f fR fT fB : Addr} {fd dR dT dB : FuncData} (F : Fun K "table_of" "table_of" sOf f fd) (T1 : Txt mg)
    (R1 : Callee P w K mg base "refuse_faulty" 3 ["text"] spRefuse fR dR) (K1 : Callee P w K mg base "taken_by" 1 ["sign"] spTaken fT dT) (B1 : Callee P w K mg base "table_by" 3 ["sign", "taken", "beads"] spBy fB dB) :
    FnOk P w K mg base CX0 4 f fd ["text", "beads"] spOf := by
  refine F.ok scOf (fun vs H Q E h => ?_) (fun cdv A outer s H vs Q E hr h => ?_)
  · obtain ⟨l, b, g, rfl, _⟩ := h
    rfl
  obtain ⟨l, b, g, rfl, hl, hb, hrun, k⟩ := h
  have hr1 : Room 1 _ := hr.mono (show 1 ≤ 3 by decide)
  refine ⟨_, pss_cons (ps_expr (pe_call R1.ok hr rfl R1.at' R1.kp R1.bd .nil pass0 (pa_cons (pv 0) pa_nil)))
    (pss_cons (ps_set (i := 2) scOf.nd rfl (Or.inl rfl) (pe_lst pa_nil))
    (pss_cons (ps_for PassesOwn.never rfl (pi_str (pv 0)) (pg_name (i := 3) scOf.nd rfl (Or.inl rfl))
      (pss_cons (ps_set (i := 4) scOf.nd rfl (Or.inl rfl) (pe_op op_sub (pe_callB call_len_seq rfl T1.len PySem.boot_len (pa_cons (pv 2) pa_nil)) (pe_call K1.ok hr1 rfl K1.at' K1.kp K1.bd .nil pass0 (pa_cons (pv 3) pa_nil))))
      (pss_one (ps_set (i := 2) scOf.nd rfl (Or.inl rfl) (pe_op op_cat (pe_slice sl_list (pv 2) po_none (po_some (pv 4))) (pe_lst (pa_cons (pe_call B1.ok hr rfl B1.at' B1.kp B1.bd .nil pass0
        (pa_cons (pv 3) (pa_cons (pe_slice sl_list (pv 2) (po_some (pv 4)) po_none) (pa_cons (pv 1) pa_nil)))) pa_nil)))))))
    (pss_one (ps_ret (pe_ix ix_list (pv 2) pe_int (fun _ _ => rfl)))))), ?_⟩
  refine ⟨_, rfl, l, rfl, hl, Sm.flt_run (p := []) 0 hrun rfl, fun H1 s1 => ?_⟩
  refine ⟨(by show 0 ≤ sizeLine; decide), fun p0 hp0 => ?_⟩
  have s2 := s1.trans (same_new hp0 (.lst []))
  refine ⟨_, rfl, l, rfl, ?_⟩
  refine for_str (l := l) (fun i σ H2 => ∃ (q : Addr) (xs : List V) (gs : List G) (v3 v4 : Option V), σ = [some (.str (T l)), some (.str (T b)), some (.ref q), v3, v4] ∧ Same H H2 ∧ H2 q = some (.lst xs) ∧ Pl (TabP (b.length + 1)) H2 xs gs ∧ run b (l.take i) [] = some gs) ?_ ?_ ?_
  · exact ⟨p0, [], [], none, none, rfl, s2, upd_same, Pl.nil, rfl⟩
  · rintro i c σ H2 hc ⟨q, xs, gs, v3, v4, rfl, s3, hq, pl, er⟩
    obtain ⟨r, est, er'⟩ := Sm.run_step hrun er hc
    have up : ∀ g ∈ gs, Sm.Up (b.length + 1) g := Sm.run_up (fun g z => by cases z) er
    obtain ⟨g', by', e'⟩ := byC_of rfl pl up est
    obtain ⟨l1, l2, l3⟩ := Sm.step_len est
    have oc : okc c = true := decide_eq_true l3
    have lx : xs.length ≤ 1000 := by
      rw [pl.len]
      have h1 : ∀ (t : List Nat) (p r : List G), run b t p = some r → r.length ≤ p.length + t.length := by
        intro t
        induction t with
        | nil => intro p r h; cases h; simp
        | cons c t ih =>
          intro p r h
          have h' : (step b c p).bind (run b t) = some r := h
          cases e : step b c p with
          | none => rw [e] at h'; cases h'
          | some q =>
            rw [e] at h'
            have := ih q r h'
            obtain ⟨_, l2, _⟩ := Sm.step_len e
            simp only [List.length_cons]
            omega
      have := h1 _ _ _ er
      rw [List.length_take] at this
      simp at this
      omega
    refine ⟨_, rfl, q, xs, rfl, .inl (.of hq), _, rfl, c, rfl, ?_⟩
    rw [tkV_ok oc]
    refine sub_nat (by rw [pl.len]; exact l1) ?_
    refine ⟨_, rfl, _, rfl, _, rfl, q, xs, rfl, .of hq, fun p1 hp1 => ?_⟩
    rw [cut_to]
    have g1 := same_new hp1 (.lst (xs.take (xs.length - Sm.taken c)))
    refine ⟨_, rfl, _, rfl, _, rfl, _, rfl, q, xs, rfl, .of (g1 _ _ hq), fun p2 hp2 => ?_⟩
    rw [cut_from]
    have g2 := g1.trans (same_new hp2 (.lst (xs.drop (xs.length - Sm.taken c))))
    refine ⟨_, rfl, c, b, p2, _, g', rfl, hb, upd_same, ?_, fun a H3 s4 t4 => ?_⟩
    · rcases by' with ⟨e, a0, a1, g0, g1', ex, t0, t1, u0, u1, eg⟩ | ⟨e, a0, a1, g0, g1', ex, t0, t1, u0, u1, eg⟩ | ⟨e, a0, g0, ex, t0, u0, eg⟩ | z
      · exact .inl ⟨e, a0, a1, g0, g1', ex, t0.same g2, t1.same g2, u0, u1, eg⟩
      · exact .inr (.inl ⟨e, a0, a1, g0, g1', ex, t0.same g2, t1.same g2, u0, u1, eg⟩)
      · exact .inr (.inr (.inl ⟨e, a0, g0, ex, t0.same g2, u0, eg⟩))
      · exact .inr (.inr (.inr z))
    refine ⟨(by show 1 ≤ sizeLine; decide), fun p3 hp3 => ?_⟩
    have g3 := (g2.trans s4).trans (same_new hp3 (.lst [.ref a]))
    have n12 : p1 ≠ p2 := fun z => by rw [← z, upd_same] at hp2; cases hp2
    have h13 : (upd H3 p3 (.lst [.ref a])) p1 = some (.lst (xs.take (xs.length - Sm.taken c))) := same_new hp3 _ _ _ (s4 _ _ (by rw [upd_ne n12]; exact upd_same))
    refine ⟨p1, p3, _, _, rfl, rfl, h13, upd_same, ?_, fun p4 hp4 => ?_⟩
    · rw [List.length_take, List.length_singleton]
      exact small (by omega)
    have g4 := g3.trans (same_new hp4 (.lst (xs.take (xs.length - Sm.taken c) ++ [.ref a])))
    refine ⟨p4, _, r, _, _, rfl, s3.trans g4, upd_same, ?_, er'⟩
    rw [e', ← pl.len]
    refine Pl.push ((pl.take _).same fun a g t => t.same g4) ?_
    exact (t4.same (same_new hp3 _)).same (same_new hp4 _)
  · rintro σ H2 ⟨q, xs, gs, v3, v4, rfl, s3, hq, pl, er⟩
    rw [List.take_length, hrun] at er
    cases er
    obtain ⟨a, ea, t⟩ : ∃ a, xs[0]? = some (.ref a) ∧ TabP (b.length + 1) H2 a g := by
      obtain ⟨a, e, t, _⟩ := pl.get (i := 0) (by simp)
      exact ⟨a, e, t⟩
    refine ⟨_, rfl, q, xs, 0, .ref a, rfl, rfl, .of hq, ?_, k a H2 s3 t⟩
    exact atI_of (by decide) ea
end
end B

set_option Elab.async false
set_option linter.all false
set_option maxRecDepth 100000
namespace B
open PySem L2
open Sm (G gN gB gJ gE gM run step Wf flt okc)
/-- the row of a place -/
theorem TabP.row {n : Nat} {H : Hp} {a : Addr} {g : G} (t : TabP n H a g) {i : Nat} (hi : i < n) : ∃ (as : List Addr) (r : Addr) (w : List Int), H a = some (.lst (as.map V.ref)) ∧ as.length = n ∧ atI (as.map V.ref) (i : Int) = some (.ref r) ∧ H r = some (.lst (w.map V.int)) ∧ w.Pairwise (· < ·) ∧ ∀ k, k ∈ w ↔ told g i k := by
  obtain ⟨as, R, tb, hl, h⟩ := t
  obtain ⟨r, w, a1, b1, c1, _⟩ := Tb.ix tb (k := (i : Int)) (by omega) (by rw [hl]; omega)
  rw [Int.toNat_natCast] at b1
  exact ⟨as, r, w, tb.top, by rw [tb.len, hl], a1, c1, (h i w b1).1, (h i w b1).2⟩
theorem inV_ints (k : Int) (w : List Int) : inV (.int k) (w.map V.int) = true ↔ k ∈ w := by
  unfold inV
  rw [List.any_map, List.any_eq_true]
  constructor
  · rintro ⟨x, hx, e⟩
    have e' : (x == k) = true := e
    rw [← eq_of_beq e']
    exact hx
  · intro h
    exact ⟨k, h, show (k == k) = true from by simp⟩
theorem flat_ints (w : List Int) : (w.map V.int).all flatV = true := by
  rw [List.all_map]
  exact List.all_eq_true.mpr fun _ _ => rfl
end B

set_option Elab.async false
set_option linter.all false
set_option maxRecDepth 100000
namespace B
open PySem L2
open Sm (G gN gB gJ gE gM run step Wf flt okc)
section
variable {P : Program} {w : World} {K : PySem.W.Frag} {mg : Str → Option Value} {base : Heap}
/-! ### fits -/
def spFits : Sp := fun vs H Q _ => ∃ (l b : List Nat) (g : G), vs = [.str (T l), .str (T b)] ∧ l.length ≤ 1000 ∧ b.length ≤ 30 ∧ run b l [] = some [g] ∧ ∀ (r : Bool) (H' : Hp), Same H H' → (r = true ↔ g 0 b.length) → Q (.bl r) H'
theorem scFits : FnScope ["text", "beads"] ["text", "beads"] (defScope sFits) := ⟨rfl, rfl, rfl, by decide +kernel, rfl, by decide +kernel, by decide +kernel⟩
theorem ok_fits {f fO : Addr} {fd dO : FuncData} (F : Fun K "fits" "fits" sFits f fd) (T1 : Txt mg) (O1 : Callee P w K mg base "table_of" 4 ["text", "beads"] spOf fO dO) : FnOk P w K mg base CX0 5 f fd ["text", "beads"] spFits := by
  refine F.ok scFits (fun vs H Q E h => ?_) (fun cdv A outer s H vs Q E hr h => ?_)
  · obtain ⟨l, b, g, rfl, _⟩ := h
    rfl
  obtain ⟨l, b, g, rfl, hl, hb, hrun, k⟩ := h
  refine ⟨_, pss_one (ps_ret (pe_cmpR op_in_seq (pe_callB call_len_str rfl T1.len PySem.boot_len (pa_cons (pv 1) pa_nil)) (pe_ix ix_list (pe_call O1.ok hr rfl O1.at' O1.kp O1.bd .nil pass0 (pa_cons (pv 0) (pa_cons (pv 1) pa_nil))) pe_int (fun _ _ => rfl)) (by with_unfolding_all rfl))), ?_⟩
  refine ⟨_, rfl, _, rfl, (by rw [T_len]; exact small (by omega)), ?_⟩
  rw [T_len]
  refine ⟨_, rfl, _, rfl, l, b, g, rfl, hl, hb, hrun, fun a H' s' t => ?_⟩
  obtain ⟨as, r, w, tp, la, ai, hr', pw, mem⟩ := t.row (i := 0) (by omega)
  refine ⟨a, _, _, _, rfl, rfl, .of tp, ai, r, _, rfl, .inl (.of hr'), rfl, flat_ints w, k _ H' s' ?_⟩
  show inV _ _ = true ↔ _
  rw [inV_ints, mem]
  exact ⟨fun z => by have := z.2; simpa using this, fun z => ⟨by omega, by simpa using z⟩⟩
end
end B

set_option Elab.async false
set_option linter.all false
set_option maxRecDepth 100000
namespace B
open PySem L2
open Sm (G gN gB gJ gE gM run step Wf flt okc)
theorem last_of {w : List Int} (h : w ≠ []) (p : w.Pairwise (· < ·)) : ∃ m, atI (w.map V.int) (-1) = some (.int m) ∧ m ∈ w ∧ ∀ x ∈ w, x ≤ m := by
  have hl : 0 < w.length := by
    cases w with
    | nil => exact absurd rfl h
    | cons _ _ => simp
  have hi : w.length - 1 < w.length := by omega
  refine ⟨w[w.length - 1], ?_, List.getElem_mem _, fun x hx => ?_⟩
  · unfold atI ixN
    rw [List.length_map, if_neg (by decide), if_pos (by omega)]
    have e : (-1 + (w.length : Int)).toNat = w.length - 1 := by omega
    show (w.map V.int)[(-1 + (w.length : Int)).toNat]? = _
    rw [e, List.getElem?_map, List.getElem?_eq_getElem hi]
    rfl
  · obtain ⟨i, hi', rfl⟩ := List.getElem_of_mem hx
    by_cases c : i = w.length - 1
    · subst c
      exact Int.le_refl _
    · have := List.pairwise_iff_getElem.mp p i (w.length - 1) hi' hi (by omega)
      omega
section
variable {P : Program} {w : World} {K : PySem.W.Frag} {mg : Str → Option Value} {base : Heap}
/-! ### longest -/
def LongOf (g : G) (r : V) : Prop := (r = .non ∧ ∀ j, ¬ g 0 j) ∨ ∃ m : Nat, r = .int m ∧ g 0 m ∧ ∀ j, g 0 j → j ≤ m
def spLongest : Sp := fun vs H Q _ => ∃ (l b : List Nat) (g : G), vs = [.str (T l), .str (T b)] ∧ l.length ≤ 1000 ∧ b.length ≤ 30 ∧ run b l [] = some [g] ∧ ∀ (r : V) (H' : Hp), Same H H' → LongOf g r → Q r H'
theorem scLongest : FnScope ["text", "beads", "lengths"] ["text", "beads"] (defScope sLongest) := ⟨rfl, rfl, rfl, by decide +kernel, rfl, by decide +kernel, by decide +kernel⟩
theorem ok_longest {f fO : Addr} {fd dO : FuncData} (F : Fun K "longest" "longest" sLongest f fd) (T1 : Txt mg) (O1 : Callee P w K mg base "table_of" 4 ["text", "beads"] spOf fO dO) : FnOk P w K mg base CX0 5 f fd ["text", "beads"] spLongest := by
  refine F.ok scLongest (fun vs H Q E h => ?_) (fun cdv A outer s H vs Q E hr h => ?_)
  · obtain ⟨l, b, g, rfl, _⟩ := h
    rfl
  obtain ⟨l, b, g, rfl, hl, hb, hrun, k⟩ := h
  refine ⟨_, pss_cons (ps_set (i := 2) scLongest.nd rfl (Or.inl rfl) (pe_ix ix_list (pe_call O1.ok hr rfl O1.at' O1.kp O1.bd .nil pass0 (pa_cons (pv 0) (pa_cons (pv 1) pa_nil))) pe_int (fun _ _ => rfl)))
    (pss_one (ps_ret (pe_ifExp (pt_truth (pv 2) (fun _ => rfl)) (pe_ix ix_list (pv 2) (pe_un un_neg pe_int) (fun _ _ => rfl)) pe_non))), ?_⟩
  refine ⟨_, rfl, _, rfl, l, b, g, rfl, hl, hb, hrun, fun a H' s' t => ?_⟩
  obtain ⟨as, r, w, tp, la, ai, hr', pw, mem⟩ := t.row (i := 0) (by omega)
  refine ⟨a, _, _, _, rfl, rfl, .of tp, ai, ?_⟩
  refine ⟨_, rfl, _, .inl ⟨_, .of hr', rfl⟩, ?_⟩
  by_cases c : w = []
  · subst c
    refine iteF (k _ H' s' (.inl ⟨rfl, fun j z => ?_⟩))
    have := (mem (j : Int)).mpr ⟨by omega, by simpa using z⟩
    cases this
  · have e : (!(w.map V.int).isEmpty) = true := by
      cases w with
      | nil => exact absurd rfl c
      | cons _ _ => rfl
    rw [e]
    obtain ⟨m, am, mm, mx⟩ := last_of c pw
    obtain ⟨m0, gm⟩ := (mem m).mp mm
    have em : m = ((m.toNat : Nat) : Int) := by omega
    refine iteT ⟨_, rfl, _, rfl, r, _, _, _, rfl, rfl, .of hr', am, k _ H' s' (.inr ⟨m.toNat, by rw [← em], gm, fun j z => ?_⟩)⟩
    have := mx _ ((mem (j : Int)).mpr ⟨by omega, by simpa using z⟩)
    omega
end
end B

set_option Elab.async false
set_option linter.all false
set_option maxRecDepth 100000
namespace B
open PySem L2
open PyProof.Rows
open Sm (G gN gB gJ gE gM run step Wf flt okc)
theorem boot_maxB : bootBuiltins "max" = some (.builtin "max") := by decide +kernel
/-- max of a list of ints -/
theorem call_maxL {X : Cx} (hc : X.calm = true) : CallR X (.builtin "max") (fun xs H Q => ∃ (l : Addr) (ns : List Int), xs = [.ref l] ∧ SqL X.K H l (ns.map V.int) ∧ 0 < ns.length ∧ ∀ M, M ∈ ns → (∀ a ∈ ns, a ≤ M) → Q (.int M) H) := by
  intro pins s σ H xs us Q I r h
  obtain ⟨l, ns, rfl, hq, hne, k⟩ := h
  obtain ⟨u, rfl, ru⟩ := Vals.one r
  cases ru
  obtain ⟨its, rv, p, hz⟩ := I.list hq
  have hi : IntsAre its ns := intsAre_of rv
  have hl := p.isList
  obtain ⟨xs, e⟩ := hi.allInts.items
  have hns : ns = xs.toList.map (·.1) := by
    rw [← hi.numsOf, ← nums_intItems, ← e]
  have hsz : 0 < xs.size := by
    have h3 := hne
    rw [hns, List.length_map, Array.length_toList] at h3
    exact h3
  rw [e] at hl
  refine max_intList (I.ok.hd hc) hl hsz fun v h' tk hv hk => ?_
  obtain ⟨t, rfl⟩ := intItems_at hv
  obtain ⟨h1, h2⟩ := argBest_gt (numAt xs) (xs.size - 1)
  refine ⟨.int _, H, I.kept hk, ⟨t, rfl⟩, k _ ?_ fun a ha => ?_⟩
  · rw [hns, numAt_eq]
    exact getD_mem (by rw [List.length_map, Array.length_toList]; omega)
  · rw [hns] at ha
    obtain ⟨j, hj, rfl⟩ := mem_getD ha
    rw [List.length_map, Array.length_toList] at hj
    rw [← numAt_eq]
    exact h2 j (by omega)
/-! ### finds -/
/-- what the finds from a place on are -/
def Fnd (g : G) (n : Nat) : Nat → List (Nat × Nat) → Prop
  | p, [] => ∀ q, p ≤ q → q < n → ∀ j, g q j → j ≤ q
  | p, (b, e) :: r => p ≤ b ∧ b < e ∧ e ≤ n ∧ (∀ q, p ≤ q → q < b → ∀ j, g q j → j ≤ q) ∧ g b e ∧ (∀ j, g b j → j ≤ e) ∧ Fnd g n e r
def Tt (D : Addr) (H : Hp) (a : Addr) (x : Nat × Nat) : Prop := a ≠ D ∧ H a = some (.tup [.int x.1, .int x.2])
theorem Tt.keep {D a : Addr} {H H' : Hp} {x : Nat × Nat} (k : Kp D H H') (h : Tt D H a x) : Tt D H' a x := ⟨h.1, k _ _ h.1 h.2⟩
section
variable {P : Program} {w : World} {K : PySem.W.Frag} {mg : Str → Option Value} {base : Heap}
def spFinds : Sp := fun vs H Q _ => ∃ (l b : List Nat) (g : G), vs = [.str (T l), .str (T b)] ∧ l.length ≤ 1000 ∧ b.length ≤ 30 ∧ run b l [] = some [g] ∧
  ∀ (a : Addr) (xs : List V) (ps : List (Nat × Nat)) (H' : Hp), Same H H' → H' a = some (.lst xs) → Pl (Tt a) H' xs ps → Fnd g b.length 0 ps → Q (.ref a) H'
abbrev nFinds : List Str := ["text", "beads", "table", "found", "place", "end"]
theorem scFinds : FnScope nFinds ["text", "beads"] (defScope sFinds) := ⟨rfl, rfl, rfl, by decide +kernel, rfl, by decide +kernel, by decide +kernel⟩
theorem ok_finds {f fO : Addr} {fd dO : FuncData} (F : Fun K "finds" "finds" sFinds f fd) (T1 : Txt mg) (O1 : Callee P w K mg base "table_of" 4 ["text", "beads"] spOf fO dO) : FnOk P w K mg base CX0 5 f fd ["text", "beads"] spFinds := by
  refine F.ok scFinds (fun vs H Q E h => ?_) (fun cdv A outer s H vs Q E hr h => ?_)
  · obtain ⟨l, b, g, rfl, _⟩ := h
    rfl
  obtain ⟨l, b, g, rfl, hl, hb, hrun, k⟩ := h
  refine ⟨_, pss_cons (ps_set (i := 2) scFinds.nd rfl (Or.inl rfl) (pe_call O1.ok hr rfl O1.at' O1.kp O1.bd .nil pass0 (pa_cons (pv 0) (pa_cons (pv 1) pa_nil))))
    (pss_cons (ps_set (i := 3) scFinds.nd rfl (Or.inl rfl) (pe_lst pa_nil))
    (pss_cons (ps_set (i := 4) scFinds.nd rfl (Or.inl rfl) pe_int)
    (pss_cons (ps_while PassesOwn.never (pt_cmpR op_lt (pv 4) (pe_callB call_len_str rfl T1.len PySem.boot_len (pa_cons (pv 1) pa_nil)) (nomark _))
      (pss_cons (ps_set (i := 5) scFinds.nd rfl (Or.inl rfl) (pe_callB (call_maxL rfl) rfl T1.max boot_maxB (pa_cons (pe_op op_cat (pe_lst (pa_cons (pv 4) pa_nil)) (pe_ix ix_list (pv 2) (pv 4) (fun _ _ => rfl))) pa_nil)))
      (pss_one (ps_if (pt_cmpR op_gt (pv 5) (pv 4) (nomark _))
        (pss_cons (ps_expr (pe_bm PySem.F.plainAttrs_list PySem.F.slot_list_append PySem.F.type_list_append mt_append (pv 3) (pa_cons (pe_tup (pa_cons (pv 4) (pa_cons (pv 5) pa_nil))) pa_nil)))
        (pss_one (ps_set (i := 4) scFinds.nd rfl (Or.inl rfl) (pv 5))))
        (pss_one (ps_set (i := 4) scFinds.nd rfl (Or.inl rfl) (pe_op op_add (pv 4) pe_int)))))))
    (pss_one (ps_ret (pv 3)))))), ?_⟩
  have up : Sm.Up (b.length + 1) g := Sm.run_up (p := []) (fun g z => by cases z) hrun g (by simp)
  refine ⟨_, rfl, _, rfl, l, b, g, rfl, hl, hb, hrun, fun a H1 s1 t1 => ?_⟩
  refine ⟨(by show 0 ≤ sizeLine; decide), fun D hD => ?_⟩
  have hD0 := s1.free hD
  refine ⟨fun m σ H2 => ∃ (p lp : Nat) (v5 : Option V) (xs : List V) (ps : List (Nat × Nat)), σ = [some (.str (T l)), some (.str (T b)), some (.ref a), some (.ref D), some (.int (p : Int)), v5] ∧ Same H1 H2 ∧ H2 D = some (.lst xs) ∧ Pl (Tt D) H2 xs ps ∧ xs.length ≤ p ∧ p ≤ b.length ∧
      (∀ r, Fnd g b.length lp r → Fnd g b.length 0 (ps ++ r)) ∧ lp ≤ p ∧ (∀ q, lp ≤ q → q < p → ∀ j, g q j → j ≤ q) ∧ m = b.length - p, ?_, ?_⟩
  · exact ⟨_, 0, 0, none, [], [], rfl, same_new hD _, upd_same, Pl.nil, Nat.le_refl _, Nat.zero_le _, fun r h => h, Nat.le_refl _, fun q h1 h2 => by omega, rfl⟩
  rintro m σ H2 ⟨p, lp, v5, xs, ps, rfl, s2, hd, pl, lx, pb, pre, lpp, nop, rfl⟩
  refine ⟨_, rfl, _, rfl, _, rfl, (by rw [T_len]; exact small (by omega)), _, _, rfl, rfl, _, rfl, ?_⟩
  rw [T_len]
  by_cases c : p < b.length
  · rw [decide_eq_true (by omega)]
    refine iteT ⟨fun σ' H' => ∃ (p' lp : Nat) (v5 : Option V) (xs : List V) (ps : List (Nat × Nat)), σ' = [some (.str (T l)), some (.str (T b)), some (.ref a), some (.ref D), some (.int (p' : Int)), v5] ∧ Same H1 H' ∧ H' D = some (.lst xs) ∧ Pl (Tt D) H' xs ps ∧ xs.length ≤ p' ∧ p' ≤ b.length ∧
      (∀ r, Fnd g b.length lp r → Fnd g b.length 0 (ps ++ r)) ∧ lp ≤ p' ∧ (∀ q, lp ≤ q → q < p' → ∀ j, g q j → j ≤ q) ∧ p < p', ?_, ?_⟩
    · rintro σ' H' ⟨p', lp', v5, xs, ps, rfl, z1, z2, z3, z4, z5, z6, z7, z8, z9⟩
      exact ⟨b.length - p', by omega, p', lp', v5, xs, ps, rfl, z1, z2, z3, z4, z5, z6, z7, z8, rfl⟩
    obtain ⟨as, rr, wr, tp, la, ai, hrow, pw, mem⟩ := (t1.same s2).row (i := p) (by omega)
    refine ⟨_, rfl, (by show 1 ≤ sizeLine; decide), fun q1 hq1 => ?_⟩
    have g1 := same_new hq1 (.lst [V.int (p : Int)])
    have lw : wr.length ≤ 1000 := by
      have : wr.length ≤ b.length + 1 := rising_len pw fun x hx => by
        obtain ⟨x0, gx⟩ := (mem x).mp hx
        have := up _ _ gx
        omega
      omega
    refine ⟨_, rfl, _, rfl, a, _, _, _, rfl, rfl, .of (g1 _ _ tp), ai, q1, rr, _, _, rfl, rfl, upd_same, g1 _ _ hrow, (by rw [List.length_map, List.length_singleton]; exact small (by omega)), fun q2 hq2 => ?_⟩
    have e2 : [V.int (p : Int)] ++ wr.map V.int = ((p : Int) :: wr).map V.int := rfl
    rw [e2] at *
    have g2 := g1.trans (same_new hq2 (.lst (((p : Int) :: wr).map V.int)))
    refine ⟨q2, _, rfl, .of upd_same, by simp, fun M hM hx => ?_⟩
    have pl2 : Pl (Tt D) (upd (upd H2 q1 (.lst [V.int (p : Int)])) q2 (.lst (((p : Int) :: wr).map V.int))) xs ps := pl.same fun a x h => h.keep (.of g2)
    have s3 := s2.trans g2
    have hd3 := g2 _ _ hd
    have pM : (p : Int) ≤ M := hx _ (by simp)
    have mxj : ∀ j, g p j → (j : Int) ≤ M := fun j gj => hx _ (List.mem_cons_of_mem _ ((mem (j : Int)).mpr ⟨by omega, by simpa using gj⟩))
    refine ⟨_, rfl, _, rfl, _, _, rfl, rfl, _, rfl, ?_⟩
    by_cases d : (p : Int) < M
    · rw [decide_eq_true d]
      have Mw : M ∈ wr := by
        rcases List.mem_cons.mp hM with z | z
        · omega
        · exact z
      obtain ⟨M0, gM⟩ := (mem M).mp Mw
      have uM := up _ _ gM
      have eM : M = ((M.toNat : Nat) : Int) := by omega
      refine iteT ⟨_, rfl, .inl ⟨rfl, _, .of hd3⟩, _, rfl, _, rfl, (by show 2 ≤ sizeLine; decide), fun q3 hq3 => ?_⟩
      have g3 := same_new hq3 (.tup [V.int (p : Int), V.int M])
      have qD : q3 ≠ D := fun z => by rw [z, hd3] at hq3; cases hq3
      refine ⟨D, _, _, rfl, rfl, g3 _ _ hd3, Nat.lt_of_le_of_lt (show xs.length ≤ 1000 by omega) (by decide), _, rfl, M.toNat, M.toNat, some (.int M), _, ps ++ [(p, M.toNat)], ?_, Kp.put.to hD (s3.trans g3), upd_same, ?_, ?_, by omega, ?_, Nat.le_refl _, fun q z1 z2 => by omega, by omega⟩
      · show [some (V.str (T l)), some (V.str (T b)), some (V.ref a), some (V.ref D), some (V.int M), some (V.int M)] = _
        rw [← eM]
      · refine Pl.push (pl2.same fun a x h => (h.keep (.of g3)).keep .put) ⟨qD, ?_⟩
        rw [upd_ne qD, upd_same]
        show some (HO.tup [V.int (p : Int), V.int M]) = some (HO.tup [V.int (p : Int), V.int ((M.toNat : Nat) : Int)])
        rw [← eM]
      · rw [List.length_append, List.length_singleton]
        omega
      · intro r hr'
        rw [List.append_assoc]
        exact pre _ ⟨lpp, by omega, by omega, nop, gM, fun j gj => by have := mxj j gj; omega, hr'⟩
    · rw [decide_eq_false d]
      have eM : M = (p : Int) := by omega
      refine iteF ⟨_, rfl, _, _, rfl, rfl, p + 1, lp, some (.int M), xs, ps, ?_, s3, hd3, pl2, by omega, by omega, pre, by omega, fun q z1 z2 j gj => ?_, by omega⟩
      · show [some (V.str (T l)), some (V.str (T b)), some (V.ref a), some (V.ref D), some (V.int ((p : Int) + 1)), some (V.int M)] = _
        have : (p : Int) + 1 = ((p + 1 : Nat) : Int) := by omega
        rw [this]
      · by_cases y : q = p
        · subst y
          have := mxj j gj
          omega
        · exact nop q z1 (by omega) j gj
  · rw [decide_eq_false (by omega)]
    refine iteF ⟨_, rfl, k D xs ps H2 (s1.trans s2) hd pl ?_⟩
    have := pre [] (fun q z1 z2 j gj => nop q z1 (by omega) j gj)
    rwa [List.append_nil] at this
end
end B

set_option Elab.async false
set_option linter.all false
set_option maxRecDepth 100000
namespace B
open PySem L2
open Sm (G Re post Ln Star)
/-! ### a pattern's text and two strings that fit it -/
structure Tri where
  t : List Nat
  y : List Nat
  z : List Nat
def trV (x : Tri) : List V := [.str (T x.t), .str (T x.y), .str (T x.z)]
structure Gd (m : Nat) (x : Tri) : Prop where
  re : ∃ r, x.t = post r ∧ Ln r x.y ∧ Ln r x.z
  y : x.y.length ≤ m
  z : x.z.length ≤ m
theorem ts {l m : List Nat} (h : l.length + m.length ≤ 100000) : (T l).length + (T m).length ≤ sizeLine := by
  rw [T_len, T_len]
  exact small h
theorem tz {l : List Nat} (h : l.length ≤ 100000) : (T l).length ≤ sizeLine := by
  rw [T_len]
  exact small h
section
variable {P : Program} {w : World} {K : PySem.W.Frag} {mg : Str → Option Value} {base : Heap}
/-! ### _law_then -/
def spThen : Sp := fun vs H Q _ => ∃ (a b : Addr) (m : Nat) (x y : Tri), vs = [.ref a, .ref b, .int m] ∧ H a = some (.lst (trV x)) ∧ H b = some (.lst (trV y)) ∧ m ≤ 100 ∧ Gd m x ∧ Gd m y ∧ x.t.length + y.t.length ≤ 900 ∧
  ∀ p z, H p = none → Gd m z → z.t.length = x.t.length + y.t.length + 1 → Q (.ref p) (upd H p (.lst (trV z)))
theorem scThen : FnScope ["_law_low", "_law_high", "_law_most"] ["_law_low", "_law_high", "_law_most"] (defScope sThen) := ⟨rfl, rfl, rfl, by decide +kernel, rfl, by decide +kernel, by decide +kernel⟩
theorem ok_then {f : Addr} {fd : FuncData} (F : Fun K "_law_then" "_law_then" sThen f fd) (T1 : Txt mg) : FnOk P w K mg base CX0 1 f fd ["_law_low", "_law_high", "_law_most"] spThen := by
  refine F.ok scThen (fun vs H Q E h => ?_) (fun cdv A outer s H vs Q E hr h => ?_)
  · obtain ⟨a, b, m, x, y, rfl, _⟩ := h
    rfl
  obtain ⟨a, b, m, x, y, rfl, ha, hb, hm, gx, gy, hsz, k⟩ := h
  refine ⟨_, pss_cons (ps_if (PW.pt (pw_or (pt_cmpR op_gt (pe_callB call_len_str rfl T1.len PySem.boot_len (pa_cons (pe_op op_add_str (pe_ix ix_list (pv 0) pe_int (fun _ _ => rfl)) (pe_ix ix_list (pv 1) pe_int (fun _ _ => rfl))) pa_nil)) (pv 2) (nomark _))
      (pw_or1 (pt_cmpR op_gt (pe_callB call_len_str rfl T1.len PySem.boot_len (pa_cons (pe_op op_add_str (pe_ix ix_list (pv 0) pe_int (fun _ _ => rfl)) (pe_ix ix_list (pv 1) pe_int (fun _ _ => rfl))) pa_nil)) (pv 2) (nomark _)))))
      (pss_one (ps_ret (pe_lst (pa_cons (pe_op op_add_str (pe_op op_add_str (pe_ix ix_list (pv 0) pe_int (fun _ _ => rfl)) (pe_ix ix_list (pv 1) pe_int (fun _ _ => rfl))) pe_str) (pa_cons (pe_ix ix_list (pv 1) pe_int (fun _ _ => rfl)) (pa_cons (pe_ix ix_list (pv 0) pe_int (fun _ _ => rfl)) pa_nil)))))) pss_nil)
    (pss_one (ps_ret (pe_lst (pa_cons (pe_op op_add_str (pe_op op_add_str (pe_ix ix_list (pv 0) pe_int (fun _ _ => rfl)) (pe_ix ix_list (pv 1) pe_int (fun _ _ => rfl))) pe_str) (pa_cons (pe_op op_add_str (pe_ix ix_list (pv 0) pe_int (fun _ _ => rfl)) (pe_ix ix_list (pv 1) pe_int (fun _ _ => rfl)))
      (pa_cons (pe_op op_add_str (pe_ix ix_list (pv 0) pe_int (fun _ _ => rfl)) (pe_ix ix_list (pv 1) pe_int (fun _ _ => rfl))) pa_nil)))))), ?_⟩
  have zy := gx.y
  have zy' := gy.y
  have zz := gx.z
  have zz' := gy.z
  obtain ⟨rx, ex, lx1, lx2⟩ := gx.re
  obtain ⟨ry, ey, ly1, ly2⟩ := gy.re
  have B1 : ∀ p, H p = none → Q (.ref p) (upd H p (.lst [.str (T x.t ++ T y.t ++ "/"), .str (T y.y), .str (T x.z)])) := fun p hp => by
    have e : T x.t ++ T y.t ++ "/" = T (x.t ++ y.t ++ [47]) := by rw [T_app, s47, T_app]
    rw [e]
    exact k p ⟨x.t ++ y.t ++ [47], y.y, x.z⟩ hp ⟨⟨.e rx ry, by show x.t ++ y.t ++ [47] = post rx ++ post ry ++ [47]; rw [ex, ey], .inr ly1, .inl lx2⟩, zy', zz⟩ (by show (x.t ++ y.t ++ [47]).length = _; rw [List.length_append, List.length_append, List.length_singleton])
  have sz2 : (T x.t ++ T y.t).length + ("/" : Str).length ≤ sizeLine := by
    rw [T_app, s47]
    exact ts (by simp; omega)
  have sz3 : (T x.t ++ T y.t).length + ("+" : Str).length ≤ sizeLine := by
    rw [T_app, s43]
    exact ts (by simp; omega)
  refine ⟨_, rfl, a, _, _, _, rfl, rfl, .of ha, rfl, _, rfl, b, _, _, _, rfl, rfl, .of hb, rfl, _, _, rfl, rfl, ts (by omega), ?_⟩
  rw [T_app]
  refine ⟨_, rfl, tz (by simp; omega), _, rfl, _, _, rfl, rfl, _, rfl, ?_⟩
  rw [T_len]
  by_cases c1 : (m : Int) < (((x.y ++ y.y).length : Nat) : Int)
  · rw [decide_eq_true c1]
    refine iteT (iteT ⟨_, rfl, a, _, _, _, rfl, rfl, .of ha, rfl, _, rfl, b, _, _, _, rfl, rfl, .of hb, rfl, _, _, rfl, rfl, ts (by omega), _, _, rfl, rfl, sz2, _, rfl, b, _, _, _, rfl, rfl, .of hb, rfl, _, rfl, a, _, _, _, rfl, rfl, .of ha, rfl, (by show 3 ≤ sizeLine; decide), B1⟩)
  · rw [decide_eq_false c1]
    refine iteF ⟨_, rfl, a, _, _, _, rfl, rfl, .of ha, rfl, _, rfl, b, _, _, _, rfl, rfl, .of hb, rfl, _, _, rfl, rfl, ts (by omega), ?_⟩
    rw [T_app]
    refine ⟨_, rfl, tz (by simp; omega), _, rfl, _, _, rfl, rfl, _, rfl, ?_⟩
    rw [T_len]
    by_cases c2 : (m : Int) < (((x.z ++ y.z).length : Nat) : Int)
    · rw [decide_eq_true c2]
      refine iteT ⟨_, rfl, a, _, _, _, rfl, rfl, .of ha, rfl, _, rfl, b, _, _, _, rfl, rfl, .of hb, rfl, _, _, rfl, rfl, ts (by omega), _, _, rfl, rfl, sz2, _, rfl, b, _, _, _, rfl, rfl, .of hb, rfl, _, rfl, a, _, _, _, rfl, rfl, .of ha, rfl, (by show 3 ≤ sizeLine; decide), B1⟩
    · rw [decide_eq_false c2]
      refine iteF ⟨_, rfl, a, _, _, _, rfl, rfl, .of ha, rfl, _, rfl, b, _, _, _, rfl, rfl, .of hb, rfl, _, _, rfl, rfl, ts (by omega), _, _, rfl, rfl, sz3, _, rfl, a, _, _, _, rfl, rfl, .of ha, rfl, _, rfl, b, _, _, _, rfl, rfl, .of hb, rfl, _, _, rfl, rfl, ts (by omega),
        _, rfl, a, _, _, _, rfl, rfl, .of ha, rfl, _, rfl, b, _, _, _, rfl, rfl, .of hb, rfl, _, _, rfl, rfl, ts (by omega), (by show 3 ≤ sizeLine; decide), fun p hp => ?_⟩
      have e : T x.t ++ T y.t ++ "+" = T (x.t ++ y.t ++ [43]) := by rw [T_app, s43, T_app]
      rw [e, T_app, T_app]
      exact k p ⟨x.t ++ y.t ++ [43], x.y ++ y.y, x.z ++ y.z⟩ hp ⟨⟨.j rx ry, by show x.t ++ y.t ++ [43] = post rx ++ post ry ++ [43]; rw [ex, ey], ⟨_, _, rfl, lx1, ly1⟩, ⟨_, _, rfl, lx2, ly2⟩⟩, by show (x.y ++ y.y).length ≤ m; omega, by show (x.z ++ y.z).length ≤ m; omega⟩
        (by show (x.t ++ y.t ++ [43]).length = _; rw [List.length_append, List.length_append, List.length_singleton])

/-! ### _law_repeated -/
def spRep : Sp := fun vs H Q _ => ∃ (a : Addr) (pick : Int) (m : Nat) (x : Tri), vs = [.ref a, .int pick, .int m] ∧ H a = some (.lst (trV x)) ∧ m ≤ 100 ∧ Gd m x ∧ x.t.length ≤ 900 ∧
  ∀ H' p z, Same H H' → H' p = none → Gd m z → z.t.length = x.t.length + 1 → Q (.ref p) (upd H' p (.lst (trV z)))
theorem scRep : FnScope ["_law_low", "_law_pick", "_law_most", "_law_made"] ["_law_low", "_law_pick", "_law_most"] (defScope sRep) := ⟨rfl, rfl, rfl, by decide +kernel, rfl, by decide +kernel, by decide +kernel⟩
theorem s_nil : ("" : Str) = T [] := by decide +kernel
theorem ok_rep {f : Addr} {fd : FuncData} (F : Fun K "_law_repeated" "_law_repeated" sRep f fd) (T1 : Txt mg) : FnOk P w K mg base CX0 1 f fd ["_law_low", "_law_pick", "_law_most"] spRep := by
  refine F.ok scRep (fun vs H Q E h => ?_) (fun cdv A outer s H vs Q E hr h => ?_)
  · obtain ⟨a, pick, m, x, rfl, _⟩ := h
    rfl
  obtain ⟨a, pick, m, x, rfl, ha, hm, gx, hsz, k⟩ := h
  refine ⟨_, pss_cons (ps_set (i := 3) scRep.nd rfl (Or.inl rfl) (pe_ix ix_list (pe_lst (pa_cons pe_str (pa_cons (pe_ix ix_list (pv 0) pe_int (fun _ _ => rfl)) (pa_cons (pe_op op_add_str (pe_ix ix_list (pv 0) pe_int (fun _ _ => rfl)) (pe_ix ix_list (pv 0) pe_int (fun _ _ => rfl)))
      (pa_cons (pe_op op_add_str (pe_op op_add_str (pe_ix ix_list (pv 0) pe_int (fun _ _ => rfl)) (pe_ix ix_list (pv 0) pe_int (fun _ _ => rfl))) (pe_ix ix_list (pv 0) pe_int (fun _ _ => rfl))) pa_nil))))) (pe_op op_mod (pv 1) pe_int) (fun _ _ => rfl)))
    (pss_cons (ps_if (pt_cmpR op_gt (pe_callB call_len_str rfl T1.len PySem.boot_len (pa_cons (pv 3) pa_nil)) (pv 2) (nomark _)) (pss_one (ps_set (i := 3) scRep.nd rfl (Or.inl rfl) (pe_ix ix_list (pv 0) pe_int (fun _ _ => rfl)))) pss_nil)
    (pss_one (ps_ret (pe_lst (pa_cons (pe_op op_add_str (pe_ix ix_list (pv 0) pe_int (fun _ _ => rfl)) pe_str) (pa_cons (pv 3) (pa_cons (pe_ix ix_list (pv 0) pe_int (fun _ _ => rfl)) pa_nil))))))), ?_⟩
  have zy := gx.y
  have zz := gx.z
  obtain ⟨rx, ex, lx1, lx2⟩ := gx.re
  refine ⟨_, rfl, a, _, _, _, rfl, rfl, .of ha, rfl, _, rfl, a, _, _, _, rfl, rfl, .of ha, rfl, _, rfl, a, _, _, _, rfl, rfl, .of ha, rfl, _, _, rfl, rfl, ts (by omega), _, rfl, a, _, _, _, rfl, rfl, .of ha, rfl, _, rfl, a, _, _, _, rfl, rfl, .of ha, rfl, _, _, rfl, rfl, ts (by omega),
    _, rfl, a, _, _, _, rfl, rfl, .of ha, rfl, _, _, rfl, rfl, ?_, (by show 4 ≤ sizeLine; decide), fun q hq => ?_⟩
  · rw [T_app]
    exact ts (by simp; omega)
  rw [s_nil, T_app, T_app, T_app]
  have g1 := same_new hq (.lst [V.str (T []), V.str (T x.y), V.str (T (x.y ++ x.z)), V.str (T (x.z ++ x.y ++ x.y))])
  obtain ⟨l, el, ll, lz⟩ : ∃ l, atI [V.str (T []), V.str (T x.y), V.str (T (x.y ++ x.z)), V.str (T (x.z ++ x.y ++ x.y))] (pick % 4) = some (.str (T l)) ∧ Ln (.m rx) l ∧ l.length ≤ 300 := by
    have h4 : pick % 4 = 0 ∨ pick % 4 = 1 ∨ pick % 4 = 2 ∨ pick % 4 = 3 := by omega
    rcases h4 with h | h | h | h <;> rw [h]
    · exact ⟨[], rfl, Star.nil, Nat.zero_le _⟩
    · exact ⟨x.y, rfl, Star.one lx1, by omega⟩
    · exact ⟨x.y ++ x.z, rfl, Star.two lx1 lx2, by simp; omega⟩
    · exact ⟨x.z ++ x.y ++ x.y, rfl, Star.three lx2 lx1 lx1, by simp; omega⟩
  refine ⟨_, rfl, _, _, rfl, rfl, (by show (0 : Int) < 4; decide), q, _, _, _, rfl, rfl, .of upd_same, el, ?_⟩
  have ha1 := g1 _ _ ha
  refine ⟨_, rfl, _, rfl, tz (by omega), _, rfl, _, _, rfl, rfl, _, rfl, ?_⟩
  rw [T_len]
  have szt : (T x.t).length + ("*" : Str).length ≤ sizeLine := by
    rw [s42]
    exact ts (by simp; omega)
  have e : T x.t ++ "*" = T (x.t ++ [42]) := by rw [s42, T_app]
  have fin : ∀ l, Ln (.m rx) l → l.length ≤ m → ∀ p, (upd H q (.lst [V.str (T []), V.str (T x.y), V.str (T (x.y ++ x.z)), V.str (T (x.z ++ x.y ++ x.y))])) p = none → Q (.ref p) (upd (upd H q (.lst [V.str (T []), V.str (T x.y), V.str (T (x.y ++ x.z)), V.str (T (x.z ++ x.y ++ x.y))])) p (.lst [.str (T x.t ++ "*"), .str (T l), .str (T x.z)])) := fun l hl hlm p hp => by
    rw [e]
    exact k _ p ⟨x.t ++ [42], l, x.z⟩ g1 hp ⟨⟨.m rx, by show x.t ++ [42] = post rx ++ [42]; rw [ex], hl, Star.one lx2⟩, hlm, zz⟩ (by show (x.t ++ [42]).length = _; simp)
  by_cases c1 : (m : Int) < ((l.length : Nat) : Int)
  · rw [decide_eq_true c1]
    exact iteT ⟨_, rfl, a, _, _, _, rfl, rfl, .of ha1, rfl, _, rfl, a, _, _, _, rfl, rfl, .of ha1, rfl, _, _, rfl, rfl, szt, _, rfl, _, rfl, a, _, _, _, rfl, rfl, .of ha1, rfl, (by show 3 ≤ sizeLine; decide), fin x.y (Star.one lx1) zy⟩
  · rw [decide_eq_false c1]
    exact iteF ⟨_, rfl, a, _, _, _, rfl, rfl, .of ha1, rfl, _, _, rfl, rfl, szt, _, rfl, _, rfl, a, _, _, _, rfl, rfl, .of ha1, rfl, (by show 3 ≤ sizeLine; decide), fin l ll (by omega)⟩

/-! ### _law_leaf -/
abbrev ABC : Str := "abcdefghijklmnopqrstuvwxyz"
theorem abc_is : (ABC).cps.toList = (List.range 26).map (97 + ·) := by decide +kernel
theorem amz_is : (("amz" : Str)).cps.toList = [97, 109, 122] := by decide +kernel
theorem abc_at {k : Int} (h0 : 0 ≤ k) (h : k < 26) : atI (ABC).cps.toList k = some (97 + k.toNat) := by
  refine atI_of h0 ?_
  rw [abc_is, List.getElem?_map, List.getElem?_range (by omega)]
  rfl
theorem amz_at {k : Int} (h0 : 0 ≤ k) (h : k < 3) : ∃ c, atI (("amz" : Str)).cps.toList k = some c ∧ 97 ≤ c ∧ c ≤ 122 := by
  rw [amz_is]
  have : k = 0 ∨ k = 1 ∨ k = 2 := by omega
  rcases this with rfl | rfl | rfl
  · exact ⟨97, rfl, by omega⟩
  · exact ⟨109, rfl, by omega⟩
  · exact ⟨122, rfl, by omega⟩
def spLeaf : Sp := fun vs H Q _ => ∃ (way pick : Int), vs = [.int way, .int pick] ∧ 0 ≤ pick ∧ pick < 78 ∧ ∀ p z, H p = none → (∀ m, 1 ≤ m → Gd m z) → z.t.length = 1 → Q (.ref p) (upd H p (.lst (trV z)))
theorem scLeaf : FnScope ["_law_way", "_law_pick", "_law_letters", "_law_sign"] ["_law_way", "_law_pick"] (defScope sLeaf) := ⟨rfl, rfl, rfl, by decide +kernel, rfl, by decide +kernel, by decide +kernel⟩
theorem ok_leaf {f : Addr} {fd : FuncData} (F : Fun K "_law_leaf" "_law_leaf" sLeaf f fd) (T1 : Txt mg) : FnOk P w K mg base CX0 1 f fd ["_law_way", "_law_pick"] spLeaf := by
  refine F.ok scLeaf (fun vs H Q E h => ?_) (fun cdv A outer s H vs Q E hr h => ?_)
  · obtain ⟨way, pick, rfl, _⟩ := h
    rfl
  obtain ⟨way, pick, rfl, h0, h1, k⟩ := h
  refine ⟨_, pss_cons (ps_set (i := 2) scLeaf.nd rfl (Or.inl rfl) pe_str)
    (pss_cons (ps_set (i := 3) scLeaf.nd rfl (Or.inl rfl) (pe_ix ix_str pe_str (pe_op op_mod (pe_op op_fdiv (pv 1) pe_int) pe_int) (fun _ _ => rfl)))
    (pss_cons (ps_if (pt_cmpR op_eq (pe_op op_mod (pv 1) pe_int) pe_int (nomark _)) (pss_one (ps_set (i := 3) scLeaf.nd rfl (Or.inl rfl) (pe_ix ix_str (pv 2) (pe_op op_fdiv (pv 1) pe_int) (fun _ _ => rfl)))) pss_nil)
    (pss_cons (ps_if (pt_cmpR op_eq (pv 0) pe_int (nomark _)) (pss_one (ps_ret (pe_lst (pa_cons pe_str (pa_cons (pv 3) (pa_cons (pe_ix ix_str (pv 2) (pe_op op_mod (pe_op op_add (pv 1) pe_int) pe_int) (fun _ _ => rfl)) pa_nil)))))) pss_nil)
    (pss_one (ps_ret (pe_lst (pa_cons (pv 3) (pa_cons (pv 3) (pa_cons (pv 3) pa_nil))))))))), ?_⟩
  obtain ⟨c, ec, c1, c2⟩ := amz_at (k := pick / 3 % 3) (by omega) (by omega)
  refine ⟨_, rfl, _, _, rfl, rfl, ⟨by decide, by decide⟩, _, _, rfl, rfl, (by show (0 : Int) < 3; decide), _, _, _, rfl, rfl, (by decide +kernel), ec, ?_⟩
  refine ⟨_, rfl, _, _, rfl, rfl, (by show (0 : Int) < 3; decide), rfl, _, rfl, ?_⟩
  have fin4 : ∀ c, 97 ≤ c → c ≤ 122 → ∀ p, H p = none → Q (.ref p) (upd H p (.lst [.str ".", .str (T [c]), .str (T [97 + ((pick + 7) % 26).toNat])])) := fun c h1 h2 p hp => by
    rw [s46]
    refine k p ⟨[46], [c], [97 + ((pick + 7) % 26).toNat]⟩ hp (fun m hm => ⟨⟨.leaf 46 (.inr rfl), rfl, ⟨c, rfl, .inl rfl⟩, ⟨_, rfl, .inl rfl⟩⟩, hm, hm⟩) rfl
  have fin : ∀ c, 97 ≤ c → c ≤ 122 → ∀ p, H p = none → Q (.ref p) (upd H p (.lst [.str (T [c]), .str (T [c]), .str (T [c])])) := fun c h1 h2 p hp =>
    k p ⟨[c], [c], [c]⟩ hp (fun m hm => ⟨⟨.leaf c (.inl ⟨h1, h2⟩), rfl, ⟨c, rfl, .inr rfl⟩, ⟨c, rfl, .inr rfl⟩⟩, hm, hm⟩) rfl
  have ea := abc_at (k := (pick + 7) % 26) (by omega) (by omega)
  have z26 : (ABC).length ≤ sizeLine := by decide +kernel
  by_cases d1 : pick % 3 = 0
  · have e1 : decide (V.int (pick % 3) = V.int 0) = true := decide_eq_true (by rw [d1])
    rw [e1]
    refine iteT ⟨_, rfl, _, rfl, _, _, rfl, rfl, ⟨by decide, by decide⟩, _, _, _, rfl, rfl, z26, abc_at (k := pick / 3) (by omega) (by omega), ?_⟩
    refine ⟨_, rfl, rfl, _, rfl, ?_⟩
    have c1' : 97 ≤ 97 + (pick / 3).toNat := by omega
    have c2' : 97 + (pick / 3).toNat ≤ 122 := by omega
    by_cases d2 : way = 4
    · have e2 : decide (V.int way = V.int 4) = true := decide_eq_true (by rw [d2])
      rw [e2]
      exact iteT ⟨_, rfl, _, rfl, _, rfl, _, _, rfl, rfl, _, _, rfl, rfl, (by show (0 : Int) < 26; decide), _, _, _, rfl, rfl, z26, ea, (by show 3 ≤ sizeLine; decide), fin4 _ c1' c2'⟩
    · have e2 : decide (V.int way = V.int 4) = false := decide_eq_false (fun z => d2 (by injection z))
      rw [e2]
      exact iteF ⟨_, rfl, _, rfl, _, rfl, (by show 3 ≤ sizeLine; decide), fin _ c1' c2'⟩
  · have e1 : decide (V.int (pick % 3) = V.int 0) = false := decide_eq_false (fun z => d1 (by injection z))
    rw [e1]
    refine iteF ⟨_, rfl, rfl, _, rfl, ?_⟩
    by_cases d2 : way = 4
    · have e2 : decide (V.int way = V.int 4) = true := decide_eq_true (by rw [d2])
      rw [e2]
      exact iteT ⟨_, rfl, _, rfl, _, rfl, _, _, rfl, rfl, _, _, rfl, rfl, (by show (0 : Int) < 26; decide), _, _, _, rfl, rfl, z26, ea, (by show 3 ≤ sizeLine; decide), fin4 _ c1 c2⟩
    · have e2 : decide (V.int way = V.int 4) = false := decide_eq_false (fun z => d2 (by injection z))
      rw [e2]
      exact iteF ⟨_, rfl, _, rfl, _, rfl, (by show 3 ≤ sizeLine; decide), fin _ c1 c2⟩
end
end B

set_option Elab.async false
set_option linter.all false
set_option maxRecDepth 100000
namespace B
open PySem L2
open Sm (G Re post Ln Star)
def Te (D : Addr) (H : Hp) (a : Addr) (t : Tri) : Prop := a ≠ D ∧ H a = some (.lst (trV t))
theorem Te.keep {D a : Addr} {H H' : Hp} {t : Tri} (k : Kp D H H') (h : Te D H a t) : Te D H' a t := ⟨h.1, k _ _ h.1 h.2⟩
def sumT (ts : List Tri) : Nat := (ts.map fun t => t.t.length).sum
theorem sumT_push (ts : List Tri) (z : Tri) : sumT (ts ++ [z]) = sumT ts + z.t.length := by
  unfold sumT
  simp
theorem all_push {ts : List Tri} {z : Tri} {m : Nat} (h : ∀ t ∈ ts, Gd m t) (hz : Gd m z) : ∀ t ∈ ts ++ [z], Gd m t := fun t ht => by
  rcases List.mem_append.mp ht with q | q
  · exact h t q
  · rw [List.mem_singleton.mp q]; exact hz
theorem snoc_at (ys : List V) (v : V) : (ys ++ [v])[(ys ++ [v]).length - 1]? = some v := by simp
/-- the pile under way -/
structure Pg (H0 H : Hp) (D : Addr) (m : Nat) (xs : List V) (ts : List Tri) : Prop where
  same : Same H0 H
  top : H D = some (.lst xs)
  pl : Pl (Te D) H xs ts
  gd : ∀ t ∈ ts, Gd m t
theorem Pg.keep {H0 H H' : Hp} {D : Addr} {m : Nat} {xs : List V} {ts : List Tri} (p : Pg H0 H D m xs ts) (s : Same H H') : Pg H0 H' D m xs ts :=
  ⟨p.same.trans s, s _ _ p.top, p.pl.same fun a t h => h.keep (.of s), p.gd⟩
/-- the uppermost is taken off -/
theorem Pg.pop {H0 H : Hp} {D : Addr} {m : Nat} {xs : List V} {ts : List Tri} (p : Pg H0 H D m xs ts) (hD : H0 D = none) (h : 1 ≤ xs.length) : ∃ ys us a t, xs = ys ++ [.ref a] ∧ ts = us ++ [t] ∧ a ≠ D ∧ Gd m t ∧ H a = some (.lst (trV t)) ∧
    Pg H0 (upd H D (.lst ys)) D m ys us ∧ (upd H D (.lst ys)) a = some (.lst (trV t)) := by
  obtain ⟨ys, us, a, t, rfl, rfl, pl, te⟩ := p.pl.last h
  refine ⟨ys, us, a, t, rfl, rfl, te.1, p.gd t (by simp), te.2, ⟨Kp.put.to hD p.same, upd_same, pl.same fun b u q => q.keep .put, fun u hu => p.gd u (by simp [hu])⟩, ?_⟩
  rw [upd_ne te.1]
  exact te.2
/-- one is put on top -/
theorem Pg.push {H0 H : Hp} {D q : Addr} {m : Nat} {xs : List V} {ts : List Tri} {z : Tri} (p : Pg H0 H D m xs ts) (hD : H0 D = none) (hq : H q = none) (gz : Gd m z) :
    (upd H q (.lst (trV z))) D = some (.lst xs) ∧ Pg H0 (upd (upd H q (.lst (trV z))) D (.lst (xs ++ [.ref q]))) D m (xs ++ [.ref q]) (ts ++ [z]) := by
  have qD : q ≠ D := fun e => by rw [e, p.top] at hq; cases hq
  have k1 : Same H (upd H q (.lst (trV z))) := same_new hq _
  refine ⟨k1 _ _ p.top, (Kp.put.to hD (p.same.trans k1)), upd_same, ?_, all_push p.gd gz⟩
  refine Pl.push (p.pl.same fun b u h => (h.keep (.of k1)).keep .put) ⟨qD, ?_⟩
  rw [upd_ne qD, upd_same]
section
variable {P : Program} {w : World} {K : PySem.W.Frag} {mg : Str → Option Value} {base : Heap}
def spGrown (K : PySem.W.Frag) : Sp := fun vs H Q _ => ∃ (c : Addr) (ns : List Int) (m : Nat), vs = [.ref c, .int m] ∧ SqL K H c (ns.map V.int) ∧ ns.length ≤ 63 ∧ 1 ≤ m ∧ m ≤ 100 ∧ ∀ a z H', Same H H' → H' a = some (.lst (trV z)) → Gd m z → z.t.length ≤ 130 → Q (.ref a) H'
abbrev nGrown : List Str := ["_law_cells", "_law_most", "_law_pile", "_law_cell", "_law_way", "_law_pick", "_law_low", "_law_high"]
theorem scGrown : FnScope nGrown ["_law_cells", "_law_most"] (defScope sGrown) := ⟨rfl, rfl, rfl, by decide +kernel, rfl, by decide +kernel, by decide +kernel⟩
theorem s_a : ("a" : Str) = T [97] := by decide +kernel
set_option maxHeartbeats 2000000 in
theorem ok_grown {f fR fT fL : Addr} {fd dR dT dL : FuncData} (F : Fun K "_law_grown" "_law_grown" sGrown f fd) (T1 : Txt mg) (R1 : Callee P w K mg base "_law_repeated" 1 ["_law_low", "_law_pick", "_law_most"] spRep fR dR)
    (H1 : Callee P w K mg base "_law_then" 1 ["_law_low", "_law_high", "_law_most"] spThen fT dT) (L1 : Callee P w K mg base "_law_leaf" 1 ["_law_way", "_law_pick"] spLeaf fL dL) : FnOk P w K mg base CX0 2 f fd ["_law_cells", "_law_most"] (spGrown K) := by
  refine F.ok scGrown (fun vs H Q E h => ?_) (fun cdv A outer s H vs Q E hr h => ?_)
  · obtain ⟨c, ns, m, rfl, _⟩ := h
    rfl
  obtain ⟨c, ns, m, rfl, hS, h63, hm1, hm, k⟩ := h
  refine ⟨_, pss_cons (ps_set (i := 2) scGrown.nd rfl (Or.inl rfl) (pe_lst pa_nil))
    (pss_cons (ps_for PassesOwn.never rfl (pi_list (pv 0)) (pg_name (i := 3) scGrown.nd rfl (Or.inl rfl))
      (pss_cons (ps_set (i := 4) scGrown.nd rfl (Or.inl rfl) (pe_op op_mod (pv 3) pe_int))
      (pss_cons (ps_set (i := 5) scGrown.nd rfl (Or.inl rfl) (pe_op op_mod (pe_op op_fdiv (pv 3) pe_int) pe_int))
      (pss_one (ps_if (PW.pt (pw_and (pt_cmpR op_eq (pv 4) pe_int (nomark _)) (pw_and1 (pt_cmpR (op_ne_nil hr.units0) (pv 2) (pe_lst pa_nil) (nomark _)))))
        (pss_cons (ps_set (i := 6) scGrown.nd rfl (Or.inl rfl) (pe_bm0 PySem.F.plainAttrs_list PySem.F.slot_list_pop PySem.F.type_list_pop mt_pop (pv 2)))
        (pss_one (ps_expr (pe_bm PySem.F.plainAttrs_list PySem.F.slot_list_append PySem.F.type_list_append mt_append (pv 2) (pa_cons (pe_call R1.ok hr rfl R1.at' R1.kp R1.bd .nil pass0 (pa_cons (pv 6) (pa_cons (pv 5) (pa_cons (pv 1) pa_nil)))) pa_nil)))))
        (pss_one (ps_if (PW.pt (pw_and (pt_cmpR op_lt (pv 4) pe_int (nomark _)) (pw_and1 (pt_cmpR op_gt (pe_callB call_len_seq rfl T1.len PySem.boot_len (pa_cons (pv 2) pa_nil)) pe_int (nomark _)))))
          (pss_cons (ps_set (i := 7) scGrown.nd rfl (Or.inl rfl) (pe_bm0 PySem.F.plainAttrs_list PySem.F.slot_list_pop PySem.F.type_list_pop mt_pop (pv 2)))
          (pss_cons (ps_set (i := 6) scGrown.nd rfl (Or.inl rfl) (pe_bm0 PySem.F.plainAttrs_list PySem.F.slot_list_pop PySem.F.type_list_pop mt_pop (pv 2)))
          (pss_one (ps_if (pt_cmpR op_eq (pv 4) pe_int (nomark _))
            (pss_one (ps_expr (pe_bm PySem.F.plainAttrs_list PySem.F.slot_list_append PySem.F.type_list_append mt_append (pv 2) (pa_cons (pe_lst (pa_cons (pe_op op_add_str (pe_op op_add_str (pe_ix ix_list (pv 6) pe_int (fun _ _ => rfl)) (pe_ix ix_list (pv 7) pe_int (fun _ _ => rfl))) pe_str)
              (pa_cons (pe_ix ix_list (pv 6) pe_int (fun _ _ => rfl)) (pa_cons (pe_ix ix_list (pv 7) pe_int (fun _ _ => rfl)) pa_nil)))) pa_nil))))
            (pss_one (ps_expr (pe_bm PySem.F.plainAttrs_list PySem.F.slot_list_append PySem.F.type_list_append mt_append (pv 2) (pa_cons (pe_call H1.ok hr rfl H1.at' H1.kp H1.bd .nil pass0 (pa_cons (pv 6) (pa_cons (pv 7) (pa_cons (pv 1) pa_nil)))) pa_nil))))))))
          (pss_one (ps_expr (pe_bm PySem.F.plainAttrs_list PySem.F.slot_list_append PySem.F.type_list_append mt_append (pv 2) (pa_cons (pe_call L1.ok hr rfl L1.at' L1.kp L1.bd .nil pass0 (pa_cons (pv 4) (pa_cons (pv 5) pa_nil))) pa_nil)))))))))))
    (pss_cons (ps_if (pt_cmpR (op_eq_nil hr.units0) (pv 2) (pe_lst pa_nil) (nomark _)) (pss_one (ps_expr (pe_bm PySem.F.plainAttrs_list PySem.F.slot_list_append PySem.F.type_list_append mt_append (pv 2) (pa_cons (pe_lst (pa_cons pe_str (pa_cons pe_str (pa_cons pe_str pa_nil)))) pa_nil)))) pss_nil)
    (pss_cons (ps_while PassesOwn.never (pt_cmpR op_gt (pe_callB call_len_seq rfl T1.len PySem.boot_len (pa_cons (pv 2) pa_nil)) pe_int (nomark _))
      (pss_cons (ps_set (i := 7) scGrown.nd rfl (Or.inl rfl) (pe_bm0 PySem.F.plainAttrs_list PySem.F.slot_list_pop PySem.F.type_list_pop mt_pop (pv 2)))
      (pss_cons (ps_set (i := 6) scGrown.nd rfl (Or.inl rfl) (pe_bm0 PySem.F.plainAttrs_list PySem.F.slot_list_pop PySem.F.type_list_pop mt_pop (pv 2)))
      (pss_one (ps_expr (pe_bm PySem.F.plainAttrs_list PySem.F.slot_list_append PySem.F.type_list_append mt_append (pv 2) (pa_cons (pe_call H1.ok hr rfl H1.at' H1.kp H1.bd .nil pass0 (pa_cons (pv 6) (pa_cons (pv 7) (pa_cons (pv 1) pa_nil)))) pa_nil)))))))
    (pss_one (ps_ret (pe_ix ix_list (pv 2) pe_int (fun _ _ => rfl))))))), ?_⟩
  refine ⟨(by show 0 ≤ sizeLine; decide), fun D hD => ?_⟩
  have g0 := same_new hD (.lst [])
  refine ⟨_, rfl, c, rfl, ⟨_, g0.seq hS⟩, for_list (K := K) (a := c) (xs := ns.map V.int) (fun i σ H2 => ∃ (v3 v4 v5 v6 v7 : Option V) (xs : List V) (ts : List Tri), σ = [some (.ref c), some (.int m), some (.ref D), v3, v4, v5, v6, v7] ∧ Pg H H2 D m xs ts ∧ sumT ts = i ∧ ts.length ≤ i) ?_ ?_ ?_ ?_⟩
  · exact ⟨none, none, none, none, none, [], [], rfl, ⟨g0, upd_same, Pl.nil, fun t h => by cases h⟩, rfl, Nat.le_refl _⟩
  · rintro i σ H2 _ ⟨_, _, _, _, _, _, _, _, p, _⟩
    exact p.same.seq hS
  · rintro i y σ H2 hi ⟨v3, v4, v5, v6, v7, xs, ts, rfl, p, es, el⟩
    obtain ⟨x, hx, rfl⟩ : ∃ x, ns[i]? = some x ∧ y = V.int x := by
      rw [List.getElem?_map] at hi
      cases q : ns[i]? with
      | none => rw [q] at hi; cases hi
      | some z => rw [q] at hi; exact ⟨z, rfl, (Option.some.inj hi).symm⟩
    have il := (List.getElem?_eq_some_iff.mp hx).1
    have lx : xs.length = ts.length := p.pl.len
    refine ⟨_, rfl, _, _, rfl, rfl, (by show (0 : Int) < 8; decide), ?_⟩
    refine ⟨_, rfl, _, _, rfl, rfl, ⟨by decide, by decide⟩, _, _, rfl, rfl, (by show (0 : Int) < 78; decide), ?_⟩
    have pk0 : 0 ≤ x / 8 % 78 := by omega
    have pk1 : x / 8 % 78 < 78 := by omega
    have test1 : ∀ (C : Bool → Hp → Prop), (1 ≤ xs.length → ∀ H3, Pg H H3 D m xs ts → C true H3) → (∀ H3, Pg H H3 D m xs ts → C false H3) →
        tAnd (tTest (tOp rEq (tVar 4) (tC (.int 0)))) (tTest (tOp (rNil K true) (tVar 2) (tLst tNil))) [some (.ref c), some (.int m), some (.ref D), some (.int x), some (.int (x % 8)), some (.int (x / 8 % 78)), v6, v7] H2 C := fun C h1 h2 => by
      refine ⟨_, rfl, rfl, _, rfl, ?_⟩
      by_cases d : x % 8 = 0
      · have e : decide (V.int (x % 8) = V.int 0) = true := decide_eq_true (by rw [d])
        rw [e]
        refine iteT ⟨_, rfl, (by show 0 ≤ sizeLine; decide), fun q hq => ?_⟩
        have p3 := p.keep (same_new hq (.lst []))
        refine ⟨D, q, xs, rfl, rfl, .of p3.top, upd_same, _, rfl, ?_⟩
        cases xs with
        | nil => exact h2 _ p3
        | cons v vs => exact h1 (by simp) _ p3
      · have e : decide (V.int (x % 8) = V.int 0) = false := decide_eq_false (fun z => d (by injection z))
        rw [e]
        exact iteF (h2 _ p)
    refine test1 _ (fun l1 H3 p3 => iteT ?_) (fun H3 p3 => iteF ?_)
    · -- many of the uppermost
      obtain ⟨ys, us, a, t, rfl, rfl, aD, gt, ha, p4, ha4⟩ := p3.pop hD l1
      rw [sumT_push] at es
      rw [List.length_append, List.length_singleton] at el
      refine ⟨_, rfl, .inl ⟨rfl, _, .of p3.top⟩, D, _, _, rfl, rfl, p3.top, snoc_at _ _, ?_⟩
      rw [List.dropLast_concat]
      refine ⟨_, rfl, .inl ⟨rfl, _, .of p4.top⟩, _, rfl, _, rfl, _, rfl, a, _, m, t, rfl, ha4, hm, gt, by omega, fun H5 q z s5 hq gz ez => ?_⟩
      obtain ⟨t1, p6⟩ := (p4.keep s5).push hD hq gz
      refine ⟨D, _, _, rfl, rfl, t1, bnd ?_, _, _, _, _, _, _, _, rfl, p6, ?_, ?_⟩
      · have := p4.pl.len
        omega
      · rw [sumT_push, ez]
        omega
      · rw [List.length_append, List.length_singleton]
        omega
    have test2 : ∀ (C : Bool → Hp → Prop), (2 ≤ xs.length → C true H3) → C false H3 →
        tAnd (tTest (tOp (rI0 fun i j => .bl (decide (i < j))) (tVar 4) (tC (.int 4)))) (tTest (tOp (rI0 fun i j => .bl (decide (j < i))) (tCB (rLen K) (tCons (tVar 2) tNil)) (tC (.int 1)))) [some (.ref c), some (.int m), some (.ref D), some (.int x), some (.int (x % 8)), some (.int (x / 8 % 78)), v6, v7] H3 C := fun C h1 h2 => by
      refine ⟨_, rfl, _, _, rfl, rfl, _, rfl, ?_⟩
      refine ite2 (fun d => ?_) (fun _ => h2)
      refine ⟨_, rfl, D, xs, rfl, .inl (.of p3.top), _, _, rfl, rfl, _, rfl, ?_⟩
      by_cases d2 : (1 : Int) < ((xs.length : Nat) : Int)
      · rw [decide_eq_true d2]
        exact h1 (by omega)
      · rw [decide_eq_false d2]
        exact h2
    refine test2 _ (fun l2 => iteT ?_) (iteF ?_)
    · -- the two uppermost
      obtain ⟨ys, us, ah, th, rfl, rfl, hD1, gh, hh, p4, hh4⟩ := p3.pop hD (by omega)
      have l3 : 1 ≤ ys.length := by
        rw [List.length_append, List.length_singleton] at l2
        omega
      refine ⟨_, rfl, .inl ⟨rfl, _, .of p3.top⟩, D, _, _, rfl, rfl, p3.top, snoc_at _ _, ?_⟩
      rw [List.dropLast_concat]
      obtain ⟨ys, us, al, tl, rfl, rfl, lD1, gl, hl, p5, hl5⟩ := p4.pop hD l3
      have hh5 : (upd (upd H3 D (.lst (ys ++ [.ref al]))) D (.lst ys)) ah = some (.lst (trV th)) := by
        rw [upd_ne hD1]
        exact hh4
      rw [sumT_push, sumT_push] at es
      rw [List.length_append, List.length_append, List.length_singleton, List.length_singleton] at el
      have ly := p5.pl.len
      refine ⟨_, rfl, .inl ⟨rfl, _, .of p4.top⟩, D, _, _, rfl, rfl, p4.top, snoc_at _ _, ?_⟩
      rw [List.dropLast_concat]
      obtain ⟨rl, erl, ll1, ll2⟩ := gl.re
      obtain ⟨rh, erh, lh1, lh2⟩ := gh.re
      have zl1 := gl.y
      have zl2 := gl.z
      have zh1 := gh.y
      have zh2 := gh.z
      refine ⟨_, rfl, rfl, _, rfl, ?_⟩
      refine ite2 (fun _ => ?_) (fun _ => ?_)
      · have sz2 : (T tl.t ++ T th.t).length + ("/" : Str).length ≤ sizeLine := by
          rw [T_app, s47]
          exact ts (by simp; omega)
        refine ⟨_, rfl, .inl ⟨rfl, _, .of p5.top⟩, _, rfl, al, _, _, _, rfl, rfl, .of hl5, rfl, _, rfl, ah, _, _, _, rfl, rfl, .of hh5, rfl, _, _, rfl, rfl, ts (by omega), _, _, rfl, rfl, sz2, _, rfl, al, _, _, _, rfl, rfl, .of hl5, rfl, _, rfl, ah, _, _, _, rfl, rfl, .of hh5, rfl,
          (by show 3 ≤ sizeLine; decide), fun q hq => ?_⟩
        have e : T tl.t ++ T th.t ++ "/" = T (tl.t ++ th.t ++ [47]) := by rw [T_app, s47, T_app]
        rw [e]
        have gz : Gd m ⟨tl.t ++ th.t ++ [47], tl.y, th.z⟩ := ⟨⟨.e rl rh, by show tl.t ++ th.t ++ [47] = post rl ++ post rh ++ [47]; rw [erl, erh], .inl ll1, .inr lh2⟩, zl1, zh2⟩
        obtain ⟨t1, p6⟩ := p5.push hD hq gz
        refine ⟨D, _, _, rfl, rfl, t1, bnd (by omega), _, _, _, _, _, _, _, rfl, p6, ?_, ?_⟩
        · rw [sumT_push]
          show sumT us + (tl.t ++ th.t ++ [47]).length = i + 1
          simp
          omega
        · rw [List.length_append, List.length_singleton]
          omega
      · refine ⟨_, rfl, .inl ⟨rfl, _, .of p5.top⟩, _, rfl, _, rfl, _, rfl, al, ah, m, tl, th, rfl, hl5, hh5, hm, gl, gh, by omega, fun q z hq gz ez => ?_⟩
        obtain ⟨t1, p6⟩ := p5.push hD hq gz
        refine ⟨D, _, _, rfl, rfl, t1, bnd (by omega), _, _, _, _, _, _, _, rfl, p6, ?_, ?_⟩
        · rw [sumT_push, ez]
          omega
        · rw [List.length_append, List.length_singleton]
          omega
    · -- a leaf
      refine ⟨_, rfl, .inl ⟨rfl, _, .of p3.top⟩, _, rfl, _, rfl, _, _, rfl, pk0, pk1, fun q z hq gz ez => ?_⟩
      obtain ⟨t1, p4⟩ := p3.push hD hq (gz m hm1)
      refine ⟨D, _, _, rfl, rfl, t1, bnd (by omega), _, _, _, _, _, _, _, rfl, p4, ?_, ?_⟩
      · rw [sumT_push, es, ez]
      · rw [List.length_append, List.length_singleton]
        omega
  · rintro σ H2 ⟨v3, v4, v5, v6, v7, xs, ts, rfl, p, es, el⟩
    rw [List.length_map] at es el
    have loop : ∀ H3 xs ts, Pg H H3 D m xs ts → 1 ≤ xs.length → sumT ts + ts.length ≤ 130 → tSeq (tWhile (tTest (tOp (rI0 fun i j => .bl (decide (j < i))) (tCB (rLen K) (tCons (tVar 2) tNil)) (tC (.int 1))))
        (tSeq (tAsg (tBM0 K "list" rPop (tVar 2)) (gName 7)) (tSeq (tAsg (tBM0 K "list" rPop (tVar 2)) (gName 6)) (tDrop (tBM K "list" rAppend (tVar 2) (tCons (tCall spThen [] E0 (tCons (tVar 6) (tCons (tVar 7) (tCons (tVar 1) tNil)))) tNil))))))
        (tRet (tOp (rIxL K) (tVar 2) (tC (.int 0)))) { nx := fun _ H => Q .non H, rt := Q } [some (.ref c), some (.int m), some (.ref D), v3, v4, v5, v6, v7] H3 := fun H3 xs ts p3 l1 lt => by
      refine ⟨fun n σ H4 => ∃ (v6 v7 : Option V) (xs : List V) (ts : List Tri), σ = [some (.ref c), some (.int m), some (.ref D), v3, v4, v5, v6, v7] ∧ Pg H H4 D m xs ts ∧ 1 ≤ xs.length ∧ sumT ts + ts.length ≤ 130 ∧ n = xs.length, ⟨_, v6, v7, xs, ts, rfl, p3, l1, lt, rfl⟩, ?_⟩
      rintro n σ H4 ⟨v6, v7, xs, ts, rfl, p4, l4, lt4, rfl⟩
      refine ⟨_, rfl, D, xs, rfl, .inl (.of p4.top), _, _, rfl, rfl, _, rfl, ?_⟩
      by_cases d2 : (1 : Int) < ((xs.length : Nat) : Int)
      · rw [decide_eq_true d2]
        obtain ⟨ys, us, ah, th, rfl, rfl, hD1, gh, hh, p5, hh5⟩ := p4.pop hD (by omega)
        have l5 : 1 ≤ ys.length := by
          rw [List.length_append, List.length_singleton] at d2
          omega
        refine iteT ⟨fun σ' H' => ∃ (v6 v7 : Option V) (xs : List V) (ts : List Tri), σ' = [some (.ref c), some (.int m), some (.ref D), v3, v4, v5, v6, v7] ∧ Pg H H' D m xs ts ∧ 1 ≤ xs.length ∧ sumT ts + ts.length ≤ 130 ∧ xs.length < (ys ++ [V.ref ah]).length, ?_, ?_⟩
        · rintro σ' H' ⟨v6, v7, xs, ts, rfl, p6, l6, lt6, ll⟩
          exact ⟨_, ll, v6, v7, xs, ts, rfl, p6, l6, lt6, rfl⟩
        refine ⟨_, rfl, .inl ⟨rfl, _, .of p4.top⟩, D, _, _, rfl, rfl, p4.top, snoc_at _ _, ?_⟩
        rw [List.dropLast_concat]
        obtain ⟨ys, us, al, tl, rfl, rfl, lD1, gl, hl, p6, hl6⟩ := p5.pop hD l5
        have hh6 : (upd (upd H4 D (.lst (ys ++ [.ref al]))) D (.lst ys)) ah = some (.lst (trV th)) := by
          rw [upd_ne hD1]
          exact hh5
        refine ⟨_, rfl, .inl ⟨rfl, _, .of p5.top⟩, D, _, _, rfl, rfl, p5.top, snoc_at _ _, ?_⟩
        rw [List.dropLast_concat]
        rw [sumT_push, sumT_push, List.length_append, List.length_append, List.length_singleton, List.length_singleton] at lt4
        have ly := p6.pl.len
        refine ⟨_, rfl, .inl ⟨rfl, _, .of p6.top⟩, _, rfl, _, rfl, _, rfl, al, ah, m, tl, th, rfl, hl6, hh6, hm, gl, gh, by omega, fun q z hq gz ez => ?_⟩
        obtain ⟨t1, p7⟩ := p6.push hD hq gz
        refine ⟨D, _, _, rfl, rfl, t1, bnd (by omega), _, _, _, _, rfl, p7, ?_, ?_, ?_⟩
        · simp
        · rw [sumT_push, ez, List.length_append, List.length_singleton]
          omega
        · simp
      · rw [decide_eq_false d2]
        refine iteF ?_
        obtain ⟨ys, us, a, t, rfl, rfl, aD, gt, ha, _, _⟩ := p4.pop hD l4
        have y0 : ys = [] := by
          rw [List.length_append, List.length_singleton] at d2
          exact List.eq_nil_of_length_eq_zero (by omega)
        subst y0
        refine ⟨_, rfl, D, _, 0, .ref a, rfl, rfl, .of p4.top, rfl, k a t H4 p4.same ha gt ?_⟩
        rw [sumT_push] at lt4
        omega
    refine ⟨_, rfl, (by show 0 ≤ sizeLine; decide), fun q hq => ?_⟩
    have p3 := p.keep (same_new hq (.lst []))
    refine ⟨D, q, xs, rfl, rfl, .of p3.top, upd_same, _, rfl, ?_⟩
    cases xs with
    | nil =>
      have t0 : ts = [] := by
        have := p.pl.len
        cases ts with
        | nil => rfl
        | cons _ _ => cases this
      subst t0
      refine iteT (⟨_, rfl, .inl ⟨rfl, _, .of p3.top⟩, (by show 3 ≤ sizeLine; decide), fun q2 hq2 => ?_⟩)
      rw [s_a]
      have gz : Gd m ⟨[97], [97], [97]⟩ := ⟨⟨.leaf 97 (.inl ⟨by decide, by decide⟩), rfl, ⟨97, rfl, .inr rfl⟩, ⟨97, rfl, .inr rfl⟩⟩, hm1, hm1⟩
      obtain ⟨t1, p4⟩ := p3.push hD hq2 gz
      refine ⟨D, _, _, rfl, rfl, t1, bnd (by simp), ?_⟩
      exact loop _ _ _ p4 (by simp) (by rw [sumT_push]; simp [sumT])
    | cons v vs =>
      exact iteF (loop _ _ _ p3 (by simp) (by omega))
end
end B

set_option Elab.async false
set_option linter.all false
set_option maxRecDepth 100000
namespace B
open PySem L2
open PyProof.Rows
open PySem.W (CodeHd tabObj fnX fnMade envX codeHdIn codeHd_of_K FnAt)
open Sm (G gN gB gJ gE gM run step Wf flt okc)
/-! ### the function that matcher gives back -/
def sFp : Stmt := (defBody sMatcher).getD 1 (.Pass ⟨0, 0, 0, 0⟩)
def fpQual : Str := ("matcher" : Str) ++ ".<locals>." ++ "fits_pattern"
def fpS : FnS := ⟨"fits_pattern", fpQual, defArgs sFp, defBody sFp, defScope sFp⟩
def fpPos : Pos := match sFp with
  | .FunctionDef _ _ _ _ _ _ _ _ _ pos => pos
  | _ => ⟨0, 0, 0, 0⟩
def TabsOk (P : Addr) (H : Hp) : Prop := ∃ ps : Array Value, H P = some (.tbl ps) ∧ (ps = #[] ∨ ∃ c', ps = #[rawInt fpPos.line, rawInt fpPos.col, .ref c'] ∧ H c' = some (codeH c' fpQual))
structure FpAt (H : Hp) (f c' c0 : Addr) (l : List Nat) : Prop where
  fn : H f = some (fnH f fpS [("text", c0)] c')
  code : H c' = some (codeH c' fpQual)
  cell : H c0 = some (cellH c0 (.str (T l)))
theorem FpAt.same {H H' : Hp} {f c' c0 : Addr} {l : List Nat} (x : FpAt H f c' c0 l) (s : Same H H') : FpAt H' f c' c0 l := ⟨s _ _ x.fn, s _ _ x.code, s _ _ x.cell⟩
theorem FpAt.keep {P : Addr} {H H' : Hp} {f c' c0 : Addr} {l : List Nat} {ps : Array Value} (x : FpAt H f c' c0 l) (hP : H P = some (.tbl ps)) (k : Kp P H H') : FpAt H' f c' c0 l :=
  ⟨k _ _ (ne_of x.fn hP (by intro z; cases z)) x.fn, k _ _ (ne_of x.code hP (by intro z; cases z)) x.code, k _ _ (ne_of x.cell hP (by intro z; cases z)) x.cell⟩
theorem TabsOk.same {P : Addr} {H H' : Hp} (t : TabsOk P H) (s : Same H H') : TabsOk P H' := by
  obtain ⟨ps, hP, h⟩ := t
  refine ⟨ps, s _ _ hP, ?_⟩
  rcases h with h | ⟨c', e, h⟩
  · exact .inl h
  · exact .inr ⟨c', e, s _ _ h⟩
theorem codeAmong_one (pos : Pos) (v : Value) : codeAmong pos [rawInt pos.line, rawInt pos.col, v] = some v := by
  unfold rawInt codeAmong
  simp
theorem Un.more {fs ex : List Addr} {H H' : Hp} {h h' : Heap} {c : Addr} {o : HO} (u : Un fs ex H H' h h') (hc : h.objs.size ≤ c) (hn : H' c = none) : Un fs ex H (upd H' c o) h h' :=
  ⟨u.keep, u.slot, fun b ob e n hx => by rw [upd_ne (Nat.ne_of_lt (Nat.lt_of_lt_of_le (Heap.lt_size e) hc))]; exact u.free b ob e n hx, u.there, fun b xs e => by have := u.tups b xs e; rw [upd_ne (ne_of_none this hn)]; exact this,
    fun b ob v e => by have := u.frzs b ob v e; rw [upd_ne (ne_of_none this hn)]; exact this, fun b ps e => by obtain ⟨m, z⟩ := u.tbls b ps e; exact ⟨m, by rw [upd_ne (ne_of_none z hn)]; exact z⟩⟩
theorem HOk.more {P : Program} {w : World} {H : Hp} {h : Heap} {c : Addr} {o : HO} (ok : HOk P w H h) (hn : H c = none) (new : ObjOk P w (upd H c o) h c o) : HOk P w (upd H c o) h := fun b u e => by
  by_cases hb : b = c
  · subst hb
    rw [upd_same] at e
    cases e
    exact new
  · rw [upd_ne hb] at e
    exact (ok b u e).stay (fun _ _ _ q => q) (fun d q => by rw [upd_ne (ne_of_none q hn)]; exact q) fun d xs q => by rw [upd_ne (ne_of_none q hn)]; exact q
section
variable {P : Program} {w : World} {K : PySem.W.Frag} {mg : Str → Option Value} {base : Heap}
def spMatcher (Pt : Addr) : Sp := fun vs H Q _ => ∃ l : List Nat, vs = [.str (T l)] ∧ l.length ≤ 1000 ∧ flt l 0 0 = none ∧ TabsOk Pt H ∧ ∀ f c' c0 H', Kp Pt H H' → FpAt H' f c' c0 l → TabsOk Pt H' → Q (.ref f) H'
theorem scMatcher : FnScope ["text", "fits_pattern"] ["text"] (defScope sMatcher) := ⟨rfl, rfl, rfl, by decide +kernel, rfl, by decide +kernel, by decide +kernel⟩
theorem fp_free0 : (defScope sFp).names.all (fun p => p.2 != NameKind.free || p.1 == ("text" : Str)) = true := by decide +kernel
theorem fp_free : ∀ n, (n, NameKind.free) ∈ (defScope sFp).names → n = ("text" : Str) := fun n hn => by
  have := List.all_eq_true.mp fp_free0 _ hn
  simpa using this
set_option maxHeartbeats 1000000 in
theorem ok_matcher {f fR c Pt : Addr} {dR : FuncData} {oc : Value} {od an : Option Addr} {kV dc pm cdv ct : Value} {sl : Array (Option Value)}
    (lk : K.lookup f = some ⟨oc, od, .func (PySem.W.fnOf "matcher" "matcher" (defArgs sMatcher) (defBody sMatcher) (defScope sMatcher) .none kV dc pm an cdv ct), sl⟩) (hcd : PySem.W.codeIn K cdv "matcher" = true) (ec : cdv = .ref c) (hC : codeHdIn K c Pt = true) (BM : BmAt mg base)
    (R1 : Callee P w K mg base "refuse_faulty" 3 ["text"] spRefuse fR dR) :
    FnOk P w K mg base CX0 4 f (PySem.W.fnOf "matcher" "matcher" (defArgs sMatcher) (defBody sMatcher) (defScope sMatcher) .none kV dc pm an cdv ct) ["text"] (spMatcher Pt) := by
  refine ⟨fun vs H Q E h => by obtain ⟨l, rfl, _⟩ := h; rfl, fun A outer s H args us vs Q E hr e0 hb r hsp => ?_⟩
  obtain ⟨l, rfl, hl, hflt, htab, k⟩ := hsp
  have S := scMatcher
  have KX : K.In s.heap := e0.mod.kin.keeps fun b o e => (e0.bs b o e).1
  have lim : s.heap.NoLimit := e0.mod.nolimit.keeps fun b o e => (e0.bs b o e).1
  have hkind : ∀ y ∈ (["text"] : List Str).zip us, (defScope sMatcher).names.lookup y.1 = some .local ∨ ((defScope sMatcher).names.lookup y.1 = some .cell ∧ ((cellsFrom (s.heap.objs.size + 1) (defScope sMatcher).names []).lookup y.1).isSome = true) := fun ⟨n, v⟩ hy => by
    rcases S.par n (List.of_mem_zip hy).1 with q | q
    · exact .inl q
    · exact .inr ⟨q, PySem.W.cellsFrom_some _ _ _ (.inl q)⟩
  refine codeAny_call_function hr.depth (KX _ _ lk) rfl S.co S.gen rfl (PySem.W.codeRec_of KX hcd) (hb _ _ _ _ ?_)
  refine wpAny_newFunctionEnv_cells S.kind hkind fun env he s1 x => ?_
  subst he
  refine ⟨lim.keeps x.toInCall.keep, codeAny_func ?_⟩
  have I0 : Inv (cxOf CX0 P w K mg base ["text", "fits_pattern"] "matcher" (defScope sMatcher) f cdv A outer s H E) [] (start ["text", "fits_pattern"] [.str (T l)]) H s1 := inv_start S hr.hd e0 rfl r x
  have I := I0.wish (fun _ _ => False)
  have hr3 : Room 3 (A.deeper (envOfC "matcher" (defScope sMatcher) s.heap.objs.size f cdv)) := hr.deeper _
  refine wpAny_mono (E := fun _ _ => False) ?_ (fun _ _ q => q) fun _ _ z => z.elim
  -- refuse_faulty(text)
  have p1 : ∃ t, PS (cxOf CX0 P w K mg base ["text", "fits_pattern"] "matcher" (defScope sMatcher) f cdv A outer s H E).nox ((defBody sMatcher).getD 0 (.Pass ⟨0, 0, 0, 0⟩)) t ∧ t { nx := fun σ' H' => σ' = [some (.str (T l)), none] ∧ Same H H', rt := fun _ _ => False } (start ["text", "fits_pattern"] [.str (T l)]) H := by
    refine ⟨_, ps_expr (pe_call R1.ok hr3 rfl R1.at' R1.kp R1.bd .nil pass0 (pa_cons (pv 0) pa_nil)), ?_⟩
    exact ⟨_, rfl, l, rfl, hl, hflt, fun H' s' => ⟨rfl, s'⟩⟩
  obtain ⟨t1, p1, q1⟩ := p1
  refine wpAny_execs_cons (thn (p1 [] s1 _ H _ I q1) fun fl s2 q => ?_)
  cases fl with
  | ret v => obtain ⟨_, _, _, _, _, z⟩ := q; exact z.elim
  | brk => obtain ⟨_, _, _, z⟩ := q; exact z.elim
  | cont => obtain ⟨_, _, _, z⟩ := q; exact z.elim
  | next =>
    obtain ⟨σ2, H2, I2, rfl, sm2⟩ := q
    have tab2 := htab.same sm2
    -- def fits_pattern(beads)
    have p2 : ∃ t, PS (cxOf CX0 P w K mg base ["text", "fits_pattern"] "matcher" (defScope sMatcher) f cdv A outer s H E).nox sFp t ∧ t { nx := fun σ' H' => ∃ f' c', σ' = [some (.str (T l)), some (.ref f')] ∧ Kp Pt H2 H' ∧ H' f' = some (fnH f' fpS (closL (envOfC "matcher" (defScope sMatcher) s.heap.objs.size f cdv).cells (defScope sFp).names []) c') ∧ H' c' = some (codeH c' fpQual) ∧ TabsOk Pt H', rt := fun _ _ => False } [some (.str (T l)), none] H2 := by
      refine ⟨_, ps_def (i := 1) (c := c) (P := Pt) scMatcher.nd rfl (Or.inl rfl) rfl rfl rfl ec hC (fun n hn => by cases fp_free n hn; exact ⟨_, rfl⟩) BM, ?_⟩
      obtain ⟨ps, hP, hps⟩ := tab2
      rcases hps with rfl | ⟨c', rfl, hc'⟩
      · refine ⟨#[], hP, trivial, .inl ⟨rfl, fun c' f' h1 h2 ne => ⟨f', c', rfl, fun b o nb e => ?_, upd_same, by rw [upd_ne ne, upd_same]; rfl, #[rawInt fpPos.line, rawInt fpPos.col, .ref c'], ?_, .inr ⟨c', rfl, by rw [upd_ne ne, upd_same]; rfl⟩⟩⟩⟩
        · rw [upd_ne (ne_of_none e h2), upd_ne (ne_of_none e h1), upd_ne nb]
          exact e
        · rw [upd_ne (ne_of_none hP h2), upd_ne (ne_of_none hP h1), upd_same]
          rfl
      · refine ⟨_, hP, trivial, .inr ⟨c', codeAmong_one fpPos (.ref c'), fun f' h2 => ⟨f', c', rfl, fun b o nb e => ?_, upd_same, ?_, #[rawInt fpPos.line, rawInt fpPos.col, .ref c'], ?_, .inr ⟨c', rfl, ?_⟩⟩⟩⟩
        · rw [upd_ne (ne_of_none e h2)]
          exact e
        · rw [upd_ne (ne_of_none hc' h2)]
          exact hc'
        · rw [upd_ne (ne_of_none hP h2)]
          exact hP
        · rw [upd_ne (ne_of_none hc' h2)]
          exact hc'
    obtain ⟨t2, p2, q2⟩ := p2
    refine wpAny_execs_cons (thn (p2 [] s2 _ H2 _ I2 q2) fun fl s3 q => ?_)
    cases fl with
    | ret v => obtain ⟨_, _, _, _, _, z⟩ := q; exact z.elim
    | brk => obtain ⟨_, _, _, z⟩ := q; exact z.elim
    | cont => obtain ⟨_, _, _, z⟩ := q; exact z.elim
    | next =>
      obtain ⟨σ3, H3, I3, f', c', rfl, kp3, hf', hc', tab3⟩ := q
      -- return fits_pattern
      refine wpAny_execs_cons (wpAny_Return_some (thn ((pv 1 : PE (cxOf CX0 P w K mg base ["text", "fits_pattern"] "matcher" (defScope sMatcher) f cdv A outer s H E).nox (.Name "fits_pattern" _) _) [] s3 _ H3 (fun v H' => v = .ref f' ∧ H' = H3) I3 ⟨_, rfl, rfl, rfl⟩) fun u s4 ⟨v, H4, I4, rv, ev, eH⟩ => ?_))
      subst ev eH
      obtain ⟨m, hn, hlk⟩ := I4.loc
      obtain ⟨u0, r0, look⟩ := hlk 0 "text" (.str (T l)) rfl rfl (Or.inr (Or.inl rfl))
      rcases look with ⟨hk, _⟩ | ⟨_, c0, hc0, hcell⟩
      · exact absurd (show (defScope sMatcher).names.lookup ("text" : Str) = some .local from hk) (by decide +kernel)
      have ecl : closL (envOfC "matcher" (defScope sMatcher) s.heap.objs.size f cdv).cells (defScope sFp).names [] = [(("text" : Str), c0)] := by
        show [(("text" : Str), ((envOfC "matcher" (defScope sMatcher) s.heap.objs.size f cdv).cells.lookup ("text" : Str)).getD 0)] = _
        rw [show (envOfC "matcher" (defScope sMatcher) s.heap.objs.size f cdv).cells.lookup ("text" : Str) = some c0 from hc0]
        rfl
      rw [ecl] at hf'
      have n0 : H4 c0 = none := I4.freeC _ _ hc0
      have new0 : ObjOk P w (upd H4 c0 (cellH c0 (.str (T l)))) s4.heap c0 (cellH c0 (.str (T l))) := cellH_ok ⟨u0, r0, hcell⟩
      have sm4 : Same H4 (upd H4 c0 (cellH c0 (.str (T l)))) := same_new n0 _
      have kpA : Kp Pt H (upd H4 c0 (cellH c0 (.str (T l)))) := ((Kp.of sm2).trans kp3).trans (.of sm4)
      exact ⟨.ref f', _, I4.os, I4.bare, Un.more I4.base (I4.ok.cab "text" c0 rfl hc0) n0, HOk.more I4.hok n0 new0, rv, k f' c' c0 _ kpA ⟨sm4 _ _ hf', sm4 _ _ hc', upd_same⟩ (tab3.same sm4)⟩
end
end B

set_option Elab.async false
set_option linter.all false
set_option maxRecDepth 100000
namespace B
open PySem L2
open PyProof.Rows
open Sm (G gN gB gJ gE gM run step Wf flt okc)
/-! ### what is refused -/
structure CalleeX (P : Program) (w : World) (K : PySem.W.Frag) (mg : Str → Option Value) (base : Heap) (C : Addr) (x : Str) (k : Nat) (ps : List Str) (sp : Sp) (f : Addr) (fd : FuncData) : Prop where
  ok : FnOk P w K mg base (CXN P w C) k f fd ps sp
  bd : Binds K fd ps []
  kp : PySem.W.keepIn K (.ref f) = true
  at' : mg x = some (.ref f)
def spBad1 (C : Addr) : Sp := fun vs H Q E => ∃ l, vs = [.str (T l)] ∧ Lows l ∧ flt l 0 0 ≠ none ∧ ∀ H', Same H H' → E (.ref C) none H'
def spBad2 (C : Addr) : Sp := fun vs H Q E => ∃ l b, vs = [.str (T l), .str (T b)] ∧ Lows l ∧ b.length ≤ 1000 ∧ flt l 0 0 ≠ none ∧ ∀ H', Same H H' → E (.ref C) none H'
theorem flt_le : ∀ (l : List Nat) (p h q : Nat), flt l p h = some q → q ≤ p + l.length
  | [], p, h, q, e => by
    have e' : (if h = 1 then none else some p) = some q := e
    split at e' <;> cases e'
    simp
  | c :: t, p, h, q, e => by
    have e' : (if okc c = true ∧ Sm.taken c ≤ h then flt t (p + 1) (h - Sm.taken c + 1) else some p) = some q := e
    split at e'
    · have := flt_le t _ _ q e'
      rw [List.length_cons]
      omega
    · cases e'
      omega
section
variable {P : Program} {w : World} {K : PySem.W.Frag} {mg : Str → Option Value} {base : Heap} {C : Addr}
theorem bad_refuse {f g : Addr} {fd gd : FuncData} (F : Fun K "refuse_faulty" "refuse_faulty" sRefuse f fd) (G1 : FnOk P w K mg base CX0 2 g gd ["text"] spFault) (bG : Binds K gd ["text"] []) (kG : PySem.W.keepIn K (.ref g) = true) (mG : mg "fault" = some (.ref g))
    (O : OwnCls "NoPattern" C [.type "ValueError", .type "Exception", .type "BaseException", .type "object"] "ValueError.__new__" mg base) :
    FnOk P w K mg base (CXN P w C) 3 f fd ["text"] (spBad1 C) := by
  refine okX F scRefuse (fun vs H Q E h => ?_) (fun cdv A outer s H vs Q E hr h => ?_)
  · obtain ⟨l, rfl, _⟩ := h
    rfl
  obtain ⟨l, rfl, hl, hf, k⟩ := h
  refine ⟨_, pss_cons (ps_set (i := 1) scRefuse.nd rfl (Or.inl rfl) (pe_call G1 hr rfl mG kG bG .nil pass0 (pa_cons (pv 0) pa_nil)))
    (pss_one (ps_if (pt_cmpR op_notN (pv 1) pe_non (nomark _)) (pss_one (ps_raise O PySem.F.excBase_ValueError rfl (pa_cons (pe_msg (pv 0) (pv 1) (by decide +kernel)) pa_nil))) pss_nil)), ?_⟩
  refine ⟨_, rfl, l, rfl, hl.1, fun H' s' => ?_⟩
  cases e : flt l 0 0 with
  | none => exact absurd e hf
  | some q =>
    have hq := flt_le l 0 0 q e
    have := hl.1
    exact ⟨_, rfl, rfl, _, rfl, iteT ⟨_, rfl, l, rfl, hl, _, rfl, q, rfl, by omega, fun z => ⟨by simp, k H' s'⟩⟩⟩
theorem bad_of {f fR : Addr} {fd dR : FuncData} (F : Fun K "table_of" "table_of" sOf f fd) (R1 : CalleeX P w K mg base C "refuse_faulty" 3 ["text"] (spBad1 C) fR dR) : FnOk P w K mg base (CXN P w C) 4 f fd ["text", "beads"] (spBad2 C) := by
  refine okX F scOf (fun vs H Q E h => ?_) (fun cdv A outer s H vs Q E hr h => ?_)
  · obtain ⟨l, b, rfl, _⟩ := h
    rfl
  obtain ⟨l, b, rfl, hl, hb, hf, k⟩ := h
  exact ⟨_, pss_head (ps_expr (pe_call R1.ok hr rfl R1.at' R1.kp R1.bd .nil passN (pa_cons (pv 0) pa_nil))), _, rfl, l, rfl, hl, hf, k⟩
theorem bad_fits {f fO : Addr} {fd dO : FuncData} (F : Fun K "fits" "fits" sFits f fd) (T1 : Txt mg) (O1 : CalleeX P w K mg base C "table_of" 4 ["text", "beads"] (spBad2 C) fO dO) : FnOk P w K mg base (CXN P w C) 5 f fd ["text", "beads"] (spBad2 C) := by
  refine okX F scFits (fun vs H Q E h => ?_) (fun cdv A outer s H vs Q E hr h => ?_)
  · obtain ⟨l, b, rfl, _⟩ := h
    rfl
  obtain ⟨l, b, rfl, hl, hb, hf, k⟩ := h
  refine ⟨_, pss_one (ps_ret (pe_cmpR op_in_seq (pe_callB call_len_str rfl T1.len PySem.boot_len (pa_cons (pv 1) pa_nil)) (pe_ix ix_list (pe_call O1.ok hr rfl O1.at' O1.kp O1.bd .nil passN (pa_cons (pv 0) (pa_cons (pv 1) pa_nil))) pe_int (fun _ _ => rfl)) (by with_unfolding_all rfl))), ?_⟩
  exact ⟨_, rfl, _, rfl, (by rw [T_len]; exact small (by omega)), _, rfl, _, rfl, l, b, rfl, hl, hb, hf, k⟩
theorem bad_longest {f fO : Addr} {fd dO : FuncData} (F : Fun K "longest" "longest" sLongest f fd) (O1 : CalleeX P w K mg base C "table_of" 4 ["text", "beads"] (spBad2 C) fO dO) : FnOk P w K mg base (CXN P w C) 5 f fd ["text", "beads"] (spBad2 C) := by
  refine okX F scLongest (fun vs H Q E h => ?_) (fun cdv A outer s H vs Q E hr h => ?_)
  · obtain ⟨l, b, rfl, _⟩ := h
    rfl
  obtain ⟨l, b, rfl, hl, hb, hf, k⟩ := h
  exact ⟨_, pss_head (ps_set (i := 2) scLongest.nd rfl (Or.inl rfl) (pe_ix ix_list (pe_call O1.ok hr rfl O1.at' O1.kp O1.bd .nil passN (pa_cons (pv 0) (pa_cons (pv 1) pa_nil))) pe_int (fun _ _ => rfl))), _, rfl, _, rfl, l, b, rfl, hl, hb, hf, k⟩
theorem bad_finds {f fO : Addr} {fd dO : FuncData} (F : Fun K "finds" "finds" sFinds f fd) (O1 : CalleeX P w K mg base C "table_of" 4 ["text", "beads"] (spBad2 C) fO dO) : FnOk P w K mg base (CXN P w C) 5 f fd ["text", "beads"] (spBad2 C) := by
  refine okX F scFinds (fun vs H Q E h => ?_) (fun cdv A outer s H vs Q E hr h => ?_)
  · obtain ⟨l, b, rfl, _⟩ := h
    rfl
  obtain ⟨l, b, rfl, hl, hb, hf, k⟩ := h
  exact ⟨_, pss_head (ps_set (i := 2) scFinds.nd rfl (Or.inl rfl) (pe_call O1.ok hr rfl O1.at' O1.kp O1.bd .nil passN (pa_cons (pv 0) (pa_cons (pv 1) pa_nil)))), _, rfl, _, rfl, l, b, rfl, hl, hb, hf, k⟩
theorem bad_matcher {f fR : Addr} {fd dR : FuncData} (F : Fun K "matcher" "matcher" sMatcher f fd) (R1 : CalleeX P w K mg base C "refuse_faulty" 3 ["text"] (spBad1 C) fR dR) : FnOk P w K mg base (CXN P w C) 4 f fd ["text"] (spBad1 C) := by
  refine okX F scMatcher (fun vs H Q E h => ?_) (fun cdv A outer s H vs Q E hr h => ?_)
  · obtain ⟨l, rfl, _⟩ := h
    rfl
  obtain ⟨l, rfl, hl, hf, k⟩ := h
  exact ⟨_, pss_head (ps_expr (pe_call R1.ok hr rfl R1.at' R1.kp R1.bd .nil passN (pa_cons (pv 0) pa_nil))), _, rfl, l, rfl, hl, hf, k⟩
end
end B

set_option Elab.async false
set_option linter.all false
set_option maxRecDepth 100000
namespace B
open PySem L2
open PyProof.Rows
open Sm (G gN gB gJ gE gM run step Wf flt okc)
theorem step_ok {b : List Nat} {c : Nat} {p : List G} (h : okc c = true) (ht : Sm.taken c ≤ p.length) : ∃ q, step b c p = some q ∧ q.length = p.length - Sm.taken c + 1 := by
  have go : ∃ q, step b c p = some q := by
    unfold Sm.step
    unfold Sm.taken at ht
    rcases of_decide_eq_true h with rfl | rfl | rfl | rfl | h
    · rw [if_pos rfl] at ht
      exact ⟨_, by rw [if_pos rfl, if_pos ht]⟩
    · exact ⟨_, by rw [if_neg (by decide), if_pos rfl, if_pos (by simpa using ht)]⟩
    · exact ⟨_, by rw [if_neg (by decide), if_neg (by decide), if_pos rfl, if_pos (by simpa using ht)]⟩
    · exact ⟨_, by rw [if_neg (by decide), if_neg (by decide), if_neg (by decide), if_pos (.inr rfl)]⟩
    · exact ⟨_, by rw [if_neg (by omega), if_neg (by omega), if_neg (by omega), if_pos (.inl h)]⟩
  obtain ⟨q, e⟩ := go
  exact ⟨q, e, (Sm.step_len e).2.1⟩
theorem run_of_flt (b : List Nat) : ∀ (t : List Nat) (i : Nat) (p : List G), flt t i p.length = none → ∃ r, run b t p = some r ∧ r.length = 1
  | [], i, p, h => by
    have h' : (if p.length = 1 then none else some i) = none := h
    split at h'
    · exact ⟨p, rfl, by assumption⟩
    · cases h'
  | c :: t, i, p, h => by
    have h' : (if okc c = true ∧ Sm.taken c ≤ p.length then flt t (i + 1) (p.length - Sm.taken c + 1) else some i) = none := h
    split at h'
    · rename_i hc
      obtain ⟨q, e, l⟩ := step_ok (b := b) hc.1 hc.2
      rw [← l] at h'
      obtain ⟨r, e2, l2⟩ := run_of_flt b t (i + 1) q h'
      exact ⟨r, by show (step b c p).bind (run b t) = some r; rw [e]; exact e2, l2⟩
    · cases h'
theorem run_one_of {l : List Nat} (b : List Nat) (h : flt l 0 0 = none) : ∃ g, run b l [] = some [g] := by
  obtain ⟨r, e, hl⟩ := run_of_flt b l 0 [] h
  match r, hl with
  | [g], _ => exact ⟨g, e⟩
def tryB (st : Stmt) : List Stmt := match (defBody st).getD 0 (.Pass ⟨0, 0, 0, 0⟩) with
  | .Try b _ _ _ _ => b
  | _ => []
def tryH (st : Stmt) : List ExceptHandler := match (defBody st).getD 0 (.Pass ⟨0, 0, 0, 0⟩) with
  | .Try _ h _ _ _ => h
  | _ => []
def orB (sp1 sp2 : Sp) : Sp := fun vs H Q E => sp1 vs H Q E ∨ sp2 vs H Q E
section
variable {P : Program} {w : World} {K : PySem.W.Frag} {mg : Str → Option Value} {base : Heap} {C Pt : Addr}
def spRefused (Pt : Addr) : Sp := fun vs H Q _ => ∃ (way : Int) (l b : List Nat), vs = [.int way, .str (T l), .str (T b)] ∧ Lows l ∧ b.length ≤ 30 ∧ TabsOk Pt H ∧ ∀ H', Kp Pt H H' → TabsOk Pt H' → Q (.bl (flt l 0 0).isSome) H'
abbrev nRefused : List Str := ["_law_way", "_law_line", "_law_beads"]
theorem scRefused : FnScope nRefused ["_law_way", "_law_line", "_law_beads"] (defScope sRefused) := ⟨rfl, rfl, rfl, by decide +kernel, rfl, by decide +kernel, by decide +kernel⟩
set_option maxHeartbeats 2000000 in
theorem ok_refused {f fM fL fD fF fO : Addr} {fd dM dL dD dF dO : FuncData} (F : Fun K "_law_refused" "_law_refused" sRefused f fd)
    (M1 : CalleeX P w K mg base C "matcher" 4 ["text"] (orB (spMatcher Pt) (spBad1 C)) fM dM) (L1 : CalleeX P w K mg base C "longest" 5 ["text", "beads"] (orB spLongest (spBad2 C)) fL dL)
    (D1 : CalleeX P w K mg base C "finds" 5 ["text", "beads"] (orB spFinds (spBad2 C)) fD dD) (F1 : CalleeX P w K mg base C "fits" 5 ["text", "beads"] (orB spFits (spBad2 C)) fF dF)
    (O1 : CalleeX P w K mg base C "table_of" 4 ["text", "beads"] (orB spOf (spBad2 C)) fO dO) (mC : mg "NoPattern" = some (.ref C)) (hx : PySem.W.exmOne K (.ref C) (.ref C) = some true) :
    FnOk P w K mg base CX0 6 f fd ["_law_way", "_law_line", "_law_beads"] (spRefused Pt) := by
  refine fn_raw F scRefused (fun vs H Q E h => ?_) (fun cdv A outer s H vs Q E s1 hr h I => ?_)
  · obtain ⟨way, l, b, rfl, _⟩ := h
    rfl
  obtain ⟨way, l, b, rfl, hl, hb, htab, k⟩ := h
  have hr4 := hr.mono (show 4 ≤ 5 by decide)
  have good : flt l 0 0 = none → ∀ H', Kp Pt H H' → TabsOk Pt H' → Q (.bl false) H' := fun e H' k1 t1 => by
    have := k H' k1 t1
    rw [e] at this
    exact this
  have bad : flt l 0 0 ≠ none → ∀ H', Same H H' → Q (.bl true) H' := fun e H' s' => by
    have := k H' (.of s') (htab.same s')
    cases q : flt l 0 0 with
    | none => exact absurd q e
    | some p =>
      rw [q] at this
      exact this
  obtain ⟨X, eX⟩ : ∃ X, X = cxOf CX0 P w K mg base nRefused "_law_refused" (defScope sRefused) f cdv A outer s H E := ⟨_, rfl⟩
  obtain ⟨Q1, eQ⟩ : ∃ Q1 : Flow → Shared → Prop, Q1 = fun fl s' => (fl = .next ∧ ∃ σ' H', Inv X [] σ' H' s' ∧ Q (.bl false) H') ∨ (∃ u, fl = .ret u ∧ CE outer P w H s Q u s') := ⟨_, rfl⟩
  have R : wpAny (model P w) (A.deeper (envOfC "_law_refused" (defScope sRefused) s.heap.objs.size f cdv)) (exec ((defBody sRefused).getD 0 (.Pass ⟨0, 0, 0, 0⟩)) (envOfC "_law_refused" (defScope sRefused) s.heap.objs.size f cdv)) Q1 (fun _ _ => False) s1 := by
    subst eX
    have pass : Passes (CXN P w C) ((cxOf CX0 P w K mg base nRefused "_law_refused" (defScope sRefused) f cdv A outer s H E).wish (xeOf (cxOf CX0 P w K mg base nRefused "_law_refused" (defScope sRefused) f cdv A outer s H E) (tryH sRefused) Q1 fun _ _ => False)) (fun _ _ H' => Q (.bl true) H') := fun pins' σ' H1 s2 e s3 I' h' => by
      refine caught0 (X := cxOf CX0 P w K mg base nRefused "_law_refused" (defScope sRefused) f cdv A outer s H E) (x := "NoPattern") (D := C) I'.unwish.nopins rfl rfl rfl mC hx h' fun ea H2 s4 Ey J hE _ => ?_
      refine wpAny_execs_cons (wpAny_Return_some (Constant_bool ?_))
      show Q1 (.ret (.bool true)) s4
      rw [eQ]
      exact .inr ⟨_, rfl, J.ce (v := .bl true) rfl hE⟩
    have tr : ∃ t, PSs ((cxOf CX0 P w K mg base nRefused "_law_refused" (defScope sRefused) f cdv A outer s H E).wish (xeOf (cxOf CX0 P w K mg base nRefused "_law_refused" (defScope sRefused) f cdv A outer s H E) (tryH sRefused) Q1 fun _ _ => False)) (tryB sRefused) t ∧
        t { nx := fun _ H' => Q (.bl false) H', rt := fun _ _ => False } [some (.int way), some (.str (T l)), some (.str (T b))] H := by
      refine ⟨_, pss_one (ps_if (pt_cmpR op_eq (pv 0) pe_int (nomark _)) (pss_one (ps_expr (pe_call M1.ok hr4 rfl M1.at' M1.kp M1.bd .nil pass (pa_cons (pv 1) pa_nil))))
        (pss_one (ps_if (pt_cmpR op_eq (pv 0) pe_int (nomark _)) (pss_one (ps_expr (pe_call L1.ok hr rfl L1.at' L1.kp L1.bd .nil pass (pa_cons (pv 1) (pa_cons (pv 2) pa_nil)))))
        (pss_one (ps_if (pt_cmpR op_eq (pv 0) pe_int (nomark _)) (pss_one (ps_expr (pe_call D1.ok hr rfl D1.at' D1.kp D1.bd .nil pass (pa_cons (pv 1) (pa_cons (pv 2) pa_nil)))))
        (pss_one (ps_if (pt_cmpR op_eq (pv 0) pe_int (nomark _)) (pss_one (ps_expr (pe_call F1.ok hr rfl F1.at' F1.kp F1.bd .nil pass (pa_cons (pv 1) (pa_cons (pv 2) pa_nil)))))
        (pss_one (ps_expr (pe_call O1.ok hr4 rfl O1.at' O1.kp O1.bd .nil pass (pa_cons (pv 1) (pa_cons (pv 2) pa_nil)))))))))))), ?_⟩
      have two : ∀ {sp : Sp} {Q' : VK}, (∀ g, run b l [] = some [g] → (∀ v H', Same H H' → Q' v H') → sp [.str (T l), .str (T b)] H Q' (fun _ _ H' => Q (.bl true) H')) → (∀ v H', flt l 0 0 = none → Same H H' → Q' v H') → orB sp (spBad2 C) [.str (T l), .str (T b)] H Q' (fun _ _ H' => Q (.bl true) H') := fun {sp Q'} h1 h2 => by
        by_cases hf : flt l 0 0 = none
        · obtain ⟨g, eg⟩ := run_one_of b hf
          exact .inl (h1 g eg fun v H' s' => h2 v H' hf s')
        · exact .inr ⟨l, b, rfl, hl, by omega, hf, bad hf⟩
      have nx : ∀ H', flt l 0 0 = none → Same H H' → Q (.bl false) H' := fun H' hf s' => good hf H' (.of s') (htab.same s')
      refine ⟨_, rfl, rfl, _, rfl, ite2 (fun _ => ?_) (fun _ => ⟨_, rfl, rfl, _, rfl, ite2 (fun _ => ?_) (fun _ => ⟨_, rfl, rfl, _, rfl, ite2 (fun _ => ?_) (fun _ => ⟨_, rfl, rfl, _, rfl, ite2 (fun _ => ?_) (fun _ => ?_)⟩)⟩)⟩)⟩
      · refine ⟨_, rfl, ?_⟩
        by_cases hf : flt l 0 0 = none
        · exact .inl ⟨l, rfl, hl.1, hf, htab, fun _ _ _ H' kp _ tb => good hf H' kp tb⟩
        · exact .inr ⟨l, rfl, hl, hf, bad hf⟩
      · exact ⟨_, rfl, _, rfl, two (fun g eg q => ⟨l, b, g, rfl, hl.1, hb, eg, fun r H' s' _ => q r H' s'⟩) fun v H' hf s' => nx H' hf s'⟩
      · exact ⟨_, rfl, _, rfl, two (fun g eg q => ⟨l, b, g, rfl, hl.1, hb, eg, fun a _ _ H' s' _ _ _ => q (.ref a) H' s'⟩) fun v H' hf s' => nx H' hf s'⟩
      · exact ⟨_, rfl, _, rfl, two (fun g eg q => ⟨l, b, g, rfl, hl.1, hb, eg, fun r H' s' _ => q (.bl r) H' s'⟩) fun v H' hf s' => nx H' hf s'⟩
      · exact ⟨_, rfl, _, rfl, two (fun g eg q => ⟨l, b, g, rfl, hl.1, hb, eg, fun a H' s' _ => q (.ref a) H' s'⟩) fun v H' hf s' => nx H' hf s'⟩
    obtain ⟨t, ht, hq⟩ := tr
    refine try_run (X := cxOf CX0 P w K mg base nRefused "_law_refused" (defScope sRefused) f cdv A outer s H E) ht I hq fun fl s2 z => ?_
    rw [eQ]
    cases fl with
    | next => obtain ⟨σ', H', J, z⟩ := z; exact .inl ⟨rfl, σ', H', J, z⟩
    | ret u => obtain ⟨_, _, _, _, _, z⟩ := z; exact z.elim
    | brk => obtain ⟨_, _, _, z⟩ := z; exact z.elim
    | cont => obtain ⟨_, _, _, z⟩ := z; exact z.elim
  refine wpAny_execs_cons (thn R fun fl s2 z => ?_)
  rw [eQ] at z
  rcases z with ⟨rfl, σ', H', J, z⟩ | ⟨u, rfl, z⟩
  · subst eX
    exact wpAny_execs_cons (wpAny_Return_some (Constant_bool ⟨_, rfl, J.ce (v := .bl false) rfl z⟩))
  · exact ⟨u, rfl, z⟩
def spBase : Sp := fun vs H Q _ => ∃ l : List Nat, vs = [.str (T l)] ∧ Lows l ∧ ∀ H', Same H H' → Q (.bl (flt l 0 0).isSome) H'
abbrev nBase : List Str := ["_law_line", "e"]
theorem scBase : FnScope nBase ["_law_line"] (defScope sBase) := ⟨rfl, rfl, rfl, by decide +kernel, rfl, by decide +kernel, by decide +kernel⟩
theorem s_ab : ("ab" : Str) = T [97, 98] := by decide +kernel
set_option maxHeartbeats 2000000 in
theorem ok_base {f fD D : Addr} {fd dD : FuncData} (F : Fun K "_law_base_tells" "_law_base_tells" sBase f fd) (T1 : Txt mg) (mV : mg "ValueError" = none)
    (D1 : CalleeX P w K mg base C "finds" 5 ["text", "beads"] (orB spFinds (spBad2 C)) fD dD) (mD : mg "BeadError" = some (.ref D)) (hx : PySem.W.exmOne K (.ref C) (.ref D) = some true) (hv : PySem.W.kitCls K (.ref C) (.type "ValueError") = some true) :
    FnOk P w K mg base CX0 6 f fd ["_law_line"] spBase := by
  refine fn_raw F scBase (fun vs H Q E h => ?_) (fun cdv A outer s H vs Q E s1 hr h I => ?_)
  · obtain ⟨l, rfl, _⟩ := h
    rfl
  obtain ⟨l, rfl, hl, k⟩ := h
  have good : flt l 0 0 = none → ∀ H', Same H H' → Q (.bl false) H' := fun e H' k1 => by
    have := k H' k1
    rw [e] at this
    exact this
  have bad : flt l 0 0 ≠ none → ∀ H', Same H H' → Q (.bl true) H' := fun e H' s' => by
    have := k H' s'
    cases q : flt l 0 0 with
    | none => exact absurd q e
    | some p =>
      rw [q] at this
      exact this
  obtain ⟨Q1, eQ⟩ : ∃ Q1 : Flow → Shared → Prop, Q1 = fun fl s' => (fl = .next ∧ ∃ σ' H', Inv (cxOf CX0 P w K mg base nBase "_law_base_tells" (defScope sBase) f cdv A outer s H E) [] σ' H' s' ∧ Q (.bl false) H') ∨ (∃ u, fl = .ret u ∧ CE outer P w H s Q u s') := ⟨_, rfl⟩
  have R : wpAny (model P w) (A.deeper (envOfC "_law_base_tells" (defScope sBase) s.heap.objs.size f cdv)) (exec ((defBody sBase).getD 0 (.Pass ⟨0, 0, 0, 0⟩)) (envOfC "_law_base_tells" (defScope sBase) s.heap.objs.size f cdv)) Q1 (fun _ _ => False) s1 := by
    have pass : Passes (CXN P w C) ((cxOf CX0 P w K mg base nBase "_law_base_tells" (defScope sBase) f cdv A outer s H E).wish (xeOf (cxOf CX0 P w K mg base nBase "_law_base_tells" (defScope sBase) f cdv A outer s H E) (tryH sBase) Q1 fun _ _ => False)) (fun _ _ H' => Q (.bl true) H') := fun pins' σ' H1 s2 e s3 I' h' => by
      refine caughtB (X := cxOf CX0 P w K mg base nBase "_law_base_tells" (defScope sBase) f cdv A outer s H E) (x := "BeadError") (D := D) (n := "e") (i := 1) I'.unwish.nopins rfl rfl rfl mD hx h' scBase.nd rfl rfl fun ea H2 s4 Ey J hE ⟨ob, hob, hcls⟩ => ?_
      obtain ⟨m, hn, hlk⟩ := id J.loc
      have sg : (σ'.set 1 (some (V.ref ea)))[1]? = some (some (V.ref ea)) := by
        have := J.len
        rw [List.length_set] at this
        exact List.getElem?_set_self (by rw [this]; show 1 < nBase.length; decide)
      obtain ⟨u, ru, look⟩ := hlk 1 "e" (.ref ea) rfl sg (Or.inl rfl)
      cases (show u = .ref ea from ru)
      have hme : m "e" = some (.ref ea) := by
        rcases look with ⟨_, z⟩ | ⟨z, _⟩
        · exact z
        · rcases z with z | z <;> exact absurd z (by show ¬ (defScope sBase).names.lookup ("e" : Str) = some _; decide +kernel)
      refine wpAny_execs_cons (wpAny_Return_some (wpAny_Call_Name_kw (ld_bltA J rfl T1.isi boot_isi ?_)))
      refine PyProof.Rows.callWith_builtin1 ?_
      refine Calls.spliced_cons (wpAny_Name (wpAny_loadName_local rfl rfl hn hme ?_))
      refine Calls.spliced_cons (ld_bltA J rfl mV boot_ValueError ?_)
      refine Calls.spliced_nil ?_
      refine isi_exc (K := K) J.kIn hob hcls hv ?_
      show wpAny _ _ _ _ _ _
      refine wpAny_nameGoes rfl hn rfl fun h5 m5 _ sb => ?_
      rw [eQ]
      exact .inr ⟨_, rfl, J.ceBut sb (v := .bl true) rfl hE⟩
    have tr : ∃ t, PSs ((cxOf CX0 P w K mg base nBase "_law_base_tells" (defScope sBase) f cdv A outer s H E).wish (xeOf (cxOf CX0 P w K mg base nBase "_law_base_tells" (defScope sBase) f cdv A outer s H E) (tryH sBase) Q1 fun _ _ => False)) (tryB sBase) t ∧
        t { nx := fun _ H' => Q (.bl false) H', rt := fun _ _ => False } [some (.str (T l)), none] H := by
      refine ⟨_, pss_one (ps_expr (pe_call D1.ok hr rfl D1.at' D1.kp D1.bd .nil pass (pa_cons (pv 0) (pa_cons pe_str pa_nil)))), ?_⟩
      refine ⟨_, rfl, ?_⟩
      show orB spFinds (spBad2 C) [.str (T l), .str ("ab" : Str)] H _ _
      rw [s_ab]
      by_cases hf : flt l 0 0 = none
      · obtain ⟨g, eg⟩ := run_one_of [97, 98] hf
        exact .inl ⟨l, [97, 98], g, rfl, hl.1, by decide, eg, fun a _ _ H' s' _ _ _ => good hf H' s'⟩
      · exact .inr ⟨l, [97, 98], rfl, hl, by decide, hf, bad hf⟩
    obtain ⟨t, ht, hq⟩ := tr
    refine try_run (X := cxOf CX0 P w K mg base nBase "_law_base_tells" (defScope sBase) f cdv A outer s H E) ht I hq fun fl s2 z => ?_
    rw [eQ]
    cases fl with
    | next => obtain ⟨σ', H', J, z⟩ := z; exact .inl ⟨rfl, σ', H', J, z⟩
    | ret u => obtain ⟨_, _, _, _, _, z⟩ := z; exact z.elim
    | brk => obtain ⟨_, _, _, z⟩ := z; exact z.elim
    | cont => obtain ⟨_, _, _, z⟩ := z; exact z.elim
  refine wpAny_execs_cons (thn R fun fl s2 z => ?_)
  rw [eQ] at z
  rcases z with ⟨rfl, σ', H', J, z⟩ | ⟨u, rfl, z⟩
  · exact wpAny_execs_cons (wpAny_Return_some (Constant_bool ⟨_, rfl, J.ce (v := .bl false) rfl z⟩))
  · exact ⟨u, rfl, z⟩
end
end B

set_option Elab.async false
set_option linter.all false
set_option maxRecDepth 100000
namespace B
open PySem L2
open Sm (G gN gB gJ gE gM run step Wf flt okc)
theorem cutN_upto (l : List Nat) (k : Nat) : cutN l none (some (k : Int)) = l.take k := by
  have e2 : HT.sIx l.length l.length (some (k : Int)) = min k l.length := HT.sIx_nat _ _ k
  unfold cutN
  rw [HT.sIx_none, e2, List.drop_zero, Nat.sub_zero]
  by_cases c : k ≤ l.length
  · rw [Nat.min_eq_left c]
  · rw [Nat.min_eq_right (by omega), List.take_length, List.take_of_length_le (by omega)]
theorem cutN_on (l : List Nat) (k : Nat) : cutN l (some (k : Int)) none = l.drop k := by
  have e2 : HT.sIx l.length 0 (some (k : Int)) = min k l.length := HT.sIx_nat _ _ k
  unfold cutN
  rw [HT.sIx_none, e2]
  by_cases c : k ≤ l.length
  · rw [Nat.min_eq_left c, List.take_of_length_le (by rw [List.length_drop]; exact Nat.le_refl _)]
  · rw [Nat.min_eq_right (by omega), List.drop_length, List.drop_of_length_le (by omega)]
    simp
theorem str_at (x : Str) {k : Int} (h0 : 0 ≤ k) (h : k < (x.length : Nat)) : ∃ c, atI x.cps.toList k = some c ∧ c ∈ x.cps.toList := by
  have hl : k.toNat < x.cps.toList.length := by
    have : x.cps.toList.length = x.length := by simp [Str.length]
    omega
  exact ⟨x.cps.toList[k.toNat], atI_of h0 (List.getElem?_eq_getElem hl), List.getElem_mem hl⟩
theorem in_one (z : Str) (c : Nat) : (!(Builtin.Str.occurrences z (T [c]) 0 z.length 1).isEmpty) = decide (c ∈ z.cps.toList) := by
  rw [Bool.eq_iff_iff, decide_eq_true_iff, PySem.StrLaws.found_iff]
  constructor
  · rintro ⟨i, h⟩
    exact List.mem_of_getElem? ((PySem.StrLaws.subAt_one z c i).mp h)
  · intro h
    obtain ⟨i, hi⟩ := List.getElem?_of_mem h
    exact ⟨i, (PySem.StrLaws.subAt_one z c i).mpr hi⟩
section
variable {P : Program} {w : World} {K : PySem.W.Frag} {mg : Str → Option Value} {base : Heap}
/-! ### _law_marred -/
def spMarred : Sp := fun vs H Q _ => ∃ (l : List Nat) (way spot cl : Int), vs = [.str (T l), .int way, .int spot, .int cl] ∧ l.length ≤ 200 ∧ (∀ c ∈ l, c < 1000) ∧ ∀ l' : List Nat, Lows l' → Q (.str (T l')) H
abbrev nMarred : List Str := ["_law_line", "_law_way", "_law_spot", "_law_cell", "_law_signs", "_law_sign", "_law_place"]
theorem scMarred : FnScope nMarred ["_law_line", "_law_way", "_law_spot", "_law_cell"] (defScope sMarred) := ⟨rfl, rfl, rfl, by decide +kernel, rfl, by decide +kernel, by decide +kernel⟩
abbrev few : Str := "az.+/*A 0`{"
abbrev signs1 : Str := "!\"#$&'()*+,-./0123456789:;<=>?@ABCDEFGHIJKLMNOPQRSTUVWXYZ[\\]^_`"
abbrev signs2 : Str := "abcdefghijklmnopqrstuvwxyz{|}~ "
theorem few_len : few.length = 11 := by decide +kernel
theorem few_low : ∀ c ∈ few.cps.toList, c < 1000 := by decide +kernel
theorem signs_len : (signs1 ++ signs2).length = 94 := by decide +kernel
theorem signs_low : ∀ c ∈ (signs1 ++ signs2).cps.toList, c < 1000 := by decide +kernel
theorem signs_fit : signs1.length + signs2.length ≤ sizeLine := by decide +kernel
set_option maxHeartbeats 2000000 in
theorem ok_marred {f : Addr} {fd : FuncData} (F : Fun K "_law_marred" "_law_marred" sMarred f fd) (T1 : Txt mg) : FnOk P w K mg base CX0 1 f fd ["_law_line", "_law_way", "_law_spot", "_law_cell"] spMarred := by
  refine F.ok scMarred (fun vs H Q E h => ?_) (fun cdv A outer s H vs Q E hr h => ?_)
  · obtain ⟨l, way, spot, cl, rfl, _⟩ := h
    rfl
  obtain ⟨l, way, spot, cl, rfl, hl, hlow, k⟩ := h
  refine ⟨_, pss_cons (ps_set (i := 4) scMarred.nd rfl (Or.inl rfl) pe_str)
    (pss_cons (ps_set (i := 4) scMarred.nd rfl (Or.inl rfl) (pe_op op_add_str (pv 4) pe_str))
    (pss_cons (ps_set (i := 5) scMarred.nd rfl (Or.inl rfl) (pe_ix ix_str pe_str (pe_op op_mod (pv 3) pe_int) (fun _ _ => rfl)))
    (pss_cons (ps_if (pt_cmpR op_eq (pe_op op_mod (pe_op op_fdiv (pv 3) pe_int) pe_int) pe_int (nomark _)) (pss_one (ps_set (i := 5) scMarred.nd rfl (Or.inl rfl) (pe_ix ix_str (pv 4) (pe_op op_mod (pv 3) (pe_callB call_len_str rfl T1.len PySem.boot_len (pa_cons (pv 4) pa_nil))) (fun _ _ => rfl)))) pss_nil)
    (pss_cons (ps_set (i := 6) scMarred.nd rfl (Or.inl rfl) (pe_op op_mod (pv 2) (pe_op op_add (pe_callB call_len_str rfl T1.len PySem.boot_len (pa_cons (pv 0) pa_nil)) pe_int)))
    (pss_cons (ps_if (pt_cmpR op_eq (pv 1) pe_int (nomark _)) (pss_one (ps_ret (pe_op op_add_str (pe_op op_add_str (pe_slice sl_str (pv 0) po_none (po_some (pv 6))) (pv 5)) (pe_slice sl_str (pv 0) (po_some (pe_op op_add (pv 6) pe_int)) po_none)))) pss_nil)
    (pss_cons (ps_if (pt_cmpR op_eq (pv 1) pe_int (nomark _)) (pss_one (ps_ret (pe_op op_add_str (pe_slice sl_str (pv 0) po_none (po_some (pv 6))) (pe_slice sl_str (pv 0) (po_some (pe_op op_add (pv 6) pe_int)) po_none)))) pss_nil)
    (pss_cons (ps_if (pt_cmpR op_eq (pv 1) pe_int (nomark _)) (pss_one (ps_ret (pe_op op_add_str (pe_op op_add_str (pe_slice sl_str (pv 0) po_none (po_some (pv 6))) (pv 5)) (pe_slice sl_str (pv 0) (po_some (pv 6)) po_none)))) pss_nil)
    (pss_one (ps_ret (pv 0)))))))))), ?_⟩
  have hl' : l.length ≤ sizeLine := small (by omega)
  obtain ⟨c0, ec0, hc0⟩ := str_at few (k := cl % 11) (by omega) (by rw [few_len]; omega)
  have low0 := few_low c0 hc0
  obtain ⟨c1, ec1, hc1⟩ := str_at (signs1 ++ signs2) (k := cl % 94) (by omega) (by rw [signs_len]; omega)
  have low1 := signs_low c1 hc1
  refine ⟨_, rfl, _, _, rfl, rfl, signs_fit, ?_⟩
  refine ⟨_, rfl, _, _, rfl, rfl, (by show (0 : Int) < 11; decide), few, _, c0, rfl, rfl, (by decide +kernel), ec0, ?_⟩
  refine ⟨_, rfl, _, _, rfl, rfl, ⟨by decide, by decide⟩, _, _, rfl, rfl, (by show (0 : Int) < 2; decide), rfl, _, rfl, ?_⟩
  obtain ⟨p, hp, hpl⟩ : ∃ p : Nat, spot % (((T l).length : Nat) + 1 : Int) = (p : Int) ∧ p ≤ l.length := by
    rw [T_len]
    have h1 := Int.emod_nonneg spot (show ((l.length : Int) + 1) ≠ 0 by omega)
    have h2 := Int.emod_lt_of_pos spot (show (0 : Int) < (l.length : Int) + 1 by omega)
    exact ⟨(spot % ((l.length : Int) + 1)).toNat, by omega, by omega⟩
  have p1 : (p : Int) + 1 = ((p + 1 : Nat) : Int) := by omega
  have t1 : (l.take p).length = p := by rw [List.length_take]; omega
  have t2 : (l.drop (p + 1)).length = l.length - (p + 1) := List.length_drop
  have t3 : (l.drop p).length = l.length - p := List.length_drop
  have lowT : ∀ c ∈ l.take p, c < 1000 := fun c hc => hlow c (List.mem_of_mem_take hc)
  have lowD : ∀ q, ∀ c ∈ l.drop q, c < 1000 := fun q c hc => hlow c (List.mem_of_mem_drop hc)
  refine ite2 (fun _ => ?a) (fun _ => ?b)
  case' a =>
    refine ⟨_, rfl, _, rfl, _, rfl, _, rfl, (by rw [signs_len]; decide), _, _, rfl, rfl, (by rw [signs_len]; show (0 : Int) < 94; decide), signs1 ++ signs2, _, c1, rfl, rfl, (by rw [signs_len]; decide), (by rw [signs_len]; exact ec1), ?_⟩
    obtain ⟨d, ed, hd⟩ : ∃ d : Nat, c1 = d ∧ d < 1000 := ⟨_, rfl, low1⟩
    show tSeq _ _ _ [some (.str (T l)), some (.int way), some (.int spot), some (.int cl), some (.str (signs1 ++ signs2)), some (.str (T [c1])), none] H
    rw [ed]
  case' b =>
    obtain ⟨d, ed, hd⟩ : ∃ d : Nat, c0 = d ∧ d < 1000 := ⟨_, rfl, low0⟩
    show tSeq _ _ _ [some (.str (T l)), some (.int way), some (.int spot), some (.int cl), some (.str (signs1 ++ signs2)), some (.str (T [c0])), none] H
    rw [ed]
  all_goals
    refine ⟨_, rfl, _, rfl, _, rfl, (by rw [T_len]; exact hl'), _, _, rfl, rfl, _, _, rfl, rfl, (by rw [T_len]; show (0 : Int) < (l.length : Int) + 1; omega), ?_⟩
    show tSeq _ _ _ [some (.str (T l)), some (.int way), some (.int spot), some (.int cl), some (.str (signs1 ++ signs2)), some (.str (T [d])), some (.int (spot % (((T l).length : Nat) + 1 : Int)))] H
    rw [hp]
    refine ⟨_, rfl, rfl, _, rfl, ?_⟩
    refine ite2 (fun _ => ?_) (fun _ => ?_)
    · refine ⟨_, rfl, _, rfl, _, rfl, l, rfl, hl', ?_⟩
      rw [cutN_upto]
      refine ⟨_, rfl, _, _, rfl, rfl, ts (m := [d]) (by simp; omega), ?_⟩
      rw [T_app]
      refine ⟨_, rfl, _, rfl, _, _, rfl, rfl, _, rfl, l, rfl, hl', ?_⟩
      rw [p1, cutN_on]
      refine ⟨_, _, rfl, rfl, ts (by rw [List.length_append, t1, t2]; simp; omega), ?_⟩
      rw [T_app]
      refine k _ ⟨by rw [List.length_append, List.length_append, t1, t2]; simp; omega, fun c hc => ?_⟩
      rcases List.mem_append.mp hc with hc | hc
      · rcases List.mem_append.mp hc with hc | hc
        · exact lowT c hc
        · rw [List.mem_singleton.mp hc]; exact hd
      · exact lowD _ c hc
    refine ⟨_, rfl, rfl, _, rfl, ?_⟩
    refine ite2 (fun _ => ?_) (fun _ => ?_)
    · refine ⟨_, rfl, _, rfl, _, rfl, l, rfl, hl', ?_⟩
      rw [cutN_upto]
      refine ⟨_, rfl, _, rfl, _, _, rfl, rfl, _, rfl, l, rfl, hl', ?_⟩
      rw [p1, cutN_on]
      refine ⟨_, _, rfl, rfl, ts (by rw [t1, t2]; omega), ?_⟩
      rw [T_app]
      refine k _ ⟨by rw [List.length_append, t1, t2]; omega, fun c hc => ?_⟩
      rcases List.mem_append.mp hc with hc | hc
      · exact lowT c hc
      · exact lowD _ c hc
    refine ⟨_, rfl, rfl, _, rfl, ?_⟩
    refine ite2 (fun _ => ?_) (fun _ => ?_)
    · refine ⟨_, rfl, _, rfl, _, rfl, l, rfl, hl', ?_⟩
      rw [cutN_upto]
      refine ⟨_, rfl, _, _, rfl, rfl, ts (m := [d]) (by simp; omega), ?_⟩
      rw [T_app]
      refine ⟨_, rfl, _, rfl, _, rfl, l, rfl, hl', ?_⟩
      rw [cutN_on]
      refine ⟨_, _, rfl, rfl, ts (by rw [List.length_append, t1, t3]; simp; omega), ?_⟩
      rw [T_app]
      refine k _ ⟨by rw [List.length_append, List.length_append, t1, t3]; simp; omega, fun c hc => ?_⟩
      rcases List.mem_append.mp hc with hc | hc
      · rcases List.mem_append.mp hc with hc | hc
        · exact lowT c hc
        · rw [List.mem_singleton.mp hc]; exact hd
      · exact lowD _ c hc
    exact ⟨_, rfl, k l ⟨by omega, hlow⟩⟩
/-! ### _law_expected -/
def ofF : Option Nat → Int
  | none => -1
  | some q => q
def spExpected : Sp := fun vs H Q _ => ∃ l : List Nat, vs = [.str (T l)] ∧ l.length ≤ 1000 ∧ Q (.int (ofF (flt l 0 0))) H
abbrev nExpected : List Str := ["_law_line", "_law_leaves", "_law_twos", "_law_k", "_law_sign"]
theorem scExpected : FnScope nExpected ["_law_line"] (defScope sExpected) := ⟨rfl, rfl, rfl, by decide +kernel, rfl, by decide +kernel, by decide +kernel⟩
abbrev lets : Str := "abcdefghijklmnopqrstuvwxyz."
theorem lets_is : lets.cps.toList = (List.range 26).map (97 + ·) ++ [46] := by decide +kernel
theorem lets_mem (c : Nat) : c ∈ lets.cps.toList ↔ (97 ≤ c ∧ c ≤ 122) ∨ c = 46 := by
  rw [lets_is, List.mem_append, List.mem_map, List.mem_singleton]
  constructor
  · rintro (⟨x, hx, rfl⟩ | h)
    · rw [List.mem_range] at hx
      exact .inl (by omega)
    · exact .inr h
  · rintro (h | h)
    · exact .inl ⟨c - 97, List.mem_range.mpr (by omega), by omega⟩
    · exact .inr h
set_option maxHeartbeats 2000000 in
theorem ok_expected {f : Addr} {fd : FuncData} (F : Fun K "_law_expected" "_law_expected" sExpected f fd) (T1 : Txt mg) : FnOk P w K mg base CX0 1 f fd ["_law_line"] spExpected := by
  refine F.ok scExpected (fun vs H Q E h => ?_) (fun cdv A outer s H vs Q E hr h => ?_)
  · obtain ⟨l, rfl, _⟩ := h
    rfl
  obtain ⟨l, rfl, hl, k⟩ := h
  refine ⟨_, (pss_cons (ps_set (i := 1) scExpected.nd rfl (Or.inl rfl) pe_int)
    (pss_cons (ps_set (i := 2) scExpected.nd rfl (Or.inl rfl) pe_int)
    (pss_cons (ps_for PassesOwn.never rfl (pi_range1 rfl T1.rng (pa_cons (pe_callB call_len_str rfl T1.len PySem.boot_len (pa_cons (pv 0) pa_nil)) pa_nil)) (pg_name (i := 3) scExpected.nd rfl (Or.inl rfl)) (pss_cons (ps_set (i := 4) scExpected.nd rfl (Or.inl rfl) (pe_ix ix_str (pv 0) (pv 3) (fun _ _ => rfl)))
    (pss_one (ps_if (pt_cmpR op_eq (pv 4) pe_str (nomark _)) (pss_one (ps_if (pt_cmpR op_eq (pv 1) (pv 2) (nomark _)) (pss_one (ps_ret (pv 3))) pss_nil)) (pss_one (ps_if (PW.pt (pw_or (pt_cmpR op_eq (pv 4) pe_str (nomark _)) (pw_or1 (pt_cmpR op_eq (pv 4) pe_str (nomark _))))) (pss_cons (ps_set (i := 2) scExpected.nd rfl (Or.inl rfl) (pe_op op_add (pv 2) pe_int))
    (pss_one (ps_if (pt_cmpR op_le (pv 1) (pv 2) (nomark _)) (pss_one (ps_ret (pv 3))) pss_nil))) (pss_one (ps_if (pt_cmpR op_in_str (pv 4) pe_str (by with_unfolding_all rfl)) (pss_one (ps_set (i := 1) scExpected.nd rfl (Or.inl rfl) (pe_op op_add (pv 1) pe_int))) (pss_one (ps_ret (pv 3)))))))))))
    (pss_cons (ps_if (pt_cmpR op_eq (pv 1) (pe_op op_add (pv 2) pe_int) (nomark _)) (pss_one (ps_ret (pe_un un_neg pe_int))) pss_nil)
    (pss_one (ps_ret (pe_callB call_len_str rfl T1.len PySem.boot_len (pa_cons (pv 0) pa_nil)))))))), ?_⟩
  have hl' : l.length ≤ sizeLine := small (by omega)
  have di : ∀ a t : Nat, decide (V.int (a : Int) = V.int (t : Int)) = decide (a = t) := fun a t => decide_eq_decide.mpr ⟨fun z => by injection z with z; omega, fun z => by rw [z]⟩
  refine ⟨_, rfl, _, rfl, (by rw [T_len]; exact hl'), _, rfl, ?_, ?_, ?_⟩
  · rw [T_len]; omega
  · rw [T_len]; omega
  rw [T_len]
  have en : ((l.length : Nat) : Int).toNat = l.length := by omega
  rw [en]
  refine for_range (lo := 0) (n := l.length) (fun i σ H2 => ∃ (a t : Nat) (v3 v4 : Option V), σ = [some (.str (T l)), some (.int (a : Int)), some (.int (t : Int)), v3, v4] ∧ H2 = H ∧ t ≤ a ∧ flt l 0 0 = flt (l.drop i) i (a - t)) ⟨0, 0, none, none, rfl, rfl, Nat.le_refl _, rfl⟩ ?_ ?_
  · rintro i σ H2 hi ⟨a, t, v3, v4, rfl, rfl, hat, ef⟩
    have e0 : (0 : Int) + (i : Int) = (i : Int) := by omega
    rw [e0]
    obtain ⟨c, ec⟩ : ∃ c, l[i]? = some c := ⟨l[i], List.getElem?_eq_getElem hi⟩
    have ed : l.drop i = c :: l.drop (i + 1) := by
      obtain ⟨hi', e⟩ := List.getElem?_eq_some_iff.mp ec
      rw [List.drop_eq_getElem_cons hi', e]
    rw [ed] at ef
    have ef : flt l 0 0 = if okc c = true ∧ Sm.taken c ≤ a - t then flt (l.drop (i + 1)) (i + 1) (a - t - Sm.taken c + 1) else some i := ef
    have stop : ¬ (okc c = true ∧ Sm.taken c ≤ a - t) → Q (.int (i : Int)) H2 := fun n => by
      rw [ef, if_neg n] at k
      exact k
    refine ⟨_, rfl, _, rfl, T l, _, c, rfl, rfl, (by rw [T_len]; exact hl'), atI_of (by omega) (by rw [Int.toNat_natCast]; exact ec), ?_⟩
    have sg : ∀ (d : Nat) {x : Str}, x = T [d] → decide (V.str (⟨#[c]⟩ : Str) = V.str x) = decide (c = d) := fun d x hx => sgn c d hx
    refine ⟨_, rfl, rfl, _, rfl, ?_⟩
    rw [sg 42 s42]
    by_cases c42 : c = 42
    · subst c42
      refine iteT ⟨_, rfl, _, rfl, rfl, _, rfl, ?_⟩
      rw [di]
      by_cases q : a = t
      · rw [decide_eq_true q]
        exact iteT ⟨_, rfl, stop fun z => by have z2 : 1 ≤ a - t := z.2; omega⟩
      · rw [decide_eq_false q]
        refine iteF ⟨a, t, _, _, rfl, rfl, hat, ?_⟩
        have h1 : (1 : Nat) ≤ a - t := by omega
        rw [ef, if_pos ⟨by decide, h1⟩]
        have e2 : a - t - Sm.taken 42 + 1 = a - t := by show a - t - 1 + 1 = a - t; omega
        rw [e2]
    rw [decide_eq_false c42]
    refine iteF ⟨_, rfl, rfl, _, rfl, ?_⟩
    by_cases hc : c = 43 ∨ c = 47
    · have tk : Sm.taken c = 2 := by unfold Sm.taken; rw [if_neg c42, if_pos hc]
      have ok : okc c = true := decide_eq_true (by omega)
      rw [tk] at ef stop
      rcases hc with c43 | c47
      case' inl =>
        rw [sg 43 s43, decide_eq_true c43]
        refine iteT (iteT ?_)
      case' inr =>
        rw [sg 43 s43, decide_eq_false (by omega)]
        refine iteF ⟨_, rfl, rfl, _, rfl, ?_⟩
        rw [sg 47 s47, decide_eq_true c47]
        refine iteT ?_
      all_goals
        have e1 : (t : Int) + 1 = ((t + 1 : Nat) : Int) := by omega
        refine ⟨_, rfl, _, _, rfl, rfl, _, rfl, _, rfl, _, _, rfl, rfl, _, rfl, ?_⟩
        by_cases q : a ≤ t + 1
        · rw [show decide ((a : Int) ≤ (t : Int) + 1) = true from decide_eq_true (by omega)]
          exact iteT ⟨_, rfl, stop fun z => by have := z.2; omega⟩
        · rw [show decide ((a : Int) ≤ (t : Int) + 1) = false from decide_eq_false (by omega)]
          refine iteF ⟨a, t + 1, _, _, by rw [← e1]; rfl, rfl, by omega, ?_⟩
          rw [ef, if_pos ⟨ok, by omega⟩]
          have e2 : a - t - 2 + 1 = a - (t + 1) := by omega
          rw [e2]
    have n43 : c ≠ 43 := fun z => hc (.inl z)
    have n47 : c ≠ 47 := fun z => hc (.inr z)
    rw [sg 43 s43, decide_eq_false n43]
    refine iteF ⟨_, rfl, rfl, _, rfl, ?_⟩
    rw [sg 47 s47, decide_eq_false n47]
    refine iteF ⟨_, rfl, _, _, rfl, rfl, _, rfl, ?_⟩
    rw [show (!(Builtin.Str.occurrences lets (⟨#[c]⟩ : Str) 0 lets.length 1).isEmpty) = decide (c ∈ lets.cps.toList) from in_one lets c]
    by_cases hm : c ∈ lets.cps.toList
    · have hc2 := (lets_mem c).mp hm
      have tk : Sm.taken c = 0 := by unfold Sm.taken; rw [if_neg c42, if_neg hc]
      have ok : okc c = true := decide_eq_true (by omega)
      rw [decide_eq_true hm]
      refine iteT ⟨_, rfl, _, _, rfl, rfl, ?_⟩
      have e1 : (a : Int) + 1 = ((a + 1 : Nat) : Int) := by omega
      refine ⟨a + 1, t, _, _, by rw [← e1]; rfl, rfl, by omega, ?_⟩
      rw [ef, tk, if_pos ⟨ok, by omega⟩]
      have e2 : a - t - 0 + 1 = a + 1 - t := by omega
      rw [e2]
    · have hc2 : ¬ ((97 ≤ c ∧ c ≤ 122) ∨ c = 46) := fun z => hm ((lets_mem c).mpr z)
      have ok : okc c = false := decide_eq_false (by omega)
      rw [decide_eq_false hm]
      exact iteF ⟨_, rfl, stop fun z => by rw [ok] at z; cases z.1⟩
  · rintro σ H2 ⟨a, t, v3, v4, rfl, rfl, hat, ef⟩
    rw [List.drop_length] at ef
    have ef : flt l 0 0 = if a - t = 1 then none else some l.length := ef
    refine ⟨_, rfl, _, rfl, _, _, rfl, rfl, rfl, _, rfl, ?_⟩
    have e1 : (t : Int) + 1 = ((t + 1 : Nat) : Int) := by omega
    have e2 : decide (V.int (a : Int) = (fun i j : Int => V.int (i + j)) (t : Int) 1) = decide (a = t + 1) := by
      show decide (V.int (a : Int) = V.int ((t : Int) + 1)) = _
      rw [e1, di]
    rw [e2]
    by_cases q : a = t + 1
    · rw [decide_eq_true q]
      rw [ef, if_pos (by omega)] at k
      exact iteT ⟨_, rfl, k⟩
    · rw [decide_eq_false q]
      rw [ef, if_neg (by omega)] at k
      refine iteF ⟨_, rfl, _, rfl, (by rw [T_len]; exact hl'), ?_⟩
      rw [T_len]
      exact k
end
end B

set_option Elab.async false
set_option linter.all false
set_option maxRecDepth 100000
namespace B
open PySem L2
open Sm (G gN gB gJ gE gM run step Wf flt okc Re post gr Ln pc)
def spLawT (K : PySem.W.Frag) (Pt : Addr) : Sp := fun vs H Q _ => ∃ (a : Addr) (ns : List Int), vs = [.ref a] ∧ SqL K H a (ns.map V.int) ∧ ns.length ≤ 63 ∧ H Pt = some (.tbl #[]) ∧ ∀ H', Q (.bl true) H'
theorem cut_ints (ns : List Int) (lo hi : Option Int) : ∃ ms : List Int, cutV (ns.map V.int) lo hi = ms.map V.int ∧ ms.length ≤ ns.length := by
  refine ⟨(ns.drop (HT.sIx ns.length 0 lo)).take (HT.sIx ns.length ns.length hi - HT.sIx ns.length 0 lo), ?_, ?_⟩
  · unfold cutV
    rw [List.length_map, List.map_take, List.map_drop]
  · rw [List.length_take, List.length_drop]
    omega
theorem post_low : ∀ (r : Re), ∀ c ∈ post r, c < 1000
  | .leaf d h, c, hc => by
    have e : c = d := List.mem_singleton.mp hc
    omega
  | .j a b, c, hc => by
    have hc : c ∈ post a ++ post b ++ [43] := hc
    rcases List.mem_append.mp hc with h | h
    · rcases List.mem_append.mp h with h | h
      · exact post_low a c h
      · exact post_low b c h
    · rw [List.mem_singleton.mp h]; decide
  | .e a b, c, hc => by
    have hc : c ∈ post a ++ post b ++ [47] := hc
    rcases List.mem_append.mp hc with h | h
    · rcases List.mem_append.mp h with h | h
      · exact post_low a c h
      · exact post_low b c h
    · rw [List.mem_singleton.mp h]; decide
  | .m a, c, hc => by
    have hc : c ∈ post a ++ [42] := hc
    rcases List.mem_append.mp hc with h | h
    · exact post_low a c h
    · rw [List.mem_singleton.mp h]; decide
theorem Kp.get {D : Addr} {H H' : Hp} {ps : Array Value} {b : Addr} {o : HO} (k : Kp D H H') (hD : H D = some (.tbl ps)) (e : H b = some o) (no : ∀ qs, o ≠ .tbl qs) : H' b = some o :=
  k b o (ne_of e hD (no ps)) e
abbrev six : Str := "az.+/*"
theorem six_len : six.length = 6 := by decide +kernel
theorem six_low : ∀ c ∈ six.cps.toList, c < 1000 := by decide +kernel
theorem ge_flt (o : Option Nat) : decide (0 ≤ ofF o) = o.isSome := by
  cases o with
  | none => rfl
  | some q => exact decide_eq_true (by show (0 : Int) ≤ (q : Int); omega)
theorem ndC : (["_law_cell"] : List Str).Nodup := by decide +kernel
theorem comp_six {K : PySem.W.Frag} {σ : St} {a : Addr} {ns ms : List Int} {H : Hp} (hσ : σ[0]? = some (some (.ref a))) (hS : SqL K H a (ns.map V.int)) (em : cutV (ns.map V.int) (some 1) (some 150) = ms.map V.int) (h63' : ms.length ≤ 63) (Q : VK)
    (k : ∀ (D : Addr) (cs : List Nat) (H2 : Hp), Same H H2 → H2 D = some (.lst (cs.map fun c => V.str (T [c]))) → cs.length ≤ 63 → (∀ c ∈ cs, c < 1000) → Q (.ref D) H2) :
    tComp (iList K (tSl (rSlL K) (tVar 0) (tPart (tC (.int 1))) (tPart (tC (.int 150))))) 1 [] (gName 0) tAll (tOp rIxS (tC (.str six)) (tOp (rI (fun _ j => 0 < j) fun i j => .int (i % j)) (tVar 0) (tC (.int 6)))) σ H Q := by
  refine ⟨_, hσ, _, rfl, _, rfl, a, _, rfl, hS, fun p hp => ⟨p, rfl, ⟨_, .of upd_same⟩, ?_⟩⟩
  rw [em]
  have g1 := same_new hp (.lst (ms.map V.int))
  intro D hD
  refine comp_list (K := K) (a := p) (xs := ms.map V.int) (fun i σ H2 => ∃ (v : Option V) (cs : List Nat), σ = [v] ∧ Same (upd H p (.lst (ms.map V.int))) H2 ∧ H2 D = some (.lst (cs.map fun c => V.str (T [c]))) ∧ cs.length = i ∧ ∀ c ∈ cs, c < 1000)
    ⟨none, [], rfl, same_new hD _, upd_same, rfl, fun c hc => absurd hc (by simp)⟩ (fun i σ H2 _ ⟨_, _, _, s2, _⟩ => .of (s2 _ _ upd_same)) ?_ ?_
  · rintro i y σ H2 hi ⟨v, cs, rfl, s2, hD2, lc, low⟩
    obtain ⟨m, rfl⟩ : ∃ m, y = V.int m := by
      rw [List.getElem?_map] at hi
      cases q : ms[i]? with
      | none => rw [q] at hi; cases hi
      | some z => rw [q] at hi; exact ⟨z, (Option.some.inj hi).symm⟩
    have il : i < ms.length := by
      have := (List.getElem?_eq_some_iff.mp hi).1
      rw [List.length_map] at this
      exact this
    obtain ⟨c, ec, hc⟩ := str_at six (k := m % 6) (by omega) (by rw [six_len]; omega)
    refine ⟨_, rfl, _, _, rfl, rfl, (by show (0 : Int) < 6; decide), six, _, c, rfl, rfl, (by decide +kernel), ec, ?_⟩
    refine ⟨_, hD2, by rw [List.length_map]; exact Nat.lt_of_le_of_lt (show cs.length ≤ 1000 by omega) (by decide), _, cs ++ [c], rfl, fun b o e => ?_, ?_, by rw [List.length_append]; simp; omega, fun d hd => ?_⟩
    · rw [upd_ne (ne_of_none e hD)]
      exact s2 b o e
    · rw [upd_same, List.map_append]
      rfl
    · rcases List.mem_append.mp hd with hd | hd
      · exact low d hd
      · rw [List.mem_singleton.mp hd]; exact six_low c hc
  · rintro σ H2 ⟨v, cs, rfl, s2, hD2, lc, low⟩
    rw [List.length_map] at lc
    exact k D cs H2 (g1.trans s2) hD2 (by omega) low
section
variable {P : Program} {w : World} {K : PySem.W.Frag} {mg : Str → Option Value} {base : Heap}
abbrev nLaw : List Str := ["_law_script", "_law_way", "_law_cell", "_law_line", "_law_spot", "_law_found", "_law_beads", "_law_asked"]
theorem scLaw : FnScope nLaw ["_law_script"] (defScope sLaw) := ⟨rfl, rfl, rfl, by decide +kernel, rfl, by decide +kernel, by decide +kernel⟩
set_option maxHeartbeats 4000000 in
theorem ok_law {f fW fA fG fR fX fB fF fE Pt : Addr} {fd dW dA dG dR dX dB dF dE : FuncData} (F : Fun K "law" "law" sLaw f fd) (T1 : Txt mg) (W1 : Callee P w K mg base "_law_whole" 1 ["_law_found"] spWhole fW dW)
    (A1 : Callee P w K mg base "_law_at" 1 ["_law_script", "_law_k"] (spAt K) fA dA) (G1 : Callee P w K mg base "_law_grown" 2 ["_law_cells", "_law_most"] (spGrown K) fG dG)
    (R1 : Callee P w K mg base "_law_marred" 1 ["_law_line", "_law_way", "_law_spot", "_law_cell"] spMarred fR dR) (X1 : Callee P w K mg base "_law_expected" 1 ["_law_line"] spExpected fX dX)
    (B1 : Callee P w K mg base "_law_base_tells" 6 ["_law_line"] spBase fB dB) (F1 : Callee P w K mg base "fault" 2 ["text"] spFault fF dF) (E1 : Callee P w K mg base "_law_refused" 6 ["_law_way", "_law_line", "_law_beads"] (spRefused Pt) fE dE) :
    FnOk P w K mg base CX0 7 f fd ["_law_script"] (spLawT K Pt) := by
  refine F.ok scLaw (fun vs H Q E h => ?_) (fun cdv A outer s H vs Q E hr h => ?_)
  · obtain ⟨a, ns, rfl, _⟩ := h
    rfl
  obtain ⟨a, ns, rfl, hS, h63, hT, k⟩ := h
  have hr1 : Room 1 _ := hr.mono (show 1 ≤ 6 by decide)
  have hr2 : Room 2 _ := hr.mono (show 2 ≤ 6 by decide)
  refine ⟨_, (pss_cons (ps_set (i := 1) scLaw.nd rfl (Or.inl rfl) (pe_op op_mod (pe_call A1.ok hr1 rfl A1.at' A1.kp A1.bd .nil pass0 (pa_cons (pv 0) (pa_cons pe_int pa_nil))) pe_int))
    (pss_cons (ps_set (i := 3) scLaw.nd rfl (Or.inl rfl) (pe_bm PySem.F.plainAttrs_str PySem.F.slot_str_join PySem.F.type_str_join mt_join pe_str (pa_cons (pe_comp (N := ["_law_cell"]) (frees := []) (nl := 1) (js := []) rfl (pi_list (pe_slice sl_list (pv 0) (po_some pe_int) (po_some pe_int))) rfl rfl rfl rfl (fun C s H fp => pg_name (i := 0) ndC rfl (Or.inl rfl)) (fun C s H fp => pf_nil) (fun C s H fp => pe_ix ix_str pe_str (pe_op op_mod (pv 0) pe_int) (fun _ _ => rfl))) pa_nil)))
    (pss_cons (ps_if (pt_cmpR op_lt (pv 1) pe_int (nomark _)) (pss_cons (ps_set (i := 3) scLaw.nd rfl (Or.inl rfl) (pe_ix ix_list (pe_call G1.ok hr2 rfl G1.at' G1.kp G1.bd .nil pass0 (pa_cons (pe_slice sl_list (pv 0) (po_some pe_int) (po_some pe_int)) (pa_cons pe_int pa_nil))) pe_int (fun _ _ => rfl)))
    (pss_one (ps_set (i := 3) scLaw.nd rfl (Or.inl rfl) (pe_call R1.ok hr1 rfl R1.at' R1.kp R1.bd .nil pass0 (pa_cons (pv 3) (pa_cons (pv 1) (pa_cons (pe_call A1.ok hr1 rfl A1.at' A1.kp A1.bd .nil pass0 (pa_cons (pv 0) (pa_cons pe_int pa_nil))) (pa_cons (pe_call A1.ok hr1 rfl A1.at' A1.kp A1.bd .nil pass0 (pa_cons (pv 0) (pa_cons pe_int pa_nil))) pa_nil)))))))) pss_nil)
    (pss_cons (ps_set (i := 4) scLaw.nd rfl (Or.inl rfl) (pe_call X1.ok hr1 rfl X1.at' X1.kp X1.bd .nil pass0 (pa_cons (pv 3) pa_nil)))
    (pss_cons (ps_if (pt_cmpR op_ne (pe_call B1.ok hr rfl B1.at' B1.kp B1.bd .nil pass0 (pa_cons (pv 3) pa_nil)) (pe_cmpR op_ge (pv 4) pe_int (nomark _)) (nomark _)) (pss_one (ps_ret pe_bl)) pss_nil)
    (pss_cons (ps_set (i := 5) scLaw.nd rfl (Or.inl rfl) (pe_call F1.ok hr2 rfl F1.at' F1.kp F1.bd .nil pass0 (pa_cons (pv 3) pa_nil)))
    (pss_cons (ps_set (i := 2) scLaw.nd rfl (Or.inl rfl) (pe_op op_fdiv (pe_call A1.ok hr1 rfl A1.at' A1.kp A1.bd .nil pass0 (pa_cons (pv 0) (pa_cons pe_int pa_nil))) pe_int))
    (pss_cons (ps_set (i := 6) scLaw.nd rfl (Or.inl rfl) (pe_op op_mul_str (pe_slice sl_str (pe_slice sl_str pe_str (po_some (pe_op op_mod (pv 2) pe_int)) po_none) po_none (po_some (pe_op op_mod (pe_op op_fdiv (pv 2) pe_int) pe_int))) (pe_op op_add pe_int (pe_op op_mod (pv 2) pe_int))))
    (pss_cons (ps_for PassesOwn.never rfl (pi_range1 rfl T1.rng (pa_cons pe_int pa_nil)) (pg_name (i := 7) scLaw.nd rfl (Or.inl rfl)) (pss_one (ps_if (pt_cmpR op_ne (pe_call E1.ok hr rfl E1.at' E1.kp E1.bd .nil pass0 (pa_cons (pv 7) (pa_cons (pv 3) (pa_cons (pe_slice sl_str (pv 6) po_none (po_some (pe_ix ix_list (pe_lst (pa_cons pe_int (pa_cons pe_int pa_nil))) (pe_callTy call_int1 rfl T1.int boot_intT (pa_cons (pe_cmpR op_gt (pe_callB call_len_str rfl T1.len PySem.boot_len (pa_cons (pv 3) pa_nil)) pe_int (nomark _)) pa_nil)) (fun _ _ => rfl)))) pa_nil)))) (pe_cmpR op_ge (pv 4) pe_int (nomark _)) (nomark _)) (pss_one (ps_ret pe_bl)) pss_nil)))
    (pss_cons (ps_if (pt_cmpR op_lt (pv 4) pe_int (nomark _)) (pss_one (ps_ret (pe_cmpR op_isN (pv 5) pe_non (nomark _)))) pss_nil)
    (pss_one (ps_ret (pe_and (pe_call W1.ok hr1 rfl W1.at' W1.kp W1.bd .nil pass0 (pa_cons (pv 5) pa_nil)) (pe_one (pe_cmpR op_eq (pv 5) (pv 4) (nomark _)))))))))))))))), ?_⟩
  obtain ⟨ms, em, lm⟩ := cut_ints ns (some 1) (some 150)
  refine ⟨_, rfl, a, ns, _, rfl, hS, by decide, _, _, rfl, rfl, (by show (0 : Int) < 6; decide), ?_⟩
  obtain ⟨wv, ewv⟩ : ∃ v : Int, (ns.getD (0 : Int).toNat 0) % 6 = v := ⟨_, rfl⟩
  have h63' : ms.length ≤ 63 := by omega
  show tSeq _ _ _ [some (.ref a), some (.int ((ns.getD (0 : Int).toNat 0) % 6)), none, none, none, none, none, none] H
  rw [ewv]
  refine ⟨rfl, comp_six (K := K) rfl hS em h63' _ fun D cs H2 sH2 hD2 lc low => ?_⟩
  refine ⟨D, cs, by rw [s_nil], rfl, hD2, by omega, ?_⟩
  refine ⟨_, rfl, _, _, rfl, rfl, _, rfl, ?_⟩
  refine ite2 (fun _ => ?a) (fun _ => ?b)
  case' a =>
    obtain ⟨ms3, em3, lm3⟩ := cut_ints ns (some 3) (some 150)
    refine ⟨_, rfl, _, rfl, _, rfl, a, _, rfl, sH2.seq hS, fun c hc => ?_⟩
    rw [em3]
    have g3 := same_new hc (.lst (ms3.map V.int))
    refine ⟨c, ms3, 9, rfl, .of upd_same, by omega, by decide, by decide, fun b z H9 s9 hz gz lz => ?_⟩
    have sH : Same H H9 := sH2.trans (g3.trans s9)
    obtain ⟨r, er, _, _⟩ := gz.re
    refine ⟨b, _, _, _, rfl, rfl, .of hz, rfl, ?_⟩
    refine ⟨_, rfl, _, rfl, _, rfl, a, ns, _, rfl, sH.seq hS, by decide, _, rfl, a, ns, _, rfl, sH.seq hS, by decide, z.t, _, _, _, rfl, by omega, (by rw [er]; exact post_low r), fun l ll => ?_⟩
    show tSeq _ _ _ [some (.ref a), some (.int wv), none, some (.str (T l)), none, none, none, none] H9
  case' b =>
    obtain ⟨l, el⟩ : ∃ l, l = cs := ⟨_, rfl⟩
    have ll : Lows l := by rw [el]; exact ⟨by omega, low⟩
    obtain ⟨H9, e9⟩ : ∃ H9, H9 = H2 := ⟨_, rfl⟩
    have sH : Same H H9 := by rw [e9]; exact sH2
    show tSeq _ _ _ [some (.ref a), some (.int wv), none, some (.str (T cs)), none, none, none, none] H2
    rw [← el, ← e9]
  all_goals
    refine ⟨_, rfl, l, rfl, ll.1, ?_⟩
    refine ⟨_, rfl, l, rfl, ll, fun H10 s10 => ⟨_, rfl, _, _, rfl, rfl, rfl, _, rfl, iteNS (by show V.bl _ = V.bl _; rw [ge_flt]) ?_⟩⟩
    refine ⟨_, rfl, l, rfl, ll.1, fun H11 s11 => ?_⟩
    have sH11 := (sH.trans s10).trans s11
    obtain ⟨x2, ex2⟩ : ∃ x : Int, (ns.getD (2 : Int).toNat 0) / 5 = x := ⟨_, rfl⟩
    refine ⟨_, rfl, a, ns, _, rfl, sH11.seq hS, by decide, _, _, rfl, rfl, ⟨by decide, by decide⟩, ?_⟩
    show tSeq _ _ _ [some (.ref a), some (.int wv), some (.int ((ns.getD (2 : Int).toNat 0) / 5)), some (.str (T l)), some (.int (ofF (flt l 0 0))), some (ofO (flt l 0 0)), none, none] H11
    rw [ex2]
    obtain ⟨k8, e8, h8⟩ : ∃ k : Nat, x2 / 2 % 9 = (k : Int) ∧ k ≤ 8 := ⟨(x2 / 2 % 9).toNat, by omega, by omega⟩
    obtain ⟨n4, e4, h4, h4'⟩ : ∃ n : Nat, 1 + x2 % 4 = (n : Int) ∧ 1 ≤ n ∧ n ≤ 4 := ⟨(1 + x2 % 4).toNat, by omega, by omega, by omega⟩
    have zA : (ABC).cps.toList.length ≤ sizeLine := by decide +kernel
    refine ⟨_, rfl, _, _, rfl, rfl, (by show (0 : Int) < 20; decide), _, rfl, (ABC).cps.toList, (by rw [← str_T]), zA, ?_⟩
    obtain ⟨l1, el1, ll1⟩ : ∃ l1, cutN (ABC).cps.toList (some (x2 % 20)) none = l1 ∧ l1.length ≤ 1000 := ⟨_, rfl, by
      unfold cutN
      rw [List.length_take, List.length_drop]
      have : (ABC).cps.toList.length = 26 := by decide +kernel
      omega⟩
    refine ⟨_, rfl, _, _, rfl, rfl, ⟨by decide, by decide⟩, _, _, rfl, rfl, (by show (0 : Int) < 9; decide), _, rfl, l1, (by show V.str (T (cutN (ABC).cps.toList (some (x2 % 20)) none)) = _; rw [el1]), small (by omega), ?_⟩
    rw [e8, cutN_upto]
    have l8 : (l1.take k8).length ≤ 8 := by rw [List.length_take]; omega
    refine ⟨_, rfl, _, _, rfl, rfl, (by show (0 : Int) < 4; decide), _, _, rfl, rfl, l1.take k8, n4, rfl, (by show V.int (1 + x2 % 4) = _; rw [e4]), h4, by omega, by omega, fun bd lb => ?_⟩
    have lb' : bd.length ≤ 32 := by
      rw [lb]
      exact Nat.le_trans (Nat.mul_le_mul l8 h4') (by decide)
    have hT11 : H11 Pt = some (.tbl #[]) := sH11 _ _ hT
    refine ⟨_, rfl, by decide, by decide, ?_⟩
    refine for_range (lo := 0) (n := 5) (fun i σ H' => ∃ v7 : Option V, σ = [some (.ref a), some (.int wv), some (.int x2), some (.str (T l)), some (.int (ofF (flt l 0 0))), some (ofO (flt l 0 0)), some (.str (T bd)), v7] ∧ TabsOk Pt H') ⟨none, rfl, #[], hT11, .inl rfl⟩ ?_ ?_
    · rintro i σ H' hi ⟨v7, rfl, tb⟩
      have key : ∀ bb : Bool, atI [V.int 30, V.int 8] (if bb = true then 1 else 0) = some (V.int (if bb = true then 8 else 30)) := fun bb => by cases bb <;> rfl
      have lc : ∀ bb : Bool, (cutN bd none (some (if bb = true then 8 else 30))).length ≤ 30 := fun bb => by
        cases bb with
        | true =>
          have := cutN_upto bd 8
          rw [show (cutN bd none (some (if true = true then (8 : Int) else 30))) = bd.take 8 from this, List.length_take]
          omega
        | false =>
          have := cutN_upto bd 30
          rw [show (cutN bd none (some (if false = true then (8 : Int) else 30))) = bd.take 30 from this, List.length_take]
          omega
      refine ⟨_, rfl, _, rfl, _, rfl, (by show 2 ≤ sizeLine; decide), fun p hp => ?_⟩
      refine ⟨_, rfl, _, rfl, tz (by have := ll.1; omega), _, _, rfl, rfl, .inr ⟨_, rfl, ?_⟩⟩
      obtain ⟨bb, hbb⟩ : ∃ bb : Bool, decide ((12 : Int) < ((T l).length : Nat)) = bb := ⟨_, rfl⟩
      rw [hbb]
      refine ⟨p, _, _, _, rfl, rfl, .of upd_same, key bb, _, rfl, bd, rfl, small (by omega), ?_⟩
      exact ⟨_, l, _, rfl, ll, lc bb, tb.same (same_new hp _), fun H'' kp tb'' => ⟨_, rfl, _, _, rfl, rfl, rfl, _, rfl, iteNS (by show V.bl _ = V.bl _; rw [ge_flt]) ⟨_, rfl, tb''⟩⟩⟩
    · rintro σ H' ⟨v7, rfl, tb⟩
      refine ⟨_, rfl, _, _, rfl, rfl, _, rfl, ?_⟩
      cases e : flt l 0 0 with
      | none => exact iteT ⟨_, rfl, rfl, k _⟩
      | some q =>
        rw [show decide (ofF (some q) < 0) = false from decide_eq_false (by show ¬ ((q : Int) < 0); omega)]
        refine iteF ⟨_, rfl, (q : Int), rfl, _, rfl, iteT ⟨_, rfl, _, rfl, rfl, ?_⟩⟩
        rw [show decide (ofO (some q) = V.int (ofF (some q))) = true from decide_eq_true rfl]
        exact k _
end
end B

set_option Elab.async false
set_option linter.all false
set_option maxRecDepth 100000
namespace B
open PySem L2
open PyProof.Rows
theorem kd_mk {P : Program} {w : World} {K : PySem.W.Frag} {d : Addr} {oc : Value} {od : Option Addr} {sl : Array (Option Value)} {ep : Nat} {h1 h2 h3 h4 : Int} {k1 k2 k3 k4 : Str} {t1 t2 t3 t4 u1 u2 u3 u4 : Tok}
    (l : K.lookup d = some ⟨oc, od, .dict #[⟨h1, .str k1 t1, .int 0 u1⟩, ⟨h2, .str k2 t2, .int 1 u2⟩, ⟨h3, .str k3 t3, .int 2 u3⟩, ⟨h4, .str k4 t4, .int 2 u4⟩] ep, sl⟩) (q1 : oc = .type "dict") (q2 : od = none) (q3 : sl = #[])
    (x1 : k1 = T [46]) (x2 : k2 = T [42]) (x3 : k3 = T [43]) (x4 : k4 = T [47]) (y1 : h1 = hashStr w k1) (y2 : h2 = hashStr w k2) (y3 : h3 = hashStr w k3) (y4 : h4 = hashStr w k4) (ne : (d == sysModules) = false) : KD P w K d TK := by
  subst q1 q2 q3 x1 x2 x3 x4 y1 y2 y3 y4
  refine ⟨fun h X => ⟨ne, [(.inr (T [46]), .int 0 u1), (.inr (T [42]), .int 1 u2), (.inr (T [43]), .int 2 u3), (.inr (T [47]), .int 2 u4)], ?_, _, _, _, X _ _ l, ⟨rfl, rfl, rfl⟩, rfl, ?_, ?_, ?_⟩⟩
  · exact .cons ⟨rfl, _, rfl⟩ (.cons ⟨rfl, _, rfl⟩ (.cons ⟨rfl, _, rfl⟩ (.cons ⟨rfl, _, rfl⟩ .nil)))
  · intro e he
    simp only [List.mem_toArray, List.mem_cons, List.not_mem_nil, or_false] at he
    rcases he with rfl | rfl | rfl | rfl
    · exact ⟨.inr (T [46]), keyIs_str (T [46]) t1, rfl⟩
    · exact ⟨.inr (T [42]), keyIs_str (T [42]) t2, rfl⟩
    · exact ⟨.inr (T [43]), keyIs_str (T [43]) t3, rfl⟩
    · exact ⟨.inr (T [47]), keyIs_str (T [47]) t4, rfl⟩
  · exact .cons (keyIs_str (T [46]) t1) rfl (.cons (keyIs_str (T [42]) t2) rfl (.cons (keyIs_str (T [43]) t3) rfl (.cons (keyIs_str (T [47]) t4) rfl .nil)))
  · show ([.inr (T [46]), .inr (T [42]), .inr (T [43]), .inr (T [47])] : List Key).Nodup
    decide
theorem tab_mk {K : PySem.W.Frag} {f c Pt : Addr} {oc ocC : Value} {od odC : Option Addr} {fd : FuncData} {sl slC : Array (Option Value)} {vsC : Array Value} (a : PySem.W.nsIn K mainGlobals "matcher" = some (some (.ref f))) (l : K.lookup f = some ⟨oc, od, .func fd, sl⟩) (e : fd.code = .ref c)
    (lC : K.lookup c = some ⟨ocC, odC, .fields vsC, slC⟩) (eP : vsC[11]? = some (.ref Pt)) : PySem.W.tabIn K "matcher" = some (c, Pt) := by
  unfold PySem.W.tabIn
  simp only [a, l, e, lC, eP]
theorem all_mk {l : PySem.W.OpenLaw} {w : World} {K : PySem.W.Frag} {h : Heap} {mg : Str → Option Value} {fT f1 f2 f3 f4 f5 f6 f7 f8 f9 f10 f11 f12 f13 f14 f15 f16 f17 f18 f19 f20 f21 f22 f23 f24 f25 fa : Addr} {odT od1 an1 od2 an2 od3 an3 od4 an4 od5 an5 od6 an6 od7 an7 od8 an8 od9 an9 od10 an10 od11 an11 od12 an12 od13 an13 od14 an14 od15 an15 od16 an16 od17 an17 od18 an18 od19 an19 od20 an20 od21 an21 od22 an22 od23 an23 od24 an24 od25 an25 : Option Addr} {slT sl1 sl2 sl3 sl4 sl5 sl6 sl7 sl8 sl9 sl10 sl11 sl12 sl13 sl14 sl15 sl16 sl17 sl18 sl19 sl20 sl21 sl22 sl23 sl24 sl25 : Array (Option Value)} {ocT oc1 kV1 dc1 pm1 cd1 ct1 oc2 kV2 dc2 pm2 cd2 ct2 oc3 kV3 dc3 pm3 cd3 ct3 oc4 kV4 dc4 pm4 cd4 ct4 oc5 kV5 dc5 pm5 cd5 ct5 oc6 kV6 dc6 pm6 cd6 ct6 oc7 kV7 dc7 pm7 cd7 ct7 oc8 kV8 dc8 pm8 cd8 ct8 oc9 kV9 dc9 pm9 cd9 ct9 oc10 kV10 dc10 pm10 cd10 ct10 oc11 kV11 dc11 pm11 cd11 ct11 oc12 kV12 dc12 pm12 cd12 ct12 oc13 kV13 dc13 pm13 cd13 ct13 oc14 kV14 dc14 pm14 cd14 ct14 oc15 kV15 dc15 pm15 cd15 ct15 oc16 kV16 dc16 pm16 cd16 ct16 oc17 kV17 dc17 pm17 cd17 ct17 oc18 kV18 dc18 pm18 cd18 ct18 oc19 kV19 dc19 pm19 cd19 ct19 oc20 kV20 dc20 pm20 cd20 ct20 oc21 kV21 dc21 pm21 cd21 ct21 oc22 kV22 dc22 pm22 cd22 ct22 oc23 kV23 dc23 pm23 cd23 ct23 oc24 kV24 dc24 pm24 cd24 ct24 oc25 kV25 dc25 pm25 cd25 ct25 : Value} {epT : Nat} {h1 h2 h3 h4 : Int} {x1 x2 x3 x4 : Str} {t1 t2 t3 t4 u1 u2 u3 u4 : Tok} {fC fD : Addr} {q : Program} {cM Pt : Addr} {ocC : Value} {odC : Option Addr} {vsC : Array Value} {slC : Array (Option Value)} {dr : DefRec} (X : K.In h) (G : h.Ns mainGlobals mg) (hfa : mg "law" = some (.ref fa)) (hfr : ∃ lo, Free q lo mg)
    (a1 : PySem.W.nsIn K mainGlobals "ends_behind" = some (some (.ref f1))) (l1 : K.lookup f1 = some ⟨oc1, od1, .func (PySem.W.fnOf "ends_behind" "ends_behind" (defArgs sEnds) (defBody sEnds) (defScope sEnds) .none kV1 dc1 pm1 an1 cd1 ct1), sl1⟩) (c1 : PySem.W.codeIn K cd1 "ends_behind" = true) (k1 : PySem.W.keepIn K (.ref f1) = true)
    (a2 : PySem.W.nsIn K mainGlobals "joined" = some (some (.ref f2))) (l2 : K.lookup f2 = some ⟨oc2, od2, .func (PySem.W.fnOf "joined" "joined" (defArgs sJoined) (defBody sJoined) (defScope sJoined) .none kV2 dc2 pm2 an2 cd2 ct2), sl2⟩) (c2 : PySem.W.codeIn K cd2 "joined" = true) (k2 : PySem.W.keepIn K (.ref f2) = true)
    (a3 : PySem.W.nsIn K mainGlobals "either" = some (some (.ref f3))) (l3 : K.lookup f3 = some ⟨oc3, od3, .func (PySem.W.fnOf "either" "either" (defArgs sEither) (defBody sEither) (defScope sEither) .none kV3 dc3 pm3 an3 cd3 ct3), sl3⟩) (c3 : PySem.W.codeIn K cd3 "either" = true) (k3 : PySem.W.keepIn K (.ref f3) = true)
    (a4 : PySem.W.nsIn K mainGlobals "many" = some (some (.ref f4))) (l4 : K.lookup f4 = some ⟨oc4, od4, .func (PySem.W.fnOf "many" "many" (defArgs sMany) (defBody sMany) (defScope sMany) .none kV4 dc4 pm4 an4 cd4 ct4), sl4⟩) (c4 : PySem.W.codeIn K cd4 "many" = true) (k4 : PySem.W.keepIn K (.ref f4) = true)
    (a5 : PySem.W.nsIn K mainGlobals "bead_table" = some (some (.ref f5))) (l5 : K.lookup f5 = some ⟨oc5, od5, .func (PySem.W.fnOf "bead_table" "bead_table" (defArgs sBeadT) (defBody sBeadT) (defScope sBeadT) .none kV5 dc5 pm5 an5 cd5 ct5), sl5⟩) (c5 : PySem.W.codeIn K cd5 "bead_table" = true) (k5 : PySem.W.keepIn K (.ref f5) = true)
    (a6 : PySem.W.nsIn K mainGlobals "table_by" = some (some (.ref f6))) (l6 : K.lookup f6 = some ⟨oc6, od6, .func (PySem.W.fnOf "table_by" "table_by" (defArgs sBy) (defBody sBy) (defScope sBy) .none kV6 dc6 pm6 an6 cd6 ct6), sl6⟩) (c6 : PySem.W.codeIn K cd6 "table_by" = true) (k6 : PySem.W.keepIn K (.ref f6) = true)
    (a7 : PySem.W.nsIn K mainGlobals "taken_by" = some (some (.ref f7))) (l7 : K.lookup f7 = some ⟨oc7, od7, .func (PySem.W.fnOf "taken_by" "taken_by" (defArgs sTaken) (defBody sTaken) (defScope sTaken) .none kV7 dc7 pm7 an7 cd7 ct7), sl7⟩) (c7 : PySem.W.codeIn K cd7 "taken_by" = true) (k7 : PySem.W.keepIn K (.ref f7) = true)
    (a8 : PySem.W.nsIn K mainGlobals "fault" = some (some (.ref f8))) (l8 : K.lookup f8 = some ⟨oc8, od8, .func (PySem.W.fnOf "fault" "fault" (defArgs sFault) (defBody sFault) (defScope sFault) .none kV8 dc8 pm8 an8 cd8 ct8), sl8⟩) (c8 : PySem.W.codeIn K cd8 "fault" = true) (k8 : PySem.W.keepIn K (.ref f8) = true)
    (a9 : PySem.W.nsIn K mainGlobals "refuse_faulty" = some (some (.ref f9))) (l9 : K.lookup f9 = some ⟨oc9, od9, .func (PySem.W.fnOf "refuse_faulty" "refuse_faulty" (defArgs sRefuse) (defBody sRefuse) (defScope sRefuse) .none kV9 dc9 pm9 an9 cd9 ct9), sl9⟩) (c9 : PySem.W.codeIn K cd9 "refuse_faulty" = true) (k9 : PySem.W.keepIn K (.ref f9) = true)
    (a10 : PySem.W.nsIn K mainGlobals "table_of" = some (some (.ref f10))) (l10 : K.lookup f10 = some ⟨oc10, od10, .func (PySem.W.fnOf "table_of" "table_of" (defArgs sOf) (defBody sOf) (defScope sOf) .none kV10 dc10 pm10 an10 cd10 ct10), sl10⟩) (c10 : PySem.W.codeIn K cd10 "table_of" = true) (k10 : PySem.W.keepIn K (.ref f10) = true)
    (a11 : PySem.W.nsIn K mainGlobals "fits" = some (some (.ref f11))) (l11 : K.lookup f11 = some ⟨oc11, od11, .func (PySem.W.fnOf "fits" "fits" (defArgs sFits) (defBody sFits) (defScope sFits) .none kV11 dc11 pm11 an11 cd11 ct11), sl11⟩) (c11 : PySem.W.codeIn K cd11 "fits" = true) (k11 : PySem.W.keepIn K (.ref f11) = true)
    (a12 : PySem.W.nsIn K mainGlobals "matcher" = some (some (.ref f12))) (l12 : K.lookup f12 = some ⟨oc12, od12, .func (PySem.W.fnOf "matcher" "matcher" (defArgs sMatcher) (defBody sMatcher) (defScope sMatcher) .none kV12 dc12 pm12 an12 cd12 ct12), sl12⟩) (c12 : PySem.W.codeIn K cd12 "matcher" = true) (k12 : PySem.W.keepIn K (.ref f12) = true)
    (a13 : PySem.W.nsIn K mainGlobals "longest" = some (some (.ref f13))) (l13 : K.lookup f13 = some ⟨oc13, od13, .func (PySem.W.fnOf "longest" "longest" (defArgs sLongest) (defBody sLongest) (defScope sLongest) .none kV13 dc13 pm13 an13 cd13 ct13), sl13⟩) (c13 : PySem.W.codeIn K cd13 "longest" = true) (k13 : PySem.W.keepIn K (.ref f13) = true)
    (a14 : PySem.W.nsIn K mainGlobals "finds" = some (some (.ref f14))) (l14 : K.lookup f14 = some ⟨oc14, od14, .func (PySem.W.fnOf "finds" "finds" (defArgs sFinds) (defBody sFinds) (defScope sFinds) .none kV14 dc14 pm14 an14 cd14 ct14), sl14⟩) (c14 : PySem.W.codeIn K cd14 "finds" = true) (k14 : PySem.W.keepIn K (.ref f14) = true)
    (a15 : PySem.W.nsIn K mainGlobals "_law_whole" = some (some (.ref f15))) (l15 : K.lookup f15 = some ⟨oc15, od15, .func (PySem.W.fnOf "_law_whole" "_law_whole" (defArgs sWhole) (defBody sWhole) (defScope sWhole) .none kV15 dc15 pm15 an15 cd15 ct15), sl15⟩) (c15 : PySem.W.codeIn K cd15 "_law_whole" = true) (k15 : PySem.W.keepIn K (.ref f15) = true)
    (a16 : PySem.W.nsIn K mainGlobals "_law_at" = some (some (.ref f16))) (l16 : K.lookup f16 = some ⟨oc16, od16, .func (PySem.W.fnOf "_law_at" "_law_at" (defArgs sAt) (defBody sAt) (defScope sAt) .none kV16 dc16 pm16 an16 cd16 ct16), sl16⟩) (c16 : PySem.W.codeIn K cd16 "_law_at" = true) (k16 : PySem.W.keepIn K (.ref f16) = true)
    (a17 : PySem.W.nsIn K mainGlobals "_law_then" = some (some (.ref f17))) (l17 : K.lookup f17 = some ⟨oc17, od17, .func (PySem.W.fnOf "_law_then" "_law_then" (defArgs sThen) (defBody sThen) (defScope sThen) .none kV17 dc17 pm17 an17 cd17 ct17), sl17⟩) (c17 : PySem.W.codeIn K cd17 "_law_then" = true) (k17 : PySem.W.keepIn K (.ref f17) = true)
    (a18 : PySem.W.nsIn K mainGlobals "_law_repeated" = some (some (.ref f18))) (l18 : K.lookup f18 = some ⟨oc18, od18, .func (PySem.W.fnOf "_law_repeated" "_law_repeated" (defArgs sRep) (defBody sRep) (defScope sRep) .none kV18 dc18 pm18 an18 cd18 ct18), sl18⟩) (c18 : PySem.W.codeIn K cd18 "_law_repeated" = true) (k18 : PySem.W.keepIn K (.ref f18) = true)
    (a19 : PySem.W.nsIn K mainGlobals "_law_leaf" = some (some (.ref f19))) (l19 : K.lookup f19 = some ⟨oc19, od19, .func (PySem.W.fnOf "_law_leaf" "_law_leaf" (defArgs sLeaf) (defBody sLeaf) (defScope sLeaf) .none kV19 dc19 pm19 an19 cd19 ct19), sl19⟩) (c19 : PySem.W.codeIn K cd19 "_law_leaf" = true) (k19 : PySem.W.keepIn K (.ref f19) = true)
    (a20 : PySem.W.nsIn K mainGlobals "_law_grown" = some (some (.ref f20))) (l20 : K.lookup f20 = some ⟨oc20, od20, .func (PySem.W.fnOf "_law_grown" "_law_grown" (defArgs sGrown) (defBody sGrown) (defScope sGrown) .none kV20 dc20 pm20 an20 cd20 ct20), sl20⟩) (c20 : PySem.W.codeIn K cd20 "_law_grown" = true) (k20 : PySem.W.keepIn K (.ref f20) = true)
    (a21 : PySem.W.nsIn K mainGlobals "_law_marred" = some (some (.ref f21))) (l21 : K.lookup f21 = some ⟨oc21, od21, .func (PySem.W.fnOf "_law_marred" "_law_marred" (defArgs sMarred) (defBody sMarred) (defScope sMarred) .none kV21 dc21 pm21 an21 cd21 ct21), sl21⟩) (c21 : PySem.W.codeIn K cd21 "_law_marred" = true) (k21 : PySem.W.keepIn K (.ref f21) = true)
    (a22 : PySem.W.nsIn K mainGlobals "_law_expected" = some (some (.ref f22))) (l22 : K.lookup f22 = some ⟨oc22, od22, .func (PySem.W.fnOf "_law_expected" "_law_expected" (defArgs sExpected) (defBody sExpected) (defScope sExpected) .none kV22 dc22 pm22 an22 cd22 ct22), sl22⟩) (c22 : PySem.W.codeIn K cd22 "_law_expected" = true) (k22 : PySem.W.keepIn K (.ref f22) = true)
    (a23 : PySem.W.nsIn K mainGlobals "_law_refused" = some (some (.ref f23))) (l23 : K.lookup f23 = some ⟨oc23, od23, .func (PySem.W.fnOf "_law_refused" "_law_refused" (defArgs sRefused) (defBody sRefused) (defScope sRefused) .none kV23 dc23 pm23 an23 cd23 ct23), sl23⟩) (c23 : PySem.W.codeIn K cd23 "_law_refused" = true) (k23 : PySem.W.keepIn K (.ref f23) = true)
    (a24 : PySem.W.nsIn K mainGlobals "_law_base_tells" = some (some (.ref f24))) (l24 : K.lookup f24 = some ⟨oc24, od24, .func (PySem.W.fnOf "_law_base_tells" "_law_base_tells" (defArgs sBase) (defBody sBase) (defScope sBase) .none kV24 dc24 pm24 an24 cd24 ct24), sl24⟩) (c24 : PySem.W.codeIn K cd24 "_law_base_tells" = true) (k24 : PySem.W.keepIn K (.ref f24) = true)
    (a25 : PySem.W.nsIn K mainGlobals "law" = some (some (.ref f25))) (l25 : K.lookup f25 = some ⟨oc25, od25, .func (PySem.W.fnOf "law" "law" (defArgs sLaw) (defBody sLaw) (defScope sLaw) .none kV25 dc25 pm25 an25 cd25 ct25), sl25⟩) (c25 : PySem.W.codeIn K cd25 "law" = true) (k25 : PySem.W.keepIn K (.ref f25) = true)
    (aT : PySem.W.nsIn K mainGlobals "TAKEN" = some (some (.ref fT))) (lT : K.lookup fT = some ⟨ocT, odT, .dict #[⟨h1, .str x1 t1, .int 0 u1⟩, ⟨h2, .str x2 t2, .int 1 u2⟩, ⟨h3, .str x3 t3, .int 2 u3⟩, ⟨h4, .str x4 t4, .int 2 u4⟩] epT, slT⟩) (q1 : ocT = .type "dict") (q2 : odT = none) (q3 : slT = #[])
    (e1 : x1 = T [46]) (e2 : x2 = T [42]) (e3 : x3 = T [43]) (e4 : x4 = T [47]) (y1 : h1 = hashStr w x1) (y2 : h2 = hashStr w x2) (y3 : h3 = hashStr w x3) (y4 : h4 = hashStr w x4) (nT : (fT == sysModules) = false)
    (z1 : PySem.W.nsIn K mainGlobals "len" = some none) (z2 : PySem.W.nsIn K mainGlobals "range" = some none) (z3 : PySem.W.nsIn K mainGlobals "isinstance" = some none) (z4 : PySem.W.nsIn K mainGlobals "int" = some none) (z5 : PySem.W.nsIn K mainGlobals "bool" = some none) (z6 : PySem.W.nsIn K mainGlobals "list" = some none) (z7 : PySem.W.nsIn K mainGlobals "sorted" = some none) (z8 : PySem.W.nsIn K mainGlobals "set" = some none) (z9 : PySem.W.nsIn K mainGlobals "zip" = some none) (z10 : PySem.W.nsIn K mainGlobals "enumerate" = some none) (z11 : PySem.W.nsIn K mainGlobals "max" = some none) (z12 : PySem.W.nsIn K mainGlobals "min" = some none) (z13 : PySem.W.nsIn K mainGlobals "tuple" = some none)
    (eM : cd12 = .ref cM) (lC : K.lookup cM = some ⟨ocC, odC, .fields vsC, slC⟩) (eP : vsC[11]? = some (.ref Pt)) (hC : PySem.W.codeHdIn K cM Pt = true) (hnt : PySem.W.noTabs K = true) (rc : (PyProof.Rows.recsOf q).find? (fun e => e.name == ("matcher" : Str)) = some dr)
    (aC : PySem.W.nsIn K mainGlobals "NoPattern" = some (some (.ref fC))) (aD : PySem.W.nsIn K mainGlobals "BeadError" = some (some (.ref fD))) (qC : PySem.W.excIn K fC [.type "ValueError", .type "Exception", .type "BaseException", .type "object"] "ValueError.__new__" = true) (hx1 : PySem.W.exmOne K (.ref fC) (.ref fC) = some true) (hx2 : PySem.W.exmOne K (.ref fC) (.ref fD) = some true) (hv : PySem.W.kitCls K (.ref fC) (.type "ValueError") = some true) (zV : PySem.W.nsIn K mainGlobals "ValueError" = some none) :
    ∃ (fd : FuncData) (c Pt : Addr) (dr : DefRec), (∀ (s : Shared) (v : Value), BindsTo s fd ⟨[v], []⟩ [("_law_script", v)]) ∧ (PyProof.Rows.recsOf q).find? (fun e => e.name == ("matcher" : Str)) = some dr ∧ PySem.W.tabIn K "matcher" = some (c, Pt) ∧ PySem.W.noTabs K = true ∧ ∀ base : Heap, Mod K mg base → BmAt mg base → FnOk l.prog w K mg base CX0 7 fa fd ["_law_script"] (spLawT K Pt) := by
  have e := hfa.symm.trans (PySem.W.mg_of X G a25)
  cases e
  have T : Txt mg := ⟨PySem.W.mg_none_of X G z1, PySem.W.mg_none_of X G z2, PySem.W.mg_none_of X G z3, PySem.W.mg_none_of X G z4, PySem.W.mg_none_of X G z5, PySem.W.mg_none_of X G z6, PySem.W.mg_none_of X G z7, PySem.W.mg_none_of X G z8, PySem.W.mg_none_of X G z9, PySem.W.mg_none_of X G z10, PySem.W.mg_none_of X G z11, PySem.W.mg_none_of X G z12, PySem.W.mg_none_of X G z13⟩
  have KT : KD l.prog w K fT TK := kd_mk lT q1 q2 q3 e1 e2 e3 e4 y1 y2 y3 y4 nT
  have mT := PySem.W.mg_of X G aT
  have F1 := fun_mk (st := sEnds) l1 c1 k1
  have b1 := F1.binds (ps := ["places", "table"]) fun _ _ _ _ _ _ us hl => match us, hl with | [_, _], _ => rfl
  have m1 := PySem.W.mg_of X G a1
  have F2 := fun_mk (st := sJoined) l2 c2 k2
  have b2 := F2.binds (ps := ["first", "second"]) fun _ _ _ _ _ _ us hl => match us, hl with | [_, _], _ => rfl
  have m2 := PySem.W.mg_of X G a2
  have F3 := fun_mk (st := sEither) l3 c3 k3
  have b3 := F3.binds (ps := ["one", "other"]) fun _ _ _ _ _ _ us hl => match us, hl with | [_, _], _ => rfl
  have m3 := PySem.W.mg_of X G a3
  have F4 := fun_mk (st := sMany) l4 c4 k4
  have b4 := F4.binds (ps := ["told"]) fun _ _ _ _ _ _ us hl => match us, hl with | [_], _ => rfl
  have m4 := PySem.W.mg_of X G a4
  have F5 := fun_mk (st := sBeadT) l5 c5 k5
  have b5 := F5.binds (ps := ["sign", "beads"]) fun _ _ _ _ _ _ us hl => match us, hl with | [_, _], _ => rfl
  have m5 := PySem.W.mg_of X G a5
  have F6 := fun_mk (st := sBy) l6 c6 k6
  have b6 := F6.binds (ps := ["sign", "taken", "beads"]) fun _ _ _ _ _ _ us hl => match us, hl with | [_, _, _], _ => rfl
  have m6 := PySem.W.mg_of X G a6
  have F7 := fun_mk (st := sTaken) l7 c7 k7
  have b7 := F7.binds (ps := ["sign"]) fun _ _ _ _ _ _ us hl => match us, hl with | [_], _ => rfl
  have m7 := PySem.W.mg_of X G a7
  have F8 := fun_mk (st := sFault) l8 c8 k8
  have b8 := F8.binds (ps := ["text"]) fun _ _ _ _ _ _ us hl => match us, hl with | [_], _ => rfl
  have m8 := PySem.W.mg_of X G a8
  have F9 := fun_mk (st := sRefuse) l9 c9 k9
  have b9 := F9.binds (ps := ["text"]) fun _ _ _ _ _ _ us hl => match us, hl with | [_], _ => rfl
  have m9 := PySem.W.mg_of X G a9
  have F10 := fun_mk (st := sOf) l10 c10 k10
  have b10 := F10.binds (ps := ["text", "beads"]) fun _ _ _ _ _ _ us hl => match us, hl with | [_, _], _ => rfl
  have m10 := PySem.W.mg_of X G a10
  have F11 := fun_mk (st := sFits) l11 c11 k11
  have b11 := F11.binds (ps := ["text", "beads"]) fun _ _ _ _ _ _ us hl => match us, hl with | [_, _], _ => rfl
  have m11 := PySem.W.mg_of X G a11
  have F12 := fun_mk (st := sMatcher) l12 c12 k12
  have b12 := F12.binds (ps := ["text"]) fun _ _ _ _ _ _ us hl => match us, hl with | [_], _ => rfl
  have m12 := PySem.W.mg_of X G a12
  have F13 := fun_mk (st := sLongest) l13 c13 k13
  have b13 := F13.binds (ps := ["text", "beads"]) fun _ _ _ _ _ _ us hl => match us, hl with | [_, _], _ => rfl
  have m13 := PySem.W.mg_of X G a13
  have F14 := fun_mk (st := sFinds) l14 c14 k14
  have b14 := F14.binds (ps := ["text", "beads"]) fun _ _ _ _ _ _ us hl => match us, hl with | [_, _], _ => rfl
  have m14 := PySem.W.mg_of X G a14
  have F15 := fun_mk (st := sWhole) l15 c15 k15
  have b15 := F15.binds (ps := ["_law_found"]) fun _ _ _ _ _ _ us hl => match us, hl with | [_], _ => rfl
  have m15 := PySem.W.mg_of X G a15
  have F16 := fun_mk (st := sAt) l16 c16 k16
  have b16 := F16.binds (ps := ["_law_script", "_law_k"]) fun _ _ _ _ _ _ us hl => match us, hl with | [_, _], _ => rfl
  have m16 := PySem.W.mg_of X G a16
  have F17 := fun_mk (st := sThen) l17 c17 k17
  have b17 := F17.binds (ps := ["_law_low", "_law_high", "_law_most"]) fun _ _ _ _ _ _ us hl => match us, hl with | [_, _, _], _ => rfl
  have m17 := PySem.W.mg_of X G a17
  have F18 := fun_mk (st := sRep) l18 c18 k18
  have b18 := F18.binds (ps := ["_law_low", "_law_pick", "_law_most"]) fun _ _ _ _ _ _ us hl => match us, hl with | [_, _, _], _ => rfl
  have m18 := PySem.W.mg_of X G a18
  have F19 := fun_mk (st := sLeaf) l19 c19 k19
  have b19 := F19.binds (ps := ["_law_way", "_law_pick"]) fun _ _ _ _ _ _ us hl => match us, hl with | [_, _], _ => rfl
  have m19 := PySem.W.mg_of X G a19
  have F20 := fun_mk (st := sGrown) l20 c20 k20
  have b20 := F20.binds (ps := ["_law_cells", "_law_most"]) fun _ _ _ _ _ _ us hl => match us, hl with | [_, _], _ => rfl
  have m20 := PySem.W.mg_of X G a20
  have F21 := fun_mk (st := sMarred) l21 c21 k21
  have b21 := F21.binds (ps := ["_law_line", "_law_way", "_law_spot", "_law_cell"]) fun _ _ _ _ _ _ us hl => match us, hl with | [_, _, _, _], _ => rfl
  have m21 := PySem.W.mg_of X G a21
  have F22 := fun_mk (st := sExpected) l22 c22 k22
  have b22 := F22.binds (ps := ["_law_line"]) fun _ _ _ _ _ _ us hl => match us, hl with | [_], _ => rfl
  have m22 := PySem.W.mg_of X G a22
  have F23 := fun_mk (st := sRefused) l23 c23 k23
  have b23 := F23.binds (ps := ["_law_way", "_law_line", "_law_beads"]) fun _ _ _ _ _ _ us hl => match us, hl with | [_, _, _], _ => rfl
  have m23 := PySem.W.mg_of X G a23
  have F24 := fun_mk (st := sBase) l24 c24 k24
  have b24 := F24.binds (ps := ["_law_line"]) fun _ _ _ _ _ _ us hl => match us, hl with | [_], _ => rfl
  have m24 := PySem.W.mg_of X G a24
  have F25 := fun_mk (st := sLaw) l25 c25 k25
  have b25 := F25.binds (ps := ["_law_script"]) fun _ _ _ _ _ _ us hl => match us, hl with | [_], _ => rfl
  have m25 := PySem.W.mg_of X G a25
  refine ⟨PySem.W.fnOf "law" "law" (defArgs sLaw) (defBody sLaw) (defScope sLaw) .none kV25 dc25 pm25 an25 cd25 ct25, cM, Pt, dr, fun s v => .of_eq rfl, rc, tab_mk a12 l12 eM lC eP, hnt, fun base MB BM => ?_⟩
  have mC := PySem.W.mg_of X G aC
  have mD := PySem.W.mg_of X G aD
  have mV := PySem.W.mg_none_of X G zV
  have O : OwnCls "NoPattern" fC [.type "ValueError", .type "Exception", .type "BaseException", .type "object"] "ValueError.__new__" mg base := by
    obtain ⟨mb, b1, b2⟩ := MB.blt
    obtain ⟨lo, hf⟩ := hfr
    exact PySem.W.own_of_in (p := q) (loose := lo) MB.kin ⟨MB.glob, b1, MB.nolimit, b2, hf⟩ aC qC
  have C1 := Callee.mk (P := l.prog) (w := w) (base := base) (ok_ends F1 T) b1 k1 m1
  have C2 := Callee.mk (P := l.prog) (w := w) (base := base) (ok_joined F2 (ok_ends F1 T) b1 k1 m1) b2 k2 m2
  have C3 := Callee.mk (P := l.prog) (w := w) (base := base) (ok_either F3 T) b3 k3 m3
  have C4 := Callee.mk (P := l.prog) (w := w) (base := base) (ok_many F4 T (ok_ends F1 T) b1 k1 m1) b4 k4 m4
  have C5 := Callee.mk (P := l.prog) (w := w) (base := base) (ok_beadT F5 T) b5 k5 m5
  have C6 := Callee.mk (P := l.prog) (w := w) (base := base) (ok_by F6 C2 C3 C4 C5) b6 k6 m6
  have C7 := Callee.mk (P := l.prog) (w := w) (base := base) (ok_taken F7 KT mT) b7 k7 m7
  have C8 := Callee.mk (P := l.prog) (w := w) (base := base) (ok_fault F8 T (ok_taken F7 KT mT) b7 k7 m7) b8 k8 m8
  have C9 := Callee.mk (P := l.prog) (w := w) (base := base) (ok_refuse F9 (ok_fault F8 T (ok_taken F7 KT mT) b7 k7 m7) b8 k8 m8) b9 k9 m9
  have C10 := Callee.mk (P := l.prog) (w := w) (base := base) (ok_of F10 T C9 C7 C6) b10 k10 m10
  have C11 := Callee.mk (P := l.prog) (w := w) (base := base) (ok_fits F11 T C10) b11 k11 m11
  have C12 := Callee.mk (P := l.prog) (w := w) (base := base) (ok_matcher l12 c12 eM hC BM C9) b12 k12 m12
  have C13 := Callee.mk (P := l.prog) (w := w) (base := base) (ok_longest F13 T C10) b13 k13 m13
  have C14 := Callee.mk (P := l.prog) (w := w) (base := base) (ok_finds F14 T C10) b14 k14 m14
  have C15 := Callee.mk (P := l.prog) (w := w) (base := base) (ok_whole F15 T) b15 k15 m15
  have C16 := Callee.mk (P := l.prog) (w := w) (base := base) (ok_at F16 T) b16 k16 m16
  have C17 := Callee.mk (P := l.prog) (w := w) (base := base) (ok_then F17 T) b17 k17 m17
  have C18 := Callee.mk (P := l.prog) (w := w) (base := base) (ok_rep F18 T) b18 k18 m18
  have C19 := Callee.mk (P := l.prog) (w := w) (base := base) (ok_leaf F19 T) b19 k19 m19
  have C20 := Callee.mk (P := l.prog) (w := w) (base := base) (ok_grown F20 T C18 C17 C19) b20 k20 m20
  have C21 := Callee.mk (P := l.prog) (w := w) (base := base) (ok_marred F21 T) b21 k21 m21
  have C22 := Callee.mk (P := l.prog) (w := w) (base := base) (ok_expected F22 T) b22 k22 m22
  have N1 := CalleeX.mk (P := l.prog) (w := w) (base := base) (bad_refuse F9 C8.ok b8 k8 m8 O) b9 k9 m9
  have N2 := CalleeX.mk (P := l.prog) (w := w) (base := base) (bad_of F10 N1) b10 k10 m10
  have XM := CalleeX.mk (P := l.prog) (w := w) (base := base) (sp := orB (spMatcher Pt) (spBad1 fC)) (FnOk.two C12.ok (bad_matcher F12 N1)) b12 k12 m12
  have XL := CalleeX.mk (P := l.prog) (w := w) (base := base) (sp := orB spLongest (spBad2 fC)) (FnOk.two C13.ok (bad_longest F13 N2)) b13 k13 m13
  have XD := CalleeX.mk (P := l.prog) (w := w) (base := base) (sp := orB spFinds (spBad2 fC)) (FnOk.two C14.ok (bad_finds F14 N2)) b14 k14 m14
  have XF := CalleeX.mk (P := l.prog) (w := w) (base := base) (sp := orB spFits (spBad2 fC)) (FnOk.two C11.ok (bad_fits F11 T N2)) b11 k11 m11
  have XO := CalleeX.mk (P := l.prog) (w := w) (base := base) (sp := orB spOf (spBad2 fC)) (FnOk.two C10.ok (bad_of F10 N1)) b10 k10 m10
  have C23 := Callee.mk (P := l.prog) (w := w) (base := base) (ok_refused F23 XM XL XD XF XO mC hx1) b23 k23 m23
  have C24 := Callee.mk (P := l.prog) (w := w) (base := base) (ok_base F24 T mV XD mD hx2 hv) b24 k24 m24
  exact ok_law F25 T C15 C16 C20 C21 C22 C24 C8 C23
theorem walk {l : PySem.W.OpenLaw} {q : Program} {loose : List Str} {XP : (Str → Option Value) → Heap → Prop} {YP : World → Heap → Prop} {d : DefRec} {K : Params → PySem.W.Frag} (hn : l.most = some 63) (hdf : d.params.defaults = [])
    (hY : ∀ (w : World) (h : Heap), YP w h → (K w.params).In h)
    (F : ∀ (w : World) (mg : Str → Option Value) (fa : Addr) (h : Heap), (K w.params).In h → h.Ns mainGlobals mg → mg d.name = some (.ref fa) → (∃ lo, Free q lo mg) →
      ∃ (fd : FuncData) (c Pt : Addr) (dr : DefRec), (∀ (s : Shared) (u : Value), BindsTo s fd ⟨[u], []⟩ [("_law_script", u)]) ∧ (PyProof.Rows.recsOf q).find? (fun e => e.name == ("matcher" : Str)) = some dr ∧ PySem.W.tabIn (K w.params) "matcher" = some (c, Pt) ∧ PySem.W.noTabs (K w.params) = true ∧
        ∀ base : Heap, Mod (K w.params) mg base → BmAt mg base → FnOk l.prog w (K w.params) mg base CX0 7 fa fd ["_law_script"] (spLawT (K w.params) Pt)) :
    PySem.W.WalkO q loose XP YP l.row.toRowW d [] (fun f vs => PySem.call f vs) :=
  L2.walk_ofE (n := 63) (k := 7) (x := "_law_script") (y := "matcher") (CX := fun _ => CX0) (sp := fun w Pt => spLawT (K w.params) Pt) hn (by decide) hdf ⟨rfl, by decide, by decide⟩ hY F (fun _ Pt _ a ns hl hS hT => ⟨a, ns, rfl, hS, hl, hT, fun _ => rfl⟩) fun _ _ _ _ _ z => z
end B
open PySem PySem.W PyProof.Rows
set_option maxRecDepth 100000 in
set_option maxHeartbeats 0 in
theorem PySem.Challenge.cw_beadfit_k01_first_fault_holds : PySem.Challenge.rw_beadfit_k01_first_fault.Holds := by
  w_on; o_law; k_head; (case hw => w_witness2)
  k_fill
  refine B.walk (l := PySem.Challenge.rw_beadfit_k01_first_fault) rfl rfl (fun w h Y => PySem.W.km_in_of Y) ?F
  case F =>
    intro w mg fa h KX G hmg hfr
    refine' B.all_mk KX G hmg hfr ?a1 ?l1 ?c1 ?k1 ?a2 ?l2 ?c2 ?k2 ?a3 ?l3 ?c3 ?k3 ?a4 ?l4 ?c4 ?k4 ?a5 ?l5 ?c5 ?k5 ?a6 ?l6 ?c6 ?k6 ?a7 ?l7 ?c7 ?k7 ?a8 ?l8 ?c8 ?k8 ?a9 ?l9 ?c9 ?k9 ?a10 ?l10 ?c10 ?k10 ?a11 ?l11 ?c11 ?k11 ?a12 ?l12 ?c12 ?k12 ?a13 ?l13 ?c13 ?k13 ?a14 ?l14 ?c14 ?k14 ?a15 ?l15 ?c15 ?k15 ?a16 ?l16 ?c16 ?k16 ?a17 ?l17 ?c17 ?k17 ?a18 ?l18 ?c18 ?k18 ?a19 ?l19 ?c19 ?k19 ?a20 ?l20 ?c20 ?k20 ?a21 ?l21 ?c21 ?k21 ?a22 ?l22 ?c22 ?k22 ?a23 ?l23 ?c23 ?k23 ?a24 ?l24 ?c24 ?k24 ?a25 ?l25 ?c25 ?k25 ?aT ?lT ?q1 ?q2 ?q3 ?e1 ?e2 ?e3 ?e4 ?y1 ?y2 ?y3 ?y4 ?nT ?z1 ?z2 ?z3 ?z4 ?z5 ?z6 ?z7 ?z8 ?z9 ?z10 ?z11 ?z12 ?z13 ?eM ?lC ?eP ?hC ?hnt ?rc ?aC ?aD ?qC ?hx1 ?hx2 ?hv ?zV
    (case a1 => k_is)
    (case l1 => k_is)
    (case c1 => k_is)
    (case k1 => k_is)
    (case a2 => k_is)
    (case l2 => k_is)
    (case c2 => k_is)
    (case k2 => k_is)
    (case a3 => k_is)
    (case l3 => k_is)
    (case c3 => k_is)
    (case k3 => k_is)
    (case a4 => k_is)
    (case l4 => k_is)
    (case c4 => k_is)
    (case k4 => k_is)
    (case a5 => k_is)
    (case l5 => k_is)
    (case c5 => k_is)
    (case k5 => k_is)
    (case a6 => k_is)
    (case l6 => k_is)
    (case c6 => k_is)
    (case k6 => k_is)
    (case a7 => k_is)
    (case l7 => k_is)
    (case c7 => k_is)
    (case k7 => k_is)
    (case a8 => k_is)
    (case l8 => k_is)
    (case c8 => k_is)
    (case k8 => k_is)
    (case a9 => k_is)
    (case l9 => k_is)
    (case c9 => k_is)
    (case k9 => k_is)
    (case a10 => k_is)
    (case l10 => k_is)
    (case c10 => k_is)
    (case k10 => k_is)
    (case a11 => k_is)
    (case l11 => k_is)
    (case c11 => k_is)
    (case k11 => k_is)
    (case a12 => k_is)
    (case l12 => k_is)
    (case c12 => k_is)
    (case k12 => k_is)
    (case a13 => k_is)
    (case l13 => k_is)
    (case c13 => k_is)
    (case k13 => k_is)
    (case a14 => k_is)
    (case l14 => k_is)
    (case c14 => k_is)
    (case k14 => k_is)
    (case a15 => k_is)
    (case l15 => k_is)
    (case c15 => k_is)
    (case k15 => k_is)
    (case a16 => k_is)
    (case l16 => k_is)
    (case c16 => k_is)
    (case k16 => k_is)
    (case a17 => k_is)
    (case l17 => k_is)
    (case c17 => k_is)
    (case k17 => k_is)
    (case a18 => k_is)
    (case l18 => k_is)
    (case c18 => k_is)
    (case k18 => k_is)
    (case a19 => k_is)
    (case l19 => k_is)
    (case c19 => k_is)
    (case k19 => k_is)
    (case a20 => k_is)
    (case l20 => k_is)
    (case c20 => k_is)
    (case k20 => k_is)
    (case a21 => k_is)
    (case l21 => k_is)
    (case c21 => k_is)
    (case k21 => k_is)
    (case a22 => k_is)
    (case l22 => k_is)
    (case c22 => k_is)
    (case k22 => k_is)
    (case a23 => k_is)
    (case l23 => k_is)
    (case c23 => k_is)
    (case k23 => k_is)
    (case a24 => k_is)
    (case l24 => k_is)
    (case c24 => k_is)
    (case k24 => k_is)
    (case a25 => k_is)
    (case l25 => k_is)
    (case c25 => k_is)
    (case k25 => k_is)
    (case aT => k_is)
    (case lT => k_is)
    (case q1 => first | rfl | decide +kernel)
    (case q2 => first | rfl | decide +kernel)
    (case q3 => first | rfl | decide +kernel)
    (case e1 => first | rfl | decide +kernel)
    (case e2 => first | rfl | decide +kernel)
    (case e3 => first | rfl | decide +kernel)
    (case e4 => first | rfl | decide +kernel)
    (case y1 => first | rfl | decide +kernel)
    (case y2 => first | rfl | decide +kernel)
    (case y3 => first | rfl | decide +kernel)
    (case y4 => first | rfl | decide +kernel)
    (case nT => first | rfl | decide +kernel)
    (case z1 => k_is)
    (case z2 => k_is)
    (case z3 => k_is)
    (case z4 => k_is)
    (case z5 => k_is)
    (case z6 => k_is)
    (case z7 => k_is)
    (case z8 => k_is)
    (case z9 => k_is)
    (case z10 => k_is)
    (case z11 => k_is)
    (case z12 => k_is)
    (case z13 => k_is)
    (case eM => rfl)
    (case lC => k_is)
    (case eP => rfl)
    (case hC => kernel_rfl)
    (case hnt => kernel_rfl)
    (case rc => rfl)
    (case aC => k_is)
    (case aD => k_is)
    (case qC => kernel_rfl)
    (case hx1 => kernel_rfl)
    (case hx2 => kernel_rfl)
    (case hv => kernel_rfl)
    (case zV => k_is)


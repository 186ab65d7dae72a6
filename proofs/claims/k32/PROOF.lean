import PyProof.Rows.All
import Wide.All
import OpenK.AllK
import Wide.FinOn
import PyProof.EqAt
import PyProof.EqKinds
import PyProof.TupleCall
import KE.BitLaws
import KE.KUnpack
import KE.KLam
import PyProof.Rows.IntBool
import PyProof.DictCompW
import KE.KDictSum
import PyProof.P3In
import PyProof.Rows.SetFrom
import KE.KUnpackStar
import PyProof.ListMulRoad
import PyProof.AutoSeq1
import PyProof.ListRange
import KE.KSortTupUse
import KE.KSortKeySt
import KE.KBoundM
import KE.KStar
import KE.KEqDict
import PySem.Challenge.RW_flashkeep_k32_wear_refused
set_option Elab.async false
set_option linter.all false
set_option maxRecDepth 100000
namespace L2
open PySem PySem.Spec PyProof.Rows

/-- a key: an int or a str -/
abbrev Key := Sum Int Str
def keyIs : Key → Value → Bool
  | .inl k, v => Value.isInt k v
  | .inr x, v => Value.isStrOf x v
def keyH (w : World) : Key → Int
  | .inl k => hashInt k
  | .inr x => hashStr w x
theorem keyIs_shape : ∀ {k : Key} {v : Value}, keyIs k v = true → (∃ i t, k = Sum.inl i ∧ v = Value.int i t) ∨ (∃ x t, k = Sum.inr x ∧ v = Value.str x t)
  | .inl i, v, h => by
    obtain ⟨t, e⟩ := Value.isInt_shape (k := i) (v := v) h
    exact .inl ⟨i, t, rfl, e⟩
  | .inr x, v, h => by
    obtain ⟨t, e⟩ := Value.isStrOf_shape (x := x) (v := v) h
    exact .inr ⟨x, t, rfl, e⟩
theorem keyIs_int (i : Int) (t : Tok) : keyIs (.inl i) (.int i t) = true := by simp [keyIs, Value.isInt]
theorem keyIs_str (x : Str) (t : Tok) : keyIs (.inr x) (.str x t) = true := by simp [keyIs, Value.isStrOf]
theorem key_ll (a b : Int) : decide ((Sum.inl a : Key) = Sum.inl b) = (a == b) := by
  by_cases e : a = b
  · subst e; simp
  · have h : ¬ (Sum.inl a : Key) = Sum.inl b := fun q => e (Sum.inl.inj q)
    rw [decide_eq_false h]
    exact (beq_eq_false_iff_ne.mpr e).symm
theorem key_rr (a b : Str) : decide ((Sum.inr a : Key) = Sum.inr b) = decide (a = b) := by
  by_cases e : a = b
  · subst e; simp
  · have h : ¬ (Sum.inr a : Key) = Sum.inr b := fun q => e (Sum.inr.inj q)
    rw [decide_eq_false h, decide_eq_false e]
theorem key_lr (a : Int) (b : Str) : decide ((Sum.inl a : Key) = Sum.inr b) = false := decide_eq_false (fun q => nomatch q)
theorem key_rl (a : Str) (b : Int) : decide ((Sum.inr a : Key) = Sum.inl b) = false := decide_eq_false (fun q => nomatch q)

def mixKind (prog : Program) (w : World) : PySem.KeyKind prog w Key where
  is := keyIs
  hash := keyH w
  inj := fun v a b ha hb => by
    rcases keyIs_shape ha with ⟨i, t, rfl, rfl⟩ | ⟨x, t, rfl, rfl⟩
    · rcases keyIs_shape hb with ⟨j, u, rfl, e⟩ | ⟨y, u, rfl, e⟩
      · injection e with e1 _; rw [e1]
      · exact nomatch e
    · rcases keyIs_shape hb with ⟨j, u, rfl, e⟩ | ⟨y, u, rfl, e⟩
      · exact nomatch e
      · injection e with e1 _; rw [e1]
  byValue := fun k v h => by
    rcases keyIs_shape h with ⟨i, t, rfl, rfl⟩ | ⟨x, t, rfl, rfl⟩ <;> rfl
  pyHash := fun hv h => by
    rcases keyIs_shape hv with ⟨i, t, rfl, rfl⟩ | ⟨x, t, rfl, rfl⟩
    · exact wpAny_pyHash_int h
    · exact wpAny_pyHash_str h
  eqBool := fun hu hv h => by
    rcases keyIs_shape hu with ⟨i, t, rfl, rfl⟩ | ⟨x, t, rfl, rfl⟩
    · rcases keyIs_shape hv with ⟨j, u, rfl, rfl⟩ | ⟨y, u, rfl, rfl⟩
      · rw [key_ll] at h; exact wpAny_eqBool_int h
      · rw [key_lr] at h; exact SeqAt.EqAt.int_str i t y u _ _ _ _ h
    · rcases keyIs_shape hv with ⟨j, u, rfl, rfl⟩ | ⟨y, u, rfl, rfl⟩
      · rw [key_rl] at h; exact SeqAt.EqAt.str_int x t j u _ _ _ _ h
      · rw [key_rr] at h; exact wpAny_eqBool_str h
  «strs» := fun k x t v h => by
    rcases keyIs_shape h with ⟨i, u, rfl, e⟩ | ⟨y, u, rfl, e⟩
    · exact nomatch e
    · injection e with e1 _
      subst e1
      cases v <;> rfl

theorem mixKind_int (prog : Program) (w : World) (i : Int) (t : Tok) : (mixKind prog w).is (.inl i) (.int i t) = true := keyIs_int i t
theorem mixKind_str (prog : Program) (w : World) (x : Str) (t : Tok) : (mixKind prog w).is (.inr x) (.str x t) = true := keyIs_str x t
end L2

namespace L2
open PySem PySem.Spec PyProof.Rows

/-- a value, without the heap -/
inductive V where
  | non | bl (b : Bool) | int (i : Int) | str (x : Str) | byt (b : Array UInt8) | flt (b : UInt64) | ref (a : Addr) | ty (n : String)
  deriving DecidableEq

def RelV : V → Value → Prop
  | .non, u => u = Value.none
  | .bl b, u => u = Value.bool b
  | .int i, u => ∃ t, u = Value.int i t
  | .str x, u => ∃ t, u = Value.str x t
  | .byt b, u => ∃ t, u = Value.bytes b t
  | .flt b, u => ∃ t, u = Value.float b t
  | .ref a, u => u = Value.ref a
  | .ty n, u => u = Value.type n

abbrev Vals : List V → List Value → Prop := Paired RelV
theorem Vals.length {xs : List V} {us : List Value} (r : Vals xs us) : xs.length = us.length := Paired.length r
theorem Vals.get : ∀ {xs : List V} {us : List Value} {i : Nat} {x : V}, Vals xs us → xs[i]? = some x → ∃ u, us[i]? = some u ∧ RelV x u
  | _, _, _, _, .nil, e => by simp at e
  | _, _, 0, _, .cons r _, e => by simp at e; subst e; exact ⟨_, rfl, r⟩
  | _, _, i + 1, x, .cons _ t, e => by
    obtain ⟨u, h1, h2⟩ := Vals.get (i := i) (x := x) t (by simpa using e)
    exact ⟨u, by simpa using h1, h2⟩
theorem Vals.set {x : V} {u : Value} (r : RelV x u) : ∀ {xs : List V} {us : List Value} (i : Nat), Vals xs us → Vals (xs.set i x) (us.set i u)
  | _, _, _, .nil => .nil
  | _, _, 0, .cons _ t => .cons r t
  | _, _, i + 1, .cons q t => .cons q (Vals.set r i t)
theorem Vals.append : ∀ {xs ys : List V} {us ws : List Value}, Vals xs us → Vals ys ws → Vals (xs ++ ys) (us ++ ws)
  | _, _, _, _, .nil, s => s
  | _, _, _, _, .cons r t, s => .cons r (Vals.append t s)
theorem Vals.take : ∀ {xs : List V} {us : List Value} (n : Nat), Vals xs us → Vals (xs.take n) (us.take n)
  | _, _, 0, _ => .nil
  | _, _, _ + 1, .nil => .nil
  | _, _, n + 1, .cons r t => .cons r (Vals.take n t)
theorem Vals.drop : ∀ {xs : List V} {us : List Value} (n : Nat), Vals xs us → Vals (xs.drop n) (us.drop n)
  | _, _, 0, r => r
  | _, _, _ + 1, .nil => .nil
  | _, _, n + 1, .cons _ t => Vals.drop n t
theorem Vals.none_of : ∀ {xs : List V} {us : List Value} {i : Nat}, Vals xs us → xs[i]? = none → us[i]? = none := fun {xs us i} r e => by
  have h1 := r.length
  have h2 : xs.length ≤ i := List.getElem?_eq_none_iff.mp e
  exact List.getElem?_eq_none_iff.mpr (by omega)

def RelO : Option V → Option Value → Prop
  | some v, some u => RelV v u
  | none, none => True
  | _, _ => False
def KV {κ : Type} : List (κ × V) → List (κ × Value) → Prop := Paired fun (p : κ × V) (q : κ × Value) => p.1 = q.1 ∧ RelV p.2 q.2

/-- a key of a dict (00_mix): an int or a text -/
def kV : Key → V
  | .inl i => .int i
  | .inr x => .str x

/-- what stands at a tracked address -/
inductive HO where
  /-- a list -/
  | lst (xs : List V)
  /-- a tuple (never changes) -/
  | tup (xs : List V)
  /-- a dict whose keys are ints and texts; one whose keys are tuples of ints and texts (the empty one is both) -/
  | dK (kvs : List (Key × V)) | dT (kvs : List (List Key × V))
  /-- a set of ints: its members, its size -/
  | set (S : Int → Bool) (n : Nat)
  /-- an instance of the class at C, its dict at dx, its attributes -/
  | ins (C dx : Addr) (fs : List (Str × V))
  /-- the dict of the instance at x -/
  | own (x : Addr)
  /-- the dict of an exception -/
  | xd (fs : List (Str × V))
  /-- a bound method, f of x -/
  | met (f x : Addr)
  /-- a range object lo, lo + 1, .. below hi -/
  | rng (lo hi : Int)
  /-- a thing that is known to the object (the script; a dict while a loop walks it): read, never written while it is so -/
  | frz (o : Obj) (u : HO)
  /-- a code object's table -/
  | tbl (ps : Array Value)
  /-- any other thing, by what is true of its one object (a def of one's own: SetO a S n := HO.ext fun h => ..) -/
  | ext (φ : Heap → Prop)

abbrev Hp := Addr → Option HO
def upd (H : Hp) (a : Addr) (o : HO) : Hp := fun b => if b = a then some o else H b
theorem upd_same {H : Hp} {a : Addr} {o : HO} : upd H a o a = some o := by unfold upd; rw [if_pos rfl]
theorem upd_ne {H : Hp} {a b : Addr} {o : HO} (h : b ≠ a) : upd H a o b = H b := by unfold upd; rw [if_neg h]
theorem upd_upd {H : Hp} {a : Addr} {o u : HO} : upd (upd H a o) a u = upd H a u := by
  funext b; unfold upd; split <;> rfl
/-- two objects of different content stand apart -/
theorem ne_of {H : Hp} {a b : Addr} {o u : HO} (h : H a = some o) (h' : H b = some u) (d : o ≠ u) : a ≠ b := by
  intro e; subst e; rw [h] at h'; exact d (Option.some.inj h')
theorem ne_of_none {H : Hp} {a b : Addr} {o : HO} (h : H a = some o) (h' : H b = none) : a ≠ b := by
  intro e; subst e; rw [h] at h'; cases h'

section
variable (P : Program) (w : World)
def ObjOk (H : Hp) (h : Heap) (a : Addr) : HO → Prop
  | .lst xs => xs.length ≤ sizeLine ∧ ∃ (its : List Value) (n : Nat), Vals xs its ∧ h.get? a = some { cls := .type "list", data := .seq its.toArray n }
  | .tup xs => xs.length ≤ sizeLine ∧ ∃ its : List Value, Vals xs its ∧ IsTup h a its.toArray
  | .dK kvs => kvs.length ≤ sizeLine ∧ (a == sysModules) = false ∧ ∃ vs, KV kvs vs ∧ h.DictOf (mixKind P w) a vs
  | .dT kvs => kvs.length ≤ sizeLine ∧ (a == sysModules) = false ∧ ∃ xs : List (List Key × Addr × Value),
      Paired (fun (p : List Key × V) (q : List Key × Addr × Value) => p.1 = q.1 ∧ H q.2.1 = some (.tup (p.1.map kV)) ∧ RelV p.2 q.2.2) kvs xs ∧
      ∃ o es ep, h.get? a = some o ∧ o.ExactDict ∧ o.data = .dict es ep ∧ es.toList = xs.map (entryOfKey (tupleKind (mixKind P w))) ∧ (xs.map (·.1)).Nodup
  | .set S n => h.SetOf (intKind P w) a S n
  | .ins C dx fs => H dx = some (.own a) ∧ fs.length ≤ 1000 ∧ dx ≠ a ∧ h.get? a = some (PySem.W.instObj C dx) ∧
      ∃ mA, h.Ns1 dx mA ∧ (∀ f, RelO (fs.lookup f) (mA f)) ∧ PySem.Within mA (fs.map (·.1))
  | .own _ => ∃ o, h.get? a = some o
  | .xd fs => ∃ mA, h.Ns1 a mA ∧ ∀ f, RelO (fs.lookup f) (mA f)
  | .rng lo hi => ∃ t u v, h.get? a = some { cls := .type "range", data := .fields #[.int lo t, .int hi u, .int 1 v] }
  | .frz o u => h.get? a = some o ∧ ObjOk H h a u
  | .tbl ps => h.get? a = some { cls := .none, data := .fields ps }
  | .met f x => h.get? a = some (PySem.W.methodObj (.ref f) (.ref x))
  | .ext φ => φ h ∧ (∃ o, h.get? a = some o) ∧ ∀ h1 h2 : Heap, φ h1 → (∀ o, h1.get? a = some o → h2.get? a = some o) → φ h2
/-- the abstract heap is held -/
def HOk (H : Hp) (h : Heap) : Prop := ∀ a o, H a = some o → ObjOk P w H h a o
end

section
variable {P : Program} {w : World} {H H' : Hp} {h h' : Heap} {a : Addr} {o : HO}
theorem ObjOk.lt (x : ObjOk P w H h a o) : a < h.objs.size := by
  cases o with
  | lst xs => obtain ⟨_, _, _, _, e⟩ := x; exact Heap.lt_size e
  | tup xs => obtain ⟨_, _, _, p⟩ := x; exact p.lt
  | dK kvs => obtain ⟨_, _, _, _, o, _, _, e, _⟩ := x; exact Heap.lt_size e
  | dT kvs => obtain ⟨_, _, _, _, o, _, _, e, _⟩ := x; exact Heap.lt_size e
  | set S n => obtain ⟨o, _, _, _, e, _⟩ := x; exact Heap.lt_size e
  | ins C dx fs => obtain ⟨_, _, _, e, _⟩ := x; exact Heap.lt_size e
  | own y => obtain ⟨_, e⟩ := x; exact Heap.lt_size e
  | xd fs => obtain ⟨_, ⟨_, _, _, e, _⟩, _⟩ := x; exact Heap.lt_size e
  | rng lo hi => obtain ⟨_, _, _, e⟩ := x; exact Heap.lt_size e
  | frz ob u => obtain ⟨e, _⟩ := x; exact Heap.lt_size e
  | tbl ps => exact Heap.lt_size (show h.get? a = some _ from x)
  | met f y => exact Heap.lt_size (show h.get? a = some _ from x)
  | ext φ => obtain ⟨_, ⟨_, e⟩, _⟩ := x; exact Heap.lt_size e
theorem Paired.mapP {α β : Type} {F G : α → β → Prop} : ∀ {l₁ : List α} {l₂ : List β}, Paired F l₁ l₂ → (∀ a b, F a b → G a b) → Paired G l₁ l₂
  | _, _, .nil, _ => .nil
  | _, _, .cons r t, f => .cons (f _ _ r) (Paired.mapP t f)
/-- what an object's description leans on: its own object, its own dict, the tuples -/
theorem ObjOk.stay (x : ObjOk P w H h a o) (k : ∀ b u, (b = a ∨ H b = some (.own a)) → h.get? b = some u → h'.get? b = some u)
    (ho : ∀ b, H b = some (.own a) → H' b = some (.own a)) (ht : ∀ b xs, H b = some (.tup xs) → H' b = some (.tup xs)) : ObjOk P w H' h' a o := by
  induction o with
  | lst xs => obtain ⟨z, its, n, r, e⟩ := x; exact ⟨z, its, n, r, k _ _ (.inl rfl) e⟩
  | tup xs => obtain ⟨z, its, r, ob, e, c⟩ := x; exact ⟨z, its, r, ob, k _ _ (.inl rfl) e, c⟩
  | dK kvs => obtain ⟨z, y, vs, r, ob, es, ep, e, c⟩ := x; exact ⟨z, y, vs, r, ob, es, ep, k _ _ (.inl rfl) e, c⟩
  | dT kvs =>
    obtain ⟨z, y, xs, r, ob, es, ep, e, c⟩ := x
    exact ⟨z, y, xs, Paired.mapP r fun p q z => ⟨z.1, ht _ _ z.2.1, z.2.2⟩, ob, es, ep, k _ _ (.inl rfl) e, c⟩
  | set S n => obtain ⟨ob, es, ep, t, e, c⟩ := x; exact ⟨ob, es, ep, t, k _ _ (.inl rfl) e, c⟩
  | ins C dx fs =>
    obtain ⟨d, z, ne, e, mA, ⟨od, es, ep, e2, c⟩, r⟩ := x
    exact ⟨ho _ d, z, ne, k _ _ (.inl rfl) e, mA, ⟨od, es, ep, k _ _ (.inr d) e2, c⟩, r⟩
  | own y => obtain ⟨ob, e⟩ := x; exact ⟨ob, k _ _ (.inl rfl) e⟩
  | xd fs => obtain ⟨mA, ⟨od, es, ep, e, c⟩, r⟩ := x; exact ⟨mA, ⟨od, es, ep, k _ _ (.inl rfl) e, c⟩, r⟩
  | rng lo hi => obtain ⟨t, u, v, e⟩ := x; exact ⟨t, u, v, k _ _ (.inl rfl) e⟩
  | frz ob u ih => obtain ⟨e, q⟩ := x; exact ⟨k _ _ (.inl rfl) e, ih q⟩
  | tbl ps =>
    have e : h.get? a = some { cls := .none, data := .fields ps } := x
    show h'.get? a = some { cls := .none, data := .fields ps }
    exact k a _ (.inl rfl) e
  | met f y =>
    have e : h.get? a = some (PySem.W.methodObj (.ref f) (.ref y)) := x
    show h'.get? a = some (PySem.W.methodObj (.ref f) (.ref y))
    exact k a _ (.inl rfl) e
  | ext φ => obtain ⟨p, ⟨o, e⟩, st⟩ := x; exact ⟨st _ _ p fun o q => k _ _ (.inl rfl) q, ⟨o, k _ _ (.inl rfl) e⟩, st⟩
theorem HOk.lt (x : HOk P w H h) (e : H a = some o) : a < h.objs.size := (x a o e).lt
theorem HOk.fresh (x : HOk P w H h) (e : h.objs.size ≤ a) : H a = none := by
  cases q : H a with
  | none => rfl
  | some u => exact absurd (Nat.lt_of_lt_of_le (x.lt q) e) (Nat.lt_irrefl _)
/-- every object of the heap is kept -/
theorem HOk.kept (x : HOk P w H h) (k : ∀ b u, h.get? b = some u → h'.get? b = some u) : HOk P w H h' := fun a o e =>
  (x a o e).stay (fun b u _ q => k b u q) (fun _ q => q) fun _ _ q => q
/-- a new object is laid and tracked -/
theorem HOk.laid (x : HOk P w H h) (k : ∀ b u, h.get? b = some u → h'.get? b = some u) (hp : h.objs.size ≤ a) (new : ObjOk P w (upd H a o) h' a o) : HOk P w (upd H a o) h' := fun b u e => by
  have hn := x.fresh hp
  by_cases hb : b = a
  · subst hb; rw [upd_same] at e; cases e; exact new
  · rw [upd_ne hb] at e
    exact (x b u e).stay (fun c v _ q => k c v q) (fun c q => by rw [upd_ne (ne_of_none q hn)]; exact q) fun c xs q => by rw [upd_ne (ne_of_none q hn)]; exact q
end

/-- what may be read as u: it is u, or a known u -/
def Rd (H : Hp) (a : Addr) (u : HO) : Prop := H a = some u ∨ ∃ o, H a = some (.frz o u)
theorem Rd.of {H : Hp} {a : Addr} {u : HO} (h : H a = some u) : Rd H a u := .inl h
theorem Rd.ok {P : Program} {w : World} {H : Hp} {h : Heap} {a : Addr} {u : HO} (r : Rd H a u) (x : HOk P w H h) : ObjOk P w H h a u := by
  rcases r with r | ⟨o, r⟩
  · exact x a u r
  · obtain ⟨_, q⟩ := x a _ r
    exact q
/-- what may be written -/
def Mut : Option HO → Prop
  | some (.lst _) => True
  | some (.dK _) => True
  | some (.dT _) => True
  | some (.set _ _) => True
  | some (.ins _ _ _) => True
  | some (.ext _) => True
  | _ => False
section
variable {P : Program} {w : World} {H : Hp} {h h' : Heap} {x e : Addr} {o' : HO}
/-- the object at e is changed: x itself, or the dict of the instance x -/
theorem HOk.write (ok : HOk P w H h) (mu : Mut (H x)) (he : e = x ∨ H e = some (.own x)) (k : ∀ b u, b ≠ e → h.get? b = some u → h'.get? b = some u) (heo : ∃ u, h'.get? e = some u)
    (new : ObjOk P w (upd H x o') h' x o') : HOk P w (upd H x o') h' := fun b u q => by
  have nown : ∀ c y, H c = some (.own y) → c ≠ x := fun c y r z => by subst z; rw [r] at mu; exact mu
  have ntup : ∀ c xs, H c = some (.tup xs) → c ≠ x := fun c xs r z => by subst z; rw [r] at mu; exact mu
  by_cases hb : b = x
  · subst hb; rw [upd_same] at q; cases q; exact new
  · rw [upd_ne hb] at q
    by_cases hbe : b = e
    · have q' : H b = some (.own x) := by
        rcases he with z | z
        · exact absurd (hbe.trans z) hb
        · rw [hbe]; exact z
      rw [q] at q'; cases q'
      obtain ⟨v, hv⟩ := heo
      exact ⟨v, by rw [hbe]; exact hv⟩
    · refine (ok b u q).stay (fun c v hc r => k c v ?_ r) (fun c r => by rw [upd_ne (nown c b r)]; exact r) fun c xs r => by rw [upd_ne (ntup c xs r)]; exact r
      rcases hc with rfl | hc
      · exact hbe
      · rintro rfl
        rcases he with z | z
        · exact nown c b hc z
        · rw [hc] at z; cases z; exact hb rfl
end

structure Un (fs ex : List Addr) (H H' : Hp) (h h' : Heap) : Prop where
  keep : ∀ b o, h.get? b = some o → H b = none → b ∉ fs → b ∉ ex → h'.get? b = some o
  slot : ∀ b o, h.get? b = some o → H b = none → b ∈ fs → b ∉ ex → ∃ sl, h'.get? b = some { o with slots := sl }
  free : ∀ b o, h.get? b = some o → H b = none → b ∉ ex → H' b = none
  there : ∀ b o, h.get? b = some o → b ∉ ex → ∃ o', h'.get? b = some o'
  tups : ∀ b xs, H b = some (.tup xs) → H' b = some (.tup xs)
  frzs : ∀ b o u, H b = some (.frz o u) → H' b = some (.frz o u)
  tbls : ∀ b ps, H b = some (.tbl ps) → ∃ more, H' b = some (.tbl (ps ++ more))
section
variable {fs fs' ex ex' : List Addr} {H H1 H2 : Hp} {h h1 h2 h' : Heap} {a x e : Addr} {o : HO}
theorem Un.any (u : Un fs ex H H1 h h1) {b : Addr} {ob : Obj} (q : h.get? b = some ob) (n : H b = none) (hx : b ∉ ex) : ∃ sl, h1.get? b = some { ob with slots := sl } := by
  by_cases hb : b ∈ fs
  · exact u.slot b ob q n hb hx
  · exact ⟨ob.slots, u.keep b ob q n hb hx⟩
theorem Un.trans (a : Un fs ex H H1 h h1) (b : Un fs ex H1 H2 h1 h2) : Un fs ex H H2 h h2 where
  keep := fun c ob q n hc hx => b.keep c ob (a.keep c ob q n hc hx) (a.free c ob q n hx) hc hx
  slot := fun c ob q n hc hx => by
    obtain ⟨sl, e1⟩ := a.slot c ob q n hc hx
    obtain ⟨sl', e2⟩ := b.slot c _ e1 (a.free c ob q n hx) hc hx
    exact ⟨sl', e2⟩
  free := fun c ob q n hx => by
    obtain ⟨o', e1⟩ := a.there c ob q hx
    exact b.free c o' e1 (a.free c ob q n hx) hx
  there := fun c ob q hx => by
    obtain ⟨o', e1⟩ := a.there c ob q hx
    exact b.there c o' e1 hx
  tups := fun c xs q => b.tups c xs (a.tups c xs q)
  frzs := fun c ob xs q => b.frzs c ob xs (a.frzs c ob xs q)
  tbls := fun c ps q => by
    obtain ⟨m1, e1⟩ := a.tbls c ps q
    obtain ⟨m2, e2⟩ := b.tbls c _ e1
    exact ⟨m1 ++ m2, by rw [e2, Array.append_assoc]⟩
theorem Un.kept (k : ∀ b u, h.get? b = some u → h'.get? b = some u) : Un fs ex H H h h' :=
  ⟨fun b ob q _ _ _ => k b ob q, fun b ob q _ _ _ => ⟨ob.slots, k b ob q⟩, fun _ _ _ n _ => n, fun b ob q _ => ⟨ob, k b ob q⟩, fun _ _ q => q, fun _ _ _ q => q, fun _ ps q => ⟨#[], by rw [q]; simp⟩⟩
theorem Un.refl : Un fs ex H H h h := Un.kept fun _ _ q => q
theorem Un.laid (k : ∀ b u, h.get? b = some u → h'.get? b = some u) (hp : h.objs.size ≤ a) (hn : H a = none) : Un fs ex H (upd H a o) h h' where
  keep := fun b u q _ _ _ => k b u q
  slot := fun b u q _ _ _ => ⟨u.slots, k b u q⟩
  free := fun b u q n _ => by rw [upd_ne (Nat.ne_of_lt (Nat.lt_of_lt_of_le (Heap.lt_size q) hp))]; exact n
  there := fun b u q _ => ⟨u, k b u q⟩
  tups := fun b xs q => by rw [upd_ne (ne_of_none q hn)]; exact q
  frzs := fun b u xs q => by rw [upd_ne (ne_of_none q hn)]; exact q
  tbls := fun b ps q => ⟨#[], by rw [upd_ne (ne_of_none q hn), q]; simp⟩
theorem Un.write (mu : Mut (H x)) (he : e = x ∨ H e = some (.own x)) (k : ∀ b u, b ≠ e → h.get? b = some u → h'.get? b = some u) (heo : ∃ u, h'.get? e = some u) : Un fs ex H (upd H x o) h h' := by
  have hx : ∀ b, H b = none → b ≠ x := fun b n z => by subst z; rw [n] at mu; exact mu
  have hb : ∀ b, H b = none → b ≠ e := fun b n z => by
    subst z
    rcases he with r | r
    · exact hx b n r
    · rw [n] at r; cases r
  have hm : ∀ b u, H b = some u → ¬ Mut (some u) → b ≠ x := fun b u q nm z => by subst z; rw [q] at mu; exact nm mu
  refine ⟨fun b u q n _ _ => k b u (hb b n) q, fun b u q n _ _ => ⟨u.slots, k b u (hb b n) q⟩, fun b u q n _ => by rw [upd_ne (hx b n)]; exact n, fun b u q _ => ?_,
    fun b xs q => by rw [upd_ne (hm b _ q fun z => z)]; exact q, fun b u xs q => by rw [upd_ne (hm b _ q fun z => z)]; exact q, fun b ps q => ⟨#[], by rw [upd_ne (hm b _ q fun z => z), q]; simp⟩⟩
  by_cases hbe : b = e
  · subst hbe; exact heo
  · exact ⟨u, k b u hbe q⟩
theorem Un.mono (u : Un fs ex H H1 h h1) (hs : ∀ b ∈ fs, b ∈ fs') (hx : ∀ b ∈ ex, b ∈ ex') : Un fs' ex' H H1 h h1 :=
  ⟨fun b ob q n hb he => u.keep b ob q n (fun z => hb (hs b z)) fun z => he (hx b z), fun _ _ q n _ he => u.any q n fun z => he (hx _ z), fun b ob q n he => u.free b ob q n fun z => he (hx b z), fun b ob q he => u.there b ob q fun z => he (hx b z), u.tups, u.frzs, u.tbls⟩
end

def trk (h : Heap) (H : Hp) : List Addr := (List.range h.objs.size).filter fun a => (H a).isSome
def hidT (h : Heap) (H : Hp) : Heap := PySem.W.hideAll h (trk h H)
theorem hidT_size (h : Heap) (H : Hp) : (hidT h H).objs.size = h.objs.size := PySem.W.hideAll_size _ _
theorem hidT_get {h : Heap} {H : Hp} {b : Addr} {o : Obj} (e : h.get? b = some o) (n : H b = none) : (hidT h H).get? b = some o :=
  PySem.W.hideAll_get _ e fun hm => by
    have q : (H b).isSome = true := (List.mem_filter.mp hm).2
    rw [n] at q; simp at q
theorem of_hidT {h : Heap} {H : Hp} {b : Addr} {o : Obj} (e : (hidT h H).get? b = some o) : h.get? b = some o ∧ H b = none := by
  have e' : h.get? b = some o := PySem.W.of_hideAll (trk h H) e
  refine ⟨e', ?_⟩
  cases q : H b with
  | none => rfl
  | some x =>
    have hm : b ∈ trk h H := List.mem_filter.mpr ⟨List.mem_range.mpr (Heap.lt_size e'), by simp [q]⟩
    have z : (hidT h H).get? b = none := PySem.W.hideAll_none (trk h H) hm
    rw [z] at e; cases e

def allNews (g h : Heap) (L : Addr) : List (Addr × Obj) := (List.range h.objs.size).filterMap fun a => if a = L ∨ (g.get? a).isSome = true then none else (h.get? a).map fun o => (a, o)
def rest (g h : Heap) (L d : Addr) : List (Addr × Obj) := (allNews g h L).filter fun p => decide (p.1 ≠ d)
end L2

namespace L2
open PySem PySem.Spec PyProof.Rows

/-- the module's facts, over the base: the heap at the law's entry without what is tracked there -/
structure Mod (K : PySem.W.Frag) (mg : Str → Option Value) (base : Heap) : Prop where
  kin : K.In base
  glob : base.Ns mainGlobals mg
  blt : ∃ mb, base.Ns builtinsNs mb ∧ ∀ x : Str, x ≠ "__name__" → mb x = bootBuiltins x
  nolimit : base.NoLimit

/-- the context: a def's body (or a comprehension's block) running. base: fixed through the whole law; s₀, H₀: the entry; outer: the frames whose slots others may change (a def's callers); stack: all frames that run;
   ex: iterators that were made ahead of the entry and are walked here (a comprehension's); fn: the names whose cells were made at the entry (a def: all; a comprehension's block: its own); calm: not within an except suite; pn: pins that every state bears; xe: what is wanted of an exception that leaves the code -/
structure Cx where
  prog : Program
  w : World
  K : PySem.W.Frag
  mg : Str → Option Value
  base : Heap
  A : Around
  N : List Str
  s_0 : Shared
  H_0 : Hp
  env : Env
  outer : List Env
  stack : List Env
  ex : List Addr
  fn : Str → Bool
  calm : Bool
  pn : List (Addr × Obj)
  xe : Value → Shared → Prop
/-- the callers' frames -/
def frs (l : List Env) : List Addr := l.filterMap (·.frame)
abbrev Cx.fs (X : Cx) : List Addr := frs X.outer

def Vis (sc : Scope) (x : Str) : Prop := sc.names.lookup x = some .local ∨ sc.names.lookup x = some .cell ∨ sc.names.lookup x = some .free
def Loc (sc : Scope) (x : Str) : Prop := sc.names.lookup x = some .local ∨ sc.names.lookup x = some .cell
def Look (env : Env) (h : Heap) (m : Str → Option Value) (x : Str) (u : Value) : Prop :=
  (env.kindOf x = some .local ∧ m x = some u) ∨ ((env.kindOf x = some .cell ∨ env.kindOf x = some .free) ∧ ∃ c, env.cells.lookup x = some c ∧ h.IsCell c (some u))

structure Cx.Ok (X : Cx) : Prop where
  mod : Mod X.K X.mg X.base
  kind : X.env.scope.kind = .function
  glob : X.env.globals = mainGlobals
  blt : X.env.builtins = builtinsNs
  above : X.s_0.heap.objs.size ≤ X.env.locals
  inj : ∀ x y c, X.env.cells.lookup x = some c → X.env.cells.lookup y = some c → x = y
  has : ∀ x, (X.env.kindOf x = some .cell ∨ X.env.kindOf x = some .free) → ∃ c, X.env.cells.lookup x = some c
  cab : ∀ x c, X.fn x = true → X.env.cells.lookup x = some c → X.s_0.heap.objs.size ≤ c
  hd : X.calm = true → X.A.handled = none
  frames : X.A.frames = some X.stack
  stk : X.stack = X.outer ∨ (X.stack = X.env :: X.outer ∧ X.env.frame = some X.env.locals)
  exf : ∀ b ∈ X.ex, b ≠ X.env.locals ∧ ∀ x c, X.env.cells.lookup x = some c → c ≠ b
  bs : ∀ b o, X.base.get? b = some o → X.s_0.heap.get? b = some o ∧ X.H_0 b = none
  bsz : X.base.objs.size ≤ X.s_0.heap.objs.size
  noex : ∀ b o, X.base.get? b = some o → b ∉ X.ex
  exfs : ∀ b ∈ X.ex, b ∉ X.fs
  funs : X.s_0.heap.FunFrames X.base X.outer
  frf : ∀ b ∈ X.fs, X.H_0 b = none

structure Inv (X : Cx) (pins : List (Addr × Obj)) (σ : List (Option V)) (H : Hp) (s : Shared) : Prop where
  ok : X.Ok
  os : s.os = X.s_0.os
  bare : AllBare s.gens
  base : Un X.fs X.ex X.H_0 H X.s_0.heap s.heap
  loc : ∃ m, s.heap.Ns X.env.locals m ∧ ∀ (i : Nat) (x : Str) (v : V), X.N[i]? = some x → σ[i]? = some (some v) → Vis X.env.scope x → ∃ u, RelV v u ∧ Look X.env s.heap m x u
  cell : ∀ x c, X.env.cells.lookup x = some c → ∃ v, s.heap.IsCell c v
  free : H X.env.locals = none
  freeC : ∀ x c, X.env.cells.lookup x = some c → H c = none
  pin : ∀ p ∈ X.pn ++ pins, s.heap.get? p.1 = some p.2 ∧ H p.1 = none ∧ p.1 ≠ X.env.locals ∧ p.1 ∉ X.fs ∧ ∀ v, p.2.data ≠ .cell v
  hok : HOk X.prog X.w H s.heap
  len : σ.length = X.N.length

section
variable {X : Cx} {pins : List (Addr × Obj)} {σ : List (Option V)} {H H' : Hp} {s : Shared} {h' : Heap}

theorem Cx.Ok.nofr (ok : X.Ok) {b : Addr} {o : Obj} (e : X.base.get? b = some o) : b ∉ X.fs := fun hb => by
  have := (ok.funs.mem hb).1
  rw [e] at this; cases this
theorem Inv.bs (I : Inv X pins σ H s) : ∀ b o, X.base.get? b = some o → s.heap.get? b = some o ∧ H b = none := fun b o e =>
  ⟨I.base.keep b o (I.ok.bs b o e).1 (I.ok.bs b o e).2 (I.ok.nofr e) (I.ok.noex b o e), I.base.free b o (I.ok.bs b o e).1 (I.ok.bs b o e).2 (I.ok.noex b o e)⟩
theorem Inv.bk (I : Inv X pins σ H s) : ∀ b o, X.base.get? b = some o → s.heap.get? b = some o := fun b o e => (I.bs b o e).1
theorem Inv.mod (I : Inv X pins σ H s) : Mod X.K X.mg X.base := I.ok.mod
theorem Inv.kIn (I : Inv X pins σ H s) : X.K.In s.heap := I.ok.mod.kin.keeps I.bk
theorem Inv.nolimit (I : Inv X pins σ H s) : s.heap.NoLimit := I.ok.mod.nolimit.keeps I.bk
/-- the frame over the base: for OpenK's rules (K.In X.base is I.mod.kin) -/
theorem Inv.fr (I : Inv X pins σ H s) : ∃ m, Fr X.base X.env.locals s.heap m :=
  let ⟨m, hn, _⟩ := I.loc
  ⟨m, hn, I.bk, Nat.le_trans I.ok.bsz I.ok.above⟩
theorem Inv.lt (I : Inv X pins σ H s) : X.env.locals < s.heap.objs.size := let ⟨_, hn, _⟩ := I.loc; hn.lt
theorem Inv.sz (I : Inv X pins σ H s) : X.s_0.heap.objs.size ≤ s.heap.objs.size := Nat.le_trans I.ok.above (Nat.le_of_lt I.lt)
theorem Inv.nofs (I : Inv X pins σ H s) {a : Addr} (h : s.heap.objs.size ≤ a) : a ∉ X.fs := fun hb => by
  obtain ⟨_, o, ho, _⟩ := I.ok.funs.mem hb
  exact absurd (Nat.lt_of_lt_of_le (Heap.lt_size ho) (Nat.le_trans I.sz h)) (Nat.lt_irrefl _)
theorem Inv.cne (I : Inv X pins σ H s) : ∀ x c, X.env.cells.lookup x = some c → c ≠ X.env.locals := fun x c e z => by
  obtain ⟨v, o, ho, hd⟩ := I.cell x c e
  obtain ⟨m, ⟨o', es, ep, ho', hd', _⟩, _⟩ := I.loc
  rw [z, ho'] at ho; cases ho; rw [hd'] at hd; cases hd
theorem Inv.funs (I : Inv X pins σ H s) : s.heap.FunFrames X.base X.outer := by
  have all : ∀ (l : List Env), (∀ b ∈ frs l, b ∈ X.fs) → X.s_0.heap.FunFrames X.base l → s.heap.FunFrames X.base l := by
    intro l
    induction l with
    | nil => intro _ _; trivial
    | cons env r ih =>
      intro hs hl
      obtain ⟨hk, ⟨L, o, hf, hn, ho, hd⟩, hr⟩ := hl
      have hL : L ∈ X.fs := hs L (by unfold frs; rw [List.filterMap_cons, hf]; exact List.mem_cons_self)
      obtain ⟨sl, e⟩ := I.base.slot L o ho (I.ok.frf L hL) hL fun z => I.ok.exfs L z hL
      exact ⟨hk, ⟨L, _, hf, hn, e, hd⟩, ih (fun b hb => hs b (by unfold frs; rw [List.filterMap_cons, hf]; exact List.mem_cons_of_mem _ hb)) hr⟩
  exact all X.outer (fun _ hb => hb) I.ok.funs

/-- the frames that run, for a call -/
theorem Inv.stack (I : Inv X pins σ H s) : s.heap.FunFrames X.base X.stack := by
  rcases I.ok.stk with e | ⟨e, hf⟩
  · rw [e]; exact I.funs
  · rw [e]
    obtain ⟨m, hn, _⟩ := I.loc
    refine .cons (by rw [I.ok.kind]; decide) hf hn ?_ I.funs
    exact Heap.get?_none_of_le (Nat.le_trans I.ok.bsz I.ok.above)
theorem Inv.stkSub (I : Inv X pins σ H s) : ∀ b ∈ frs X.stack, b ∈ X.env.locals :: X.fs := fun b hb => by
  rcases I.ok.stk with e | ⟨e, hf⟩
  · rw [e] at hb; exact List.mem_cons_of_mem _ hb
  · rw [e] at hb
    unfold frs at hb
    rw [List.filterMap_cons, hf] at hb
    exact hb
theorem Inv.stkFree (I : Inv X pins σ H s) : ∀ b ∈ frs X.stack, H b = none := fun b hb => by
  rcases List.mem_cons.mp (I.stkSub b hb) with e | hb
  · rw [e]; exact I.free
  · obtain ⟨_, o, ho, _⟩ := I.ok.funs.mem hb
    exact I.base.free b o ho (I.ok.frf b hb) fun z => I.ok.exfs b z hb

/-- THE STEP: the untracked objects but the frame and the records at ch are kept (the callers' frames up to slots), the frame's map is kept, the new abstract heap is held -/
theorem Inv.step {g' : Array GenState} {t' : Nat} {d' : Drawn} {ch : List Addr} (I : Inv X pins σ H s)
    (hch : ∀ b ∈ ch, (b ∈ X.ex ∨ X.s_0.heap.objs.size ≤ b) ∧ b ≠ X.env.locals ∧ (∀ x c, X.env.cells.lookup x = some c → c ≠ b) ∧ ∀ p ∈ X.pn ++ pins, p.1 ≠ b)
    (keep : ∀ b o, b ≠ X.env.locals → b ∉ X.fs → b ∉ ch → s.heap.get? b = some o → H b = none → h'.get? b = some o)
    (slot : ∀ b o, b ≠ X.env.locals → b ∈ X.fs → b ∉ ch → s.heap.get? b = some o → H b = none → ∃ sl, h'.get? b = some { o with slots := sl }) (free : ∀ b o, b ∉ ch → s.heap.get? b = some o → H b = none → H' b = none)
    (there : ∀ b o, b ∉ ch → s.heap.get? b = some o → ∃ o', h'.get? b = some o')
    (tups : ∀ b xs, H b = some (.tup xs) → H' b = some (.tup xs)) (frzs : ∀ b o u, H b = some (.frz o u) → H' b = some (.frz o u)) (tbls : ∀ b ps, H b = some (.tbl ps) → ∃ more, H' b = some (.tbl (ps ++ more)))
    (ns : ∀ m, s.heap.Ns X.env.locals m → h'.Ns X.env.locals m) (hok : HOk X.prog X.w H' h') (hg : AllBare g') :
    Inv X pins σ H' { s with heap := h', gens := g', drawn := d', toks := t' } := by
  have neL : ∀ b o, X.s_0.heap.get? b = some o → b ≠ X.env.locals := fun b o e => Nat.ne_of_lt (Nat.lt_of_lt_of_le (Heap.lt_size e) I.ok.above)
  have neC : ∀ b o, X.s_0.heap.get? b = some o → b ∉ X.ex → b ∉ ch := fun b o e hx hb => by
    rcases (hch b hb).1 with z | z
    · exact hx z
    · exact absurd (Nat.lt_of_lt_of_le (Heap.lt_size e) z) (Nat.lt_irrefl _)
  have cellK : ∀ x c, X.env.cells.lookup x = some c → ∀ v, s.heap.IsCell c v → h'.IsCell c v := fun x c e v ⟨o, ho, hd⟩ => by
    have nch : c ∉ ch := fun z => (hch c z).2.2.1 x c e rfl
    by_cases hc : c ∈ X.fs
    · obtain ⟨sl, q⟩ := slot c o (I.cne x c e) hc nch ho (I.freeC x c e)
      exact ⟨_, q, hd⟩
    · exact ⟨o, keep c o (I.cne x c e) hc nch ho (I.freeC x c e), hd⟩
  refine ⟨I.ok, I.os, hg, ⟨fun b o e n hb hx => ?_, fun b o e n hb hx => ?_, fun b o e n hx => ?_, fun b o e hx => ?_, fun b xs e => tups b xs (I.base.tups b xs e), fun b o xs e => frzs b o xs (I.base.frzs b o xs e), fun b ps e => ?_⟩, ?_, fun x c e => ?_, ?_, fun x c e => ?_, fun p hp => ?_, hok, I.len⟩
  · exact keep b o (neL b o e) hb (neC b o e hx) (I.base.keep b o e n hb hx) (I.base.free b o e n hx)
  · obtain ⟨sl, e1⟩ := I.base.slot b o e n hb hx
    obtain ⟨sl', e2⟩ := slot b _ (neL b o e) hb (neC b o e hx) e1 (I.base.free b o e n hx)
    exact ⟨sl', e2⟩
  · obtain ⟨o', e1⟩ := I.base.there b o e hx
    exact free b o' (neC b o e hx) e1 (I.base.free b o e n hx)
  · obtain ⟨o', e1⟩ := I.base.there b o e hx
    exact there b o' (neC b o e hx) e1
  · obtain ⟨m1, e1⟩ := I.base.tbls b ps e
    obtain ⟨m2, e2⟩ := tbls b _ e1
    exact ⟨m1 ++ m2, by rw [e2, Array.append_assoc]⟩
  · obtain ⟨m, hn, hl⟩ := I.loc
    refine ⟨m, ns m hn, fun i x v e1 e2 e3 => ?_⟩
    obtain ⟨u, r, l⟩ := hl i x v e1 e2 e3
    refine ⟨u, r, ?_⟩
    rcases l with l | ⟨k, c, e, z⟩
    · exact .inl l
    · exact .inr ⟨k, c, e, cellK x c e _ z⟩
  · obtain ⟨v, z⟩ := I.cell x c e
    exact ⟨v, cellK x c e v z⟩
  · obtain ⟨m, ⟨o, _, _, ho, _⟩, _⟩ := I.loc
    exact free _ o (fun z => (hch _ z).2.1 rfl) ho I.free
  · obtain ⟨v, o, ho, hd⟩ := I.cell x c e
    exact free c o (fun z => (hch c z).2.2.1 x c e rfl) ho (I.freeC x c e)
  · obtain ⟨e, n, ne, nf, d⟩ := I.pin p hp
    have nch : p.1 ∉ ch := fun z => (hch p.1 z).2.2.2 p hp rfl
    exact ⟨keep p.1 p.2 ne nf nch e n, free p.1 p.2 nch e n, ne, nf, d⟩
/-- .. where the frame's own object is kept too -/
theorem Inv.un {t' : Nat} (I : Inv X pins σ H s) (u : Un X.fs [] H H' s.heap h') (hok : HOk X.prog X.w H' h') : Inv X pins σ H' { s with heap := h', toks := t' } := by
  obtain ⟨m, ⟨o, es, ep, ho, r⟩, _⟩ := id I.loc
  obtain ⟨sl, hL⟩ := u.any ho I.free (by simp)
  exact I.step (g' := s.gens) (d' := s.drawn) (ch := []) (fun _ z => nomatch z) (fun b o _ hb _ e n => u.keep b o e n hb (by simp)) (fun b o _ hb _ e n => u.slot b o e n hb (by simp)) (fun b o _ e n => u.free b o e n (by simp)) (fun b o _ e => u.there b o e (by simp)) u.tups u.frzs u.tbls (fun m' hm => by
    obtain ⟨o', es', ep', ho', r'⟩ := hm
    rw [ho] at ho'; cases ho'
    exact ⟨_, es', ep', hL, r'⟩) hok I.bare
/-- behind a call (or a comprehension's block): the slots of this frame may have changed too, the records at ch may have turned -/
theorem Inv.call {g' : Array GenState} {t' : Nat} {d' : Drawn} {ch : List Addr} (I : Inv X pins σ H s) (u : Un (frs X.stack) ch H H' s.heap h') (hok : HOk X.prog X.w H' h') (hg : AllBare g')
    (hch : ∀ b ∈ ch, (b ∈ X.ex ∨ X.s_0.heap.objs.size ≤ b) ∧ b ≠ X.env.locals ∧ (∀ x c, X.env.cells.lookup x = some c → c ≠ b) ∧ ∀ p ∈ X.pn ++ pins, p.1 ≠ b) :
    Inv X pins σ H' { s with heap := h', gens := g', drawn := d', toks := t' } := by
  obtain ⟨m, ⟨o, es, ep, ho, r⟩, _⟩ := id I.loc
  obtain ⟨sl, hL⟩ := u.any ho I.free fun z => (hch _ z).2.1 rfl
  exact I.step (ch := ch) hch (fun b o hL hb hc e n => u.keep b o e n (fun z => (List.mem_cons.mp (I.stkSub b z)).elim hL hb) hc) (fun b o _ _ hc e n => u.any e n hc) (fun b o hc e n => u.free b o e n hc) (fun b o hc e => u.there b o e hc) u.tups u.frzs u.tbls (fun m' hm => by
    obtain ⟨o', es', ep', ho', r'⟩ := hm
    rw [ho] at ho'; cases ho'
    exact ⟨_, es', ep', hL, r'⟩) hok hg
/-- an untracked record of ours (an iterator) has turned -/
theorem Inv.turned {t' : Nat} {it : Addr} (I : Inv X pins σ H s) (k : ∀ b o, b ≠ it → s.heap.get? b = some o → h'.get? b = some o) (hn : H it = none) (hL : it ≠ X.env.locals)
    (h1 : it ∈ X.ex ∨ X.s_0.heap.objs.size ≤ it) (h2 : ∀ x c, X.env.cells.lookup x = some c → c ≠ it) (h3 : ∀ p ∈ X.pn ++ pins, p.1 ≠ it) : Inv X pins σ H { s with heap := h', toks := t' } := by
  have nit : ∀ b u, H b = some u → b ≠ it := fun b u e z => by rw [z, hn] at e; cases e
  refine I.step (g' := s.gens) (d' := s.drawn) (ch := [it]) (fun b hb => ?_) (fun b o _ _ hc e _ => k b o (fun z => hc (by simp [z])) e) (fun b o _ _ hc e _ => ⟨o.slots, k b o (fun z => hc (by simp [z])) e⟩) (fun _ _ _ _ n => n)
    (fun b o hc e => ⟨o, k b o (fun z => hc (by simp [z])) e⟩) (fun _ _ e => e) (fun _ _ _ e => e) (fun b ps e => ⟨#[], by rw [e]; simp⟩) (fun m hm => ?_) (fun b u e => ?_) I.bare
  · have e : b = it := by simpa using hb
    subst e
    exact ⟨h1, hL, h2, h3⟩
  · obtain ⟨o, es, ep, ho, r⟩ := hm
    exact ⟨o, es, ep, k _ o (Ne.symm hL) ho, r⟩
  · refine (I.hok b u e).stay (fun c v hc q => k c v ?_ q) (fun _ q => q) fun _ _ q => q
    rcases hc with z | z
    · rw [z]; exact nit b u e
    · exact nit c _ z
theorem Inv.tok (I : Inv X pins σ H s) (t : Nat) : Inv X pins σ H { s with toks := t } := I.un (h' := s.heap) (t' := t) Un.refl I.hok
/-- all objects kept -/
theorem Inv.kept {t' : Nat} (I : Inv X pins σ H s) (k : ∀ b u, s.heap.get? b = some u → h'.get? b = some u) : Inv X pins σ H { s with heap := h', toks := t' } := I.un (Un.kept k) (I.hok.kept k)
/-- a new object laid and tracked -/
theorem Inv.laid {a : Addr} {o : HO} {t' : Nat} (I : Inv X pins σ H s) (k : ∀ b u, s.heap.get? b = some u → h'.get? b = some u) (hp : s.heap.objs.size ≤ a) (new : ObjOk X.prog X.w (upd H a o) h' a o) :
    Inv X pins σ (upd H a o) { s with heap := h', toks := t' } := I.un (Un.laid k hp (I.hok.fresh hp)) (I.hok.laid k hp new)
/-- an object written -/
theorem Inv.write {x e : Addr} {o : HO} {t' : Nat} (I : Inv X pins σ H s) (mu : Mut (H x)) (he : e = x ∨ H e = some (.own x)) (k : ∀ b u, b ≠ e → s.heap.get? b = some u → h'.get? b = some u) (heo : ∃ u, h'.get? e = some u)
    (new : ObjOk X.prog X.w (upd H x o) h' x o) : Inv X pins σ (upd H x o) { s with heap := h', toks := t' } := I.un (Un.write mu he k heo) (I.hok.write mu he k heo new)
/-- forgetting slots, pins -/
theorem Inv.weak {σ' : List (Option V)} (I : Inv X pins σ H s) (hl : σ'.length = σ.length) (w : ∀ (i : Nat) v, σ'[i]? = some (some v) → σ[i]? = some (some v)) : Inv X pins σ' H s :=
  ⟨I.ok, I.os, I.bare, I.base, let ⟨m, hn, hl'⟩ := I.loc; ⟨m, hn, fun i x v e1 e2 e3 => hl' i x v e1 (w i v e2) e3⟩, I.cell, I.free, I.freeC, I.pin, I.hok, hl.trans I.len⟩
theorem Inv.pins_of {pins' : List (Addr × Obj)} (I : Inv X pins σ H s) (h : ∀ p ∈ pins', s.heap.get? p.1 = some p.2 ∧ H p.1 = none ∧ p.1 ≠ X.env.locals ∧ p.1 ∉ X.fs ∧ ∀ v, p.2.data ≠ .cell v) : Inv X pins' σ H s :=
  ⟨I.ok, I.os, I.bare, I.base, I.loc, I.cell, I.free, I.freeC, fun p hp => (List.mem_append.mp hp).elim (fun z => I.pin p (List.mem_append_left _ z)) (h p), I.hok, I.len⟩

theorem nodup_ix {N : List Str} (hN : N.Nodup) {i j : Nat} {x : Str} (a : N[i]? = some x) (b : N[j]? = some x) : i = j := by
  obtain ⟨h1, e1⟩ := List.getElem?_eq_some_iff.mp a
  obtain ⟨h2, e2⟩ := List.getElem?_eq_some_iff.mp b
  exact (List.getElem_inj hN).mp (e1.trans e2.symm)

/-- a name is stored; what changed -/
theorem store_ok2 {M : Model} {A : Around} {E : Value → Shared → Prop} {i : Nat} {x : Str} {v : V} {u : Value} {Q : Unit → Shared → Prop} (I : Inv X pins σ H s) (hN : X.N.Nodup) (hi : X.N[i]? = some x) (hx : Loc X.env.scope x) (r : RelV v u)
    (h : ∀ s', Inv X pins (σ.set i (some v)) H s' → (∃ a, Heap.SameBut a s.heap s'.heap ∧ (a = X.env.locals ∨ X.env.cells.lookup x = some a)) → Q () s') (hf : X.fn x = true ∨ X.env.scope.names.lookup x = some .local := by first | exact .inl rfl | exact .inr rfl | assumption) : wpAny M A (storeName X.env x u) Q E s := by
  obtain ⟨m, hn, hl⟩ := id I.loc
  have hcls : (X.env.scope.kind == .class || (X.env.scope.kind == .module && X.env.locals != X.env.globals)) = false := by rw [I.ok.kind]; rfl
  have hiσ : i < σ.length := by rw [I.len]; exact (List.getElem?_eq_some_iff.mp hi).1
  have cne := I.cne
  have tracked : ∀ {a : Addr} {h' : Heap}, (∃ o, s.heap.get? a = some o ∧ H a = none) → Heap.SameBut a s.heap h' → HOk X.prog X.w H h' := fun {a h'} ha hs b ob e => by
    obtain ⟨_, _, hfree⟩ := ha
    refine (I.hok b ob e).stay (fun c w' hc q => (hs.2 c ?_).trans q) (fun _ q => q) fun _ _ q => q
    rintro rfl
    rcases hc with rfl | hc
    · rw [hfree] at e; cases e
    · rw [hfree] at hc; cases hc
  rcases hx with hk | hk
  · refine wpAny_storeName_local hk hn (fun h' hn' hs => ?_) hcls
    obtain ⟨oL, _, _, hoL, _⟩ := id hn
    refine h _ ⟨I.ok, I.os, I.bare, ⟨fun b o e n hb hx => ?_, fun b o e n hb hx => ?_, I.base.free, fun b o e hx => ?_, I.base.tups, I.base.frzs, I.base.tbls⟩, ⟨_, hn', fun j y v' e1 e2 e3 => ?_⟩, fun y c e => ?_, I.free, I.freeC, fun p hp => ?_, tracked ⟨oL, hoL, I.free⟩ hs, by simpa using I.len⟩ ⟨_, hs, .inl rfl⟩
    · exact (hs.2 b (Nat.ne_of_lt (Nat.lt_of_lt_of_le (Heap.lt_size e) I.ok.above))).trans (I.base.keep b o e n hb hx)
    · obtain ⟨sl, e1⟩ := I.base.slot b o e n hb hx
      exact ⟨sl, (hs.2 b (Nat.ne_of_lt (Nat.lt_of_lt_of_le (Heap.lt_size e) I.ok.above))).trans e1⟩
    · obtain ⟨o', e1⟩ := I.base.there b o e hx
      exact ⟨o', (hs.2 b (Nat.ne_of_lt (Nat.lt_of_lt_of_le (Heap.lt_size e) I.ok.above))).trans e1⟩
    · by_cases hj : j = i
      · subst hj
        rw [hi] at e1; cases e1
        rw [List.getElem?_set_self hiσ] at e2
        cases e2
        exact ⟨u, r, .inl ⟨hk, by simp⟩⟩
      · rw [List.getElem?_set_ne (Ne.symm hj)] at e2
        obtain ⟨u', r', q⟩ := hl j y v' e1 e2 e3
        refine ⟨u', r', ?_⟩
        rcases q with ⟨k, e⟩ | ⟨k, c, e, z⟩
        · refine .inl ⟨k, ?_⟩
          have : y ≠ x := fun e => hj (nodup_ix hN e1 (e ▸ hi))
          simp [this, e]
        · exact .inr ⟨k, c, e, z.sameBut hs (cne y c e)⟩
    · obtain ⟨w', z⟩ := I.cell y c e
      exact ⟨w', z.sameBut hs (cne y c e)⟩
    · obtain ⟨e, n, ne, nf, d⟩ := I.pin p hp
      exact ⟨(hs.2 p.1 ne).trans e, n, ne, nf, d⟩
  · have hfn : X.fn x = true := by
      rcases hf with z | z
      · exact z
      · rw [z] at hk; cases hk
    obtain ⟨c, hc⟩ := I.ok.has x (.inl hk)
    obtain ⟨w', z⟩ := I.cell x c hc
    refine wpAny_storeName_cell I.ok.kind hk hc z (fun h' hc' hs => ?_)
    obtain ⟨oc, hoc, hocd⟩ := id z
    refine h { s with heap := h' } ⟨I.ok, I.os, I.bare, ⟨fun b o e n hb hx => ?_, fun b o e n hb hx => ?_, I.base.free, fun b o e hx => ?_, I.base.tups, I.base.frzs, I.base.tbls⟩, ⟨m, hn.sameBut hs (Ne.symm (cne x c hc)), fun j y v' e1 e2 e3 => ?_⟩, fun y c' e => ?_, I.free, I.freeC, fun p hp => ?_, tracked ⟨oc, hoc, I.freeC x c hc⟩ hs, by simpa using I.len⟩ ⟨c, hs, .inr hc⟩
    · exact (hs.2 b (Nat.ne_of_lt (Nat.lt_of_lt_of_le (Heap.lt_size e) (I.ok.cab x c hfn hc)))).trans (I.base.keep b o e n hb hx)
    · obtain ⟨sl, e1⟩ := I.base.slot b o e n hb hx
      exact ⟨sl, (hs.2 b (Nat.ne_of_lt (Nat.lt_of_lt_of_le (Heap.lt_size e) (I.ok.cab x c hfn hc)))).trans e1⟩
    · obtain ⟨o', e1⟩ := I.base.there b o e hx
      exact ⟨o', (hs.2 b (Nat.ne_of_lt (Nat.lt_of_lt_of_le (Heap.lt_size e) (I.ok.cab x c hfn hc)))).trans e1⟩
    · by_cases hj : j = i
      · subst hj
        rw [hi] at e1; cases e1
        rw [List.getElem?_set_self hiσ] at e2
        cases e2
        exact ⟨u, r, .inr ⟨.inl hk, c, hc, hc'⟩⟩
      · rw [List.getElem?_set_ne (Ne.symm hj)] at e2
        obtain ⟨u', r', q⟩ := hl j y v' e1 e2 e3
        refine ⟨u', r', ?_⟩
        rcases q with q | ⟨k, c', e, z'⟩
        · exact .inl q
        · refine .inr ⟨k, c', e, z'.sameBut hs ?_⟩
          rintro rfl
          exact hj (nodup_ix hN e1 (I.ok.inj _ _ _ e hc ▸ hi))
    · by_cases hcc : c' = c
      · subst hcc; exact ⟨_, hc'⟩
      · obtain ⟨w2, z2⟩ := I.cell y c' e
        exact ⟨w2, z2.sameBut hs hcc⟩
    · obtain ⟨e, n, ne, nf, d⟩ := I.pin p hp
      refine ⟨(hs.2 p.1 ?_).trans e, n, ne, nf, d⟩
      intro q
      rw [q, hoc] at e
      have q' : oc = p.2 := Option.some.inj e
      exact d w' (by rw [← q']; exact hocd)
theorem store_ok {M : Model} {A : Around} {E : Value → Shared → Prop} {i : Nat} {x : Str} {v : V} {u : Value} {Q : Unit → Shared → Prop} (I : Inv X pins σ H s) (hN : X.N.Nodup) (hi : X.N[i]? = some x) (hx : Loc X.env.scope x) (r : RelV v u)
    (h : ∀ s', Inv X pins (σ.set i (some v)) H s' → Q () s') (hf : X.fn x = true ∨ X.env.scope.names.lookup x = some .local := by first | exact .inl rfl | exact .inr rfl | assumption) : wpAny M A (storeName X.env x u) Q E s :=
  store_ok2 I hN hi hx r (fun s' I' _ => h s' I') hf
/-- behind a call or a block, the state as it is -/
theorem Inv.call' {s' : Shared} {ch : List Addr} (I : Inv X pins σ H s) (ho : s'.os = s.os) (u : Un (frs X.stack) ch H H' s.heap s'.heap) (hok : HOk X.prog X.w H' s'.heap) (hg : AllBare s'.gens)
    (hch : ∀ b ∈ ch, (b ∈ X.ex ∨ X.s_0.heap.objs.size ≤ b) ∧ b ≠ X.env.locals ∧ (∀ x c, X.env.cells.lookup x = some c → c ≠ b) ∧ ∀ p ∈ X.pn ++ pins, p.1 ≠ b) : Inv X pins σ H' s' := by
  obtain ⟨h', g', d', t', o'⟩ := s'
  have e : o' = s.os := ho
  subst e
  exact I.call (g' := g') (t' := t') (d' := d') u hok hg hch
end

/-- an exception: its class, its own dict's address (where it has one), the abstract heap behind it -/
abbrev XK := Value → Option Addr → Hp → Prop
abbrev St := List (Option V)
abbrev VK := V → Hp → Prop
/-- an expression's reading; a test's; an argument list's -/
abbrev TE := St → Hp → VK → Prop
abbrev TT := St → Hp → (Bool → Hp → Prop) → Prop
abbrev TA := St → Hp → (List V → Hp → Prop) → Prop
/-- what is wanted behind a statement -/
structure Ends where
  nx : St → Hp → Prop
  rt : VK
  bk : St → Hp → Prop := fun _ _ => False
  ct : St → Hp → Prop := fun _ _ => False
abbrev TS := Ends → St → Hp → Prop

def EP (X : Cx) (pins : List (Addr × Obj)) (σ : St) (Q : VK) (u : Value) (s' : Shared) : Prop := ∃ v H', Inv X pins σ H' s' ∧ RelV v u ∧ Q v H'
def TP (X : Cx) (pins : List (Addr × Obj)) (σ : St) (Q : Bool → Hp → Prop) (b : Bool) (s' : Shared) : Prop := ∃ H', Inv X pins σ H' s' ∧ Q b H'
def AP (X : Cx) (pins : List (Addr × Obj)) (σ : St) (Q : List V → Hp → Prop) (us : List Value) (s' : Shared) : Prop := ∃ vs H', Inv X pins σ H' s' ∧ Vals vs us ∧ Q vs H'
def SP (X : Cx) (pins : List (Addr × Obj)) (D : Ends) (f : Flow) (s' : Shared) : Prop :=
  match f with
  | .next => ∃ σ' H', Inv X pins σ' H' s' ∧ D.nx σ' H'
  | .brk => ∃ σ' H', Inv X pins σ' H' s' ∧ D.bk σ' H'
  | .cont => ∃ σ' H', Inv X pins σ' H' s' ∧ D.ct σ' H'
  | .ret u => ∃ v σ' H', Inv X pins σ' H' s' ∧ RelV v u ∧ D.rt v H'

def PE (X : Cx) (e : Expr) (t : TE) : Prop :=
  ∀ (pins : List (Addr × Obj)) (s : Shared) (σ : St) (H : Hp) (Q : VK), Inv X pins σ H s → t σ H Q → wpAny (model X.prog X.w) X.A (eval e X.env) (EP X pins σ Q) X.xe s
def PT (X : Cx) (e : Expr) (t : TT) : Prop :=
  ∀ (pins : List (Addr × Obj)) (s : Shared) (σ : St) (H : Hp) (Q : Bool → Hp → Prop), Inv X pins σ H s → t σ H Q → wpAny (model X.prog X.w) X.A (isTrue e X.env (eval e X.env)) (TP X pins σ Q) X.xe s
/-- a test whatever its 'whole' is (and, or) -/
def PW (X : Cx) (e : Expr) (t : TT) : Prop :=
  ∀ (whole : Sem Value) (pins : List (Addr × Obj)) (s : Shared) (σ : St) (H : Hp) (Q : Bool → Hp → Prop), Inv X pins σ H s → t σ H Q → wpAny (model X.prog X.w) X.A (isTrue e X.env whole) (TP X pins σ Q) X.xe s
theorem PW.pt {X : Cx} {e : Expr} {t : TT} (h : PW X e t) : PT X e t := h _
/-- an argument list (no star), from the left -/
def PA (X : Cx) (es : List Expr) (t : TA) : Prop :=
  ∀ (pos : Pos) (pins : List (Addr × Obj)) (s : Shared) (σ : St) (H : Hp) (Q : List V → Hp → Prop), Inv X pins σ H s → t σ H Q → wpAny (model X.prog X.w) X.A (spliced (backTo pos (starEach es X.env))) (AP X pins σ Q) X.xe s
def PS (X : Cx) (st : Stmt) (t : TS) : Prop :=
  ∀ (pins : List (Addr × Obj)) (s : Shared) (σ : St) (H : Hp) (D : Ends), Inv X pins σ H s → t D σ H → wpAny (model X.prog X.w) X.A (exec st X.env) (SP X pins D) X.xe s
def PSs (X : Cx) (st : List Stmt) (t : TS) : Prop :=
  ∀ (pins : List (Addr × Obj)) (s : Shared) (σ : St) (H : Hp) (D : Ends), Inv X pins σ H s → t D σ H → wpAny (model X.prog X.w) X.A (execs st X.env) (SP X pins D) X.xe s
/-- weaken the end -/
theorem thn {α : Type} {t : Sem α} {Q Q' : α → Shared → Prop} {M : Model} {A : Around} {E : Value → Shared → Prop} {s : Shared} (h : wpAny M A t Q E s) (hQ : ∀ a s, Q a s → Q' a s) : wpAny M A t Q' E s := wpAny_mono h hQ fun _ _ x => x
end L2

namespace L2
open PySem PySem.Spec PyProof.Rows
section
variable {X : Cx}

/-- two expressions in a row -/
theorem bin {a b : Expr} {ta tb : TE} (ha : PE X a ta) (hb : PE X b tb) {pins : List (Addr × Obj)} {s : Shared} {σ : St} {H : Hp} {R : V → V → Hp → Prop} (I : Inv X pins σ H s) (h : ta σ H fun x H1 => tb σ H1 fun y H2 => R x y H2)
    {α : Type} {Q : α → Shared → Prop} {f : Value → Value → Sem α}
    (hf : ∀ v u s2 x y H2, Inv X pins σ H2 s2 → RelV x v → RelV y u → R x y H2 → wpAny (model X.prog X.w) X.A (f v u) Q X.xe s2) :
    wpAny (model X.prog X.w) X.A (eval a X.env) (fun v s₁ => wpAny (model X.prog X.w) X.A (eval b X.env) (fun u s₂ => wpAny (model X.prog X.w) X.A (f v u) Q X.xe s₂) X.xe s₁) X.xe s := by
  refine thn (ha pins s σ H _ I h) fun v s1 ⟨x, H1, I1, r1, q1⟩ => ?_
  refine thn (hb pins s1 σ H1 _ I1 q1) fun u s2 ⟨y, H2, I2, r2, q2⟩ => ?_
  exact hf v u s2 x y H2 I2 r1 r2 q2

def tVar (i : Nat) : TE := fun σ H Q => ∃ v, σ[i]? = some (some v) ∧ Q v H
def tC (v : V) : TE := fun _ H Q => Q v H
theorem pe_var {i : Nat} {x : Str} {pos : Pos} (hN : X.N[i]? = some x) (hv : Vis X.env.scope x) (hd : (x == ("__debug__" : Str)) = false := by decide) (hcd : (x == ("__classdict__" : Str)) = false := by decide) : PE X (.Name x pos) (tVar i) := by
  intro pins s σ H Q I h
  obtain ⟨v, e, h⟩ := h
  obtain ⟨m, hn, hl⟩ := I.loc
  obtain ⟨u, r, l⟩ := hl i x v hN e hv
  have fin : EP X pins σ Q u s := ⟨v, H, I, r, h⟩
  rcases l with ⟨hk, hm⟩ | ⟨hk, c, hc, hcell⟩
  · exact wpAny_Name (wpAny_loadName_local I.ok.kind hk hn hm fin) hd
  · rcases hk with hk | hk
    · exact wpAny_Name (wpAny_loadName_cell I.ok.kind hk hc hcell fin) hd
    · exact wpAny_Name (wpAny_loadName_free I.ok.kind hk hc hcell fin hcd) hd
theorem pe_int {i j pos} : PE X (.Constant (.int i) j pos) (tC (.int i)) := fun _ _ _ H _ I h => wpAny_Constant_int ⟨.int i, H, I.tok _, ⟨_, rfl⟩, h⟩
theorem pe_bl {b j pos} : PE X (.Constant (.bool b) j pos) (tC (.bl b)) := fun _ _ _ H _ I h => Constant_bool ⟨.bl b, H, I, rfl, h⟩
theorem pe_non {j pos} : PE X (.Constant .none j pos) (tC .non) := fun _ _ _ H _ I h => Constant_none ⟨.non, H, I, rfl, h⟩
theorem pe_str {x j pos} : PE X (.Constant (.str x) j pos) (tC (.str x)) := fun _ _ _ H _ I h => Calls.Constant_str ⟨.str x, H, I.tok _, ⟨_, rfl⟩, h⟩

/-- a global name of the def -/
def Gl (X : Cx) (x : Str) : Prop := X.env.kindOf x = some .globalImplicit
theorem ld_glob {E : Value → Shared → Prop} {pins : List (Addr × Obj)} {s : Shared} {σ : St} {H : Hp} {x : Str} {u : Value} {pos : Pos} {Q : Value → Shared → Prop} (I : Inv X pins σ H s) (hg : Gl X x) (hm : X.mg x = some u) (h : Q u s)
    (hd : (x == ("__debug__" : Str)) = false := by decide) : wpAny (model X.prog X.w) X.A (eval (.Name x pos) X.env) Q E s :=
  Calls.Name_function_global I.ok.kind hg (Calls.loadGlobal_global (by rw [I.ok.glob]; exact I.mod.glob.keeps I.bk) hm h) hd
theorem ld_blt {E : Value → Shared → Prop} {pins : List (Addr × Obj)} {s : Shared} {σ : St} {H : Hp} {x : Str} {u : Value} {pos : Pos} {Q : Value → Shared → Prop} (I : Inv X pins σ H s) (hg : Gl X x) (hm : X.mg x = none) (hv : bootBuiltins x = some u) (h : Q u s)
    (hn : x ≠ "__name__" := by decide) (hd : (x == ("__debug__" : Str)) = false := by decide) : wpAny (model X.prog X.w) X.A (eval (.Name x pos) X.env) Q E s := by
  obtain ⟨mb, h1, h2⟩ := I.mod.blt
  exact Calls.Name_function_global I.ok.kind hg (Calls.loadGlobal_builtin (by rw [I.ok.glob]; exact I.mod.glob.keeps I.bk) hm (by rw [I.ok.blt]; exact h1.keeps I.bk) ((h2 x hn).trans hv) h) hd
/-- a module's constant, a class, a function, as a value -/
theorem pe_glob {x : Str} {v : V} {u : Value} {pos : Pos} (hg : Gl X x) (hm : X.mg x = some u) (r : RelV v u) (hd : (x == ("__debug__" : Str)) = false := by decide) : PE X (.Name x pos) (tC v) :=
  fun _ _ _ H _ I h => ld_glob I hg hm ⟨v, H, I, r, h⟩ hd
theorem pe_bltn {x : Str} {v : V} {u : Value} {pos : Pos} (hg : Gl X x) (hm : X.mg x = none) (hv : bootBuiltins x = some u) (r : RelV v u) (hn : x ≠ "__name__" := by decide) (hd : (x == ("__debug__" : Str)) = false := by decide) : PE X (.Name x pos) (tC v) :=
  fun _ _ _ H _ I h => ld_blt I hg hm hv ⟨v, H, I, r, h⟩ hn hd

variable {a b : Expr} {ta tb : TE} {pos : Pos}
def PC (X : Cx) (op : CmpOp) (a b : Expr) (t : TE) : Prop :=
  ∀ (pins : List (Addr × Obj)) (s : Shared) (σ : St) (H : Hp) (Q : VK), Inv X pins σ H s → t σ H Q →
    wpAny (model X.prog X.w) X.A (eval a X.env) (fun v s₁ => wpAny (model X.prog X.w) X.A (eval b X.env) (fun u s₂ => wpAny (model X.prog X.w) X.A (compareOp op v u) (EP X pins σ Q) X.xe s₂) X.xe s₁) X.xe s
theorem nobehind (b : Expr) {op : CmpOp} (h : op ≠ .In) (h2 : op ≠ .NotIn) : behindInMarks op b = false := by
  have e1 : (op == CmpOp.In) = false := by cases op <;> first | rfl | exact absurd rfl h
  have e2 : (op == CmpOp.NotIn) = false := by cases op <;> first | rfl | exact absurd rfl h2
  cases b <;> simp [behindInMarks, e1, e2]
/-- a comparison as a value, as a test -/
def tB (t : TE) : TT := fun σ H Q => t σ H fun x H1 => ∃ c, x = .bl c ∧ Q c H1
theorem pe_cmp {op : CmpOp} {t : TE} (h : PC X op a b t) (h1 : behindInMarks op b = false := by first | exact nobehind _ (by decide) (by decide) | rfl) : PE X (.Compare a [op] [b] pos) t := fun pins s σ H Q I hw => wpAny_Compare1 (h pins s σ H Q I hw) h1
theorem pt_cmp {op : CmpOp} {t : TE} (h : PC X op a b t) (h1 : behindInMarks op b = false := by first | exact nobehind _ (by decide) (by decide) | rfl) : PT X (.Compare a [op] [b] pos) (tB t) := by
  intro pins s σ H Q I hw
  refine wpAny_isTrue_Compare1 (thn (h pins s σ H _ I hw) fun v s1 h1 => thn h1 fun u s2 h2 => thn h2 fun c s3 ⟨x, H1, I1, r1, q1⟩ => ?_) h1
  obtain ⟨d, rfl, q⟩ := q1
  cases r1
  exact wpAny_truthy_bool ⟨H1, I1, q⟩
/-- an expression whose value is a bool, as a test -/
theorem pt_val {e : Expr} {t : TE} (h : PE X e t) (he : ∀ whole, isTrue e X.env whole = (do let v ← whole; standAt e.pos; holding [v] (truthy v)) := by intro _; rfl) : PT X e (tB t) := by
  intro pins s σ H Q I hw
  refine isTrue_plain (thn (h pins s σ H _ I hw) fun v s1 ⟨x, H1, I1, r1, q1⟩ => ?_) (he _)
  obtain ⟨d, rfl, q⟩ := q1
  cases r1
  exact wpAny_truthy_bool ⟨H1, I1, q⟩

variable {tA tB' : TT} {rest : List Expr}
def tAnd (t u : TT) : TT := fun σ H Q => t σ H fun c H1 => if c = true then u σ H1 Q else Q false H1
def tOr (t u : TT) : TT := fun σ H Q => t σ H fun c H1 => if c = true then Q true H1 else u σ H1 Q
def tNot (t : TT) : TT := fun σ H Q => t σ H fun c H1 => Q (!c) H1
theorem pw_and1 (ha : PT X a tA) : PW X (.BoolOp .And [a] pos) tA := by
  intro wh pins s σ H Q I h
  refine isTrue_and (thn (ha pins s σ H Q I h) fun c s1 e => ?_)
  cases c with
  | true => exact isTrue_and_nil e
  | false => exact e
theorem pw_or1 (ha : PT X a tA) : PW X (.BoolOp .Or [a] pos) tA := by
  intro wh pins s σ H Q I h
  refine isTrue_or (thn (ha pins s σ H Q I h) fun c s1 e => ?_)
  cases c with
  | false => exact isTrue_or_nil e
  | true => exact e
theorem pw_and (ha : PT X a tA) (hb : PW X (.BoolOp .And (b :: rest) pos) tB') : PW X (.BoolOp .And (a :: b :: rest) pos) (tAnd tA tB') := by
  intro wh pins s σ H Q I h
  refine isTrue_and (thn (ha pins s σ H _ I h) fun c s1 ⟨H1, I1, q1⟩ => ?_)
  cases c with
  | true => exact hb wh pins s1 σ H1 Q I1 q1
  | false => exact ⟨H1, I1, q1⟩
theorem pw_or (ha : PT X a tA) (hb : PW X (.BoolOp .Or (b :: rest) pos) tB') : PW X (.BoolOp .Or (a :: b :: rest) pos) (tOr tA tB') := by
  intro wh pins s σ H Q I h
  refine isTrue_or (thn (ha pins s σ H _ I h) fun c s1 ⟨H1, I1, q1⟩ => ?_)
  cases c with
  | true => exact ⟨H1, I1, q1⟩
  | false => exact hb wh pins s1 σ H1 Q I1 q1
theorem pt_not (ha : PT X a tA) : PT X (.UnaryOp .Not a pos) (tNot tA) := by
  intro pins s σ H Q I h
  exact isTrue_not (ha pins s σ H (fun c H1 => Q (!c) H1) I h)
/-- .. as values (bools) -/
def tAndV (ta tb : TE) : TE := fun σ H Q => ta σ H fun x H1 => ∃ c, x = .bl c ∧ if c = true then tb σ H1 Q else Q (.bl false) H1
def tOrV (ta tb : TE) : TE := fun σ H Q => ta σ H fun x H1 => ∃ c, x = .bl c ∧ if c = true then Q (.bl true) H1 else tb σ H1 Q
def tNotV (ta : TE) : TE := fun σ H Q => ta σ H fun x H1 => ∃ c, x = .bl c ∧ Q (.bl (!c)) H1
theorem pe_one {op} {t : TE} (h : PE X a t) : PE X (.BoolOp op [a] pos) t := fun pins s σ H Q I hw => BoolOp_one (h pins s σ H Q I hw)
theorem pe_and (ha : PE X a ta) (hb : PE X (.BoolOp .And (b :: rest) pos) tb) : PE X (.BoolOp .And (a :: b :: rest) pos) (tAndV ta tb) := by
  intro pins s σ H Q I h
  refine BoolOp_and (thn (ha pins s σ H _ I h) fun v s1 ⟨x, H1, I1, r1, q1⟩ => ?_)
  obtain ⟨c, rfl, q1⟩ := q1
  cases r1
  refine wpAny_truthy_bool ?_
  cases c with
  | true => exact hb pins s1 σ H1 Q I1 q1
  | false => exact ⟨.bl false, H1, I1, rfl, q1⟩
theorem pe_or (ha : PE X a ta) (hb : PE X (.BoolOp .Or (b :: rest) pos) tb) : PE X (.BoolOp .Or (a :: b :: rest) pos) (tOrV ta tb) := by
  intro pins s σ H Q I h
  refine BoolOp_or (thn (ha pins s σ H _ I h) fun v s1 ⟨x, H1, I1, r1, q1⟩ => ?_)
  obtain ⟨c, rfl, q1⟩ := q1
  cases r1
  refine wpAny_truthy_bool ?_
  cases c with
  | false => exact hb pins s1 σ H1 Q I1 q1
  | true => exact ⟨.bl true, H1, I1, rfl, q1⟩
theorem pe_not (ha : PE X a ta) : PE X (.UnaryOp .Not a pos) (tNotV ta) := by
  intro pins s σ H Q I h
  refine UnaryOp_ (thn (ha pins s σ H _ I h) fun v s1 ⟨x, H1, I1, r1, q1⟩ => ?_)
  obtain ⟨c, rfl, q1⟩ := q1
  cases r1
  exact not_of (wpAny_truthy_bool ⟨.bl (!c), H1, I1, rfl, q1⟩)
/-- a if t else b -/
def tIf (t : TT) (ta tb : TE) : TE := fun σ H Q => t σ H fun c H1 => if c = true then ta σ H1 Q else tb σ H1 Q
theorem pe_ifExp {c : Expr} (hc : PT X c tA) (ha : PE X a ta) (hb : PE X b tb) : PE X (.IfExp c a b pos) (tIf tA ta tb) := by
  intro pins s σ H Q I h
  refine wpAny_IfExp (thn (hc pins s σ H _ I h) fun d s1 ⟨H1, I1, q1⟩ => ?_)
  cases d with
  | true => exact ha pins s1 σ H1 Q I1 q1
  | false => exact hb pins s1 σ H1 Q I1 q1
end
end L2

namespace L2
open PySem PySem.Spec PyProof.Rows

def SqL (K : PySem.W.Frag) (H : Hp) (a : Addr) (xs : List V) : Prop :=
  Rd H a (.lst xs) ∨
    ∃ (o : Obj) (its : Array Value) (n : Nat), K.lookup a = some o ∧ o.cls = .type "list" ∧ o.dict = none ∧ o.data = .seq its n ∧ its.size ≤ sizeLine ∧ Vals xs its.toList
def SqT (K : PySem.W.Frag) (H : Hp) (a : Addr) (xs : List V) : Prop :=
  Rd H a (.tup xs) ∨
    ∃ (o : Obj) (its : Array Value) (n : Nat), K.lookup a = some o ∧ o.cls = .type "tuple" ∧ o.data = .seq its n ∧ its.size ≤ sizeLine ∧ Vals xs its.toList
def absV : Value → Option V
  | .none => some .non
  | .bool b => some (.bl b)
  | .int i _ => some (.int i)
  | .str x _ => some (.str x)
  | .bytes b _ => some (.byt b)
  | .float b _ => some (.flt b)
  | .ref a => some (.ref a)
  | .type n => some (.ty n)
  | _ => none
theorem RelV.abs {x : V} {u : Value} (r : RelV x u) : absV u = some x := by
  cases x with
  | non => cases r; rfl
  | bl _ => cases r; rfl
  | int _ => obtain ⟨t, rfl⟩ := r; rfl
  | str _ => obtain ⟨t, rfl⟩ := r; rfl
  | byt _ => obtain ⟨t, rfl⟩ := r; rfl
  | flt _ => obtain ⟨t, rfl⟩ := r; rfl
  | ref _ => cases r; rfl
  | ty _ => cases r; rfl
theorem RelV.inj {x y : V} {u : Value} (r : RelV x u) (q : RelV y u) : x = y := Option.some.inj (r.abs.symm.trans q.abs)
theorem Vals.inj : ∀ {xs ys : List V} {us : List Value}, Vals xs us → Vals ys us → xs = ys
  | _, _, _, .nil, .nil => rfl
  | _, _, _, .cons r t, .cons r' t' => by rw [r.inj r', Vals.inj t t']
section
variable {X : Cx} {pins : List (Addr × Obj)} {σ : St} {H : Hp} {s : Shared} {a : Addr} {xs ys : List V}
theorem SqL.of {K : PySem.W.Frag} (h : H a = some (.lst xs)) : SqL K H a xs := .inl (.inl h)
theorem SqT.of {K : PySem.W.Frag} (h : H a = some (.tup xs)) : SqT K H a xs := .inl (.inl h)
theorem Inv.list (I : Inv X pins σ H s) (h : SqL X.K H a xs) : ∃ its : List Value, Vals xs its ∧ PlainL s.heap a its.toArray ∧ xs.length ≤ sizeLine := by
  rcases h with h | ⟨o, its, n, hk, hc, hd, hs, hz, r⟩
  · obtain ⟨z, its, n, r, e⟩ := h.ok I.hok
    exact ⟨its, r, ⟨_, n, e, rfl, rfl, rfl⟩, z⟩
  · refine ⟨its.toList, r, ⟨o, n, I.kIn a o hk, hc, hd, by simpa using hs⟩, ?_⟩
    have e := r.length
    simp only [Array.length_toList] at e
    omega
theorem Inv.tuple (I : Inv X pins σ H s) (h : SqT X.K H a xs) : ∃ its : List Value, Vals xs its ∧ IsTup s.heap a its.toArray ∧ xs.length ≤ sizeLine := by
  rcases h with h | ⟨o, its, n, hk, hc, hs, hz, r⟩
  · obtain ⟨z, its, r, p⟩ := h.ok I.hok
    exact ⟨its, r, p, z⟩
  · refine ⟨its.toList, r, ⟨o, I.kIn a o hk, hc, n, by simpa using hs⟩, ?_⟩
    have e := r.length
    simp only [Array.length_toList] at e
    omega
theorem Inv.list_inj (I : Inv X pins σ H s) (h : SqL X.K H a xs) (h' : SqL X.K H a ys) : xs = ys := by
  obtain ⟨its, r, ⟨o, n, e, _, _, d⟩, _⟩ := I.list h
  obtain ⟨its', r', ⟨o', n', e', _, _, d'⟩, _⟩ := I.list h'
  rw [e] at e'; cases e'
  rw [d] at d'
  injection d' with d1 _
  have : its = its' := by simpa using congrArg Array.toList d1
  subst this
  exact r.inj r'
theorem Inv.tuple_inj (I : Inv X pins σ H s) (h : SqT X.K H a xs) (h' : SqT X.K H a ys) : xs = ys := by
  obtain ⟨its, r, ⟨o, e, _, n, d⟩, _⟩ := I.tuple h
  obtain ⟨its', r', ⟨o', e', _, n', d'⟩, _⟩ := I.tuple h'
  rw [e] at e'; cases e'
  rw [d] at d'
  injection d' with d1 _
  have : its = its' := by simpa using congrArg Array.toList d1
  subst this
  exact r.inj r'
end

abbrev Cx.wish (X : Cx) (E : Value → Shared → Prop) : Cx := { X with xe := E }
/-- no exception leaves -/
abbrev Cx.nox (X : Cx) : Cx := X.wish fun _ _ => False
theorem Cx.Ok.wish {X : Cx} (ok : X.Ok) (E : Value → Shared → Prop) : (X.wish E).Ok :=
  ⟨ok.mod, ok.kind, ok.glob, ok.blt, ok.above, ok.inj, ok.has, ok.cab, ok.hd, ok.frames, ok.stk, ok.exf, ok.bs, ok.bsz, ok.noex, ok.exfs, ok.funs, ok.frf⟩
theorem Cx.Ok.unwish {X : Cx} {E : Value → Shared → Prop} (ok : (X.wish E).Ok) : X.Ok :=
  ⟨ok.mod, ok.kind, ok.glob, ok.blt, ok.above, ok.inj, ok.has, ok.cab, ok.hd, ok.frames, ok.stk, ok.exf, ok.bs, ok.bsz, ok.noex, ok.exfs, ok.funs, ok.frf⟩
section
variable {X : Cx} {pins : List (Addr × Obj)} {σ : St} {H : Hp} {s : Shared} {E : Value → Shared → Prop}
theorem Inv.wish (I : Inv X pins σ H s) (E : Value → Shared → Prop) : Inv (X.wish E) pins σ H s := ⟨I.ok.wish E, I.os, I.bare, I.base, I.loc, I.cell, I.free, I.freeC, I.pin, I.hok, I.len⟩
theorem Inv.unwish (I : Inv (X.wish E) pins σ H s) : Inv X pins σ H s := ⟨I.ok.unwish, I.os, I.bare, I.base, I.loc, I.cell, I.free, I.freeC, I.pin, I.hok, I.len⟩
theorem SP.unwish {D : Ends} {f : Flow} {s' : Shared} (h : SP (X.wish E) pins D f s') : SP X pins D f s' := by
  cases f with
  | next => obtain ⟨σ', H', I, q⟩ := h; exact ⟨σ', H', I.unwish, q⟩
  | brk => obtain ⟨σ', H', I, q⟩ := h; exact ⟨σ', H', I.unwish, q⟩
  | cont => obtain ⟨σ', H', I, q⟩ := h; exact ⟨σ', H', I.unwish, q⟩
  | ret u => obtain ⟨v, σ', H', I, r, q⟩ := h; exact ⟨v, σ', H', I.unwish, r, q⟩
theorem PE.nox {e : Expr} {t : TE} (h : PE X.nox e t) : PE X e t := fun pins s σ H Q I hw =>
  wpAny_mono (h pins s σ H Q (I.wish _) hw) (fun _ _ ⟨v, H', I', r, q⟩ => ⟨v, H', I'.unwish, r, q⟩) fun _ _ z => False.elim z
theorem PT.nox {e : Expr} {t : TT} (h : PT X.nox e t) : PT X e t := fun pins s σ H Q I hw =>
  wpAny_mono (h pins s σ H Q (I.wish _) hw) (fun _ _ ⟨H', I', q⟩ => ⟨H', I'.unwish, q⟩) fun _ _ z => False.elim z
theorem PSs.nox {st : List Stmt} {t : TS} (h : PSs X.nox st t) : PSs X st t := fun pins s σ H D I hw =>
  wpAny_mono (h pins s σ H D (I.wish _) hw) (fun _ _ q => q.unwish) fun _ _ z => False.elim z
end

section
variable {X : Cx} {st : Stmt} {rest : List Stmt} {t u : TS} {e : Expr} {te : TE} {pos : Pos}
def tNext : TS := fun D σ H => D.nx σ H
def tSeq (t u : TS) : TS := fun D σ H => t { D with nx := u D } σ H
theorem pss_nil : PSs X [] tNext := fun _ _ σ H _ I h => wpAny_execs_nil ⟨σ, H, I, h⟩
theorem pss_cons (h1 : PS X st t) (h2 : PSs X rest u) : PSs X (st :: rest) (tSeq t u) := by
  intro pins s σ H D I h
  refine wpAny_execs_cons (thn (h1 pins s σ H { D with nx := u D } I h) fun f s1 q => ?_)
  cases f with
  | next =>
    obtain ⟨σ', H', I', q⟩ := q
    exact h2 pins s1 σ' H' D I' q
  | ret v => exact q
  | brk => exact q
  | cont => exact q
theorem pss_one (h1 : PS X st t) : PSs X [st] t := by
  intro pins s σ H D I h
  refine wpAny_execs_cons (thn (h1 pins s σ H D I h) fun f s1 q => ?_)
  cases f with
  | next => exact wpAny_execs_nil q
  | ret v => exact q
  | brk => exact q
  | cont => exact q
/-- in a def's body nothing is shown -/
theorem Inv.quiet {pins : List (Addr × Obj)} {σ : St} {H : Hp} {s : Shared} (I : Inv X pins σ H s) : interactive X.env = false := by simp [interactive, I.ok.kind]
/-- an expression whose value is dropped -/
def tDrop (te : TE) : TS := fun D σ H => te σ H fun _ H1 => D.nx σ H1
theorem ps_expr (he : PE X e te) (hs : swapsWith e none pos.line X.env = pure false := by rfl) : PS X (.Expr e pos) (tDrop te) := by
  intro pins s σ H D I h
  exact wpAny_Expr_any (thn (he pins s σ H _ I h) fun v s1 ⟨x, H1, I1, r1, q1⟩ => ⟨σ, H1, I1, q1⟩) I.quiet hs
def tRet (te : TE) : TS := fun D σ H => te σ H D.rt
theorem ps_ret (he : PE X e te) : PS X (.Return (some e) pos) (tRet te) := by
  intro pins s σ H D I h
  exact wpAny_Return_some (thn (he pins s σ H _ I h) fun v s1 ⟨x, H1, I1, r1, q1⟩ => ⟨x, σ, H1, I1, r1, q1⟩)
def tIfS (c : TT) (t u : TS) : TS := fun D σ H => c σ H fun b H1 => if b = true then t D σ H1 else u D σ H1
theorem ps_if {c : Expr} {a b : List Stmt} {tc : TT} (hc : PT X c tc) (ha : PSs X a t) (hb : PSs X b u) : PS X (.If c a b pos) (tIfS tc t u) := by
  intro pins s σ H D I h
  refine wpAny_If (thn (hc pins s σ H _ I h) fun d s1 ⟨H1, I1, q1⟩ => ?_)
  cases d with
  | true => exact ha pins s1 σ H1 D I1 q1
  | false => exact hb pins s1 σ H1 D I1 q1
/-- code that the proof never comes to -/
def tNever : TS := fun _ _ _ => False
theorem pss_never {sts : List Stmt} : PSs X sts tNever := fun _ _ _ _ _ _ h => h.elim
end

abbrev TG := V → St → Hp → (St → Hp → Prop) → Prop
abbrev TGs := List V → St → Hp → (St → Hp → Prop) → Prop
def PG (X : Cx) (target : Expr) (t : TG) : Prop :=
  ∀ (pins : List (Addr × Obj)) (s : Shared) (σ : St) (H : Hp) (v : V) (u : Value) (Q : St → Hp → Prop), Inv X pins σ H s → RelV v u → t v σ H Q →
    wpAny (model X.prog X.w) X.A (assign target X.env u) (fun _ s' => ∃ σ' H', Inv X pins σ' H' s' ∧ Q σ' H') X.xe s
/-- several targets, one after another -/
def PGs (X : Cx) (ts : List Expr) (t : TGs) : Prop :=
  ∀ (pins : List (Addr × Obj)) (s : Shared) (σ : St) (H : Hp) (vs : List V) (us : List Value) (Q : St → Hp → Prop), Inv X pins σ H s → Vals vs us → t vs σ H Q →
    wpAny (model X.prog X.w) X.A (assignInOrder ((assignEach ts X.env).map (·.2)) us) (fun _ s' => ∃ σ' H', Inv X pins σ' H' s' ∧ Q σ' H') X.xe s
/-- o[i] = v, by values -/
abbrev TSet := V → V → V → Hp → (Hp → Prop) → Prop
def PSet (X : Cx) (t : TSet) : Prop :=
  ∀ (pins : List (Addr × Obj)) (s : Shared) (σ : St) (H : Hp) (o i v : V) (ov iv u : Value) (Q : Hp → Prop), Inv X pins σ H s → RelV o ov → RelV i iv → RelV v u → t o i v H Q →
    wpAny (model X.prog X.w) X.A (setItem ov iv u) (fun _ s' => ∃ H', Inv X pins σ H' s' ∧ Q H') X.xe s
/-- a op= b, by values -/
abbrev TIp := V → V → Hp → VK → Prop
def PIp (X : Cx) (op : Operator) (t : TIp) : Prop :=
  ∀ (pins : List (Addr × Obj)) (s : Shared) (σ : St) (H : Hp) (x y : V) (v u : Value) (Q : VK), Inv X pins σ H s → RelV x v → RelV y u → t x y H Q →
    wpAny (model X.prog X.w) X.A (inplaceOp op v u) (EP X pins σ Q) X.xe s
section
variable {X : Cx} {pos : Pos}
def gName (i : Nat) : TG := fun v σ H Q => Q (σ.set i (some v)) H
theorem pg_name {i : Nat} {x : Str} (hN : X.N.Nodup) (hi : X.N[i]? = some x) (hx : Loc X.env.scope x) (hf : X.fn x = true ∨ X.env.scope.names.lookup x = some .local := by first | exact .inl rfl | exact .inr rfl | assumption) : PG X (.Name x pos) (gName i) := by
  intro pins s σ H v u Q I r h
  exact wpAny_assign_Name (store_ok I hN hi hx r (fun s' I' => ⟨_, H, I', h⟩) hf)
def gNil : TGs := fun vs σ H Q => vs = [] ∧ Q σ H
def gCons (t : TG) (u : TGs) : TGs := fun vs σ H Q => ∃ v r, vs = v :: r ∧ t v σ H fun σ' H' => u r σ' H' Q
theorem pgs_nil : PGs X [] gNil := by
  intro pins s σ H vs us Q I r h
  obtain ⟨e, h⟩ := h
  subst e
  cases r
  exact assignInOrder_nil ⟨σ, H, I, h⟩
theorem pgs_cons {e : Expr} {es : List Expr} {t : TG} {u : TGs} (h1 : PG X e t) (h2 : PGs X es u)
    (hs : (assignEach (e :: es) X.env).map (·.2) = assign e X.env :: (assignEach es X.env).map (·.2) := by rfl) : PGs X (e :: es) (gCons t u) := by
  intro pins s σ H vs us Q I r h
  obtain ⟨v, vr, e1, h⟩ := h
  subst e1
  cases r with
  | cons r rr =>
    rw [hs]
    refine assignInOrder_cons (thn (h1 pins s σ H _ _ _ I r h) fun _ s1 ⟨σ1, H1, I1, q1⟩ => ?_)
    exact h2 pins s1 σ1 H1 _ _ Q I1 rr q1
/-- (a, b, ..) = a tuple of that length -/
def gTup (K : PySem.W.Frag) (n : Nat) (t : TGs) : TG := fun v σ H Q => ∃ a xs, v = .ref a ∧ SqT K H a xs ∧ xs.length = n ∧ t xs σ H Q
theorem pg_tup {es : List Expr} {k : Nat} {t : TGs} {n : Nat} (hc : X.calm = true) (h : PGs X es t)
    (hn : (assignEach es X.env).length = n := by rfl) (hst : (assignEach es X.env).findIdx? (·.1) = none := by rfl) : PG X (.Tuple es k pos) (gTup X.K n t) := by
  intro pins s σ H v u Q I r hw
  obtain ⟨a, xs, e1, hq, hl, hw⟩ := hw
  subst e1
  cases r
  obtain ⟨its, rv, ht, hz⟩ := I.tuple hq
  refine assign_Tuple_tuple (I.ok.hd hc) ht (by simp [hn, ← hl, rv.length]) hst fun h' hx => ?_
  have I1 : Inv X pins σ H { s with heap := h' } := I.kept (t' := s.toks) fun b o e => hx b o (Nat.ne_of_lt (Heap.lt_size e)) e
  exact h pins _ σ H xs _ Q I1 (by simpa using rv) hw
/-- o[i] = .. -/
def gSub (to ti : TE) (t : TSet) : TG := fun v σ H Q => to σ H fun o H1 => ti σ H1 fun i H2 => t o i v H2 fun H3 => Q σ H3
theorem pg_sub {o i : Expr} {to ti : TE} {t : TSet} (ho : PE X o to) (hi : PE X i ti) (hs : PSet X t)
    (ha : ∀ v, assign (.Subscript o i pos) X.env v = (do
      let ov ← holding [v] (eval o X.env)
      let iv ← holding [v, ov] (eval i X.env)
      standAt pos
      holding [v, ov, iv] (setItem ov iv v)
      release [v, ov, iv] []) := by intro _; rfl) : PG X (.Subscript o i pos) (gSub to ti t) := by
  intro pins s σ H v u Q I r h
  rw [ha]
  refine wpAny_bind (wpAny_holding (thn (ho pins s σ H _ I h) fun ov s1 ⟨x, H1, I1, r1, q1⟩ => ?_))
  refine wpAny_bind (wpAny_holding (thn (hi pins s1 σ H1 _ I1 q1) fun iv s2 ⟨y, H2, I2, r2, q2⟩ => ?_))
  refine wpAny_bind (wpAny_standAt (wpAny_bind (wpAny_holding (thn (hs pins s2 σ H2 x y v ov iv u _ I2 r1 r2 r q2) fun _ s3 ⟨H3, I3, q3⟩ => ?_))))
  exact wpAny_release ⟨σ, H3, I3, q3⟩
/-- target = value -/
def tAsg (te : TE) (g : TG) : TS := fun D σ H => te σ H fun x H1 => g x σ H1 D.nx
theorem ps_asg {tg e : Expr} {te : TE} {g : TG} (he : PE X e te) (hg : PG X tg g) (hs : swapsWithSole [tg] e pos.line X.env = pure false := by rfl) (hw : swappedStores [tg] e X.env = pure none := by rfl)
    (h1 : (assignEach [tg] X.env).map (·.2) = [assign tg X.env] := by rfl) : PS X (.Assign [tg] e pos) (tAsg te g) := by
  intro pins s σ H D I h
  refine wpAny_Assign_stores (thn (he pins s σ H _ I h) fun v s1 ⟨x, H1, I1, r1, q1⟩ => ?_) hs hw
  rw [h1]
  exact thn (hg pins s1 σ H1 x v _ I1 r1 q1) fun _ s2 q => q
/-- name = value -/
theorem ps_set {i : Nat} {x : Str} {e : Expr} {te : TE} {pos' : Pos} (hN : X.N.Nodup) (hi : X.N[i]? = some x) (hx : Loc X.env.scope x) (he : PE X e te) (hs : swapsWith e (some (.Name x pos')) pos.line X.env = pure false := by rfl) (hf : X.fn x = true ∨ X.env.scope.names.lookup x = some .local := by first | exact .inl rfl | exact .inr rfl | assumption) :
    PS X (.Assign [.Name x pos'] e pos) (tAsg te (gName i)) := by
  intro pins s σ H D I h
  refine wpAny_Assign_Name (thn (he pins s σ H _ I h) fun v s1 ⟨y, H1, I1, r1, q1⟩ => ?_) hs
  exact store_ok I1 hN hi hx r1 (fun s2 I2 => ⟨_, H1, I2, q1⟩) hf
/-- a, b = x, y with plain local names: stored from the right; the pair itself is not tracked (the opening rows as in PyProof/Rows/TupAssign.lean:23) -/
def tPar (i j : Nat) (ta : TA) : TS := fun D σ H => ta σ H fun vs H1 => ∃ v w, vs = [v, w] ∧ D.nx ((σ.set i (some v)).set j (some w)) H1
theorem ps_par {i j : Nat} {x y : Str} {a b : Expr} {ta : TA} {px py pt : Pos} {kt k2 pt2} (hc : X.calm = true) (hN : X.N.Nodup) (hi : X.N[i]? = some x) (hj : X.N[j]? = some y) (hij : i ≠ j)
    (hx : X.env.scope.names.lookup x = some .local) (hy : X.env.scope.names.lookup y = some .local) (ha : PA X [a, b] ta)
    (hw : swappedStores [.Tuple [.Name x px, .Name y py] kt pt] (.Tuple [a, b] k2 pt2) X.env = pure (some [x, y]))
    (hs : swapsWithSole [.Tuple [.Name x px, .Name y py] kt pt] (.Tuple [a, b] k2 pt2) pos.line X.env = pure false := by rfl) :
    PS X (.Assign [.Tuple [.Name x px, .Name y py] kt pt] (.Tuple [a, b] k2 pt2) pos) (tPar i j ta) := by
  intro pins s σ H D I h
  rw [exec_Assign_arm]
  refine wpAny_bind (wpAny_standAt ?_)
  rw [hs]
  refine wpAny_bind (wpAny_pure ?_)
  rw [if_neg (by decide)]
  refine wpAny_bind (Tuple_ (thn (ha _ pins s σ H _ I h) fun us s1 ⟨vs, H1, I1, r1, q1⟩ => ?_))
  obtain ⟨v, w, e1, q1⟩ := q1
  subst e1
  obtain ⟨u1, u2, rfl, rv, rw'⟩ : ∃ u1 u2, us = [u1, u2] ∧ RelV v u1 ∧ RelV w u2 := by
    cases r1 with
    | cons p q =>
      cases q with
      | cons p' q' =>
        cases q'
        exact ⟨_, _, rfl, p, p'⟩
  refine wpAny_newObj_type ?_ (by show 2 ≤ sizeLine; decide)
  have I2 : Inv X pins σ H1 { s1 with heap := s1.heap.push { cls := .type "tuple", data := .seq [u1, u2].toArray } } := I1.kept (t' := s1.toks) fun b o e => Heap.get?_push_of_some _ e
  rw [hw]
  refine wpAny_bind (wpAny_pure ?_)
  show wpAny (model X.prog X.w) X.A (do rule "assign.swapped-stores"; let items ← unpackItems (.ref s1.heap.objs.size) 2 none; assignInOrder [fun v => bindName X.env y v, fun v => bindName X.env x v] items.reverse; pure Flow.next) _ _ _
  refine wpAny_bind (wpAny_rule (wpAny_bind (unpackItems_tuple (items := #[u1, u2]) (I.ok.hd hc) (IsTup.new s1.heap _) fun h' hx' => ?_)))
  have I3 := I2.kept (h' := h') (t' := s1.toks) fun b o e => hx' b o (Nat.ne_of_lt (Heap.lt_size e)) e
  show wpAny _ _ (assignInOrder [fun v => bindName X.env y v, fun v => bindName X.env x v] [u2, u1] >>= fun _ => pure Flow.next) _ _ _
  refine wpAny_bind (assignInOrder_cons (wpAny_bindName (store_ok I3 hN hj (.inl hy) rw' (fun s2 I4 => ?_) (.inr hy))))
  refine assignInOrder_cons (wpAny_bindName (store_ok I4 hN hi (.inl hx) rv (fun s3 I5 => assignInOrder_nil (wpAny_pure ?_)) (.inr hx)))
  rw [List.set_comm _ _ (Ne.symm hij)] at I5
  exact ⟨_, H1, I5, q1⟩
/-- name op= e -/
def tAug (i : Nat) (te : TE) (ti : TIp) : TS := fun D σ H => ∃ x, σ[i]? = some (some x) ∧ te σ H fun y H1 => ti x y H1 fun z H2 => D.nx (σ.set i (some z)) H2
theorem ps_aug {i : Nat} {x : Str} {e : Expr} {te : TE} {op : Operator} {ti : TIp} {pos' : Pos} (hN : X.N.Nodup) (hi : X.N[i]? = some x) (hx : Loc X.env.scope x) (he : PE X e te) (ho : PIp X op ti) (hf : X.fn x = true ∨ X.env.scope.names.lookup x = some .local := by first | exact .inl rfl | exact .inr rfl | assumption) :
    PS X (.AugAssign (.Name x pos') op e pos) (tAug i te ti) := by
  intro pins s σ H D I h
  obtain ⟨v, e1, h⟩ := h
  obtain ⟨m, hn, hl⟩ := I.loc
  have vis : Vis X.env.scope x := by rcases hx with k | k; exact .inl k; exact .inr (.inl k)
  obtain ⟨u, r, l⟩ := hl i x v hi e1 vis
  refine wpAny_AugAssign_Name ?_
  have go : wpAny (model X.prog X.w) X.A (eval e X.env) (fun w s₂ => wpAny (model X.prog X.w) X.A (inplaceOp op u w) (fun r s₃ => wpAny (model X.prog X.w) X.A (storeName X.env x r) (fun _ => SP X pins D .next) X.xe s₃) X.xe s₂) X.xe s := by
    refine thn (he pins s σ H _ I h) fun w s1 ⟨y, H1, I1, r1, q1⟩ => ?_
    refine thn (ho pins s1 σ H1 v y u w _ I1 r r1 q1) fun z s2 ⟨zv, H2, I2, r2, q2⟩ => ?_
    exact store_ok I2 hN hi hx r2 (fun s3 I3 => ⟨_, H2, I3, q2⟩) hf
  rcases l with ⟨hk, hm⟩ | ⟨hk, c, hc, hcell⟩
  · exact wpAny_loadName_local I.ok.kind hk hn hm go
  · rcases hk with hk | hk
    · exact wpAny_loadName_cell I.ok.kind hk hc hcell go
    · rcases hx with k | k
      · have : X.env.scope.names.lookup x = some .free := hk
        rw [k] at this; cases this
      · have : X.env.scope.names.lookup x = some .free := hk
        rw [k] at this; cases this
/-- o[i] op= e -/
def tAugS (to ti te : TE) (tget : V → V → Hp → VK → Prop) (tip : TIp) (tset : TSet) : TS := fun D σ H => to σ H fun o H1 => ti σ H1 fun i H2 => tget o i H2 fun x H3 => te σ H3 fun y H4 => tip x y H4 fun z H5 => tset o i z H5 fun H6 => D.nx σ H6
/-- o[i], by values -/
def PGet (X : Cx) (t : V → V → Hp → VK → Prop) : Prop :=
  ∀ (pins : List (Addr × Obj)) (s : Shared) (σ : St) (H : Hp) (o i : V) (ov iv : Value) (Q : VK), Inv X pins σ H s → RelV o ov → RelV i iv → t o i H Q →
    wpAny (model X.prog X.w) X.A (getItem ov iv) (EP X pins σ Q) X.xe s
theorem ps_augS {o i e : Expr} {to ti te : TE} {tget : V → V → Hp → VK → Prop} {tip : TIp} {tset : TSet} {op : Operator} {tpos : Pos} (ho : PE X o to) (hi : PE X i ti) (hg : PGet X tget) (he : PE X e te) (hp : PIp X op tip) (hs : PSet X tset)
    (ha : ∀ ov iv new, augStore i ov iv new = (do holding [new, ov, iv] (setItem ov iv new); release [new, ov, iv] []; pure .next) := by intros; rfl) : PS X (.AugAssign (.Subscript o i tpos) op e pos) (tAugS to ti te tget tip tset) := by
  intro pins s σ H D I h
  refine wpAny_AugAssign_SubscriptAny (thn (ho pins s σ H _ I h) fun ov s1 ⟨x1, H1, I1, r1, q1⟩ => ?_) ha
  refine thn (hi pins s1 σ H1 _ I1 q1) fun iv s2 ⟨x2, H2, I2, r2, q2⟩ => ?_
  refine thn (hg pins s2 σ H2 x1 x2 ov iv _ I2 r1 r2 q2) fun old s3 ⟨x3, H3, I3, r3, q3⟩ => ?_
  refine thn (he pins s3 σ H3 _ I3 q3) fun v s4 ⟨x4, H4, I4, r4, q4⟩ => ?_
  refine thn (hp pins s4 σ H4 x3 x4 old v _ I4 r3 r4 q4) fun new s5 ⟨x5, H5, I5, r5, q5⟩ => ?_
  exact thn (hs pins s5 σ H5 x1 x2 x5 ov iv new _ I5 r1 r2 r5 q5) fun _ s6 ⟨H6, I6, q6⟩ => ⟨σ, H6, I6, q6⟩
/-- ints -/
def ipI (f : Int → Int → Int) : TIp := fun x y H Q => ∃ i j, x = .int i ∧ y = .int j ∧ Q (.int (f i j)) H
theorem ip_add : PIp X .Add (ipI fun i j => i + j) := by
  intro pins s σ H x y v u Q I r1 r2 h
  obtain ⟨i, j, e1, e2, q⟩ := h
  subst e1; subst e2
  obtain ⟨t, rfl⟩ := r1
  obtain ⟨t', rfl⟩ := r2
  exact iadd_int ⟨.int _, H, I.tok _, ⟨_, rfl⟩, q⟩
theorem ip_sub : PIp X .Sub (ipI fun i j => i - j) := by
  intro pins s σ H x y v u Q I r1 r2 h
  obtain ⟨i, j, e1, e2, q⟩ := h
  subst e1; subst e2
  obtain ⟨t, rfl⟩ := r1
  obtain ⟨t', rfl⟩ := r2
  exact isub_int ⟨.int _, H, I.tok _, ⟨_, rfl⟩, q⟩
end


/-- at turn i: it yields x (the heap may grow), or it stops -/
structure It where
  go : Nat → Hp → Prop
  yld : Nat → Hp → V → Hp → Prop
  stop : Nat → Hp → Prop
/-- the iterator's own objects may turn: they are not the frame's, not pinned, younger than the entry (or a comprehension's own) -/
def FpOk (X : Cx) (pins : List (Addr × Obj)) (H : Hp) (b : Addr) : Prop :=
  H b = none ∧ b ≠ X.env.locals ∧ b ∉ X.fs ∧ (b ∈ X.ex ∨ X.s_0.heap.objs.size ≤ b) ∧ (∀ x c, X.env.cells.lookup x = some c → c ≠ b) ∧ ∀ p ∈ X.pn ++ pins, p.1 ≠ b
theorem Inv.fpOk {X : Cx} {pins : List (Addr × Obj)} {σ : St} {H H' : Hp} {s : Shared} {b : Addr} (I : Inv X pins σ H s) (hb : s.heap.objs.size ≤ b) (hn : H' b = none) : FpOk X pins H' b := by
  refine ⟨hn, Nat.ne_of_gt (Nat.lt_of_lt_of_le I.lt hb), I.nofs hb, .inr (Nat.le_trans I.sz hb), fun x c e z => ?_, fun p hp z => ?_⟩
  · obtain ⟨v, q⟩ := I.cell x c e
    exact absurd (Nat.lt_of_lt_of_le q.lt (by rw [z]; exact hb)) (Nat.lt_irrefl _)
  · exact absurd (Nat.lt_of_lt_of_le (Heap.lt_size (I.pin p hp).1) (by rw [z]; exact hb)) (Nat.lt_irrefl _)
structure Turn (P : Program) (w : World) (K : PySem.W.Frag) (tg : Expr) (J : It) (fp : List Addr) (it : Addr) (tn : Nat → Heap → Prop) : Prop where
  mem : it ∈ fp
  obj : ∀ i h, tn i h → ∀ b ∈ fp, ∃ o, h.get? b = some o ∧ ∀ v, o.data ≠ .cell v
  keep : ∀ i h h', tn i h → (∀ b ∈ fp, ∀ o, h.get? b = some o → h'.get? b = some o) → tn i h'
  item : ∀ (X : Cx), X.prog = P → X.w = w → X.K = K → X.calm = true → ∀ (i : Nat) (pins : List (Addr × Obj)) (s : Shared) (σ : St) (H : Hp) (E : Value → Shared → Prop), Inv X pins σ H s → (∀ b ∈ fp, FpOk X pins H b) → tn i s.heap → J.go i H →
    wpAny (model P w) X.A (pyNext (.ref it)) (fun r s1 => ∃ u, r = some u ∧
      wpAny (model P w) X.A (letOwnedTupleGo tg (.ref it) u) (fun _ s2 => ∃ x H', Inv X pins σ H' s2 ∧ RelV x u ∧ J.yld i H x H' ∧ tn (i + 1) s2.heap ∧ ∀ b ∈ fp, H' b = none) E s1) E s
  done : ∀ (X : Cx), X.prog = P → X.w = w → X.K = K → X.calm = true → ∀ (i : Nat) (pins : List (Addr × Obj)) (s : Shared) (σ : St) (H : Hp) (E : Value → Shared → Prop), Inv X pins σ H s → (∀ b ∈ fp, FpOk X pins H b) → tn i s.heap → J.stop i H →
    wpAny (model P w) X.A (pyNext (.ref it)) (fun r s1 => r = none ∧ Inv X pins σ H s1) E s
  self : ∀ (A : Around) (i : Nat) (s : Shared) (Q : Value → Shared → Prop) (E : Value → Shared → Prop), tn i s.heap → Q (.ref it) s → wpAny (model P w) A (pyIter (.ref it)) Q E s
abbrev TI := St → Hp → (It → Hp → Prop) → Prop
/-- an iterator has come -/
def PIE (X : Cx) (pins : List (Addr × Obj)) (σ : St) (tg : Expr) (R : It → Hp → Prop) (itv : Value) (s2 : Shared) : Prop :=
  ∃ (it : Addr) (fp : List Addr) (tn : Nat → Heap → Prop) (J : It) (H' : Hp), itv = .ref it ∧ Inv X pins σ H' s2 ∧ Turn X.prog X.w X.K tg J fp it tn ∧ tn 0 s2.heap ∧ (∀ b ∈ fp, FpOk X pins H' b) ∧ R J H'
def PI (X : Cx) (tg iter : Expr) (wi : TI) : Prop :=
  ∀ (pins : List (Addr × Obj)) (s : Shared) (σ : St) (H : Hp) (R : It → Hp → Prop), Inv X pins σ H s → wi σ H R →
    wpAny (model X.prog X.w) X.A (eval iter X.env) (fun v s1 => wpAny (model X.prog X.w) X.A (pyIter v) (PIE X pins σ tg R) X.xe s1) X.xe s

/-- the step ahead of the store is nothing for an iterator that keeps no tuple -/
theorem go_of {M : Model} {A : Around} {E : Value → Shared → Prop} {s : Shared} {tg : Expr} {it : Addr} {u : Value} {o : Obj} {n : String} {vs : Array Value} {Q : Unit → Shared → Prop} (ho : s.heap.get? it = some o) (hc : o.cls = .type n) (hd : o.data = .fields vs)
    (hn : ["enumerate", "zip", "dict_itemiterator", "dict_reverseitemiterator", "odict_iterator", "itertools.zip_longest", "itertools.pairwise"].contains n = false) (hQ : Q () s) : wpAny M A (letOwnedTupleGo tg (.ref it) u) Q E s := by
  unfold letOwnedTupleGo
  cases tg <;> first
    | exact wpAny_pure hQ
    | (cases u <;> first
        | exact wpAny_pure hQ
        | (refine wpAny_bind (wpAny_load ho ?_)
           rw [hc, hd]
           show wpAny M A (if (["enumerate", "zip", "dict_itemiterator", "dict_reverseitemiterator", "odict_iterator", "itertools.zip_longest", "itertools.pairwise"].contains n && vs[0]? == some (rawInt _)) = true then _ else _) Q E s
           rw [if_neg (by intro h; rw [hn, Bool.false_and] at h; cases h)]
           exact wpAny_pure hQ))

/-- the list at a, as it stands at each turn (a loop may append to it) -/
def Itl (K : PySem.W.Frag) (a : Addr) : It :=
  ⟨fun i H => ∃ xs x, SqL K H a xs ∧ xs[i]? = some x, fun i H x H' => H' = H ∧ ∀ xs, SqL K H a xs → xs[i]? = some x, fun i H => ∃ xs, SqL K H a xs ∧ xs.length ≤ i⟩
def Itt (K : PySem.W.Frag) (a : Addr) : It :=
  ⟨fun i H => ∃ xs x, SqT K H a xs ∧ xs[i]? = some x, fun i H x H' => H' = H ∧ ∀ xs, SqT K H a xs → xs[i]? = some x, fun i H => ∃ xs, SqT K H a xs ∧ xs.length ≤ i⟩
/-- lo, lo + 1, .. (n of them) -/
def Itr (lo : Int) (n : Nat) : It := ⟨fun i _ => i < n, fun i H x H' => H' = H ∧ x = .int (lo + i), fun i _ => n ≤ i⟩
theorem turn_list {P : Program} {w : World} {K : PySem.W.Frag} {tg : Expr} (a it : Addr) : Turn P w K tg (Itl K a) [it] it (fun i h => h.IsListIter it a i) where
  mem := by simp
  obj := fun i h st b hb => by
    have e : b = it := by simpa using hb
    subst e
    obtain ⟨o, e, c, d⟩ := st
    exact ⟨o, e, fun v z => by rw [d] at z; cases z⟩
  keep := fun i h h' st k => st.at fun o e => k it (by simp) o e
  item := by
    intro X hP hw hK hc i pins s σ H E I hf st hg
    subst hP hw hK
    obtain ⟨xs, x, hq, hx⟩ := hg
    obtain ⟨its, rv, p, hz⟩ := I.list hq
    obtain ⟨u, hu, ru⟩ := rv.get hx
    obtain ⟨f0, f1, f2, f3, f4, f5⟩ := hf it (by simp)
    refine wpAny_pyNext_list_item st p.isList (x := u) (by simpa using hu) fun h' st' sb => ?_
    have I1 : Inv X pins σ H { s with heap := h' } := I.turned (t' := s.toks) (fun b o hb e => (sb.2 b hb).trans e) f0 f1 f3 f4 f5
    obtain ⟨o, e, c, d⟩ := id st'
    exact ⟨u, rfl, go_of (s := { s with heap := h' }) e c d (by decide) ⟨x, H, I1, ru, ⟨rfl, fun ys hy => by rw [I.list_inj hy hq]; exact hx⟩, st', fun b hb => (hf b hb).1⟩⟩
  done := by
    intro X hP hw hK hc i pins s σ H E I hf st hg
    subst hP hw hK
    obtain ⟨xs, hq, hx⟩ := hg
    obtain ⟨its, rv, p, hz⟩ := I.list hq
    obtain ⟨f0, f1, f2, f3, f4, f5⟩ := hf it (by simp)
    have hl := rv.length
    exact wpAny_pyNext_list_end (I.ok.hd hc) st p.isList (by simp; omega) fun h' eb => ⟨rfl, I.turned (t' := s.toks) (fun b o hb e => eb b o hb e) f0 f1 f3 f4 f5⟩
  self := fun _ _ _ _ _ st h => wpAny_pyIter_listiter st h
theorem turn_tuple {P : Program} {w : World} {K : PySem.W.Frag} {tg : Expr} (a it : Addr) : Turn P w K tg (Itt K a) [it] it (fun i h => h.IsTupleIter it a i) where
  mem := by simp
  obj := fun i h st b hb => by
    have e : b = it := by simpa using hb
    subst e
    obtain ⟨o, e, c, d⟩ := st
    exact ⟨o, e, fun v z => by rw [d] at z; cases z⟩
  keep := fun i h h' st k => st.at fun o e => k it (by simp) o e
  item := by
    intro X hP hw hK hc i pins s σ H E I hf st hg
    subst hP hw hK
    obtain ⟨xs, x, hq, hx⟩ := hg
    obtain ⟨its, rv, p, hz⟩ := I.tuple hq
    obtain ⟨u, hu, ru⟩ := rv.get hx
    obtain ⟨f0, f1, f2, f3, f4, f5⟩ := hf it (by simp)
    refine wpAny_pyNext_tuple_item st (show s.heap.IsTuple a its.toArray from p) (x := u) (by simpa using hu) fun h' st' sb => ?_
    have I1 : Inv X pins σ H { s with heap := h' } := I.turned (t' := s.toks) (fun b o hb e => (sb.2 b hb).trans e) f0 f1 f3 f4 f5
    obtain ⟨o, e, c, d⟩ := id st'
    exact ⟨u, rfl, go_of (s := { s with heap := h' }) e c d (by decide) ⟨x, H, I1, ru, ⟨rfl, fun ys hy => by rw [I.tuple_inj hy hq]; exact hx⟩, st', fun b hb => (hf b hb).1⟩⟩
  done := by
    intro X hP hw hK hc i pins s σ H E I hf st hg
    subst hP hw hK
    obtain ⟨xs, hq, hx⟩ := hg
    obtain ⟨its, rv, p, hz⟩ := I.tuple hq
    obtain ⟨f0, f1, f2, f3, f4, f5⟩ := hf it (by simp)
    have hl := rv.length
    exact wpAny_pyNext_tuple_end (I.ok.hd hc) st (show s.heap.IsTuple a its.toArray from p) (by simp; omega) fun h' eb => ⟨rfl, I.turned (t' := s.toks) (fun b o hb e => eb b o hb e) f0 f1 f3 f4 f5⟩
  self := fun _ _ _ _ _ st h => wpAny_pyIter_tupleiter st h
theorem turn_range {P : Program} {w : World} {K : PySem.W.Frag} {tg : Expr} (it : Addr) (lo : Int) (n : Nat) : Turn P w K tg (Itr lo n) [it] it (fun i h => IsRangeIter h it (lo + (i : Nat) * 1) ((n : Int) - (i : Nat)) 1) where
  mem := by simp
  obj := fun i h st b hb => by
    have e : b = it := by simpa using hb
    subst e
    exact ⟨_, st, fun v z => by
      have z' : Data.fields _ = Data.cell v := z
      cases z'⟩
  keep := fun i h h' st k => k it (by simp) _ st
  item := by
    intro X hP hw hK hc i pins s σ H E I hf st hg
    subst hP hw hK
    obtain ⟨f0, f1, f2, f3, f4, f5⟩ := hf it (by simp)
    have W := Walks.range (prog := X.prog) (w := X.w) (I.ok.hd hc) it lo 1 n
    refine W.item i s _ _ hg st fun v h' tk hv st' kk => ?_
    obtain ⟨t, rfl⟩ := hv
    have I1 : Inv X pins σ H { s with heap := h', toks := tk } := I.turned (fun b o hb e => kk b o (by simpa using hb) e) f0 f1 f3 f4 f5
    refine ⟨_, rfl, go_of (s := { s with heap := h', toks := tk }) (n := "range_iterator") st' rfl rfl (by decide) ⟨.int (lo + i), H, I1, ⟨t, ?_⟩, ⟨rfl, rfl⟩, st', fun b hb => (hf b hb).1⟩⟩
    rw [Int.mul_one]
  done := by
    intro X hP hw hK hc i pins s σ H E I hf st hg
    subst hP hw hK
    obtain ⟨f0, f1, f2, f3, f4, f5⟩ := hf it (by simp)
    exact wpAny_pyNext_range_end (I.ok.hd hc) st (by have : n ≤ i := hg; omega) fun h' eb => ⟨rfl, I.turned (t' := s.toks) (fun b o hb e => eb b o hb e) f0 f1 f3 f4 f5⟩
  self := fun _ _ _ _ _ st h => wpAny_pyIter_rangeiter st h
end L2

namespace L2
open PySem PySem.Spec PyProof.Rows
section
variable {X : Cx} {tg : Expr}
def iList (K : PySem.W.Frag) (tl : TE) : TI := fun σ H R => tl σ H fun x H1 => ∃ a, x = .ref a ∧ (∃ xs, SqL K H1 a xs) ∧ R (Itl K a) H1
def iTup (K : PySem.W.Frag) (tl : TE) : TI := fun σ H R => tl σ H fun x H1 => ∃ a, x = .ref a ∧ (∃ xs, SqT K H1 a xs) ∧ R (Itt K a) H1
theorem pi_list {l : Expr} {tl : TE} (hl : PE X l tl) : PI X tg l (iList X.K tl) := by
  intro pins s σ H R I h
  refine thn (hl pins s σ H _ I h) fun v s1 ⟨x, H1, I1, r1, q1⟩ => ?_
  obtain ⟨a, e, ⟨xs, hq⟩, q⟩ := q1
  subst e
  cases r1
  obtain ⟨its, rv, p, hz⟩ := I1.list hq
  refine wpAny_pyIter_list p.isList ?_
  refine ⟨s1.heap.objs.size, [s1.heap.objs.size], _, _, H1, rfl, I1.kept (t' := s1.toks) fun b o e => Heap.get?_push_of_some _ e, turn_list a _, ⟨_, Heap.get?_push_size _ rfl, rfl, rfl⟩, fun b hb => ?_, q⟩
  have e : b = s1.heap.objs.size := by simpa using hb
  subst e
  exact I1.fpOk (Nat.le_refl _) (I1.hok.fresh (Nat.le_refl _))
theorem pi_tup {l : Expr} {tl : TE} (hl : PE X l tl) : PI X tg l (iTup X.K tl) := by
  intro pins s σ H R I h
  refine thn (hl pins s σ H _ I h) fun v s1 ⟨x, H1, I1, r1, q1⟩ => ?_
  obtain ⟨a, e, ⟨xs, hq⟩, q⟩ := q1
  subst e
  cases r1
  obtain ⟨its, rv, p, hz⟩ := I1.tuple hq
  refine wpAny_pyIter_tuple (show s1.heap.IsTuple a its.toArray from p) ?_
  refine ⟨s1.heap.objs.size, [s1.heap.objs.size], _, _, H1, rfl, I1.kept (t' := s1.toks) fun b o e => Heap.get?_push_of_some _ e, turn_tuple a _, ⟨_, Heap.get?_push_size _ rfl, rfl, rfl⟩, fun b hb => ?_, q⟩
  have e : b = s1.heap.objs.size := by simpa using hb
  subst e
  exact I1.fpOk (Nat.le_refl _) (I1.hok.fresh (Nat.le_refl _))
/-- a range object just made, walked -/
theorem range_it {pins : List (Addr × Obj)} {σ : St} {H : Hp} {s : Shared} {R : It → Hp → Prop} {E : Value → Shared → Prop} {lo hi : Int} {t u v : Tok} {tk : Nat} (I : Inv X pins σ H s) (h1 : -(2 ^ 62) ≤ lo) (h2 : lo < 2 ^ 62) (h3 : -(2 ^ 62) ≤ hi) (h4 : hi < 2 ^ 62)
    (q : R (Itr lo (hi - lo).toNat) H) : wpAny (model X.prog X.w) X.A (pyIter (.ref s.heap.objs.size)) (PIE X pins σ tg R) E { s with heap := s.heap.push { cls := .type "range", data := .fields #[.int lo t, .int hi u, .int 1 v] }, toks := tk } := by
  refine wpAny_pyIter_range (IsRange.new ..) (small_one h1 h2 h3 h4) ?_
  have I1 : Inv X pins σ H { s with heap := s.heap.push { cls := .type "range", data := .fields #[.int lo t, .int hi u, .int 1 v] }, toks := tk } := I.kept fun b o e => Heap.get?_push_of_some _ e
  refine ⟨(s.heap.push { cls := .type "range", data := .fields #[.int lo t, .int hi u, .int 1 v] }).objs.size, [(s.heap.push { cls := .type "range", data := .fields #[.int lo t, .int hi u, .int 1 v] }).objs.size], _, _, H, rfl,
    I1.kept (t' := tk) fun b o e => Heap.get?_push_of_some _ e, turn_range _ lo (hi - lo).toNat, ?_, fun b hb => ?_, q⟩
  · have e1 : lo + ((0 : Nat) : Int) * 1 = lo := by simp
    have e2 : (((hi - lo).toNat : Nat) : Int) - ((0 : Nat) : Int) = Builtin.Range.rangeSize lo hi 1 := by rw [rangeSize_one]; split <;> omega
    show IsRangeIter _ _ (lo + ((0 : Nat) : Int) * 1) ((((hi - lo).toNat : Nat) : Int) - ((0 : Nat) : Int)) 1
    rw [e1, e2]
    exact Heap.get?_push_size _ rfl
  · have e : b = (s.heap.push { cls := .type "range", data := .fields #[.int lo t, .int hi u, .int 1 v] }).objs.size := by simpa using hb
    subst e
    exact I1.fpOk (Nat.le_refl _) (I1.hok.fresh (Nat.le_refl _))
def iRng1 (ta : TA) : TI := fun σ H R => ta σ H fun vs H1 => ∃ j : Int, vs = [.int j] ∧ -(2 ^ 62) ≤ j ∧ j < 2 ^ 62 ∧ R (Itr 0 j.toNat) H1
theorem pi_range1 {a : Expr} {ta : TA} {p pos : Pos} (hg : Gl X "range") (hm : X.mg "range" = none) (ha : PA X [a] ta) (hs : starEach [a] X.env = [(false, eval a X.env)] := by rfl) : PI X tg (.Call (.Name "range" p) [a] [] pos) (iRng1 ta) := by
  intro pins s σ H R I h
  refine Call_ (ld_blt I hg hm boot_range (PyProof.Rows.callWith_type1 (thn (ha pos pins s σ H _ I h) fun us s1 ⟨vs, H1, I1, r1, q1⟩ => ?_) hs rfl))
  obtain ⟨j, e, q1, q2, q⟩ := q1
  subst e
  cases r1 with
  | cons r rr =>
    cases rr
    obtain ⟨t, rfl⟩ := r
    exact call_range_1 (range_it I1 (by omega) (by omega) q1 q2 (by simpa using q))
/-- W: the invariant by the turn and a measure; N: what the body is to reach -/
def tFor (wi : TI) (g : TG) (tb : TS) : TS := fun D σ H => wi σ H fun J H1 => ∃ W : Nat → Nat → St → Hp → Prop, (∃ m, W 0 m σ H1) ∧ ∀ i m σ H, W i m σ H →
  (J.stop i H ∧ D.nx σ H) ∨ (J.go i H ∧ ∃ N : St → Hp → Prop, (∀ σ' H', N σ' H' → ∃ m', m' < m ∧ W (i + 1) m' σ' H') ∧ ∀ x H', J.yld i H x H' → g x σ H' fun σ2 H2 => tb { D with nx := N, ct := N, bk := D.nx } σ2 H2)
/-- the records at fp as they stand -/
def pinsAt (fp : List Addr) (h : Heap) : List (Addr × Obj) := fp.filterMap fun b => (h.get? b).map fun o => (b, o)
theorem mem_pinsAt {fp : List Addr} {h : Heap} {b : Addr} {o : Obj} (hb : b ∈ fp) (e : h.get? b = some o) : (b, o) ∈ pinsAt fp h := List.mem_filterMap.mpr ⟨b, hb, by rw [e]; rfl⟩
theorem of_pinsAt {fp : List Addr} {h : Heap} {p : Addr × Obj} (hp : p ∈ pinsAt fp h) : p.1 ∈ fp ∧ h.get? p.1 = some p.2 := by
  obtain ⟨b, hb, e⟩ := List.mem_filterMap.mp hp
  cases q : h.get? b with
  | none => rw [q] at e; cases e
  | some o =>
    rw [q] at e
    have e' : (b, o) = p := Option.some.inj e
    subst e'
    exact ⟨hb, q⟩
theorem Inv.pinned {pins : List (Addr × Obj)} {σ : St} {H : Hp} {s : Shared} {fp : List Addr} (I : Inv X pins σ H s) (hf : ∀ b ∈ fp, FpOk X pins H b) (ho : ∀ b ∈ fp, ∃ o, s.heap.get? b = some o ∧ ∀ v, o.data ≠ .cell v) : Inv X (pins ++ pinsAt fp s.heap) σ H s :=
  I.pins_of fun p hp => (List.mem_append.mp hp).elim (fun z => I.pin p (List.mem_append_right _ z)) fun z => by
    obtain ⟨hb, e⟩ := of_pinsAt z
    obtain ⟨f0, f1, f2, _⟩ := hf p.1 hb
    obtain ⟨o, e', d⟩ := ho p.1 hb
    rw [e] at e'; cases e'
    exact ⟨e, f0, f1, f2, d⟩
theorem Inv.unpinned {pins pl : List (Addr × Obj)} {σ : St} {H : Hp} {s : Shared} (I : Inv X (pins ++ pl) σ H s) : Inv X pins σ H s := I.pins_of fun p hp => I.pin p (List.mem_append_right _ (List.mem_append_left _ hp))
theorem ps_for {iter : Expr} {body : List Stmt} {wi : TI} {g : TG} {tb : TS} {pos : Pos} (hp : PassesOwn (model X.prog X.w) X.A X.env X.xe) (hc : X.calm = true) (hi : PI X tg iter wi) (hg : PG X tg g) (hb : PSs X body tb)
    (hs : ∀ x, foldedSetIterable iter X.env x = pure x := by intro _; rfl) : PS X (.For tg iter body [] pos) (tFor wi g tb) := by
  intro pins s σ H D I h
  refine wpAny_For (thn (hi pins s σ H _ I h) fun v s1 h1 => thn h1 fun itv s2 h2 => ?_) hs
  obtain ⟨it, fp, tn, J, H2, e, I2, T, st2, f2, W, ⟨m0, w0⟩, turn⟩ := h2
  subst e
  -- what stays true of the iterator's objects through the loop
  have stat : ∀ {H' : Hp}, (∀ b ∈ fp, H' b = none) → ∀ b ∈ fp, FpOk X pins H' b := fun hn b hb => ⟨hn b hb, (f2 b hb).2⟩
  refine codeAny_forLoop_any (fun n s' => ∃ i σ' H', Inv X pins σ' H' s' ∧ tn i s'.heap ∧ (∀ b ∈ fp, H' b = none) ∧ W i n σ' H') ?_ m0 ⟨0, σ, H2, I2, st2, fun b hb => (f2 b hb).1, w0⟩
  rintro n s3 ⟨i, σ3, H3, I3, st3, fr3, w3⟩
  rcases turn i n σ3 H3 w3 with ⟨stop, qn⟩ | ⟨go, N, hN, step⟩
  · refine wpAny_passesOwn hp (thn (T.done X rfl rfl rfl hc i pins s3 σ3 H3 X.xe I3 (stat fr3) st3 stop) fun r s4 ⟨hr, I4⟩ => ?_)
    subst hr
    exact wpAny_execs_nil ⟨σ3, H3, I4, qn⟩
  · refine wpAny_passesOwn hp (thn (T.item X rfl rfl rfl hc i pins s3 σ3 H3 X.xe I3 (stat fr3) st3 go) fun r s4 ⟨u, hr, h4⟩ => ?_)
    subst hr
    refine wpAny_passesOwn hp (thn h4 fun _ s5 ⟨x, H5, I5, r5, y5, st5, fr5⟩ => ?_)
    have I5' := I5.pinned (stat fr5) (T.obj _ _ st5)
    refine wpAny_passesOwn hp (thn (hg _ s5 σ3 H5 x u _ I5' r5 (step x H5 y5)) fun _ s6 ⟨σ6, H6, I6, q6⟩ => ?_)
    refine wpAny_passesOwn hp (thn (hb _ s6 σ6 H6 _ I6 q6) fun f s7 q7 => ?_)
    have again : ∀ {σ7 : St} {H7 : Hp}, Inv X (pins ++ pinsAt fp s5.heap) σ7 H7 s7 → N σ7 H7 → ∃ m, m < n ∧ ∃ i σ' H', Inv X pins σ' H' s7 ∧ tn i s7.heap ∧ (∀ b ∈ fp, H' b = none) ∧ W i m σ' H' := fun {σ7 H7} I7 n7 => by
      obtain ⟨m', hm, w7⟩ := hN σ7 H7 n7
      refine ⟨m', hm, i + 1, σ7, H7, I7.unpinned, T.keep _ _ _ st5 fun b hb o e => (I7.pin (b, o) (List.mem_append_right _ (List.mem_append_right _ (mem_pinsAt hb e)))).1, fun b hb => ?_, w7⟩
      obtain ⟨o, e, d⟩ := T.obj _ _ st5 b hb
      exact (I7.pin (b, o) (List.mem_append_right _ (List.mem_append_right _ (mem_pinsAt hb e)))).2.1
    cases f with
    | next => obtain ⟨σ7, H7, I7, n7⟩ := q7; exact again I7 n7
    | cont => obtain ⟨σ7, H7, I7, n7⟩ := q7; exact again I7 n7
    | brk => obtain ⟨σ7, H7, I7, q7⟩ := q7; exact ⟨σ7, H7, I7.unpinned, q7⟩
    | ret v => obtain ⟨x7, σ7, H7, I7, r7, q7⟩ := q7; exact ⟨x7, σ7, H7, I7.unpinned, r7, q7⟩
end

/-- over a list that the body leaves as it is -/
theorem for_list {K : PySem.W.Frag} {a : Addr} {xs : List V} {g : TG} {tb : TS} {D : Ends} {σ : St} {H : Hp} (Pv : Nat → St → Hp → Prop) (h0 : Pv 0 σ H) (hl : ∀ i σ H, i ≤ xs.length → Pv i σ H → SqL K H a xs)
    (hs : ∀ i x σ H, xs[i]? = some x → Pv i σ H → g x σ H fun σ2 H2 => tb { D with nx := Pv (i + 1), ct := Pv (i + 1), bk := D.nx } σ2 H2) (hd : ∀ σ H, Pv xs.length σ H → D.nx σ H) :
    ∃ W : Nat → Nat → St → Hp → Prop, (∃ m, W 0 m σ H) ∧ ∀ i m σ H, W i m σ H →
      ((Itl K a).stop i H ∧ D.nx σ H) ∨ ((Itl K a).go i H ∧ ∃ N : St → Hp → Prop, (∀ σ' H', N σ' H' → ∃ m', m' < m ∧ W (i + 1) m' σ' H') ∧ ∀ x H', (Itl K a).yld i H x H' → g x σ H' fun σ2 H2 => tb { D with nx := N, ct := N, bk := D.nx } σ2 H2) := by
  refine ⟨fun i m σ H => m = xs.length - i ∧ i ≤ xs.length ∧ Pv i σ H, ⟨xs.length, by simp, Nat.zero_le _, h0⟩, ?_⟩
  rintro i m σ H ⟨rfl, hi, p⟩
  have q := hl i σ H hi p
  by_cases hlt : i < xs.length
  · refine .inr ⟨⟨xs, xs[i], q, by simp [hlt]⟩, Pv (i + 1), fun σ' H' p' => ⟨xs.length - (i + 1), by omega, rfl, hlt, p'⟩, fun x H' y => ?_⟩
    obtain ⟨e, y⟩ := y
    subst e
    exact hs i x σ _ (y xs q) p
  · have e : i = xs.length := by omega
    subst e
    exact .inl ⟨⟨xs, q, Nat.le_refl _⟩, hd σ H p⟩
theorem for_tup {K : PySem.W.Frag} {a : Addr} {xs : List V} {g : TG} {tb : TS} {D : Ends} {σ : St} {H : Hp} (Pv : Nat → St → Hp → Prop) (h0 : Pv 0 σ H) (hl : ∀ i σ H, i ≤ xs.length → Pv i σ H → SqT K H a xs)
    (hs : ∀ i x σ H, xs[i]? = some x → Pv i σ H → g x σ H fun σ2 H2 => tb { D with nx := Pv (i + 1), ct := Pv (i + 1), bk := D.nx } σ2 H2) (hd : ∀ σ H, Pv xs.length σ H → D.nx σ H) :
    ∃ W : Nat → Nat → St → Hp → Prop, (∃ m, W 0 m σ H) ∧ ∀ i m σ H, W i m σ H →
      ((Itt K a).stop i H ∧ D.nx σ H) ∨ ((Itt K a).go i H ∧ ∃ N : St → Hp → Prop, (∀ σ' H', N σ' H' → ∃ m', m' < m ∧ W (i + 1) m' σ' H') ∧ ∀ x H', (Itt K a).yld i H x H' → g x σ H' fun σ2 H2 => tb { D with nx := N, ct := N, bk := D.nx } σ2 H2) := by
  refine ⟨fun i m σ H => m = xs.length - i ∧ i ≤ xs.length ∧ Pv i σ H, ⟨xs.length, by simp, Nat.zero_le _, h0⟩, ?_⟩
  rintro i m σ H ⟨rfl, hi, p⟩
  have q := hl i σ H hi p
  by_cases hlt : i < xs.length
  · refine .inr ⟨⟨xs, xs[i], q, by simp [hlt]⟩, Pv (i + 1), fun σ' H' p' => ⟨xs.length - (i + 1), by omega, rfl, hlt, p'⟩, fun x H' y => ?_⟩
    obtain ⟨e, y⟩ := y
    subst e
    exact hs i x σ _ (y xs q) p
  · have e : i = xs.length := by omega
    subst e
    exact .inl ⟨⟨xs, q, Nat.le_refl _⟩, hd σ H p⟩
theorem for_range {lo : Int} {n : Nat} {g : TG} {tb : TS} {D : Ends} {σ : St} {H : Hp} (Pv : Nat → St → Hp → Prop) (h0 : Pv 0 σ H)
    (hs : ∀ i σ H, i < n → Pv i σ H → g (.int (lo + i)) σ H fun σ2 H2 => tb { D with nx := Pv (i + 1), ct := Pv (i + 1), bk := D.nx } σ2 H2) (hd : ∀ σ H, Pv n σ H → D.nx σ H) :
    ∃ W : Nat → Nat → St → Hp → Prop, (∃ m, W 0 m σ H) ∧ ∀ i m σ H, W i m σ H →
      ((Itr lo n).stop i H ∧ D.nx σ H) ∨ ((Itr lo n).go i H ∧ ∃ N : St → Hp → Prop, (∀ σ' H', N σ' H' → ∃ m', m' < m ∧ W (i + 1) m' σ' H') ∧ ∀ x H', (Itr lo n).yld i H x H' → g x σ H' fun σ2 H2 => tb { D with nx := N, ct := N, bk := D.nx } σ2 H2) := by
  refine ⟨fun i m σ H => m = n - i ∧ i ≤ n ∧ Pv i σ H, ⟨n, by simp, Nat.zero_le _, h0⟩, ?_⟩
  rintro i m σ H ⟨rfl, hi, p⟩
  by_cases hlt : i < n
  · refine .inr ⟨hlt, Pv (i + 1), fun σ' H' p' => ⟨n - (i + 1), by omega, rfl, hlt, p'⟩, fun x H' y => ?_⟩
    obtain ⟨e, y⟩ := y
    subst e y
    exact hs i σ _ hlt p
  · have e : i = n := by omega
    subst e
    exact .inl ⟨Nat.le_refl _, hd σ H p⟩
end L2

namespace L2
open PySem PySem.Spec PyProof.Rows

abbrev R2 := V → V → Hp → VK → Prop
/-- a two-place operation on values: f is binaryOp op, inplaceOp op or compareOp op -/
def OpR (X : Cx) (f : Value → Value → Sem Value) (r : R2) : Prop :=
  ∀ (pins : List (Addr × Obj)) (s : Shared) (σ : St) (H : Hp) (x y : V) (v u : Value) (Q : VK), Inv X pins σ H s → RelV x v → RelV y u → r x y H Q →
    wpAny (model X.prog X.w) X.A (f v u) (EP X pins σ Q) X.xe s
/-- a one-place operation -/
def UnR (X : Cx) (f : Value → Sem Value) (r : V → Hp → VK → Prop) : Prop :=
  ∀ (pins : List (Addr × Obj)) (s : Shared) (σ : St) (H : Hp) (x : V) (v : Value) (Q : VK), Inv X pins σ H s → RelV x v → r x H Q →
    wpAny (model X.prog X.w) X.A (f v) (EP X pins σ Q) X.xe s
/-- a call of a value that is known (a builtin, a type) with values -/
def CallR (X : Cx) (f : Value) (r : List V → Hp → VK → Prop) : Prop :=
  ∀ (pins : List (Addr × Obj)) (s : Shared) (σ : St) (H : Hp) (xs : List V) (us : List Value) (Q : VK), Inv X pins σ H s → Vals xs us → r xs H Q →
    wpAny (model X.prog X.w) X.A (call f us) (EP X pins σ Q) X.xe s
/-- a value's truth -/
def TruR (X : Cx) (r : V → Hp → (Bool → Hp → Prop) → Prop) : Prop :=
  ∀ (pins : List (Addr × Obj)) (s : Shared) (σ : St) (H : Hp) (x : V) (v : Value) (Q : Bool → Hp → Prop), Inv X pins σ H s → RelV x v → r x H Q →
    wpAny (model X.prog X.w) X.A (truthy v) (TP X pins σ Q) X.xe s

def tOp (r : R2) (ta tb : TE) : TE := fun σ H Q => ta σ H fun x H1 => tb σ H1 fun y H2 => r x y H2 Q
def tUn (r : V → Hp → VK → Prop) (ta : TE) : TE := fun σ H Q => ta σ H fun x H1 => r x H1 Q
/-- ints in, under C, and a value out -/
def rI (C : Int → Int → Prop) (g : Int → Int → V) : R2 := fun x y H Q => ∃ i j, x = .int i ∧ y = .int j ∧ C i j ∧ Q (g i j) H
def rI0 (g : Int → Int → V) : R2 := fun x y H Q => ∃ i j, x = .int i ∧ y = .int j ∧ Q (g i j) H
def rU (g : Int → V) : V → Hp → VK → Prop := fun x H Q => ∃ i, x = .int i ∧ Q (g i) H

section
variable {X : Cx} {a b c : Expr} {ta tb tc : TE} {pos : Pos}

theorem binT (ha : PE X a ta) (hb : PE X b tb) {pins : List (Addr × Obj)} {s : Shared} {σ : St} {H : Hp} {R : V → V → Hp → Prop} (I : Inv X pins σ H s)
    (h : ta σ H fun x H1 => tb σ H1 fun y H2 => R x y H2) {Q : Value → Shared → Prop} {f : Value → Value → Sem Value}
    (hf : ∀ v u s2 x y H2, Inv X pins σ H2 s2 → RelV x v → RelV y u → R x y H2 → wpAny (model X.prog X.w) X.A (f v u) Q X.xe s2) :
    wpAny (model X.prog X.w) X.A (eval a X.env) (fun v s₁ => wpAny (model X.prog X.w) X.A (eval b X.env) (fun u s₂ => wpAny (model X.prog X.w) X.A (f v u) Q X.xe s₂) X.xe s₁) X.xe s := by
  refine thn (ha pins s σ H _ I h) fun v s1 ⟨x, H1, I1, r1, q1⟩ => ?_
  refine thn (hb pins s1 σ H1 _ I1 q1) fun u s2 ⟨y, H2, I2, r2, q2⟩ => ?_
  exact hf v u s2 x y H2 I2 r1 r2 q2

theorem pe_op {op : Operator} {r : R2} (ho : OpR X (binaryOp op) r) (ha : PE X a ta) (hb : PE X b tb) : PE X (.BinOp a op b pos) (tOp r ta tb) := by
  intro pins s σ H Q I h
  exact wpAny_BinOp (binT ha hb I h fun v u s2 x y H2 I2 rx ry q => ho pins s2 σ H2 x y v u Q I2 rx ry q)
theorem pe_un {op : UnaryOp} {r : V → Hp → VK → Prop} (ho : UnR X (unaryOp op) r) (ha : PE X a ta) : PE X (.UnaryOp op a pos) (tUn r ta) := by
  intro pins s σ H Q I h
  exact UnaryOp_ (thn (ha pins s σ H _ I h) fun v s1 ⟨x, H1, I1, r1, q1⟩ => ho pins s1 σ H1 x v Q I1 r1 q1)
theorem opI {f : Value → Value → Sem Value} {C : Int → Int → Prop} {g : Int → Int → Int}
    (rule : ∀ (i j : Int) (t u : Tok) (s : Shared) (Q : Value → Shared → Prop) (E : Value → Shared → Prop), C i j → Q (.int (g i j) s.toks) { s with toks := s.toks + 1 } → wpAny (model X.prog X.w) X.A (f (.int i t) (.int j u)) Q E s) :
    OpR X f (rI C fun i j => .int (g i j)) := by
  intro pins s σ H x y v u Q I rx ry h
  obtain ⟨i, j, rfl, rfl, hc, q⟩ := h
  obtain ⟨t, rfl⟩ := rx
  obtain ⟨t', rfl⟩ := ry
  exact rule i j t t' s _ _ hc ⟨.int (g i j), H, I.tok _, ⟨_, rfl⟩, q⟩
theorem opI0 {f : Value → Value → Sem Value} {g : Int → Int → Int}
    (rule : ∀ (i j : Int) (t u : Tok) (s : Shared) (Q : Value → Shared → Prop) (E : Value → Shared → Prop), Q (.int (g i j) s.toks) { s with toks := s.toks + 1 } → wpAny (model X.prog X.w) X.A (f (.int i t) (.int j u)) Q E s) :
    OpR X f (rI0 fun i j => .int (g i j)) := by
  intro pins s σ H x y v u Q I rx ry h
  obtain ⟨i, j, rfl, rfl, q⟩ := h
  obtain ⟨t, rfl⟩ := rx
  obtain ⟨t', rfl⟩ := ry
  exact rule i j t t' s _ _ ⟨.int (g i j), H, I.tok _, ⟨_, rfl⟩, q⟩
theorem opB0 {f : Value → Value → Sem Value} {g : Int → Int → Bool}
    (rule : ∀ (i j : Int) (t u : Tok) (s : Shared) (Q : Value → Shared → Prop) (E : Value → Shared → Prop), Q (.bool (g i j)) s → wpAny (model X.prog X.w) X.A (f (.int i t) (.int j u)) Q E s) :
    OpR X f (rI0 fun i j => .bl (g i j)) := by
  intro pins s σ H x y v u Q I rx ry h
  obtain ⟨i, j, rfl, rfl, q⟩ := h
  obtain ⟨t, rfl⟩ := rx
  obtain ⟨t', rfl⟩ := ry
  exact rule i j t t' s _ _ ⟨.bl (g i j), H, I, rfl, q⟩

def CDiv (i j : Int) : Prop := 0 < j ∧ j < 1073741824
def CPow (i j : Int) : Prop := 0 ≤ j ∧ j ≤ 1000000 ∧ i.natAbs < 2 ^ 64
def CMul (i j : Int) : Prop := (-(2 ^ 64) < i ∧ i < 2 ^ 64) ∨ (-(2 ^ 64) < j ∧ j < 2 ^ 64)
theorem CMul.ok {i j : Int} (h : CMul i j) : IntMulOk i j := by
  rcases h with ⟨h1, h2⟩ | ⟨h1, h2⟩
  · exact .of_left (intBits_le_64 h1 h2)
  · exact .of_right (intBits_le_64 h1 h2)
theorem op_add : OpR X (binaryOp .Add) (rI0 fun i j => .int (i + j)) := opI0 fun _ _ _ _ _ _ _ q => add_int q
theorem op_sub : OpR X (binaryOp .Sub) (rI0 fun i j => .int (i - j)) := opI0 fun _ _ _ _ _ _ _ q => sub_int q
theorem op_mul : OpR X (binaryOp .Mult) (rI CMul fun i j => .int (i * j)) := opI fun _ _ _ _ _ _ _ hc q => mul_int q hc.ok
/-- // by a positive divisor -/
theorem op_fdiv : OpR X (binaryOp .FloorDiv) (rI CDiv fun i j => .int (i / j)) := opI fun i j _ _ _ _ _ hc q => by
  have h1 : (0 : Int) < j := hc.1
  have h2 : j < 1073741824 := hc.2
  exact floordiv_int (by omega) (by rw [Int.fdiv_eq_ediv_of_nonneg i (by omega)]; exact q) (.inl (PyProof.noPylong_small (by omega)))
/-- % by a positive divisor of any size -/
theorem op_mod : OpR X (binaryOp .Mod) (rI (fun _ j => 0 < j) fun i j => .int (i % j)) := opI fun i j _ _ _ _ _ hc q => by
  have h1 : (0 : Int) < j := hc
  exact mod_int' (by omega) (by rw [Int.fmod_eq_emod_of_nonneg i (by omega)]; exact q)
theorem op_pow : OpR X (binaryOp .Pow) (rI CPow fun i j => .int (i ^ j.toNat)) := opI fun _ _ _ _ _ _ _ hc q => pow_int_small hc.1 hc.2.1 hc.2.2 q
theorem unI {f : Value → Sem Value} {g : Int → Int}
    (rule : ∀ (i : Int) (t : Tok) (s : Shared) (Q : Value → Shared → Prop) (E : Value → Shared → Prop), Q (.int (g i) s.toks) { s with toks := s.toks + 1 } → wpAny (model X.prog X.w) X.A (f (.int i t)) Q E s) :
    UnR X f (rU fun i => .int (g i)) := by
  intro pins s σ H x v Q I rx h
  obtain ⟨i, rfl, q⟩ := h
  obtain ⟨t, rfl⟩ := rx
  exact rule i t s _ _ ⟨.int (g i), H, I.tok _, ⟨_, rfl⟩, q⟩
theorem un_neg : UnR X (unaryOp .USub) (rU fun i => .int (-i)) := unI fun _ _ _ _ _ q => neg_int q
end

/-- the scalars that == tells apart as data does -/
def scal : V → V → Bool
  | .non, .non => true | .non, .int _ => true | .int _, .non => true | .non, .bl _ => true | .bl _, .non => true | .non, .str _ => true | .str _, .non => true
  | .int _, .int _ => true | .bl _, .bl _ => true | .str _, .str _ => true | .byt _, .byt _ => true
  | .int _, .str _ => true | .str _, .int _ => true | .bl _, .str _ => true | .str _, .bl _ => true
  | _, _ => false
def rEq : R2 := fun x y H Q => scal x y = true ∧ Q (.bl (decide (x = y))) H
def rNe : R2 := fun x y H Q => scal x y = true ∧ Q (.bl (!decide (x = y))) H

theorem dec_int {i j : Int} : decide (V.int i = V.int j) = (i == j) := by
  rw [Bool.eq_iff_iff]
  simp
theorem dec_bl {i j : Bool} : decide (V.bl i = V.bl j) = (i == j) := by
  rw [Bool.eq_iff_iff]
  simp
theorem dec_str {i j : Str} : decide (V.str i = V.str j) = (i == j) := by
  rw [Bool.eq_iff_iff]
  simp
theorem dec_byt {i j : Array UInt8} : decide (V.byt i = V.byt j) = (i.toList == j.toList) := by
  rw [Bool.eq_iff_iff]
  cases i
  cases j
  simp

section
variable {X : Cx} {a b c : Expr} {ta tb tc : TE} {pos : Pos}
theorem fin_bl {pins : List (Addr × Obj)} {σ : St} {H : Hp} {s : Shared} {Q : VK} {k k' : Bool} (I : Inv X pins σ H s) (q : Q (.bl k) H) (e : k = k') : EP X pins σ Q (.bool k') s := by
  subst e
  exact ⟨.bl k, H, I, rfl, q⟩
theorem op_eq : OpR X (compareOp .Eq) rEq := by
  intro pins s σ H x y v u Q I rx ry h
  obtain ⟨hs, q⟩ := h
  cases x with
  | non =>
    cases rx
    cases y with
    | non => cases ry; exact PySem.EqNone.eq_none_none (fin_bl I q (by simp))
    | bl j => cases ry; exact PySem.EqNone.eq_none_bool (fin_bl I q (by simp))
    | int j => obtain ⟨t', rfl⟩ := ry; exact PySem.EqNone.eq_none_int (fin_bl I q (by simp))
    | str j => obtain ⟨t', rfl⟩ := ry; exact PySem.EqNone.eq_none_str (fin_bl I q (by simp))
    | _ => exact absurd (show false = true from hs) Bool.false_ne_true
  | bl i =>
    cases rx
    cases y with
    | non => cases ry; exact PySem.EqNone.eq_bool_none (fin_bl I q (by simp))
    | bl j => cases ry; exact eq_bool (fin_bl I q dec_bl)
    | str j => obtain ⟨t', rfl⟩ := ry; exact PySem.EqMixed.eq_bool_str (fin_bl I q (by simp))
    | _ => exact absurd (show false = true from hs) Bool.false_ne_true
  | int i =>
    obtain ⟨t, rfl⟩ := rx
    cases y with
    | non => cases ry; exact PySem.EqNone.eq_int_none (fin_bl I q (by simp))
    | int j => obtain ⟨t', rfl⟩ := ry; exact eq_int (fin_bl I q dec_int)
    | str j => obtain ⟨t', rfl⟩ := ry; exact PySem.EqMixed.eq_int_str (fin_bl I q (by simp))
    | _ => exact absurd (show false = true from hs) Bool.false_ne_true
  | str i =>
    obtain ⟨t, rfl⟩ := rx
    cases y with
    | non => cases ry; exact PySem.EqNone.eq_str_none (fin_bl I q (by simp))
    | bl j => cases ry; exact PySem.EqMixed.eq_str_bool (fin_bl I q (by simp))
    | int j => obtain ⟨t', rfl⟩ := ry; exact PySem.EqMixed.eq_str_int (fin_bl I q (by simp))
    | str j => obtain ⟨t', rfl⟩ := ry; exact eq_str (fin_bl I q dec_str)
    | _ => exact absurd (show false = true from hs) Bool.false_ne_true
  | byt i =>
    obtain ⟨t, rfl⟩ := rx
    cases y with
    | byt j => obtain ⟨t', rfl⟩ := ry; exact PySem.W.eq_bytes (fin_bl I q dec_byt)
    | _ => exact absurd (show false = true from hs) Bool.false_ne_true
  | _ => cases y <;> exact absurd (show false = true from hs) Bool.false_ne_true
theorem op_ne : OpR X (compareOp .NotEq) rNe := by
  intro pins s σ H x y v u Q I rx ry h
  obtain ⟨hs, q⟩ := h
  cases x with
  | non =>
    cases rx
    cases y with
    | non => cases ry; exact PySem.EqNone.ne_none_none (fin_bl I q (by simp))
    | bl j => cases ry; exact PySem.EqNone.ne_none_bool (fin_bl I q (by simp))
    | int j => obtain ⟨t', rfl⟩ := ry; exact PySem.EqNone.ne_none_int (fin_bl I q (by simp))
    | str j => obtain ⟨t', rfl⟩ := ry; exact PySem.EqNone.ne_none_str (fin_bl I q (by simp))
    | _ => exact absurd (show false = true from hs) Bool.false_ne_true
  | bl i =>
    cases rx
    cases y with
    | non => cases ry; exact PySem.EqNone.ne_bool_none (fin_bl I q (by simp))
    | bl j => cases ry; exact ne_bool (fin_bl I q (congrArg not dec_bl))
    | str j => obtain ⟨t', rfl⟩ := ry; exact PySem.EqMixed.ne_bool_str (fin_bl I q (by simp))
    | _ => exact absurd (show false = true from hs) Bool.false_ne_true
  | int i =>
    obtain ⟨t, rfl⟩ := rx
    cases y with
    | non => cases ry; exact PySem.EqNone.ne_int_none (fin_bl I q (by simp))
    | int j => obtain ⟨t', rfl⟩ := ry; exact ne_int (fin_bl I q (congrArg not dec_int))
    | str j => obtain ⟨t', rfl⟩ := ry; exact PySem.EqMixed.ne_int_str (fin_bl I q (by simp))
    | _ => exact absurd (show false = true from hs) Bool.false_ne_true
  | str i =>
    obtain ⟨t, rfl⟩ := rx
    cases y with
    | non => cases ry; exact PySem.EqNone.ne_str_none (fin_bl I q (by simp))
    | bl j => cases ry; exact PySem.EqMixed.ne_str_bool (fin_bl I q (by simp))
    | int j => obtain ⟨t', rfl⟩ := ry; exact PySem.EqMixed.ne_str_int (fin_bl I q (by simp))
    | str j => obtain ⟨t', rfl⟩ := ry; exact ne_str (fin_bl I q (congrArg not dec_str))
    | _ => exact absurd (show false = true from hs) Bool.false_ne_true
  | byt i =>
    obtain ⟨t, rfl⟩ := rx
    cases y with
    | byt j => obtain ⟨t', rfl⟩ := ry; exact PySem.W.ne_bytes (fin_bl I q (congrArg not dec_byt))
    | _ => exact absurd (show false = true from hs) Bool.false_ne_true
  | _ => cases y <;> exact absurd (show false = true from hs) Bool.false_ne_true

theorem op_lt : OpR X (compareOp .Lt) (rI0 fun i j => .bl (decide (i < j))) := opB0 fun _ _ _ _ _ _ _ q => lt_int q
theorem op_le : OpR X (compareOp .LtE) (rI0 fun i j => .bl (decide (i ≤ j))) := opB0 fun _ _ _ _ _ _ _ q => le_int q
theorem op_gt : OpR X (compareOp .Gt) (rI0 fun i j => .bl (decide (j < i))) := opB0 fun _ _ _ _ _ _ _ q => gt_int q
theorem op_ge : OpR X (compareOp .GtE) (rI0 fun i j => .bl (decide (j ≤ i))) := opB0 fun _ _ _ _ _ _ _ q => ge_int q
/-- is None, is not None: the right side a value none -/
theorem op_isN : OpR X (compareOp .Is) (fun x y H Q => y = .non ∧ Q (.bl (decide (x = .non))) H) := by
  intro pins s σ H x y v u Q I rx ry h
  obtain ⟨rfl, q⟩ := h
  cases ry
  refine is_none_gen (fin_bl I q ?_)
  cases x <;> first
    | (cases rx; rfl)
    | (obtain ⟨t, rfl⟩ := rx; rfl)
theorem op_notN : OpR X (compareOp .IsNot) (fun x y H Q => y = .non ∧ Q (.bl (!decide (x = .non))) H) := by
  intro pins s σ H x y v u Q I rx ry h
  obtain ⟨rfl, q⟩ := h
  cases ry
  refine isnot_none_gen (fin_bl I q ?_)
  cases x <;> first
    | (cases rx; rfl)
    | (obtain ⟨t, rfl⟩ := rx; rfl)

theorem nomark (b : Expr) {op : CmpOp} (h : op ≠ .In := by decide) (h2 : op ≠ .NotIn := by decide) : behindInMarks op b = false := by
  have e1 : (op == CmpOp.In) = false := by cases op <;> first | rfl | exact absurd rfl h
  have e2 : (op == CmpOp.NotIn) = false := by cases op <;> first | rfl | exact absurd rfl h2
  cases b <;> simp [behindInMarks, e1, e2]
/-- a comparison as a value; hm: nomark b, or (for in, not in) by with_unfolding_all rfl -/
theorem pe_cmpR {op : CmpOp} {r : R2} (ho : OpR X (compareOp op) r) (ha : PE X a ta) (hb : PE X b tb) (hm : behindInMarks op b = false) : PE X (.Compare a [op] [b] pos) (tOp r ta tb) := by
  intro pins s σ H Q I h
  exact wpAny_Compare1 (binT ha hb I h fun v u s2 x y H2 I2 rx ry q => ho pins s2 σ H2 x y v u Q I2 rx ry q) hm
/-- a reading of a value as a test -/
def tTest (t : TE) : TT := fun σ H Q => t σ H fun x H' => ∃ k, x = .bl k ∧ Q k H'
theorem pt_cmpR {op : CmpOp} {r : R2} (ho : OpR X (compareOp op) r) (ha : PE X a ta) (hb : PE X b tb) (hm : behindInMarks op b = false) : PT X (.Compare a [op] [b] pos) (tTest (tOp r ta tb)) := by
  intro pins s σ H Q I h
  refine wpAny_isTrue_Compare1 (thn (ha pins s σ H _ I h) fun v s1 ⟨x, H1, I1, r1, q1⟩ => thn (hb pins s1 σ H1 _ I1 q1) fun u s2 ⟨y, H2, I2, r2, q2⟩ =>
    thn (ho pins s2 σ H2 x y v u _ I2 r1 r2 q2) fun c s3 ⟨z, H3, I3, r3, k, e, q3⟩ => ?_) hm
  subst e
  cases r3
  exact wpAny_truthy_bool ⟨H3, I3, q3⟩
/-- a op1 b op2 c -/
def tChain (r r' : R2) (ta tb tc : TE) : TE := fun σ H Q => ta σ H fun x H1 => tb σ H1 fun y H2 => r x y H2 fun z H3 => ∃ k, z = .bl k ∧
  (if k = true then tc σ H3 fun w' H4 => r' y w' H4 Q else Q (.bl false) H3)
theorem pe_chain {op op' : CmpOp} {r r' : R2} (ho : OpR X (compareOp op) r) (ho' : OpR X (compareOp op') r') (ha : PE X a ta) (hb : PE X b tb) (hc : PE X c tc)
    (hm : lastMarks [op, op'] [b, c] = false := by with_unfolding_all rfl) : PE X (.Compare a [op, op'] [b, c] pos) (tChain r r' ta tb tc) := by
  intro pins s σ H Q I h
  refine Compare_chain (thn (ha pins s σ H _ I h) fun v s1 ⟨x, H1, I1, r1, q1⟩ => chain_link (thn (hb pins s1 σ H1 _ I1 q1) fun u s2 ⟨y, H2, I2, r2, q2⟩ =>
    thn (ho pins s2 σ H2 x y v u _ I2 r1 r2 q2) fun d s3 ⟨z, H3, I3, r3, k, e, q3⟩ => ?_)) hm
  subst e
  cases r3
  refine wpAny_truthy_bool ?_
  cases k with
  | false => exact ite_ff ⟨.bl false, H3, I3, rfl, q3⟩
  | true => exact ite_tt (chain_last (thn (hc pins s3 σ H3 _ I3 q3) fun w' s4 ⟨z', H4, I4, r4, q4⟩ => ho' pins s4 σ H4 y z' u w' Q I4 r2 r4 q4))
theorem pt_chain {op op' : CmpOp} {r r' : R2} (ho : OpR X (compareOp op) r) (ho' : OpR X (compareOp op') r') (ha : PE X a ta) (hb : PE X b tb) (hc : PE X c tc)
    (hm : lastMarks [op, op'] [b, c] = false := by with_unfolding_all rfl) : PT X (.Compare a [op, op'] [b, c] pos) (tTest (tChain r r' ta tb tc)) := by
  intro pins s σ H Q I h
  refine isTrue_chain (thn (ha pins s σ H _ I h) fun v s1 ⟨x, H1, I1, r1, q1⟩ => test_link (thn (hb pins s1 σ H1 _ I1 q1) fun u s2 ⟨y, H2, I2, r2, q2⟩ =>
    thn (ho pins s2 σ H2 x y v u _ I2 r1 r2 q2) fun d s3 ⟨z, H3, I3, r3, k, e, q3⟩ => ?_)) hm
  subst e
  cases r3
  refine wpAny_truthy_bool ?_
  cases k with
  | false =>
    obtain ⟨k', e', q'⟩ := q3
    cases e'
    exact ite_ff ⟨H3, I3, q'⟩
  | true =>
    refine ite_tt (test_last (thn (hc pins s3 σ H3 _ I3 q3) fun w' s4 ⟨z', H4, I4, r4, q4⟩ => thn (ho' pins s4 σ H4 y z' u w' _ I4 r2 r4 q4) fun d' s5 ⟨z2, H5, I5, r5, k2, e2, q5⟩ => ?_))
    subst e2
    cases r5
    exact wpAny_truthy_bool ⟨H5, I5, q5⟩

/-- a value's truth by the abstract heap -/
def TruV (K : PySem.W.Frag) (x : V) (H : Hp) (k : Bool) : Prop :=
  match x with
  | .non => k = false
  | .bl b => k = b
  | .int i => k = (i != 0)
  | .str y => y.length ≤ sizeLine ∧ k = ((y.length : Int) != 0)
  | .byt y => y.size ≤ sizeLine ∧ k = ((y.size : Int) != 0)
  | .ref p => (∃ xs, SqL K H p xs ∧ k = !xs.isEmpty) ∨ (∃ xs, SqT K H p xs ∧ k = !xs.isEmpty) ∨ ∃ kvs, H p = some (.dK kvs) ∧ k = !kvs.isEmpty
  | _ => False
theorem isEmpty_kv {κ : Type} {kvs : List (κ × V)} {vs : List (κ × Value)} (r : KV kvs vs) : (!vs.isEmpty) = !kvs.isEmpty := by
  cases r <;> rfl
theorem isEmpty_of {xs : List V} {its : List Value} (r : Vals xs its) : (!its.toArray.isEmpty) = !xs.isEmpty := by
  cases r <;> simp
theorem line63 : (sizeLine : Nat) < 2 ^ 63 := by rw [sizeLine_eq]; decide
theorem tru_ok : TruR X (fun x H Q => ∃ k, TruV X.K x H k ∧ Q k H) := by
  intro pins s σ H x v Q I rx h
  obtain ⟨k, e, q⟩ := h
  have hl := line63
  have hs : sizeLine = 16777216 := sizeLine_eq
  cases x with
  | non =>
    cases rx
    have e' : k = false := e
    subst e'
    exact truthy_none ⟨H, I, q⟩
  | bl b =>
    cases rx
    have e' : k = b := e
    subst e'
    exact wpAny_truthy_bool ⟨H, I, q⟩
  | int i =>
    obtain ⟨t, rfl⟩ := rx
    have e' : k = (i != 0) := e
    subst e'
    exact PySem.P.truthy_int ⟨H, I, q⟩
  | str y =>
    obtain ⟨t, rfl⟩ := rx
    obtain ⟨hy, e'⟩ : y.length ≤ sizeLine ∧ k = ((y.length : Int) != 0) := e
    subst e'
    exact PySem.P.truthy_str (by omega) ⟨H, I.tok _, q⟩
  | byt y =>
    obtain ⟨t, rfl⟩ := rx
    obtain ⟨hy, e'⟩ : y.size ≤ sizeLine ∧ k = ((y.size : Int) != 0) := e
    subst e'
    exact PySem.W.truthy_bytes (by omega) ⟨H, I.tok _, q⟩
  | ref p =>
    cases rx
    have e' : (∃ xs, SqL X.K H p xs ∧ k = !xs.isEmpty) ∨ (∃ xs, SqT X.K H p xs ∧ k = !xs.isEmpty) ∨ ∃ kvs, H p = some (.dK kvs) ∧ k = !kvs.isEmpty := e
    rcases e' with ⟨xs, hx, e'⟩ | ⟨xs, hx, e'⟩ | ⟨kvs, hx, e'⟩
    · subst e'
      obtain ⟨its, r, pl, hz⟩ := I.list hx
      have hlen := r.length
      exact wpAny_truthy_list pl.isList (by simp only [List.size_toArray]; omega) ⟨H, I.tok _, by rw [isEmpty_of r]; exact q⟩
    · subst e'
      obtain ⟨its, r, pl, hz⟩ := I.tuple hx
      have hlen := r.length
      exact truthy_tuple pl (by simp only [List.size_toArray]; omega) ⟨H, I.tok _, by rw [isEmpty_of r]; exact q⟩
    · subst e'
      obtain ⟨hz, hS, vs, r, m⟩ : kvs.length ≤ sizeLine ∧ (p == sysModules) = false ∧ ∃ vs, KV kvs vs ∧ s.heap.DictOf (mixKind X.prog X.w) p vs := I.hok p _ hx
      have hlen : kvs.length = vs.length := Paired.length r
      exact wpAny_truthy_dict hS m (by omega) ⟨H, I.tok _, by rw [isEmpty_kv r]; exact q⟩
  | _ => exact (show False from e).elim
/-- any expression whose test is its value's truth (a name, a call, a subscript, a field ..: he by fun _ => rfl) -/
theorem pt_truth (ha : PE X a ta) (he : ∀ whole, isTrue a X.env whole = (do let v ← whole; standAt a.pos; holding [v] (truthy v))) :
    PT X a (fun σ H Q => ta σ H fun x H' => ∃ k, TruV X.K x H' k ∧ Q k H') := by
  intro pins s σ H Q I h
  exact isTrue_plain (thn (ha pins s σ H _ I h) fun v s1 ⟨x, H1, I1, r1, q1⟩ => tru_ok pins s1 σ H1 x v Q I1 r1 q1) (he _)

theorem op_add_str : OpR X (binaryOp .Add) (fun x y H Q => ∃ i j, x = .str i ∧ y = .str j ∧ i.length + j.length ≤ sizeLine ∧ Q (.str (i ++ j)) H) := by
  intro pins s σ H x y v u Q I rx ry h
  obtain ⟨i, j, rfl, rfl, hz, q⟩ := h
  obtain ⟨t, rfl⟩ := rx
  obtain ⟨t', rfl⟩ := ry
  exact add_str (fun t' tk => ⟨.str (i ++ j), H, I.tok _, ⟨_, rfl⟩, q⟩) hz
theorem vals1 {x : V} {us : List Value} (r : Vals [x] us) : ∃ u, us = [u] ∧ RelV x u := by
  cases r with
  | cons r1 r2 => cases r2; exact ⟨_, rfl, r1⟩
theorem vals2 {x y : V} {us : List Value} (r : Vals [x, y] us) : ∃ u w', us = [u, w'] ∧ RelV x u ∧ RelV y w' := by
  cases r with
  | cons r1 r2 =>
    cases r2 with
    | cons r3 r4 => cases r4; exact ⟨_, _, rfl, r1, r3⟩
theorem call_max2 (hc : X.calm = true) : CallR X (.builtin "max") (fun xs H Q => ∃ i j, xs = [.int i, .int j] ∧ Q (.int (if j > i then j else i)) H) := by
  intro pins s σ H xs us Q I r h
  obtain ⟨i, j, rfl, q⟩ := h
  obtain ⟨u, w', rfl, ⟨t, rfl⟩, ⟨t', rfl⟩⟩ := vals2 r
  refine max_two_ints (I.ok.hd hc) fun h' tk k => ⟨_, H, I.kept k, ?_, q⟩
  by_cases hj : j > i
  · rw [if_pos hj, if_pos hj]; exact ⟨_, rfl⟩
  · rw [if_neg hj, if_neg hj]; exact ⟨_, rfl⟩
theorem call_min2 (hc : X.calm = true) : CallR X (.builtin "min") (fun xs H Q => ∃ i j, xs = [.int i, .int j] ∧ Q (.int (if j < i then j else i)) H) := by
  intro pins s σ H xs us Q I r h
  obtain ⟨i, j, rfl, q⟩ := h
  obtain ⟨u, w', rfl, ⟨t, rfl⟩, ⟨t', rfl⟩⟩ := vals2 r
  refine min_two_ints (I.ok.hd hc) fun h' tk k => ⟨_, H, I.kept k, ?_, q⟩
  by_cases hj : j < i
  · rw [if_pos hj, if_pos hj]; exact ⟨_, rfl⟩
  · rw [if_neg hj, if_neg hj]; exact ⟨_, rfl⟩
end
end L2

namespace L2
open PySem PySem.Spec PyProof.Rows

structure ObjM (h : Heap) (x dx C : Addr) (mA : Str → Option Value) : Prop where
  obj : h.get? x = some (PySem.W.instObj C dx)
  ns : h.Ns1 dx mA
  ne : dx ≠ x

theorem lookIn_ns {h : Heap} {dx : Addr} {mA : Str → Option Value} (n : h.Ns1 dx mA) : ∃ od, h.get? dx = some od ∧ ∀ name, PySem.W.lookIn name od = some (mA name) := by
  obtain ⟨o, es, ep, ho, hd, hk, _, hm⟩ := n
  refine ⟨o, ho, fun name => ?_⟩
  have e := hm name
  unfold nsFind findBy at e
  rw [← Array.find?_toList] at e
  unfold PySem.W.lookIn
  rw [hd]
  dsimp only
  split
  · rename_i y q
    rw [q] at e
    exact congrArg some e
  · rename_i q
    rw [q] at e
    have a : es.toList.any (·.refKey) = false := by
      rw [List.any_eq_false]
      intro y hy
      obtain ⟨z, t, hkey⟩ := hk y (Array.mem_toList_iff.mp hy)
      simp [DictEntry.refKey, hkey]
    have a' : ¬ es.toList.any (·.refKey) = true := by rw [a]; exact Bool.false_ne_true
    rw [if_neg a']
    exact congrArg some e

theorem ObjM.look {h : Heap} {x dx C : Addr} {mA : Str → Option Value} (I : ObjM h x dx C mA) : ∃ od, PySem.W.InstAt h x (PySem.W.instObj C dx) C (some od) ∧ ∀ name, PySem.W.lookIn name od = some (mA name) :=
  let ⟨od, ho, hl⟩ := lookIn_ns I.ns
  ⟨od, ⟨I.obj, rfl, rfl, ho⟩, hl⟩

section
variable {prog : Program} {w : World} {A : Around} {E : Value → Shared → Prop} {s : Shared} {K : PySem.W.Frag} {x dx C f : Addr} {mA : Str → Option Value} {name : Str} {v : Value}

theorem get_map {expr : Bool} {Q : Value → Shared → Prop} (X : K.In s.heap) (I : ObjM s.heap x dx C mA) (hg : PySem.W.plainGet K C name = true) (hh : PySem.W.hasDictIn K C = true)
    (ha : PySem.W.findIn K (.ref C) name = some none) (hv : mA name = some v) (hv' : PySem.W.handedIn v = true) (h : Q v { s with toks := s.toks + 1 }) :
    wpAny (model prog w) A (getAttr (.ref x) name expr) Q E s := by
  obtain ⟨od, J, hl⟩ := I.look
  exact PySem.W.get_value X J (PySem.W.plainGet_of hg).1 (PySem.W.findObj_own hh ha rfl (by rw [hl, hv])) hv' h

theorem get_meth {pl : Sem Bool} {Q : Value × List Value → Shared → Prop} (X : K.In s.heap) (I : ObjM s.heap x dx C mA) (hg : PySem.W.plainGet K C name = true)
    (hf : PySem.W.findIn K (.ref C) name = some (some (.ref f))) (ht : PySem.W.isFn K (.ref f) = true) (hv : mA name = none) (h : Q (.ref f, [.ref x]) s) :
    wpAny (model prog w) A (getMethod (.ref x) name pl) Q E s := by
  obtain ⟨od, J, hl⟩ := I.look
  exact PySem.W.method_fn X J (PySem.W.plainGet_of hg).1 (PySem.W.plainGet_of hg).2 hf (beq_iff_eq.mp ht) (by show (PySem.W.lookIn name od).map (·.isSome) = some false; rw [hl, hv]; rfl) h

theorem set_map {ns : List Str} {Q : Unit → Shared → Prop} (X : K.In s.heap) (I : ObjM s.heap x dx C mA)
    (hs : PySem.W.findIn K (.ref C) "__setattr__" = some (some (.builtin "object.__setattr__"))) (hp : PySem.W.plainOver K C = true) (ht : PySem.W.takerIn K C name = some none) (hh : PySem.W.hasDictIn K C = true)
    (hw : PySem.Within mA ns) (hsz : ns.length ≤ sizeLine)
    (h : ∀ h', ObjM h' x dx C (fun y => if y = name then some v else mA y) → Heap.SameBut dx s.heap h' → Q () { s with heap := h', toks := s.toks + 2 }) :
    wpAny (model prog w) A (setAttr (.ref x) name v) Q E s := by
  obtain ⟨od, J, hl⟩ := I.look
  refine PySem.W.set_plain X J hs (PySem.W.osa_open (s := { s with toks := s.toks + 1 }) (r := none) X J hp ht fun b => ?_)
  obtain ⟨cd, hc, hd'⟩ := PySem.W.any_some hh
  have hx : s.heap.get? x = some ⟨.ref C, some dx, .plain, #[]⟩ := I.obj
  refine wpAny_bind (wpAny_pure (wpAny_bind (wpAny_bind (wpAny_loadPart hx (wpAny_bind (PySem.W.Looks.here (s := { s with toks := s.toks + 1 }) (PySem.W.looks_clsIn X hc) ?_))))))
  rw [hd']
  refine wpAny_pure (a := some dx) (wpAny_bind (wpAny_pure (wpAny_bind ?_)))
  refine wpAny_nsSet1 (s := { s with toks := s.toks + 1 }) I.ns fun h' hn2 hs2 => ?_
  obtain ⟨oD, esD, epD, hoD, hdD, hcD⟩ := hn2.count (PySem.Within.cons name v hw)
  refine wpAny_bind (wpAny_lookBehind hoD (by rw [hdD]; exact pastItsLine_dict (Nat.le_trans hcD (by rw [List.length_cons]; omega))) ?_)
  exact wpAny_pure (h _ ⟨(hs2.2 _ (Ne.symm I.ne)).trans I.obj, hn2, I.ne⟩ hs2)

/-- C(..): the dict at the heap's end, the instance behind it; then its __init__ -/
theorem make_map {R : Result → Shared → Prop} {vs : List Value} {kw : List (Str × Value)} (X : K.In s.heap) (hm : PySem.W.makesIn K C = true)
    (hi : PySem.W.findIn K (.ref C) "__init__" = some (some (.ref f))) (hf : PySem.W.typeIn K (.ref f) = some (.type "function"))
    (h : codeAny (model prog w) (A.under (.builtin "type.__call__" ⟨.ref C :: vs, kw⟩)) (.call (.ref f) ⟨.ref (s.heap.objs.size + 1) :: vs, kw⟩) (PySem.W.InitBack (s.heap.objs.size + 1) R)
      { s with heap := (s.heap.push PySem.W.emptyDict).push (PySem.W.instObj C s.heap.objs.size) }) :
    codeAny (model prog w) A (.call (.ref C) ⟨vs, kw⟩) R s := by
  obtain ⟨hh, g, d, t, os⟩ := s
  exact PySem.W.make_core (PySem.W.makes_of X hm) (PySem.W.looks_findIn X hi) (fun self => PySem.W.bind_fn X self hf) (.inl rfl) h
end

def putF (f : Str) (v : V) : List (Str × V) → List (Str × V)
  | [] => [(f, v)]
  | (g, x) :: r => if g = f then (g, v) :: r else (g, x) :: putF f v r
theorem lookup_putF (f g : Str) (v : V) : ∀ fs : List (Str × V), (putF f v fs).lookup g = if g = f then some v else fs.lookup g
  | [] => by
    show List.lookup g [(f, v)] = _
    by_cases h : g = f
    · have hb : (g == f) = true := beq_iff_eq.mpr h
      simp only [List.lookup, hb, if_pos h]
    · have hb : (g == f) = false := beq_eq_false_iff_ne.mpr h
      simp only [List.lookup, hb, if_neg h]
  | (k, x) :: r => by
    have ih := lookup_putF f g v r
    rw [show putF f v ((k, x) :: r) = (if k = f then (k, v) :: r else (k, x) :: putF f v r) from rfl]
    by_cases hk : k = f
    · rw [if_pos hk]
      by_cases h : g = k
      · have hb : (g == k) = true := beq_iff_eq.mpr h
        simp only [List.lookup, hb, if_pos (h.trans hk)]
      · have hb : (g == k) = false := beq_eq_false_iff_ne.mpr h
        simp only [List.lookup, hb, if_neg (fun e : g = f => h (e.trans hk.symm))]
    · rw [if_neg hk]
      by_cases h : g = k
      · have hb : (g == k) = true := beq_iff_eq.mpr h
        simp only [List.lookup, hb, if_neg (fun e : g = f => hk (h.symm.trans e))]
      · have hb : (g == k) = false := beq_eq_false_iff_ne.mpr h
        simp only [List.lookup, hb]
        exact ih
theorem keys_putF (f : Str) (v : V) : ∀ fs : List (Str × V), f ∈ (putF f v fs).map (·.1) ∧ ∀ g, g ∈ fs.map (·.1) → g ∈ (putF f v fs).map (·.1)
  | [] => ⟨by simp [putF], fun g h => by simp at h⟩
  | (k, x) :: r => by
    obtain ⟨i1, i2⟩ := keys_putF f v r
    rw [show putF f v ((k, x) :: r) = (if k = f then (k, v) :: r else (k, x) :: putF f v r) from rfl]
    by_cases hk : k = f
    · rw [if_pos hk]
      subst hk
      exact ⟨by simp, fun g h => by simpa using h⟩
    · rw [if_neg hk]
      refine ⟨?_, fun g h => ?_⟩
      · rw [List.map_cons]
        exact List.mem_cons_of_mem _ i1
      · rw [List.map_cons] at h ⊢
        rcases List.mem_cons.mp h with e | e
        · exact List.mem_cons.mpr (.inl e)
        · exact List.mem_cons_of_mem _ (i2 g e)
theorem length_putF (f : Str) (v : V) : ∀ fs : List (Str × V), (putF f v fs).length ≤ fs.length + 1
  | [] => by simp [putF]
  | (k, x) :: r => by
    have ih := length_putF f v r
    rw [show putF f v ((k, x) :: r) = (if k = f then (k, v) :: r else (k, x) :: putF f v r) from rfl]
    by_cases hk : k = f
    · rw [if_pos hk, List.length_cons, List.length_cons]; omega
    · rw [if_neg hk, List.length_cons, List.length_cons]; omega

theorem RelO.some_of {v : V} {o : Option Value} (r : RelO (some v) o) : ∃ u, o = some u ∧ RelV v u := by
  cases o with
  | none => exact (show False from r).elim
  | some u => exact ⟨u, rfl, r⟩
theorem RelO.none_of {o : Option Value} (r : RelO none o) : o = none := by
  cases o with
  | none => rfl
  | some u => exact (show False from r).elim
theorem handed_of {v : V} {u : Value} (r : RelV v u) : PySem.W.handedIn u = true := by
  cases v with
  | non => cases (show u = Value.none from r); rfl
  | bl b => cases (show u = Value.bool b from r); rfl
  | int i => obtain ⟨t, e⟩ := (show ∃ t, u = Value.int i t from r); cases e; rfl
  | str x => obtain ⟨t, e⟩ := (show ∃ t, u = Value.str x t from r); cases e; rfl
  | byt b => obtain ⟨t, e⟩ := (show ∃ t, u = Value.bytes b t from r); cases e; rfl
  | flt b => obtain ⟨t, e⟩ := (show ∃ t, u = Value.float b t from r); cases e; rfl
  | ref a => cases (show u = Value.ref a from r); rfl
  | ty n => cases (show u = Value.type n from r); rfl

section
variable {P : Program} {w : World} {H H' : Hp} {h h' : Heap} {a C dx : Addr} {fs fs' : List (Str × V)}
theorem ins_get (hok : HOk P w H h) (e : H a = some (.ins C dx fs)) : ∃ mA, ObjM h a dx C mA ∧ (∀ f, RelO (fs.lookup f) (mA f)) ∧ PySem.Within mA (fs.map (·.1)) ∧ fs.length ≤ 1000 ∧ H dx = some (.own a) := by
  obtain ⟨d, z, ne, ob, mA, n, r, q⟩ := (show ObjOk P w H h a (.ins C dx fs) from hok a _ e)
  exact ⟨mA, ⟨ob, n, ne⟩, r, q, z, d⟩
end

structure Cls (K : PySem.W.Frag) (C : Addr) : Prop where
  pg : PySem.W.plainGet K C Str.empty = true
  hd : PySem.W.hasDictIn K C = true
  po : PySem.W.plainOver K C = true
  sa : PySem.W.findIn K (.ref C) "__setattr__" = some (some (.builtin "object.__setattr__"))
theorem Cls.get {K : PySem.W.Frag} {C : Addr} (c : Cls K C) (f : Str) : PySem.W.plainGet K C f = true := c.pg
/-- no class of it has the name -/
def NoAttr (K : PySem.W.Frag) (C : Addr) (f : Str) : Prop := PySem.W.findIn K (.ref C) f = some none
theorem NoAttr.taker {K : PySem.W.Frag} {C : Addr} {f : Str} (n : NoAttr K C f) : PySem.W.takerIn K C f = some none := by
  unfold PySem.W.takerIn
  rw [show PySem.W.findIn K (.ref C) f = some none from n]
  rfl
/-- a method: a plain def of the class or of one above it -/
structure Meth (K : PySem.W.Frag) (C : Addr) (m : Str) (f : Addr) : Prop where
  at_ : PySem.W.findIn K (.ref C) m = some (some (.ref f))
  fn : PySem.W.isFn K (.ref f) = true
  kp : PySem.W.keepIn K (.ref f) = true

section
variable {X : Cx} {pins : List (Addr × Obj)} {σ : St} {H : Hp} {s : Shared} {a C dx : Addr} {fs : List (Str × V)} {f : Str} {v : V} {A : Around} {E : Value → Shared → Prop}

theorem getattr_ok {b : Bool} {Q : Value → Shared → Prop} (I : Inv X pins σ H s) (e : H a = some (.ins C dx fs)) (c : Cls X.K C) (n : NoAttr X.K C f) (l : fs.lookup f = some v)
    (h : ∀ u s', Inv X pins σ H s' → RelV v u → Q u s') : wpAny (model X.prog X.w) A (getAttr (.ref a) f b) Q E s := by
  obtain ⟨mA, O, r, _, _, _⟩ := ins_get I.hok e
  obtain ⟨u, hu, ru⟩ := RelO.some_of (v := v) (o := mA f) (by rw [← l]; exact r f)
  exact get_map I.kIn O (c.get f) c.hd n hu (handed_of ru) (h u _ (I.tok _) ru)

theorem getmeth_ok {m : Str} {g : Addr} {pl : Sem Bool} {Q : Value × List Value → Shared → Prop} (I : Inv X pins σ H s) (e : H a = some (.ins C dx fs)) (c : Cls X.K C) (k : Meth X.K C m g) (l : fs.lookup m = none)
    (h : Q (.ref g, [.ref a]) s) : wpAny (model X.prog X.w) A (getMethod (.ref a) m pl) Q E s := by
  obtain ⟨mA, O, r, _, _, _⟩ := ins_get I.hok e
  have hn : mA m = none := RelO.none_of (by rw [← l]; exact r m)
  exact get_meth I.kIn O (c.get m) k.at_ k.fn hn h

theorem setattr_ok {y : V} {u : Value} {Q : Unit → Shared → Prop} (I : Inv X pins σ H s) (e : H a = some (.ins C dx fs)) (c : Cls X.K C) (n : NoAttr X.K C f) (hl : fs.length < 1000) (ry : RelV y u)
    (h : ∀ s', Inv X pins σ (upd H a (.ins C dx (putF f y fs))) s' → Q () s') : wpAny (model X.prog X.w) A (setAttr (.ref a) f u) Q E s := by
  obtain ⟨mA, O, r, wi, _, ho⟩ := ins_get I.hok e
  have hz : (fs.map (·.1)).length ≤ sizeLine := by rw [List.length_map, sizeLine_eq]; omega
  refine set_map I.kIn O c.sa c.po n.taker c.hd wi hz fun h' O' sb => h _ ?_
  have hd : ∃ o, h'.get? dx = some o := let ⟨o, _, _, e', _⟩ := O'.ns; ⟨o, e'⟩
  refine I.write (x := a) (e := dx) (by rw [e]; exact True.intro) (.inr ho) (fun b q hb z => (sb.2 b hb).trans z) hd ?_
  refine ⟨by rw [upd_ne O.ne]; exact ho, ?_, O.ne, O'.obj, _, O'.ns, fun g => ?_, fun g hg => ?_⟩
  · have := length_putF f y fs; omega
  · show RelO ((putF f y fs).lookup g) (if g = f then some u else mA g)
    rw [lookup_putF]
    by_cases q : g = f
    · rw [if_pos q, if_pos q]; exact ry
    · rw [if_neg q, if_neg q]; exact r g
  · by_cases q : g = f
    · rw [q]; exact (keys_putF f y fs).1
    · refine (keys_putF f y fs).2 g (wi g fun z => hg ?_)
      show (if g = f then some u else mA g) = none
      rw [if_neg q]; exact z

/-- a new instance, tracked, without attributes -/
theorem Inv.made (I : Inv X pins σ H s) : Inv X pins σ (upd (upd H s.heap.objs.size (.own (s.heap.objs.size + 1))) (s.heap.objs.size + 1) (.ins C s.heap.objs.size []))
    { s with heap := (s.heap.push PySem.W.emptyDict).push (PySem.W.instObj C s.heap.objs.size) } := by
  have e1 : (s.heap.push PySem.W.emptyDict).get? s.heap.objs.size = some PySem.W.emptyDict := Heap.get?_push_size s.heap rfl
  have e2 : ((s.heap.push PySem.W.emptyDict).push (PySem.W.instObj C s.heap.objs.size)).get? (s.heap.objs.size + 1) = some (PySem.W.instObj C s.heap.objs.size) := by
    have := Heap.get?_push_size (s.heap.push PySem.W.emptyDict) (o := PySem.W.instObj C s.heap.objs.size) rfl
    rwa [Heap.size_push] at this
  have e3 : (s.heap.push PySem.W.emptyDict).Ns s.heap.objs.size (fun _ => none) := ⟨PySem.W.emptyDict, #[], _, e1, rfl, (fun e he => absurd he (by simp)), fun _ => rfl⟩
  have I1 := I.laid (a := s.heap.objs.size) (o := .own (s.heap.objs.size + 1)) (h' := s.heap.push PySem.W.emptyDict) (t' := s.toks) (fun b u q => Heap.get?_push_of_some _ q) (Nat.le_refl _) ⟨_, e1⟩
  refine I1.laid (a := s.heap.objs.size + 1) (o := .ins C s.heap.objs.size []) (t' := s.toks) (fun b u q => Heap.get?_push_of_some _ q) (Nat.le_of_eq (Heap.size_push _ _)) ?_
  have ne : s.heap.objs.size ≠ s.heap.objs.size + 1 := Nat.ne_of_lt (Nat.lt_succ_self _)
  refine ⟨by rw [upd_ne ne, upd_same], Nat.zero_le _, ne, e2, fun _ => none, (Heap.Ns1.of_empty e3).at fun o q => Heap.get?_push_of_some _ q, fun _ => True.intro, fun y hy => absurd rfl hy⟩

/-- e.f where nothing but the object is asked: through attributeBase (super) and the last hold -/
theorem attr_of {prog : Program} {w : World} {env : Env} {e : Expr} {f : Str} {pos : Pos} {s : Shared} {Q : Value → Shared → Prop} (hb : attributeBase e f env (eval e env) = eval e env)
    (h : wpAny (model prog w) A (eval e env) (fun o s₁ => wpAny (model prog w) A (getAttr o f true) Q E s₁) E s) : wpAny (model prog w) A (eval (.Attribute e f pos) env) Q E s :=
  Attribute_any_ h (by rw [arm_eval_Attribute, hb])
end

/-- e.f, an attribute of the instance -/
def tFld (K : PySem.W.Frag) (ta : TE) (f : Str) : TE := fun σ H Q => ta σ H fun x H1 => ∃ a C dx fs v, x = .ref a ∧ H1 a = some (.ins C dx fs) ∧ Cls K C ∧ NoAttr K C f ∧ fs.lookup f = some v ∧ Q v H1
/-- e.f = value -/
def sFld (K : PySem.W.Frag) (ta tv : TE) (f : Str) : TS := fun D σ H => tv σ H fun y H1 => ta σ H1 fun x H2 => ∃ a C dx fs, x = .ref a ∧ H2 a = some (.ins C dx fs) ∧ Cls K C ∧ NoAttr K C f ∧ fs.length < 1000 ∧
  D.nx σ (upd H2 a (.ins C dx (putF f y fs)))
section
variable {X : Cx} {o e value : Expr} {f : Str} {pos pos' tpos : Pos} {ta tv : TE}
theorem pe_fld (he : PE X e ta) (hb : attributeBase e f X.env (eval e X.env) = eval e X.env) : PE X (.Attribute e f pos) (tFld X.K ta f) := by
  intro pins s σ H Q I h
  refine attr_of hb (thn (he pins s σ H _ I h) fun u s1 ⟨x, H1, I1, rx, a, C, dx, fs, v, ex, ea, c, n, l, q⟩ => ?_)
  subst ex
  obtain rfl : u = Value.ref a := rx
  exact getattr_ok I1 ea c n l fun u' s2 I2 ru => ⟨v, H1, I2, ru, q⟩
theorem ps_fld (ha : PE X o ta) (hv : PE X value tv) (hs : swapsWith value (some (.Attribute o f pos')) pos.line X.env = pure false) : PS X (.Assign [.Attribute o f pos'] value pos) (sFld X.K ta tv f) := by
  intro pins s σ H D I h
  refine plainObj_wpAny_Assign_Attribute (thn (hv pins s σ H _ I h) fun u s1 ⟨y, H1, I1, ry, q⟩ => thn (ha pins s1 σ H1 _ I1 q) fun ov s2 ⟨x, H2, I2, rx, a, C, dx, fs, ex, ea, c, n, l, q2⟩ => ?_) hs
  subst ex
  obtain rfl : ov = Value.ref a := rx
  exact setattr_ok I2 ea c n l ry fun s3 I3 => ⟨σ, _, I3, q2⟩
/-- what is between an instance and its method: the tree of a method call -/
theorem methcall_of {pl : Sem Bool} {m : Str} {apos : Pos} {args : List Expr} {pins : List (Addr × Obj)} {s : Shared} {σ : St} {H : Hp} {Q : Value → Shared → Prop} {te : TE} (he : PE X e te) (I : Inv X pins σ H s)
    (h : te σ H fun x H1 => ∃ a C dx fs g, x = .ref a ∧ H1 a = some (.ins C dx fs) ∧ Cls X.K C ∧ Meth X.K C m g ∧ fs.lookup m = none ∧
      ∀ s1, Inv X pins σ H1 s1 → wpAny (model X.prog X.w) X.A (callWith pos (.ref g) [.ref a] (backTo pos (starEach args X.env)) (backToKw pos (keywordEach [] X.env))) Q X.xe s1)
    (ht : eval (.Call (.Attribute e m apos) args [] pos) X.env = (do
      let ov ← eval e X.env
      standAt apos.atName
      let (f, first) ← holding [ov] (getMethod ov m pl)
      callWith pos f first (backTo pos (starEach args X.env)) (backToKw pos (keywordEach [] X.env)))) :
    wpAny (model X.prog X.w) X.A (eval (.Call (.Attribute e m apos) args [] pos) X.env) Q X.xe s := by
  refine PySem.W.methodCall_KW (pl := pl) (thn (he pins s σ H _ I h) fun u s1 ⟨x, H1, I1, rx, a, C, dx, fs, g, ex, ea, c, k, l, q⟩ => ?_) ht
  subst ex
  obtain rfl : u = Value.ref a := rx
  exact getmeth_ok I1 ea c k l (q s1 I1)
end

section
variable {X : Cx} {pins : List (Addr × Obj)} {σ : St} {H : Hp} {s : Shared} {A : Around} {E : Value → Shared → Prop} {Q : Value → Shared → Prop} {c : Value} {b : Bool}
/-- the type of a value, as the fragment's deciders take it; for an instance its class -/
inductive TyOf (K : PySem.W.Frag) (H : Hp) : V → Value → Prop where
  | non : TyOf K H .non (.type "NoneType")
  | bl (x : Bool) : TyOf K H (.bl x) (.type "bool")
  | int (i : Int) : TyOf K H (.int i) (.type "int")
  | str (x : Str) : TyOf K H (.str x) (.type "str")
  | flt (x : UInt64) : TyOf K H (.flt x) (.type "float")
  | lst {a : Addr} {xs : List V} (e : H a = some (.lst xs)) : TyOf K H (.ref a) (.type "list")
  | frz {a : Addr} {o : Obj} {xs : List V} (e : H a = some (.frz o (.lst xs))) : TyOf K H (.ref a) (.type "list")
  | tup {a : Addr} {xs : List V} (e : H a = some (.tup xs)) : TyOf K H (.ref a) (.type "tuple")
  | dK {a : Addr} {kvs : List (Key × V)} (e : H a = some (.dK kvs)) : TyOf K H (.ref a) (.type "dict")
  | dT {a : Addr} {kvs : List (List Key × V)} (e : H a = some (.dT kvs)) : TyOf K H (.ref a) (.type "dict")
  | ins {a C dx : Addr} {fs : List (Str × V)} (e : H a = some (.ins C dx fs)) (cl : Cls K C) (ha : PySem.W.findIn K (.ref C) "__class__" = some (some (.builtin "object.__class__")))
      (hn : PySem.W.specialIn K (.builtin "object.__class__") "__get__" = some (some (.builtin "getset_descriptor.__get__"))) (htk : PySem.W.takesIn K (.builtin "object.__class__") = some true)
      (hm : PySem.W.mroIn K C (.type "object") = some true) : TyOf K H (.ref a) (.ref C)
/-- isinstance(x, c) for one class c, a built-in or an own one: kitOne's answer -/
theorem isinst_ok {x : V} {u t : Value} (I : Inv X pins σ H s) (rx : RelV x u) (ty : TyOf X.K H x t) (e : PySem.W.kitOne X.K t c = some b) (h : ∀ tk, Q (.bool b) { s with toks := tk }) :
    wpAny (model X.prog X.w) A (call (.builtin "isinstance") [u, c]) Q E s := by
  cases ty with
  | non => cases (show u = Value.none from rx); exact PySem.W.kia_one PySem.W.kitx_none I.kIn True.intro e (fun z => nomatch z) h
  | bl y => cases (show u = Value.bool y from rx); exact PySem.W.kia_one PySem.W.kitx_bool I.kIn True.intro e (fun z => nomatch z) h
  | int i => obtain ⟨t, q⟩ := (show ∃ t, u = Value.int i t from rx); cases q; exact PySem.W.kia_one PySem.W.kitx_int I.kIn True.intro e (fun z => nomatch z) h
  | str y => obtain ⟨t, q⟩ := (show ∃ t, u = Value.str y t from rx); cases q; exact PySem.W.kia_one PySem.W.kitx_str I.kIn True.intro e (fun z => nomatch z) h
  | flt y => obtain ⟨t, q⟩ := (show ∃ t, u = Value.float y t from rx); cases q; exact PySem.W.kia_one PySem.W.kitx_float I.kIn True.intro e (fun z => nomatch z) h
  | @lst a xs ea =>
    cases (show u = Value.ref a from rx)
    obtain ⟨_, _, n, _, h1⟩ := (show ObjOk X.prog X.w H s.heap a (.lst xs) from I.hok a _ ea)
    exact PySem.W.kia_one PySem.W.kitx_list I.kIn ⟨_, h1, rfl⟩ e (fun z => nomatch z) h
  | @frz a ob xs ea =>
    cases (show u = Value.ref a from rx)
    obtain ⟨_, _, _, n, _, h1⟩ := (show ObjOk X.prog X.w H s.heap a (.frz ob (.lst xs)) from I.hok a _ ea)
    exact PySem.W.kia_one PySem.W.kitx_list I.kIn ⟨_, h1, rfl⟩ e (fun z => nomatch z) h
  | @tup a xs ea =>
    cases (show u = Value.ref a from rx)
    obtain ⟨_, _, _, p⟩ := (show ObjOk X.prog X.w H s.heap a (.tup xs) from I.hok a _ ea)
    obtain ⟨o, h1, h2, _⟩ := p
    exact PySem.W.kia_one PySem.W.kitx_tuple I.kIn ⟨o, h1, h2⟩ e (fun z => nomatch z) h
  | @dK a kvs ea =>
    cases (show u = Value.ref a from rx)
    obtain ⟨_, _, vs, _, p⟩ := (show ObjOk X.prog X.w H s.heap a (.dK kvs) from I.hok a _ ea)
    obtain ⟨o, es, ep, h1, h2, _⟩ := p
    exact PySem.W.kia_one PySem.W.kitx_dict I.kIn ⟨o, h1, h2.1⟩ e (fun z => nomatch z) h
  | @dT a kvs ea =>
    cases (show u = Value.ref a from rx)
    obtain ⟨_, _, xs, _, o, es, ep, h1, h2, _⟩ := (show ObjOk X.prog X.w H s.heap a (.dT kvs) from I.hok a _ ea)
    exact PySem.W.kia_one PySem.W.kitx_dict I.kIn ⟨o, h1, h2.1⟩ e (fun z => nomatch z) h
  | @ins a C dx fs ea cl ha hn htk hm =>
    cases (show u = Value.ref a from rx)
    obtain ⟨mA, O, _⟩ := ins_get I.hok ea
    obtain ⟨od, J, _⟩ := O.look
    exact PySem.W.kia_one (PySem.W.kitx_own (cl.get _) cl.hd ha hn htk hm) I.kIn J e (fun z => nomatch z) h
end
end L2

namespace L2
open PySem PySem.Spec PyProof.Rows

structure Room (k : Nat) (A : Around) : Prop where
  hd : A.handled = none
  dp : A.depth + 3 * k + 5 < recursionLimit
  un : A.units + 16 * k + 200 < cLine
  gd : A.guards = some []
theorem Room.mono {j k : Nat} {A : Around} (r : Room k A) (h : j ≤ k) : Room j A := ⟨r.hd, by have := r.dp; omega, by have := r.un; omega, r.gd⟩
theorem Room.deeper {k : Nat} {A : Around} (r : Room (k + 1) A) (env : Env) : Room k (A.deeper env) :=
  ⟨r.hd, by have := r.dp; show A.depth + 1 + 3 * k + 5 < _; omega, by have := r.un; show A.units + 3 + 16 * k + 200 < _; omega, by show A.guards = some []; exact r.gd⟩
theorem Room.in1 {k : Nat} {A : Around} (r : Room (k + 1) A) : Room k A.in1 :=
  ⟨r.hd, by have := r.dp; show A.depth + 3 * k + 5 < _; omega, by have := r.un; show A.units + 1 + 16 * k + 200 < _; omega, r.gd⟩
theorem make_depth {A : Around} {C : Addr} {us : List Value} {kw : List (Str × Value)} : (A.under (.builtin "type.__call__" ⟨.ref C :: us, kw⟩)).depth = A.depth + 1 := by
  first | rfl | simp [Around.under, Code.weight, Code.isCreation, Code.isGuard, Code.isCaller, Code.frames, Code.isFrame, guardIds]
theorem make_units {A : Around} {C : Addr} {us : List Value} {kw : List (Str × Value)} : (A.under (.builtin "type.__call__" ⟨.ref C :: us, kw⟩)).units = A.units + 1 := by
  first | rfl | simp [Around.under, Code.cUnits, Code.frames, Code.isFrame]
theorem Room.make {k : Nat} {A : Around} (r : Room (k + 1) A) (C : Addr) (us : List Value) (kw : List (Str × Value)) : Room k (A.under (.builtin "type.__call__" ⟨.ref C :: us, kw⟩)) :=
  ⟨r.hd, by have := r.dp; rw [make_depth]; omega, by have := r.un; rw [make_units]; omega, by first | exact r.gd | (simpa [Around.under, Code.guards, Code.isGuard, pushGuards, guardIds] using r.gd)⟩
theorem Room.depth {k : Nat} {A : Around} (r : Room k A) : A.depth < recursionLimit := by have := r.dp; omega
theorem Room.units {k : Nat} {A : Around} (r : Room k A) : A.units + 64 < cLine := by have := r.un; omega
def tNil : TA := fun _ H Q => Q [] H
def tCons (ta : TE) (tr : TA) : TA := fun σ H Q => ta σ H fun x H1 => tr σ H1 fun xs H2 => Q (x :: xs) H2
section
variable {X : Cx} {e : Expr} {es : List Expr} {te : TE} {t : TA} {pos : Pos}
theorem pa_nil : PA X [] tNil := fun _ _ _ _ H Q I h => Calls.spliced_nil ⟨[], H, I, .nil, h⟩
theorem pa_cons (ha : PE X e te) (hr : PA X es t) (hs : starEach (e :: es) X.env = (false, eval e X.env) :: starEach es X.env := by rfl) : PA X (e :: es) (tCons te t) := by
  intro pos pins s σ H Q I h
  rw [hs]
  show wpAny _ _ (spliced ((false, eval e X.env) :: backTo pos (starEach es X.env))) _ _ s
  refine Calls.spliced_cons (thn (ha pins s σ H _ I h) fun u s1 ⟨x, H1, I1, r1, q1⟩ => ?_)
  exact thn (hr pos pins s1 σ H1 _ I1 q1) fun us s2 ⟨xs, H2, I2, r2, q2⟩ => ⟨x :: xs, H2, I2, .cons r1 r2, q2⟩

/-- a tuple, a list of written items -/
def tTup (t : TA) : TE := fun σ H Q => t σ H fun xs H1 => xs.length ≤ sizeLine ∧ ∀ p, H1 p = none → Q (.ref p) (upd H1 p (.tup xs))
def tLst (t : TA) : TE := fun σ H Q => t σ H fun xs H1 => xs.length ≤ sizeLine ∧ ∀ p, H1 p = none → Q (.ref p) (upd H1 p (.lst xs))
theorem pe_tup {x1} (h : PA X es t) : PE X (.Tuple es x1 pos) (tTup t) := by
  intro pins s σ H Q I hq
  refine wpAny_Tuple_spliced (thn (h pos pins s σ H _ I hq) fun us s1 ⟨xs, H1, I1, r, z, q⟩ => ⟨by rw [← r.length]; exact z, ?_⟩)
  have hf : H1 s1.heap.objs.size = none := I1.hok.fresh (Nat.le_refl _)
  refine ⟨.ref s1.heap.objs.size, upd H1 s1.heap.objs.size (.tup xs), I1.laid (t' := s1.toks) (fun b u e => Heap.get?_push_of_some _ e) (Nat.le_refl _) ?_, rfl, q _ hf⟩
  exact ⟨z, us, r, ⟨_, Heap.get?_push_size _ rfl, rfl, _, rfl⟩⟩
theorem pe_lst (h : PA X es t) : PE X (.List es pos) (tLst t) := by
  intro pins s σ H Q I hq
  refine wpAny_List_spliced (thn (h pos pins s σ H _ I hq) fun us s1 ⟨xs, H1, I1, r, z, q⟩ => ⟨by rw [← r.length]; exact z, ?_⟩)
  have hf : H1 s1.heap.objs.size = none := I1.hok.fresh (Nat.le_refl _)
  refine ⟨.ref s1.heap.objs.size, upd H1 s1.heap.objs.size (.lst xs), I1.laid (t' := s1.toks) (fun b u e => Heap.get?_push_of_some _ e) (Nat.le_refl _) ?_, rfl, q _ hf⟩
  exact ⟨z, us, 0, r, Heap.get?_push_size _ rfl⟩
end

/-- a def's promise: the bound arguments in the parameters' order, the heap, the wanted end, the wanted exception -/
abbrev Sp := List V → Hp → VK → XK → Prop
/-- how an exception lies behind a call (file 08 gives it): the callers' frames, abstract heap and state ahead of the call, the wish, the exception, the state -/
abbrev CXT := List Env → Hp → Shared → XK → Value → Shared → Prop

/-- the state at a call -/
structure Env0 (P : Program) (w : World) (K : PySem.W.Frag) (mg : Str → Option Value) (base : Heap) (A : Around) (outer : List Env) (s : Shared) (H : Hp) : Prop where
  frames : A.frames = some outer
  mod : Mod K mg base
  bs : ∀ b o, base.get? b = some o → s.heap.get? b = some o ∧ H b = none
  bsz : base.objs.size ≤ s.heap.objs.size
  funs : s.heap.FunFrames base outer
  frf : ∀ b ∈ frs outer, H b = none
  hok : HOk P w H s.heap
  bare : AllBare s.gens
/-- a call's end -/
def CE (outer : List Env) (P : Program) (w : World) (H : Hp) (s : Shared) (Q : VK) (u : Value) (s' : Shared) : Prop :=
  ∃ v H', s'.os = s.os ∧ AllBare s'.gens ∧ Un (frs outer) [] H H' s.heap s'.heap ∧ HOk P w H' s'.heap ∧ RelV v u ∧ Q v H'
def CR (CX : CXT) (outer : List Env) (P : Program) (w : World) (H : Hp) (s : Shared) (Q : VK) (E : XK) (r : Result) (s' : Shared) : Prop :=
  match r with
  | .ok (.ret u) => CE outer P w H s Q u s'
  | .ok _ => False
  | .error e => CX outer H s E e s'
structure FnOk (P : Program) (w : World) (K : PySem.W.Frag) (mg : Str → Option Value) (base : Heap) (CX : CXT) (k : Nat) (f : Addr) (fd : FuncData) (ps : List Str) (sp : Sp) : Prop where
  len : ∀ vs H Q E, sp vs H Q E → vs.length = ps.length
  run : ∀ (A : Around) (outer : List Env) (s : Shared) (H : Hp) (args : Args) (us : List Value) (vs : List V) (Q : VK) (E : XK), Room k A → Env0 P w K mg base A outer s H → BindsTo s fd args (ps.zip us) → Vals vs us → sp vs H Q E →
    codeAny (model P w) A (.call (.ref f) args) (CR CX outer P w H s Q E) s
theorem FnOk.mono {P : Program} {w : World} {K : PySem.W.Frag} {mg : Str → Option Value} {base : Heap} {CX : CXT} {j k : Nat} {f : Addr} {fd : FuncData} {ps : List Str} {sp : Sp} (F : FnOk P w K mg base CX j f fd ps sp) (h : j ≤ k) :
    FnOk P w K mg base CX k f fd ps sp := ⟨F.len, fun A outer s H args us vs Q E hr => F.run A outer s H args us vs Q E (hr.mono h)⟩
/-- a weaker promise -/
theorem FnOk.imp {P : Program} {w : World} {K : PySem.W.Frag} {mg : Str → Option Value} {base : Heap} {CX : CXT} {k : Nat} {f : Addr} {fd : FuncData} {ps : List Str} {sp sp' : Sp} (F : FnOk P w K mg base CX k f fd ps sp)
    (h : ∀ vs H Q E, sp' vs H Q E → sp vs H Q E) : FnOk P w K mg base CX k f fd ps sp' :=
  ⟨fun vs H Q E q => F.len vs H Q E (h _ _ _ _ q), fun A outer s H args us vs Q E hr he hb hv hs => F.run A outer s H args us vs Q E hr he hb hv (h _ _ _ _ hs)⟩

theorem Env0.make {P : Program} {w : World} {K : PySem.W.Frag} {mg : Str → Option Value} {base : Heap} {A : Around} {outer : List Env} {s : Shared} {H : Hp} (e : Env0 P w K mg base A outer s H) (C : Addr) (us : List Value) (kw : List (Str × Value)) :
    Env0 P w K mg base (A.under (.builtin "type.__call__" ⟨.ref C :: us, kw⟩)) outer s H := ⟨by first | exact e.frames | (simpa [Around.under, Code.envs, Code.isFrame, pushEnvs] using e.frames), e.mod, e.bs, e.bsz, e.funs, e.frf, e.hok, e.bare⟩
theorem Env0.in1 {P : Program} {w : World} {K : PySem.W.Frag} {mg : Str → Option Value} {base : Heap} {A : Around} {outer : List Env} {s : Shared} {H : Hp} (e : Env0 P w K mg base A outer s H) :
    Env0 P w K mg base A.in1 outer s H := ⟨e.frames, e.mod, e.bs, e.bsz, e.funs, e.frf, e.hok, e.bare⟩

section
variable {X : Cx} {pins : List (Addr × Obj)} {σ : St} {H : Hp} {s s' : Shared}
/-- from a body: what a callee wants -/
theorem Inv.env0 (I : Inv X pins σ H s) : Env0 X.prog X.w X.K X.mg X.base X.A X.stack s H :=
  ⟨I.ok.frames, I.ok.mod, I.bs, Nat.le_trans I.ok.bsz I.sz, I.stack, I.stkFree, I.hok, I.bare⟩
/-- behind a call -/
theorem Inv.after {Q : VK} {u : Value} (I : Inv X pins σ H s) (h : CE X.stack X.prog X.w H s Q u s') : EP X pins σ Q u s' := by
  obtain ⟨v, H', os, bare, un, hok, r, q⟩ := h
  obtain ⟨hh, g, d, t, os'⟩ := s'
  obtain rfl : os' = s.os := os
  exact ⟨v, H', I.call (h' := hh) (g' := g) (d' := d) (t' := t) (ch := []) un hok bare (fun b z => absurd z (by simp)), r, q⟩
end

/-- f(..): the written arguments, then the defaults dvs; E: what is wanted of an exception -/
def tCall (sp : Sp) (dvs : List V) (E : XK) (t : TA) : TE := fun σ H Q => t σ H fun vs H1 => sp (vs ++ dvs) H1 Q E
/-- o.m(..) of an instance of the class at C -/
def tMeth (C : Addr) (m : Str) (sp : Sp) (dvs : List V) (E : XK) (ta : TE) (t : TA) : TE := fun σ H Q => ta σ H fun x H1 => ∃ a dx fs, x = .ref a ∧ H1 a = some (.ins C dx fs) ∧ fs.lookup m = none ∧
  t σ H1 fun vs H2 => sp (x :: (vs ++ dvs)) H2 Q E
/-- C(..): a new instance and its dict, then __init__ -/
def tMake (C : Addr) (sp : Sp) (dvs : List V) (E : XK) (t : TA) : TE := fun σ H Q => t σ H fun vs H1 => ∀ x dx, H1 x = none → H1 dx = none → dx ≠ x →
  sp (.ref x :: (vs ++ dvs)) (upd (upd H1 dx (.own x)) x (.ins C dx [])) (fun v H2 => v = .non ∧ Q (.ref x) H2) E

/-- how the parameters are bound: us the positional arguments, kw the keywords' values by name, ds the defaults that fill up -/
def Binds (K : PySem.W.Frag) (fd : FuncData) (ps : List Str) (ds : List Value) : Prop :=
  ∀ (s : Shared) (us : List Value), K.In s.heap → (us ++ ds).length = ps.length → BindsTo s fd ⟨us, []⟩ (ps.zip (us ++ ds))
/-- every parameter is given -/
theorem Binds.all {K : PySem.W.Frag} {fd : FuncData} {ps : List Str} (h : ∀ us : List Value, us.length = ps.length → bindArgs fd ⟨us, []⟩ = pure (ps.zip us)) : Binds K fd ps [] := fun s us _ hl => by
  rw [List.append_nil] at hl ⊢
  exact .of_eq (h us hl)

/-- an exception of a callee reaches what this body wants of exceptions -/
def Passes (CX : CXT) (X : Cx) (E : XK) : Prop := ∀ (pins : List (Addr × Obj)) (σ : St) (H : Hp) (s : Shared) (e : Value) (s' : Shared), Inv X pins σ H s → CX X.stack H s E e s' → X.xe e s'

section
variable {X : Cx} {CX : CXT} {k : Nat} {f C : Addr} {fd : FuncData} {ps : List Str} {sp : Sp} {dvs : List V} {ds : List Value} {E : XK} {x m : Str} {p pos apos : Pos} {e o : Expr} {es : List Expr} {ta : TE} {t : TA}

/-- the callee runs -/
theorem run_fn {pins : List (Addr × Obj)} {σ : St} {H : Hp} {s : Shared} {Q : VK} {us : List Value} {vs : List V} (F : FnOk X.prog X.w X.K X.mg X.base CX k f fd ps sp) (hr : Room k X.A) (hb : Binds X.K fd ps ds) (hd : Vals dvs ds) (hx : Passes CX X E)
    (I : Inv X pins σ H s) (r : Vals vs us) (h : sp (vs ++ dvs) H Q E) : wpAny (model X.prog X.w) X.A (call (.ref f) us) (EP X pins σ Q) X.xe s := by
  have r2 : Vals (vs ++ dvs) (us ++ ds) := r.append hd
  have hl : (us ++ ds).length = ps.length := by rw [← r2.length]; exact F.len _ _ _ _ h
  refine wpAny_call (codeAny_mono (F.run X.A X.stack s H ⟨us, []⟩ (us ++ ds) (vs ++ dvs) Q E hr I.env0 (hb s us I.kIn hl) r2 h) fun r s' hq => ?_)
  cases r with
  | error e => exact hx pins σ H s e s' I hq
  | ok fl =>
    cases fl with
    | ret u => exact I.after hq
    | next => exact False.elim hq
    | brk => exact False.elim hq
    | cont => exact False.elim hq

theorem pe_call (F : FnOk X.prog X.w X.K X.mg X.base CX k f fd ps sp) (hr : Room k X.A) (hg : Gl X x) (hm : X.mg x = some (.ref f)) (hk : PySem.W.keepIn X.K (.ref f) = true) (hb : Binds X.K fd ps ds) (hd : Vals dvs ds) (hx : Passes CX X E)
    (ha : PA X (e :: es) t) (hdb : (x == ("__debug__" : Str)) = false := by decide) (he : starEach (e :: es) X.env = (false, eval e X.env) :: starEach es X.env := by rfl) (hpl : (backTo pos (starEach es X.env)).any (·.1) = false := by rfl) :
    PE X (.Call (.Name x p) (e :: es) [] pos) (tCall sp dvs E t) := by
  intro pins s σ H Q I h
  refine wpAny_Call_Name_kw (ld_glob I hg hm ?_ hdb)
  refine PySem.W.callWith_K (h₀ := X.base) I.ok.mod.kin hk (thn (ha pos pins s σ H _ I h) fun us s1 ⟨vs, H1, I1, r, q⟩ => ⟨I1.kIn, ?_⟩) he hpl
  exact run_fn F hr hb hd hx I1 r q
/-- o.m(e, ..) -/
theorem pe_meth {pl : Sem Bool} (he : PE X o ta) (c : Cls X.K C) (hm : Meth X.K C m f) (F : FnOk X.prog X.w X.K X.mg X.base CX k f fd ps sp) (hr : Room k X.A) (hb : Binds X.K fd ps ds) (hd : Vals dvs ds) (hx : Passes CX X E) (ha : PA X (e :: es) t)
    (hst : starEach (e :: es) X.env = (false, eval e X.env) :: starEach es X.env := by rfl) (hpl : (backTo pos (starEach es X.env)).any (·.1) = false := by rfl)
    (ht : eval (.Call (.Attribute o m apos) (e :: es) [] pos) X.env = (do
      let ov ← eval o X.env
      standAt apos.atName
      let (f, first) ← holding [ov] (getMethod ov m pl)
      callWith pos f first (backTo pos (starEach (e :: es) X.env)) (backToKw pos (keywordEach [] X.env))) := by rfl) :
    PE X (.Call (.Attribute o m apos) (e :: es) [] pos) (tMeth C m sp dvs E ta t) := by
  intro pins s σ H Q I h
  refine PySem.W.methodCall_KW (pl := pl) (thn (he pins s σ H _ I h) fun u s1 ⟨x, H1, I1, rx, a, dx, fs, ex, ea, l, q⟩ => ?_) ht
  subst ex
  obtain rfl : u = Value.ref a := rx
  refine getmeth_ok I1 ea c hm l ?_
  refine PySem.W.callWith_K (first := [.ref a]) (h₀ := X.base) I.ok.mod.kin hm.kp (thn (ha pos pins s1 σ H1 _ I1 q) fun us s2 ⟨vs, H2, I2, r, q2⟩ => ⟨I2.kIn, ?_⟩) hst hpl
  exact run_fn (us := .ref a :: us) (vs := .ref a :: vs) F hr hb hd hx I2 (.cons rfl r) q2
/-- o.m() -/
theorem pe_meth0 {pl : Sem Bool} (he : PE X o ta) (c : Cls X.K C) (hm : Meth X.K C m f) (F : FnOk X.prog X.w X.K X.mg X.base CX k f fd ps sp) (hr : Room k X.A) (hb : Binds X.K fd ps ds) (hd : Vals dvs ds) (hx : Passes CX X E)
    (ht : eval (.Call (.Attribute o m apos) [] [] pos) X.env = (do
      let ov ← eval o X.env
      standAt apos.atName
      let (f, first) ← holding [ov] (getMethod ov m pl)
      callWith pos f first (backTo pos (starEach [] X.env)) (backToKw pos (keywordEach [] X.env))) := by rfl) :
    PE X (.Call (.Attribute o m apos) [] [] pos) (tMeth C m sp dvs E ta tNil) := by
  intro pins s σ H Q I h
  refine PySem.W.methodCall_KW (pl := pl) (thn (he pins s σ H _ I h) fun u s1 ⟨x, H1, I1, rx, a, dx, fs, ex, ea, l, q⟩ => ?_) ht
  subst ex
  obtain rfl : u = Value.ref a := rx
  refine getmeth_ok I1 ea c hm l ?_
  exact PySem.W.callWith_K0 (first := [.ref a]) I1.kIn hm.kp (run_fn (us := [.ref a]) (vs := [.ref a]) F hr hb hd hx I1 (.cons rfl .nil) q)

/-- what a class must have to be made -/
structure Mk (K : PySem.W.Frag) (C f : Addr) : Prop where
  makes : PySem.W.makesIn K C = true
  init : PySem.W.findIn K (.ref C) "__init__" = some (some (.ref f))
  fn : PySem.W.isFn K (.ref f) = true
  kp : PySem.W.keepIn K (.ref C) = true

theorem run_make {pins : List (Addr × Obj)} {σ : St} {H : Hp} {s : Shared} {Q : VK} {us : List Value} {vs : List V} (M : Mk X.K C f) (F : FnOk X.prog X.w X.K X.mg X.base CX k f fd ps sp) (hr : Room (k + 1) X.A) (hb : Binds X.K fd ps ds) (hd : Vals dvs ds)
    (hx : Passes CX X E) (I : Inv X pins σ H s) (r : Vals vs us)
    (h : ∀ x dx, H x = none → H dx = none → dx ≠ x → sp (.ref x :: (vs ++ dvs)) (upd (upd H dx (.own x)) x (.ins C dx [])) (fun v H2 => v = .non ∧ Q (.ref x) H2) E) :
    wpAny (model X.prog X.w) X.A (call (.ref C) us) (EP X pins σ Q) X.xe s := by
  have hq := h (s.heap.objs.size + 1) s.heap.objs.size (I.hok.fresh (Nat.le_succ _)) (I.hok.fresh (Nat.le_refl _)) (Nat.ne_of_lt (Nat.lt_succ_self _))
  have I2 := Inv.made (C := C) I
  have r2 : Vals (V.ref (s.heap.objs.size + 1) :: (vs ++ dvs)) (Value.ref (s.heap.objs.size + 1) :: (us ++ ds)) := .cons rfl (r.append hd)
  have hl : (Value.ref (s.heap.objs.size + 1) :: us ++ ds).length = ps.length := by
    have e := r2.length
    rw [F.len _ _ _ _ hq] at e
    exact e.symm
  refine wpAny_call (make_map (f := f) I.kIn M.makes M.init (beq_iff_eq.mp M.fn) (codeAny_mono (F.run _ X.stack _ _ ⟨Value.ref (s.heap.objs.size + 1) :: us, []⟩ (Value.ref (s.heap.objs.size + 1) :: (us ++ ds)) _ _ E (hr.make C us [])
    (I2.env0.make C us []) (hb _ (Value.ref (s.heap.objs.size + 1) :: us) I2.kIn hl) r2 hq) fun r s' hq' => ?_))
  cases r with
  | error e => exact hx pins σ _ _ e s' I2 hq'
  | ok fl =>
    cases fl with
    | ret u =>
      obtain ⟨v, H', I3, rv, ev, q3⟩ := I2.after hq'
      subst ev
      exact ⟨rv, ⟨V.ref (s.heap.objs.size + 1), H', I3, rfl, q3⟩⟩
    | next => exact False.elim hq'
    | brk => exact False.elim hq'
    | cont => exact False.elim hq'
theorem pe_make (M : Mk X.K C f) (F : FnOk X.prog X.w X.K X.mg X.base CX k f fd ps sp) (hr : Room (k + 1) X.A) (hg : Gl X x) (hm : X.mg x = some (.ref C)) (hb : Binds X.K fd ps ds) (hd : Vals dvs ds) (hx : Passes CX X E)
    (ha : PA X (e :: es) t) (hdb : (x == ("__debug__" : Str)) = false := by decide) (he : starEach (e :: es) X.env = (false, eval e X.env) :: starEach es X.env := by rfl) (hpl : (backTo pos (starEach es X.env)).any (·.1) = false := by rfl) :
    PE X (.Call (.Name x p) (e :: es) [] pos) (tMake C sp dvs E t) := by
  intro pins s σ H Q I h
  refine wpAny_Call_Name_kw (ld_glob I hg hm ?_ hdb)
  refine PySem.W.callWith_K (h₀ := X.base) I.ok.mod.kin M.kp (thn (ha pos pins s σ H _ I h) fun us s1 ⟨vs, H1, I1, r, q⟩ => ⟨I1.kIn, ?_⟩) he hpl
  exact run_make M F hr hb hd hx I1 r q
end


/-- names: the parameters first -/
structure FnScope (N P : List Str) (sc : Scope) : Prop where
  kind : sc.kind = .function
  co : sc.isCoroutine = false
  gen : sc.isGenerator = false
  nd : N.Nodup
  pre : N.take P.length = P
  par : ∀ x ∈ P, sc.names.lookup x = some .local ∨ sc.names.lookup x = some .cell
  nofree : ∀ y ∈ sc.names, y.2 ≠ .free

theorem bindL_out {kindOf : Str → Option NameKind} {x : Str} : ∀ {binds : List (Str × Value)} {m : Str → Option Value}, (∀ v, (x, v) ∉ binds) → bindL kindOf binds m x = m x
  | [], _, _ => rfl
  | (n, v) :: r, m, h => by
    unfold bindL
    rw [bindL_out fun w hw => h w (List.mem_cons_of_mem _ hw)]
    split
    · have : x ≠ n := by rintro rfl; exact h v List.mem_cons_self
      simp [this]
    · rfl
theorem bindC_out {kindOf : Str → Option NameKind} {x : Str} : ∀ {binds : List (Str × Value)} {m : Str → Option Value}, (∀ v, (x, v) ∉ binds) → bindC kindOf binds m x = m x
  | [], _, _ => rfl
  | (n, v) :: r, m, h => by
    unfold bindC
    rw [bindC_out fun w hw => h w (List.mem_cons_of_mem _ hw)]
    split
    · rfl
    · have : x ≠ n := by rintro rfl; exact h v List.mem_cons_self
      simp [this]
theorem bindL_get {kindOf : Str → Option NameKind} {x : Str} {v : Value} : ∀ {P : List Str} {vs : List Value} {i : Nat} {m : Str → Option Value}, P.Nodup → P[i]? = some x → vs[i]? = some v → kindOf x = some .local →
    bindL kindOf (P.zip vs) m x = some v
  | [], _, _, _, _, h, _, _ => by simp at h
  | _ :: _, [], _, _, _, _, h, _ => by simp at h
  | p :: P, w :: vs, 0, m, nd, h1, h2, hk => by
    simp at h1 h2; subst h1; subst h2
    show bindL kindOf ((p, w) :: P.zip vs) m p = _
    unfold bindL
    rw [bindL_out fun v hv => (List.nodup_cons.mp nd).1 (List.of_mem_zip hv).1, if_pos hk]
    simp
  | p :: P, w :: vs, i + 1, m, nd, h1, h2, hk => by
    show bindL kindOf ((p, w) :: P.zip vs) m x = _
    unfold bindL
    exact bindL_get (i := i) (List.nodup_cons.mp nd).2 (by simpa using h1) (by simpa using h2) hk
theorem bindC_get {kindOf : Str → Option NameKind} {x : Str} {v : Value} : ∀ {P : List Str} {vs : List Value} {i : Nat} {m : Str → Option Value}, P.Nodup → P[i]? = some x → vs[i]? = some v → kindOf x ≠ some .local →
    bindC kindOf (P.zip vs) m x = some v
  | [], _, _, _, _, h, _, _ => by simp at h
  | _ :: _, [], _, _, _, _, h, _ => by simp at h
  | p :: P, w :: vs, 0, m, nd, h1, h2, hk => by
    simp at h1 h2; subst h1; subst h2
    show bindC kindOf ((p, w) :: P.zip vs) m p = _
    unfold bindC
    rw [bindC_out fun v hv => (List.nodup_cons.mp nd).1 (List.of_mem_zip hv).1, if_neg hk]
    simp
  | p :: P, w :: vs, i + 1, m, nd, h1, h2, hk => by
    show bindC kindOf ((p, w) :: P.zip vs) m x = _
    unfold bindC
    exact bindC_get (i := i) (List.nodup_cons.mp nd).2 (by simpa using h1) (by simpa using h2) hk

/-- the names' values at the entry -/
def start (N : List Str) (vs : List V) : St := vs.map some ++ List.replicate (N.length - vs.length) none

/-- the context of a def's body, at its entry; an exception leaves the frame, then lies as CX says -/
def cxOf (CX : CXT) (P : Program) (w : World) (K : PySem.W.Frag) (mg : Str → Option Value) (base : Heap) (N : List Str) (qual : Str) (scope : Scope) (f : Addr) (cd : Value) (A : Around) (outer : List Env) (s : Shared) (H : Hp) (E : XK) : Cx where
  prog := P
  w := w
  K := K
  mg := mg
  base := base
  A := A.deeper (envOfC qual scope s.heap.objs.size f cd)
  N := N
  s_0 := s
  H_0 := H
  env := envOfC qual scope s.heap.objs.size f cd
  outer := outer
  stack := envOfC qual scope s.heap.objs.size f cd :: outer
  ex := []
  calm := true
  fn := fun _ => true
  pn := []
  xe := fun e s' => wpAny (model P w) (A.deeper (envOfC qual scope s.heap.objs.size f cd)) (leaving (envOfC qual scope s.heap.objs.size f cd) e) (fun _ s'' => CX outer H s E e s'') (fun e' s'' => CX outer H s E e' s'') s'

theorem cell_has {sc : Scope} {n : Nat} {x : Str} (h : sc.names.lookup x = some .cell) : ∃ c, (cellsFrom n sc.names []).lookup x = some c := by
  have q := PySem.W.cellsFrom_some sc.names n [] (.inl h)
  exact Option.isSome_iff_exists.mp q

theorem inv_start {CX : CXT} {P : Program} {w : World} {K : PySem.W.Frag} {mg : Str → Option Value} {base : Heap} {N ps : List Str} {qual : Str} {scope : Scope} {f : Addr} {cd : Value} {A : Around} {outer : List Env} {s s1 : Shared} {H : Hp} {E : XK} {us : List Value} {vs : List V}
    (S : FnScope N ps scope) (hd : A.handled = none) (e0 : Env0 P w K mg base A outer s H) (hl : vs.length = ps.length) (r : Vals vs us)
    (x : InCallC s s.heap.objs.size (bindL (envOfC qual scope s.heap.objs.size f cd).kindOf (ps.zip us) fun _ => none) (cellsFrom (s.heap.objs.size + 1) scope.names []) (bindC (envOfC qual scope s.heap.objs.size f cd).kindOf (ps.zip us) fun _ => none) s1) :
    Inv (cxOf CX P w K mg base N qual scope f cd A outer s H E) [] (start N vs) H s1 := by
  have hpl : ps.length ≤ N.length := by have := congrArg List.length S.pre; rw [List.length_take] at this; omega
  obtain ⟨h1, tk, rfl, hk⟩ := x.done
  have noA : ∀ b : Addr, b ∉ (cxOf CX P w K mg base N qual scope f cd A outer s H E).ex := fun b z => absurd (show b ∈ ([] : List Addr) from z) (by simp)
  refine ⟨⟨e0.mod, S.kind, rfl, rfl, Nat.le_refl _, fun y z c h1 h2 => ?_, fun y hy => ?_, fun y c _ h => ?_, fun _ => hd, Around.frames_deeper e0.frames, .inr ⟨rfl, rfl⟩, fun b z => absurd z (noA b), e0.bs, e0.bsz, fun b _ _ => noA b, fun b z => absurd z (noA b), e0.funs, e0.frf⟩,
    rfl, e0.bare, Un.kept hk, ⟨_, x.toInCall.ns, fun i y v h1 h2 h3 => ?_⟩, fun y c h => ⟨_, x.cell y c h⟩, e0.hok.fresh (Nat.le_refl _), fun y c h => ?_, fun p hp => absurd (show p ∈ ([] : List (Addr × Obj)) from hp) (by simp), e0.hok.kept hk, ?_⟩
  · exact name_of_addr x.apart (PySem.mem_of_lookup h1) (PySem.mem_of_lookup h2)
  · have hy : scope.names.lookup y = some .cell ∨ scope.names.lookup y = some .free := hy
    rcases hy with hy | hy
    · exact cell_has hy
    · exact absurd rfl (S.nofree _ (PySem.mem_of_lookup hy))
  · exact Nat.le_of_lt (x.above y c (PySem.mem_of_lookup h))
  · have hi : i < vs.length := by
      unfold start at h2
      by_cases hi : i < vs.length
      · exact hi
      · rw [List.getElem?_append_right (by simpa using hi)] at h2
        rw [List.getElem?_replicate] at h2
        split at h2 <;> cases h2
    have ha : vs[i]? = some v := by
      unfold start at h2
      rw [List.getElem?_append_left (by simpa using hi), List.getElem?_map] at h2
      cases e : vs[i]? with
      | none => rw [e] at h2; cases h2
      | some a => rw [e] at h2; cases h2; rfl
    obtain ⟨u, hu, rv⟩ := r.get ha
    have hp : ps[i]? = some y := by
      rw [← S.pre, List.getElem?_take_of_lt (by omega)]; exact h1
    have ndP : ps.Nodup := by rw [← S.pre]; exact S.nd.sublist (List.take_sublist _ _)
    refine ⟨u, rv, ?_⟩
    rcases S.par y (List.mem_of_getElem? hp) with k | k
    · exact .inl ⟨k, bindL_get ndP hp hu k⟩
    · obtain ⟨c, e⟩ := cell_has (n := s.heap.objs.size + 1) k
      refine .inr ⟨.inl k, c, e, ?_⟩
      have q := x.cell y c e
      rw [bindC_get ndP hp hu (by show scope.names.lookup y ≠ _; rw [k]; decide)] at q
      exact q
  · exact e0.hok.fresh (Nat.le_of_lt (x.above y c (PySem.mem_of_lookup h)))
  · unfold start
    show _ = N.length
    rw [List.length_append, List.length_map, List.length_replicate]
    omega

/-- THE RULE: a def (or a method) of the text, by its body. The body's reading t is chosen for each entry; it is run at the parameters' values -/
theorem fn_of {CX : CXT} {P : Program} {w : World} {K : PySem.W.Frag} {mg : Str → Option Value} {base : Heap} {k : Nat} {f : Addr} {name qual : Str} {params : Arguments} {body : List Stmt} {scope : Scope} {dV kV doc pm cdv ct oc : Value} {an od : Option Addr}
    {osl : Array (Option Value)} {N ps : List Str} {sp : Sp} (lk : K.lookup f = some ⟨oc, od, .func (PySem.W.fnOf name qual params body scope dV kV doc pm an cdv ct), osl⟩) (hcd : PySem.W.codeIn K cdv qual = true) (S : FnScope N ps scope)
    (len : ∀ vs H Q E, sp vs H Q E → vs.length = ps.length)
    (hbody : ∀ (A : Around) (outer : List Env) (s : Shared) (H : Hp) (vs : List V) (Q : VK) (E : XK), Room k (A.deeper (envOfC qual scope s.heap.objs.size f cdv)) → sp vs H Q E →
      ∃ t, PSs (cxOf CX P w K mg base N qual scope f cdv A outer s H E) body t ∧ t { nx := fun _ H' => Q .non H', rt := Q } (start N vs) H) :
    FnOk P w K mg base CX (k + 1) f (PySem.W.fnOf name qual params body scope dV kV doc pm an cdv ct) ps sp := by
  refine ⟨len, fun A outer s H args us vs Q E hr e0 hb r hsp => ?_⟩
  have hl := len _ _ _ _ hsp
  have KX : K.In s.heap := e0.mod.kin.keeps fun b o e => (e0.bs b o e).1
  have lim : s.heap.NoLimit := e0.mod.nolimit.keeps fun b o e => (e0.bs b o e).1
  have hkind : ∀ y ∈ ps.zip us, scope.names.lookup y.1 = some .local ∨ (scope.names.lookup y.1 = some .cell ∧ ((cellsFrom (s.heap.objs.size + 1) scope.names []).lookup y.1).isSome = true) := fun ⟨n, v⟩ hy => by
    rcases S.par n (List.of_mem_zip hy).1 with q | q
    · exact .inl q
    · exact .inr ⟨q, PySem.W.cellsFrom_some _ _ _ (.inl q)⟩
  refine codeAny_call_function hr.depth (KX _ _ lk) rfl S.co S.gen rfl (PySem.W.codeRec_of KX hcd) (hb _ _ _ _ ?_)
  refine wpAny_newFunctionEnv_cells S.kind hkind fun env he s1 x => ?_
  subst he
  refine ⟨lim.keeps x.toInCall.keep, codeAny_func ?_⟩
  obtain ⟨t, ht, hq⟩ := hbody A outer s H vs Q E (hr.deeper _) hsp
  have I : Inv (cxOf CX P w K mg base N qual scope f cdv A outer s H E) [] (start N vs) H s1 := inv_start S hr.hd e0 hl r x
  refine wpAny_mono (ht [] s1 (start N vs) H _ I hq) (fun fl s' hs => ?_) fun e s' hs => hs
  have fin : ∀ {σ' : St} {H' : Hp} {v : V} {u : Value}, Inv (cxOf CX P w K mg base N qual scope f cdv A outer s H E) [] σ' H' s' → RelV v u → Q v H' → CE outer P w H s Q u s' :=
    fun {σ' H' v u} J rv q => ⟨v, H', J.os, J.bare, J.base, J.hok, rv, q⟩
  cases fl with
  | ret u =>
    obtain ⟨v, σ', H', J, rv, q⟩ := hs
    exact fin J rv q
  | next =>
    obtain ⟨σ', H', J, q⟩ := hs
    exact fin (v := V.non) (u := Value.none) J rfl q
  | brk =>
    obtain ⟨_, _, _, q⟩ := hs
    exact False.elim q
  | cont =>
    obtain ⟨_, _, _, q⟩ := hs
    exact False.elim q
end L2

namespace L2
open PySem PySem.Spec PyProof.Rows
section
variable {X : Cx} {x : Str} {p pos : Pos} {e : Expr} {es : List Expr} {t : TA} {id T : String} {r : List V → Hp → VK → Prop}

def tCB (r : List V → Hp → VK → Prop) (t : TA) : TE := fun σ H Q => t σ H fun vs H1 => r vs H1 Q
/-- f(e, ..), f a built-in function -/
theorem pe_callB (hc : CallR X (.builtin id) r) (hg : Gl X x) (hm : X.mg x = none) (hv : bootBuiltins x = some (.builtin id)) (ha : PA X (e :: es) t) (hn : x ≠ "__name__" := by decide) (hdb : (x == ("__debug__" : Str)) = false := by decide)
    (he : starEach (e :: es) X.env = (false, eval e X.env) :: starEach es X.env := by rfl) (hpl : (backTo pos (starEach es X.env)).any (·.1) = false := by rfl) : PE X (.Call (.Name x p) (e :: es) [] pos) (tCB r t) := by
  intro pins s σ H Q I h
  refine wpAny_Call_Name_kw (ld_blt I hg hm hv ?_ hn hdb)
  exact PyProof.Rows.callWith_builtin1 (thn (ha pos pins s σ H _ I h) fun us s1 ⟨vs, H1, I1, r1, q1⟩ => hc pins s1 σ H1 vs us Q I1 r1 q1) he hpl
/-- T(e, ..), T a built-in type -/
theorem pe_callTy (hc : CallR X (.type T) r) (hg : Gl X x) (hm : X.mg x = none) (hv : bootBuiltins x = some (.type T)) (ha : PA X (e :: es) t) (hn : x ≠ "__name__" := by decide) (hdb : (x == ("__debug__" : Str)) = false := by decide)
    (he : starEach (e :: es) X.env = (false, eval e X.env) :: starEach es X.env := by rfl) (hpl : (backTo pos (starEach es X.env)).any (·.1) = false := by rfl) : PE X (.Call (.Name x p) (e :: es) [] pos) (tCB r t) := by
  intro pins s σ H Q I h
  refine wpAny_Call_Name_kw (ld_blt I hg hm hv ?_ hn hdb)
  exact PyProof.Rows.callWith_type1 (thn (ha pos pins s σ H _ I h) fun us s1 ⟨vs, H1, I1, r1, q1⟩ => hc pins s1 σ H1 vs us Q I1 r1 q1) he hpl
end
end L2

namespace HT
open PySem PyProof.Rows


section
variable {prog : Program} {w : World} {A : Around} {E : Value → Shared → Prop} {s : Shared}

/-- t + u, t not empty -/
theorem cat_tup {t b : Addr} {vs ws : List Value} {Q : Value → Shared → Prop} (ht : IsTup s.heap t vs.toArray) (hb : IsTup s.heap b ws.toArray) (hv : vs ≠ [])
    (h1 : ws = [] → Q (.ref t) s) (h2 : ws ≠ [] → Q (.ref s.heap.objs.size) { s with heap := s.heap.push { cls := .type "tuple", data := .seq (vs ++ ws).toArray } })
    (hsz : vs.length + ws.length ≤ sizeLine) : wpAny (model prog w) A (binaryOp .Add (.ref t) (.ref b)) Q E s := by
  obtain ⟨⟨cls, dd, data, sl⟩, ho, hc, n, hd⟩ := id ht
  obtain ⟨⟨cls2, dd2, data2, sl2⟩, ho2, hc2, n2, hd2⟩ := id hb
  simp only at hc hd hc2 hd2
  subst hc hd hc2 hd2
  have e : vs.toArray ++ ws.toArray = (vs ++ ws).toArray := by simp
  by_cases hw : ws = []
  · exact concat_meets ⟨_, ho, rfl⟩ ⟨_, ho2, rfl⟩ noFill_tuple_add seq_tuple_add PySem.F.slot_tuple_add PySem.F.entry_tuple_add (PySem.F.args_tuple_add_2 _ _)
      (tuple_addW1 t b vs.toArray ws.toArray n n2 dd dd2 sl sl2 (by simpa using hv) (by simp [hw])) ⟨ho, ho2, h1 hw⟩
  · refine concat_meets ⟨_, ho, rfl⟩ ⟨_, ho2, rfl⟩ noFill_tuple_add seq_tuple_add PySem.F.slot_tuple_add PySem.F.entry_tuple_add (PySem.F.args_tuple_add_2 _ _)
      (tuple_addW2 t b vs.toArray ws.toArray n n2 dd dd2 sl sl2 (by simpa using hv) (by simpa using hw) (by rw [List.size_toArray, List.size_toArray]; exact hsz)) ⟨ho, ho2, ?_⟩
    rw [e]
    exact h2 hw

/-- a slice's bound as a place among n (d where it is left out) -/
def sIx (n d : Nat) : Option Int → Nat
  | none => d
  | some v => if v < 0 then (v + (n : Int)).toNat else min v.toNat n
theorem sIx_none (n d : Nat) : sIx n d none = d := rfl
theorem sIx_nat (n d k : Nat) : sIx n d (some (k : Int)) = min k n := by
  show (if (k : Int) < 0 then ((k : Int) + (n : Int)).toNat else min (k : Int).toNat n) = min k n
  rw [if_neg (by omega), Int.toNat_natCast]
theorem sIx_le (n d : Nat) (hd : d ≤ n) (o : Option Int) : sIx n d o ≤ n := by
  cases o with
  | none => exact hd
  | some v =>
    show (if v < 0 then (v + (n : Int)).toNat else min v.toNat n) ≤ n
    by_cases hv : v < 0
    · rw [if_pos hv]; omega
    · rw [if_neg hv]; exact Nat.min_le_right _ _
theorem clip_eq (v : Int) (n d : Nat) : (if v < 0 then max (v + (n : Int)) 0 else min v (n : Int)) = ((sIx n d (some v) : Nat) : Int) := by
  show (if v < 0 then max (v + (n : Int)) 0 else min v (n : Int)) = (((if v < 0 then (v + (n : Int)).toNat else min v.toNat n) : Nat) : Int)
  by_cases hv : v < 0
  · simp only [if_pos hv]; omega
  · simp only [if_neg hv]; omega
theorem adjust_gen (lo hi : Option Int) (n : Nat) : Builtin.Slice.sliceAdjust lo hi 1 (n : Int) = (((sIx n 0 lo : Nat) : Int), ((sIx n n hi : Nat) : Int)) := by
  have h1 : ¬ ((1 : Int) < 0) := by omega
  unfold Builtin.Slice.sliceAdjust
  simp only [h1, if_false]
  refine Prod.ext ?_ ?_
  · cases lo with
    | none => rfl
    | some v => exact clip_eq v n 0
  · cases hi with
    | none => rfl
    | some v => exact clip_eq v n n
theorem places_gen (i j : Nat) : Builtin.Slice.slicePlaces (i : Int) (j : Int) 1 = j - i := by
  unfold Builtin.Slice.slicePlaces
  have h1 : (1 : Int) > 0 := by omega
  simp only [h1, if_true, Int.ediv_one]
  split <;> omega
theorem slicePart_ {v : Value} {o : Option Int} {Q : Option Int → Shared → Prop} (p : IsPart v o) (h : Q o s) : wpAny (model prog w) A (Builtin.Slice.slicePartIndex v) Q E s := by
  cases p with
  | none => exact slicePart_none h
  | int i t => exact slicePart_int h
theorem sliceApplied_gen {sl : Addr} {vl vu : Value} {lo hi : Option Int} {n : Nat} {Q : Int × Int × Nat → Shared → Prop} (hs : s.heap.IsSliceOf sl vl vu .none) (pl : IsPart vl lo) (pu : IsPart vu hi)
    (h : Q (((sIx n 0 lo : Nat) : Int), 1, sIx n n hi - sIx n 0 lo) s) : wpAny (model prog w) A (Builtin.Slice.sliceApplied (.ref sl) (pure (n : Int))) Q E s := by
  obtain ⟨os, hos, hcs, hds⟩ := id hs
  unfold Builtin.Slice.sliceApplied Builtin.Slice.sliceFields
  refine wpAny_bind (wpAny_bind (wpAny_field hos hds (x := vl) rfl (wpAny_bind (wpAny_field hos hds (x := vu) rfl (wpAny_bind (wpAny_field hos hds (x := .none) rfl (wpAny_pure ?_)))))))
  refine wpAny_bind (slicePart_none ?_)
  show wpAny _ _ (if ((1 : Int) == 0) = true then _ else _) _ _ s
  rw [if_neg (by decide)]
  refine wpAny_bind (slicePart_ pl (wpAny_bind (slicePart_ pu (wpAny_bind (wpAny_pure ?_)))))
  show wpAny _ _ (match Builtin.Slice.sliceAdjust lo hi 1 (n : Int) with | (lo, hi) => pure (lo, (1 : Int), Builtin.Slice.slicePlaces lo hi 1)) _ _ s
  rw [adjust_gen lo hi n]
  show wpAny _ _ (pure (((sIx n 0 lo : Nat) : Int), (1 : Int), Builtin.Slice.slicePlaces ((sIx n 0 lo : Nat) : Int) ((sIx n n hi : Nat) : Int) 1)) _ _ s
  rw [places_gen]
  exact wpAny_pure h
theorem pick_gen (xs : Array Value) (i k : Nat) : ((List.range k).filterMap fun (m : Nat) => xs[((i : Int) + (m : Int) * 1).toNat]?).toArray = ((xs.toList.drop i).take k).toArray := by
  have e : (fun (m : Nat) => xs[((i : Int) + (m : Int) * 1).toNat]?) = fun m => xs[i + m]? := by
    funext m
    have : ((i : Int) + (m : Int) * 1).toNat = i + m := by omega
    rw [this]
  rw [e]
  have := pick_run xs i k
  rw [List.filterMap_map] at this
  have e2 : ((fun x => xs[x]?) ∘ fun x => i + x) = fun m => xs[i + m]? := rfl
  rw [e2] at this
  rw [this]

theorem getItem_tuple_cut {t sl : Addr} {items : Array Value} {vl vu : Value} {lo hi : Option Int} {Q : Value → Shared → Prop} (ht : IsTup s.heap t items) (hs : s.heap.IsSliceOf sl vl vu .none) (pl : IsPart vl lo) (pu : IsPart vu hi)
    (hw : ¬ (sIx items.size 0 lo = 0 ∧ sIx items.size items.size hi = items.size))
    (h : Q (.ref s.heap.objs.size) { s with heap := s.heap.push { cls := .type "tuple", data := .seq ((items.toList.drop (sIx items.size 0 lo)).take (sIx items.size items.size hi - sIx items.size 0 lo)).toArray } })
    (hsz : items.size ≤ sizeLine) : wpAny (model prog w) A (getItem (.ref t) (.ref sl)) Q E s := by
  have htake : sizeOk (.seq ((items.toList.drop (sIx items.size 0 lo)).take (sIx items.size items.size hi - sIx items.size 0 lo)).toArray) := by
    show ((items.toList.drop (sIx items.size 0 lo)).take (sIx items.size items.size hi - sIx items.size 0 lo)).toArray.size ≤ sizeLine
    rw [List.size_toArray, List.length_take, List.length_drop, Array.length_toList]
    omega
  have hj : sIx items.size items.size hi ≤ items.size := sIx_le _ _ (Nat.le_refl _) hi
  obtain ⟨os, hos, hcs, hds⟩ := id hs
  have hTs : s.TypeIs (.ref sl) "slice" := ⟨os, hos, hcs⟩
  unfold getItem
  try with_reducible refine wpAny_holding ?_
  first | refine wpAny_bind (wpAny_pure ?_) | skip
  refine wpAny_bind (wpAny_sequenceKey ht.typeIs (by decide) ?_)
  refine wpAny_bind (wpAny_callSpecial?_slot (name := Str.ofString "__getitem__") ht.typeIs PyProof.Rows.slot_tuple_getitem
    (wpAny_call_entry PyProof.Rows.slot_tuple_getitem ht.typeIs entry_tuple_getitem ?_ (args_tuple_getitem _ _)))
  show wpAny _ _ (Builtin.Tuple.tupleItemsOf (.ref t) >>= _) _ _ s
  refine wpAny_bind (tupleItemsOf_ ht ?_)
  refine wpAny_bind (wpAny_typeOf hTs ?_)
  rw [if_pos (by decide)]
  refine wpAny_bind (sliceApplied_gen hs pl pu ?_)
  have hno : ¬ ((((sIx items.size 0 lo : Nat) : Int) == 0 && (1 : Int) == 1 && (sIx items.size items.size hi - sIx items.size 0 lo) == items.size) = true) := by
    intro q
    rw [Bool.and_eq_true, Bool.and_eq_true] at q
    have q1 : ((sIx items.size 0 lo : Nat) : Int) = 0 := eq_of_beq q.1.1
    have q2 : sIx items.size items.size hi - sIx items.size 0 lo = items.size := eq_of_beq q.2
    exact hw ⟨by omega, by omega⟩
  show wpAny _ _ (if (((sIx items.size 0 lo : Nat) : Int) == 0 && (1 : Int) == 1 && (sIx items.size items.size hi - sIx items.size 0 lo) == items.size) = true then _ else _) _ _ s
  rw [if_neg hno, pick_gen]
  first
    | exact wpAny_bind (m := Builtin.Tuple.tupleExact _) (wpAny_newObj_type (wpAny_pure ⟨_, rfl, wpAny_pure h⟩) htake)
    | exact wpAny_bind (m := Builtin.Tuple.tupleExact _) (wpAny_newObj_type (wpAny_bind (wpAny_pure (wpAny_pure ⟨_, rfl, wpAny_pure h⟩))) htake)
    | exact wpAny_bind (wpAny_bind (m := Builtin.Tuple.tupleExact _) (wpAny_newObj_type (wpAny_pure (wpAny_pure ⟨_, rfl, wpAny_pure h⟩)) htake))
    | exact wpAny_bind (wpAny_bind (m := Builtin.Tuple.tupleExact _) (wpAny_newObj_type (wpAny_pure ⟨_, rfl, wpAny_pure h⟩) htake))
end
end HT

namespace L2
open PySem PySem.Spec PyProof.Rows

abbrev TO := St → Hp → (Option Int → Hp → Prop) → Prop
/-- a slice's part (left out, or an int) -/
def PO (X : Cx) (e : Option Expr) (t : TO) : Prop :=
  ∀ (pins : List (Addr × Obj)) (s : Shared) (σ : St) (H : Hp) (Q : Option Int → Hp → Prop), Inv X pins σ H s → t σ H Q →
    wpAny (model X.prog X.w) X.A (evalPart e X.env) (fun u s' => ∃ o H', Inv X pins σ H' s' ∧ IsPart u o ∧ Q o H') X.xe s
def tNoPart : TO := fun _ H Q => Q none H
def tPart (t : TE) : TO := fun σ H Q => t σ H fun x H1 => ∃ i, x = .int i ∧ Q (some i) H1

section
variable {X : Cx} {e : Expr} {te : TE} {lo hi : Option Expr} {tl th : TO} {pos p2 : Pos}

theorem po_none : PO X none tNoPart := by
  intro pins s σ H Q I h
  rw [evalPart_none]
  exact wpAny_pure ⟨none, H, I, .none, h⟩
theorem po_some (h : PE X e te) : PO X (some e) (tPart te) := by
  intro pins s σ H Q I hw
  rw [evalPart_some]
  refine thn (h pins s σ H _ I hw) fun u s1 ⟨x, H1, I1, r1, q1⟩ => ?_
  obtain ⟨i, rfl, q⟩ := q1
  obtain ⟨t, rfl⟩ := r1
  exact ⟨some i, H1, I1, .int i t, q⟩

/-- what a slice of a value is, by values: the slice object stands at sl -/
def SlR (X : Cx) (r : V → Option Int → Option Int → Hp → VK → Prop) : Prop :=
  ∀ (pins : List (Addr × Obj)) (s : Shared) (σ : St) (H : Hp) (x : V) (v vl vu : Value) (lo hi : Option Int) (sl : Addr) (Q : VK), Inv X pins σ H s → RelV x v → s.heap.IsSliceOf sl vl vu .none → IsPart vl lo → IsPart vu hi → r x lo hi H Q →
    ∃ T id, typeLookup (.type T) "__getitem__" = pure (some (.builtin id)) ∧ s.TypeIs v T ∧ wpAny (model X.prog X.w) X.A (getItem v (.ref sl)) (EP X pins σ Q) X.xe s
def tSl (r : V → Option Int → Option Int → Hp → VK → Prop) (te : TE) (tl th : TO) : TE := fun σ H Q => te σ H fun x H1 => tl σ H1 fun l H2 => th σ H2 fun u H3 => r x l u H3 Q
/-- a[lo:hi], any a -/
theorem pe_slice {r : V → Option Int → Option Int → Hp → VK → Prop} (hr : SlR X r) (he : PE X e te) (hl : PO X lo tl) (hu : PO X hi th) : PE X (.Subscript e (.Slice lo hi none p2) pos) (tSl r te tl th) := by
  intro pins s σ H Q I h
  refine Subscript_ (thn (he pins s σ H _ I h) fun v s1 ⟨x, H1, I1, r1, q1⟩ => ?_)
  refine wpAny_Slice (thn (hl pins s1 σ H1 _ I1 q1) fun vl s2 ⟨l, H2, I2, pl, q2⟩ => thn (hu pins s2 σ H2 _ I2 q2) fun vu s3 ⟨u, H3, I3, pu, q3⟩ => ?_)
  rw [evalPart_none]
  refine wpAny_pure ?_
  have I4 : Inv X pins σ H3 { s3 with heap := s3.heap.push { cls := .type "slice", data := .fields #[vl, vu, .none] } } := I3.kept (t' := s3.toks) fun b ob q => Heap.get?_push_of_some _ q
  obtain ⟨T, id, hT, ht, hg⟩ := hr pins { s3 with heap := s3.heap.push { cls := .type "slice", data := .fields #[vl, vu, .none] } } σ H3 x v vl vu l u s3.heap.objs.size Q I4 r1 (Heap.IsSliceOf.new ..) pl pu q3
  show wpAny (model X.prog X.w) X.A (subscriptTail e (.Slice lo hi none p2) v (.ref s3.heap.objs.size)) (EP X pins σ Q) X.xe { s3 with heap := s3.heap.push { cls := .type "slice", data := .fields #[vl, vu, .none] } }
  exact tail_any (ops := [.ref s3.heap.objs.size, v]) ht hT hg (by with_unfolding_all rfl)

/-- the items of xs[lo:hi] -/
def cutV (xs : List V) (lo hi : Option Int) : List V := (xs.drop (HT.sIx xs.length 0 lo)).take (HT.sIx xs.length xs.length hi - HT.sIx xs.length 0 lo)
theorem cutV_length (xs : List V) (lo hi : Option Int) : (cutV xs lo hi).length ≤ xs.length := by
  unfold cutV
  rw [List.length_take, List.length_drop]
  omega
/-- t[lo:hi], not the whole of it (the whole would be t itself) -/
def rSlT (K : PySem.W.Frag) : V → Option Int → Option Int → Hp → VK → Prop := fun x lo hi H Q => ∃ a xs, x = .ref a ∧ SqT K H a xs ∧
  ¬ (HT.sIx xs.length 0 lo = 0 ∧ HT.sIx xs.length xs.length hi = xs.length) ∧ ∀ p, H p = none → Q (.ref p) (upd H p (.tup (cutV xs lo hi)))
theorem sl_tup : SlR X (rSlT X.K) := by
  intro pins s σ H x v vl vu lo hi sl Q I rx hs pl pu h
  obtain ⟨a, xs, rfl, hx, hw, q⟩ := h
  cases rx
  obtain ⟨its, r, ht, hz⟩ := I.tuple hx
  have hlen : its.toArray.size = xs.length := by rw [List.size_toArray]; exact r.length.symm
  refine ⟨"tuple", _, PyProof.Rows.slot_tuple_getitem.lookup, ht.typeIs, ?_⟩
  refine HT.getItem_tuple_cut ht hs pl pu (by rw [hlen]; exact hw) ?_ (by rw [hlen]; exact hz)
  rw [hlen]
  refine ⟨.ref s.heap.objs.size, _, I.laid (t' := s.toks) (o := .tup (cutV xs lo hi)) (fun b ob q => Heap.get?_push_of_some _ q) (Nat.le_refl _) ?_, rfl, q _ (I.hok.fresh (Nat.le_refl _))⟩
  exact ⟨Nat.le_trans (cutV_length xs lo hi) hz, _, (r.drop (HT.sIx xs.length 0 lo)).take (HT.sIx xs.length xs.length hi - HT.sIx xs.length 0 lo), IsTup.new _ _⟩

/-- t + u, t not empty: u empty gives t itself -/
def rCatT (K : PySem.W.Frag) : R2 := fun x y H Q => ∃ a b xs ys, x = .ref a ∧ y = .ref b ∧ SqT K H a xs ∧ SqT K H b ys ∧ xs ≠ [] ∧ xs.length + ys.length ≤ sizeLine ∧
  (ys = [] → Q (.ref a) H) ∧ (ys ≠ [] → ∀ p, H p = none → Q (.ref p) (upd H p (.tup (xs ++ ys))))
theorem Vals.nil_iff {xs : List V} {us : List Value} (r : Vals xs us) : us = [] ↔ xs = [] := by
  cases r with
  | nil => simp
  | cons _ _ => simp
theorem op_catT : OpR X (binaryOp .Add) (rCatT X.K) := by
  intro pins s σ H x y v u Q I rx ry h
  obtain ⟨a, b, xs, ys, rfl, rfl, ha, hb, hx, hz, q1, q2⟩ := h
  cases rx
  cases ry
  obtain ⟨its, r1, p1, _⟩ := I.tuple ha
  obtain ⟨its2, r2, p2, _⟩ := I.tuple hb
  refine HT.cat_tup p1 p2 (fun z => hx (r1.nil_iff.mp z)) (fun z => ⟨.ref a, H, I, rfl, q1 (r2.nil_iff.mp z)⟩) (fun z => ?_) (by rw [← r1.length, ← r2.length]; exact hz)
  refine ⟨.ref s.heap.objs.size, _, I.laid (t' := s.toks) (o := .tup (xs ++ ys)) (fun b ob q => Heap.get?_push_of_some _ q) (Nat.le_refl _) ?_, rfl, q2 (fun w => z (r2.nil_iff.mpr w)) _ (I.hok.fresh (Nat.le_refl _))⟩
  exact ⟨by rw [List.length_append]; exact hz, _, r1.append r2, IsTup.new _ _⟩
end
end L2

namespace L2
open PySem PySem.Spec PyProof.Rows

/-- the place that an index of any sign means -/
def ixN (n : Nat) (i : Int) : Option Nat := if 0 ≤ i then (if i < n then some i.toNat else none) else if -(n : Int) ≤ i then some (i + n).toNat else none
def atI {α : Type} (xs : List α) (i : Int) : Option α := (ixN xs.length i).bind fun j => xs[j]?
theorem ixN_seq {n : Nat} {i : Int} {j : Nat} (h : ixN n i = some j) : seqIndex? i n = some j ∧ j < n ∧ -(n : Int) ≤ i ∧ i < n := by
  unfold ixN at h
  by_cases h0 : 0 ≤ i
  · rw [if_pos h0] at h
    by_cases h1 : i < n
    · rw [if_pos h1] at h
      have e : i.toNat = j := Option.some.inj h
      exact ⟨by rw [seqIndex_of h0 h1, e], by omega, by omega, h1⟩
    · rw [if_neg h1] at h; cases h
  · rw [if_neg h0] at h
    by_cases h1 : -(n : Int) ≤ i
    · rw [if_pos h1] at h
      have e : (i + n).toNat = j := Option.some.inj h
      exact ⟨by rw [seqIndex_neg (by omega) h1, e], by omega, h1, by omega⟩
    · rw [if_neg h1] at h; cases h
theorem atI_get {α : Type} {xs : List α} {i : Int} {v : α} (h : atI xs i = some v) : ∃ j, seqIndex? i xs.length = some j ∧ xs[j]? = some v ∧ j < xs.length ∧ -(xs.length : Int) ≤ i ∧ i < xs.length := by
  unfold atI at h
  cases e : ixN xs.length i with
  | none => rw [e] at h; cases h
  | some j =>
    rw [e] at h
    obtain ⟨h1, h2, h3, h4⟩ := ixN_seq e
    exact ⟨j, h1, h, h2, h3, h4⟩
theorem atI_nat {α : Type} {xs : List α} {j : Nat} {v : α} (h : xs[j]? = some v) : atI xs (j : Int) = some v := by
  have hj : j < xs.length := (List.getElem?_eq_some_iff.mp h).1
  have e : ixN xs.length (j : Int) = some j := by
    unfold ixN
    rw [if_pos (by omega), if_pos (by omega)]; simp
  unfold atI; rw [e]; exact h
/-- what stands as an index of a plain subscript -/
def PlainIx (b : Expr) : Prop := ∀ o i, subscripted b false o i = operate [o, i] (getItem o i)
/-- a subscript by values -/
def IxR (X : Cx) (r : R2) : Prop :=
  ∀ (value slice : Expr) (pins : List (Addr × Obj)) (s : Shared) (σ : St) (H : Hp) (x y : V) (v u : Value) (Q : VK), Inv X pins σ H s → RelV x v → RelV y u → r x y H Q →
    subscripted slice false v u = operate [v, u] (getItem v u) → wpAny (model X.prog X.w) X.A (subscriptTail value slice v u) (EP X pins σ Q) X.xe s
/-- a call of a builtin's method by values: the receiver, the arguments -/
def MtR (X : Cx) (id : String) (r : V → List V → Hp → VK → Prop) : Prop :=
  ∀ (pins : List (Addr × Obj)) (s : Shared) (σ : St) (H : Hp) (x : V) (xs : List V) (v : Value) (us : List Value) (Q : VK), Inv X pins σ H s → RelV x v → Vals xs us → r x xs H Q →
    wpAny (model X.prog X.w) X.A (call (.builtin id) (v :: us)) (EP X pins σ Q) X.xe s
section
variable {X : Cx} {a b : Expr} {ta tb : TE} {pos : Pos}
/-- a[b] -/
theorem pe_ix {r : R2} (hr : IxR X r) (ha : PE X a ta) (hb : PE X b tb) (hs : PlainIx b) : PE X (.Subscript a b pos) (tOp r ta tb) := by
  intro pins s σ H Q I h
  exact Subscript_ (binT ha hb I h fun v u s2 x y H2 I2 rx ry q => hr a b pins s2 σ H2 x y v u Q I2 rx ry q (hs _ _))

def rIxL (K : PySem.W.Frag) : R2 := fun x y H Q => ∃ p xs i v, x = .ref p ∧ y = .int i ∧ SqL K H p xs ∧ atI xs i = some v ∧ Q v H
def rIxT (K : PySem.W.Frag) : R2 := fun x y H Q => ∃ p xs i v, x = .ref p ∧ y = .int i ∧ SqT K H p xs ∧ atI xs i = some v ∧ Q v H
theorem ix_list : IxR X (rIxL X.K) := by
  intro value slice pins s σ H x y v u Q I rx ry h hs
  obtain ⟨p, xs, i, z, rfl, rfl, hq, he, q⟩ := h
  cases rx
  obtain ⟨t, rfl⟩ := ry
  obtain ⟨its, r, pl, hz⟩ := I.list hq
  obtain ⟨j, h1, h2, h3, h4, h5⟩ := atI_get he
  obtain ⟨w, ew, rw'⟩ := r.get h2
  have hl := r.length
  have hn := line63
  have fin : EP X pins σ Q w s := ⟨z, H, I, rw', q⟩
  by_cases h0 : 0 ≤ i
  · have hj : i.toNat = j := by
      rw [seqIndex_of h0 h5] at h1
      exact Option.some.inj h1
    exact item_listR pl.isList h0 (by omega) (by rw [hj]; simpa using ew) fin hs
  · have hj : (i + (its.toArray.size : Int)).toNat = j := by
      rw [seqIndex_neg (by omega) h4] at h1
      rw [List.size_toArray, ← hl]
      exact Option.some.inj h1
    exact subscriptTail_builtinR (x := w) pl.isList.typeIs slot_list_getitem.lookup
      (wpAny_getItem_list_neg (Q := fun r s' => r = w ∧ EP X pins σ Q r s') pl.isList (by omega) (by rw [List.size_toArray] <;> omega) (by omega) (by rw [hj]; simpa using ew) ⟨rfl, fin⟩) hs
theorem ix_tup : IxR X (rIxT X.K) := by
  intro value slice pins s σ H x y v u Q I rx ry h hs
  obtain ⟨p, xs, i, z, rfl, rfl, hq, he, q⟩ := h
  cases rx
  obtain ⟨t, rfl⟩ := ry
  obtain ⟨its, r, pl, hz⟩ := I.tuple hq
  obtain ⟨j, h1, h2, h3, h4, h5⟩ := atI_get he
  obtain ⟨w, ew, rw'⟩ := r.get h2
  have hl := r.length
  have hn := line63
  have fin : EP X pins σ Q w s := ⟨z, H, I, rw', q⟩
  exact subscriptTail_builtinR (x := w) pl.typeIs slot_tuple_getitem.lookup
    (getItem_tuple (j := j) (Q := fun r s' => r = w ∧ EP X pins σ Q r s') pl (by omega) (by omega) (by rw [List.size_toArray, ← hl]; exact h1) (by simpa using ew) ⟨rfl, fin⟩) hs
/-- the list's object behind a store -/
theorem mapSeq_set (its : List Value) (n j : Nat) (u : Value) : Obj.mapSeq (·.setIfInBounds j u) { cls := .type "list", data := .seq its.toArray n } = { cls := .type "list", data := .seq (its.set j u).toArray n } := by
  simp [Obj.mapSeq]
theorem Inv.lst {pins : List (Addr × Obj)} {σ : St} {H : Hp} {s : Shared} {p : Addr} {xs : List V} (I : Inv X pins σ H s) (h : H p = some (.lst xs)) :
    ∃ (its : List Value) (n : Nat), Vals xs its ∧ s.heap.get? p = some { cls := .type "list", data := .seq its.toArray n } ∧ xs.length ≤ sizeLine := by
  obtain ⟨z, its, n, r, e⟩ := I.hok p _ h
  exact ⟨its, n, r, e, z⟩
/-- the list at p is written by an update of its object -/
theorem Inv.lstUpd {pins : List (Addr × Obj)} {σ : St} {H : Hp} {s : Shared} {p : Addr} {xs ys : List V} {its its' : List Value} {n n' : Nat} {f : Obj → Obj} (I : Inv X pins σ H s) (h : H p = some (.lst xs))
    (ho : s.heap.get? p = some { cls := .type "list", data := .seq its.toArray n }) (hf : f { cls := .type "list", data := .seq its.toArray n } = { cls := .type "list", data := .seq its'.toArray n' }) (r : Vals ys its') (hz : ys.length ≤ sizeLine) (t : Nat) :
    Inv X pins σ (upd H p (.lst ys)) { s with heap := s.heap.update p f, toks := t } := by
  have e : (s.heap.update p f).get? p = some { cls := .type "list", data := .seq its'.toArray n' } := by
    rw [Heap.get?_update_self f ho (by rw [hf] <;> rfl), hf]
  refine I.write (x := p) (e := p) (by rw [h]; trivial) (.inl rfl) (fun b u hb q => (Heap.get?_update_other _ _ (Ne.symm hb)).trans q) ⟨_, e⟩ ?_
  exact ⟨hz, its', n', r, e⟩
def rSetL : V → V → V → Hp → (Hp → Prop) → Prop := fun o i v H Q => ∃ p xs k j, o = .ref p ∧ i = .int k ∧ H p = some (.lst xs) ∧ ixN xs.length k = some j ∧ Q (upd H p (.lst (xs.set j v)))
theorem set_list : PSet X rSetL := by
  intro pins s σ H o i v ov iv u Q I ro ri rv h
  obtain ⟨p, xs, k, j, rfl, rfl, hp, hj, q⟩ := h
  cases ro
  obtain ⟨t, rfl⟩ := ri
  obtain ⟨its, n, r, ho, hz⟩ := I.lst hp
  obtain ⟨h1, h2, h3, h4⟩ := ixN_seq hj
  have hl := r.length
  have hn := line63
  have I' : Inv X pins σ (upd H p (.lst (xs.set j v))) { s with heap := s.heap.update p (Obj.mapSeq (·.setIfInBounds j u)) } :=
    I.lstUpd hp ho (mapSeq_set its n j u) (r.set rv j) (by rw [List.length_set]; exact hz) s.toks
  by_cases h0 : 0 ≤ k
  · have hk : k.toNat = j := by
      rw [seqIndex_of h0 h4] at h1
      exact Option.some.inj h1
    exact PySem.W.ki_setAt ho h0 (by omega) (by rw [List.size_toArray, ← hl]; exact h4) (by rw [hk]; exact ⟨_, I', q⟩)
  · have hk : (k + (its.toArray.size : Int)).toNat = j := by
      rw [seqIndex_neg (by omega) h3] at h1
      rw [List.size_toArray, ← hl]
      exact Option.some.inj h1
    exact PySem.W.ki_setBack ho (by omega) (by rw [List.size_toArray, ← hl]; exact h3) (by omega) (by rw [hk]; exact ⟨_, I', q⟩)

theorem slice_bounds (lo hi : Option Int) (n : Nat) : (sliceBounds lo hi none n).1 = ((HT.sIx n 0 lo : Nat) : Int) ∧ (sliceBounds lo hi none n).2.1 = ((HT.sIx n n hi : Nat) : Int) ∧ (sliceBounds lo hi none n).2.2 = 1 := by
  refine ⟨?_, ?_, rfl⟩
  · cases lo with
    | none => simp [sliceBounds, HT.sIx]
    | some i =>
      simp only [sliceBounds, HT.sIx, Option.getD_none, show (1 : Int) > 0 by decide, if_true]
      by_cases h : i < 0
      · simp only [h, if_true] <;> omega
      · simp only [h, if_false] <;> omega
  · cases hi with
    | none => simp [sliceBounds, HT.sIx]
    | some i =>
      simp only [sliceBounds, HT.sIx, Option.getD_none, show (1 : Int) > 0 by decide, if_true]
      by_cases h : i < 0
      · simp only [h, if_true] <;> omega
      · simp only [h, if_false] <;> omega
theorem slicePick_cut (its : List Value) (lo hi : Option Int) : slicePick its.toArray lo hi none = ((its.drop (HT.sIx its.length 0 lo)).take (HT.sIx its.length its.length hi - HT.sIx its.length 0 lo)).toArray := by
  obtain ⟨h1, h2, h3⟩ := slice_bounds lo hi its.toArray.size
  unfold slicePick
  rw [h1, h2, h3]
  simp only [sliceRange_one, pick_run, List.size_toArray] <;> rfl
/-- xs[lo:hi] of a list: a new list -/
def rSlL (K : PySem.W.Frag) : V → Option Int → Option Int → Hp → VK → Prop := fun x lo hi H Q => ∃ a xs, x = .ref a ∧ SqL K H a xs ∧ ∀ p, H p = none → Q (.ref p) (upd H p (.lst (cutV xs lo hi)))
theorem sl_list : SlR X (rSlL X.K) := by
  intro pins s σ H x v vl vu lo hi sl Q I rx hs pl pu h
  obtain ⟨a, xs, rfl, hx, q⟩ := h
  cases rx
  obtain ⟨its, r, ht, hz⟩ := I.list hx
  have hlen := r.length
  refine ⟨"list", _, slot_list_getitem.lookup, ht.isList.typeIs, ?_⟩
  refine wpAny_getItem_list_slice ht.isList hs pl pu .none (by simp) ?_ (by rw [List.size_toArray] <;> omega)
  rw [slicePick_cut, ← hlen]
  refine ⟨.ref s.heap.objs.size, _, I.laid (t' := s.toks) (o := .lst (cutV xs lo hi)) (fun b ob q => Heap.get?_push_of_some _ q) (Nat.le_refl _) ?_, rfl, q _ (I.hok.fresh (Nat.le_refl _))⟩
  exact ⟨Nat.le_trans (cutV_length xs lo hi) hz, _, 0, (r.drop (HT.sIx xs.length 0 lo)).take (HT.sIx xs.length xs.length hi - HT.sIx xs.length 0 lo), Heap.get?_push_size _ rfl⟩

def flatV : V → Bool
  | .non => true
  | .bl _ => true
  | .int _ => true
  | .str _ => true
  | _ => false
/-- == of flat values -/
def eqV : V → V → Bool
  | .non, .non => true
  | .bl a, .bl b => a == b
  | .bl a, .int b => (if a then 1 else 0) == b
  | .int a, .bl b => a == (if b then 1 else 0)
  | .int a, .int b => a == b
  | .str a, .str b => a == b
  | _, _ => false
theorem eqAt_V {A : Around} {s : Shared} {y x : V} {u v : Value} (ry : RelV y u) (rx : RelV x v) (fy : flatV y = true) (fx : flatV x = true) : SeqAt.EqAt A s u v (eqV y x) := by
  cases y with
  | non =>
    cases ry
    cases x with
    | non => cases rx; exact SeqAt.EqAt.same _
    | bl b => cases rx; exact SeqAt.EqAt.none_bool b
    | int b => obtain ⟨t, rfl⟩ := rx; exact SeqAt.EqAt.none_int b t
    | str b => obtain ⟨t, rfl⟩ := rx; exact SeqAt.EqAt.none_str b t
    | _ => exact absurd (show false = true from fx) Bool.false_ne_true
  | bl a =>
    cases ry
    cases x with
    | non => cases rx; exact SeqAt.EqAt.bool_none a
    | bl b => cases rx; exact SeqAt.EqAt.bool_bool a b
    | int b => obtain ⟨t, rfl⟩ := rx; exact SeqAt.EqAt.bool_int a b t
    | str b => obtain ⟨t, rfl⟩ := rx; exact SeqAt.EqAt.bool_str a b t
    | _ => exact absurd (show false = true from fx) Bool.false_ne_true
  | int a =>
    obtain ⟨t', rfl⟩ := ry
    cases x with
    | non => cases rx; exact SeqAt.EqAt.int_none a t'
    | bl b => cases rx; exact SeqAt.EqAt.int_bool a t' b
    | int b => obtain ⟨t, rfl⟩ := rx; exact SeqAt.EqAt.int_int a t' b t
    | str b => obtain ⟨t, rfl⟩ := rx; exact SeqAt.EqAt.int_str a t' b t
    | _ => exact absurd (show false = true from fx) Bool.false_ne_true
  | str a =>
    obtain ⟨t', rfl⟩ := ry
    cases x with
    | non => cases rx; exact SeqAt.EqAt.str_none a t'
    | bl b => cases rx; exact SeqAt.EqAt.str_bool a t' b
    | int b => obtain ⟨t, rfl⟩ := rx; exact SeqAt.EqAt.str_int a t' b t
    | str b => obtain ⟨t, rfl⟩ := rx; exact SeqAt.EqAt.str_str a t' b t
    | _ => exact absurd (show false = true from fx) Bool.false_ne_true
  | _ => exact absurd (show false = true from fy) Bool.false_ne_true
/-- the items' answers, read off the values (a value's own answer does not lean on its token) -/
def eqU (x : V) (u : Value) : Bool := match u with
  | .none => eqV .non x
  | .bool b => eqV (.bl b) x
  | .int i _ => eqV (.int i) x
  | .str z _ => eqV (.str z) x
  | _ => false
theorem eqU_of {x y : V} {u : Value} (r : RelV y u) (f : flatV y = true) : eqU x u = eqV y x := by
  cases y with
  | non => cases r; rfl
  | bl b => cases r; rfl
  | int i => obtain ⟨t, rfl⟩ := r; rfl
  | str z => obtain ⟨t, rfl⟩ := r; rfl
  | _ => exact absurd (show false = true from f) Bool.false_ne_true
theorem any_eqU {x : V} : ∀ {xs : List V} {us : List Value}, Vals xs us → xs.all flatV = true → us.any (eqU x) = xs.any fun y => eqV y x
  | _, _, .nil, _ => rfl
  | y :: xs, u :: us, .cons r t, f => by
    rw [List.all_cons, Bool.and_eq_true] at f
    rw [List.any_cons, List.any_cons, eqU_of r f.1, any_eqU t f.2]
theorem mem_eqAt {A : Around} {s : Shared} {x : V} {v : Value} (rx : RelV x v) (fx : flatV x = true) : ∀ {xs : List V} {us : List Value}, Vals xs us → xs.all flatV = true → ∀ u ∈ us, SeqAt.EqAt A s u v (eqU x u)
  | _, _, .nil, _ => fun u hu => by cases hu
  | y :: xs, u :: us, .cons r t, f => fun u' hu => by
    rw [List.all_cons, Bool.and_eq_true] at f
    rcases List.mem_cons.mp hu with rfl | hu
    · rw [eqU_of r f.1]; exact eqAt_V r rx f.1 fx
    · exact mem_eqAt rx fx t f.2 u' hu
def inV (x : V) (xs : List V) : Bool := xs.any fun y => eqV y x
/-- x in a list or tuple of flat items -/
def rIn (K : PySem.W.Frag) (neg : Bool) : R2 := fun x y H Q => ∃ p xs, y = .ref p ∧ (SqL K H p xs ∨ SqT K H p xs) ∧ flatV x = true ∧ xs.all flatV = true ∧ Q (.bl (if neg then !inV x xs else inV x xs)) H
theorem op_in_seq : OpR X (compareOp .In) (rIn X.K false) := by
  intro pins s σ H x y v u Q I rx ry h
  obtain ⟨p, xs, rfl, hq, fx, fs, q⟩ := h
  cases ry
  rcases hq with hq | hq
  · obtain ⟨its, r, pl, hz⟩ := I.list hq
    refine SeqAt.in_listAt (eqU x) pl.isList (fun w hw => mem_eqAt rx fx r fs w (by simpa using hw)) ⟨.bl _, H, I, rfl, ?_⟩
    rw [show its.toArray.any (eqU x) = its.any (eqU x) by simp, any_eqU r fs]
    exact q
  · obtain ⟨its, r, pl, hz⟩ := I.tuple hq
    refine SeqAt.in_tupleAt (eqU x) pl (fun w hw => mem_eqAt rx fx r fs w (by simpa using hw)) ⟨.bl _, H, I, rfl, ?_⟩
    rw [show its.toArray.any (eqU x) = its.any (eqU x) by simp, any_eqU r fs]
    exact q
theorem call_len_seq : CallR X (.builtin "len") (fun xs H Q => ∃ p ys, xs = [.ref p] ∧ (SqL X.K H p ys ∨ SqT X.K H p ys) ∧ Q (.int ys.length) H) := by
  intro pins s σ H xs us Q I r h
  obtain ⟨p, ys, rfl, hq, q⟩ := h
  obtain ⟨u, rfl, rx⟩ := vals1 r
  cases rx
  have hn := line63
  rcases hq with hq | hq
  · obtain ⟨its, r', pl, hz⟩ := I.list hq
    have hlen := r'.length
    exact Calls.call_len_list pl.isList (by simp only [List.size_toArray] <;> omega) ⟨.int ys.length, H, I.tok _, ⟨s.toks + 1, by rw [List.size_toArray, hlen]⟩, q⟩
  · obtain ⟨its, r', pl, hz⟩ := I.tuple hq
    have hlen := r'.length
    exact len_tuple pl (by simp only [List.size_toArray] <;> omega) ⟨.int ys.length, H, I.tok _, ⟨s.toks + 1, by rw [List.size_toArray, hlen]⟩, q⟩
theorem call_list_of : CallR X (.type "list") (fun xs H Q => ∃ p ys, xs = [.ref p] ∧ (SqL X.K H p ys ∨ SqT X.K H p ys) ∧ ∀ l, H l = none → Q (.ref l) (upd H l (.lst ys))) := by
  intro pins s σ H xs us Q I r h
  obtain ⟨p, ys, rfl, hq, q⟩ := h
  obtain ⟨u, rfl, rx⟩ := vals1 r
  cases rx
  have fin : ∀ (its : List Value), Vals ys its → ys.length ≤ sizeLine → ∀ (h' : Heap) (c' : Nat), (∀ b o', s.heap.get? b = some o' → h'.get? b = some o') →
      h'.get? s.heap.objs.size = some { cls := .type "list", dict := none, data := .seq its.toArray c', slots := #[] } → EP X pins σ Q (.ref s.heap.objs.size) { s with heap := h' } := fun its r' hz h' c' kp e =>
    ⟨.ref s.heap.objs.size, _, I.laid (t' := s.toks) kp (Nat.le_refl _) (show ObjOk X.prog X.w _ h' _ (.lst ys) from ⟨hz, its, c', r', e⟩), rfl, q _ (I.hok.fresh (Nat.le_refl _))⟩
  rcases hq with hq | hq
  · obtain ⟨its, r', pl, hz⟩ := I.list hq
    have hlen := r'.length
    obtain ⟨o, ho, hc, n, hd⟩ := pl.isList
    exact call_list_seq p (.inl rfl) ho hc hd (fun h' c' kp e => fin its r' hz h' c' kp e) (by simp only [List.size_toArray] <;> omega)
  · obtain ⟨its, r', pl, hz⟩ := I.tuple hq
    have hlen := r'.length
    obtain ⟨o, ho, hc, n, hd⟩ := pl
    exact call_list_seq p (.inr rfl) ho hc hd (fun h' c' kp e => fin its r' hz h' c' kp e) (by simp only [List.size_toArray] <;> omega)
theorem call_tuple_of : CallR X (.type "tuple") (fun xs H Q => ∃ p ys, xs = [.ref p] ∧ ((SqL X.K H p ys ∧ ∀ l, H l = none → Q (.ref l) (upd H l (.tup ys))) ∨ (SqT X.K H p ys ∧ Q (.ref p) H))) := by
  intro pins s σ H xs us Q I r h
  obtain ⟨p, ys, rfl, h⟩ := h
  obtain ⟨u, rfl, rx⟩ := vals1 r
  cases rx
  rcases h with ⟨hq, q⟩ | ⟨hq, q⟩
  · obtain ⟨its, r', pl, hz⟩ := I.list hq
    have hlen := r'.length
    refine call_tuple_list pl.isList (fun h' kp => ?_) (by simp only [List.size_toArray] <;> omega)
    have I1 : Inv X pins σ H { s with heap := h' } := I.kept (t' := s.toks) kp
    have I2 : Inv X pins σ (upd H h'.objs.size (.tup ys)) { s with heap := h'.push { cls := .type "tuple", data := .seq its.toArray } } :=
      I1.laid (t' := s.toks) (fun b o e => Heap.get?_push_of_some _ e) (Nat.le_refl _) (show ObjOk X.prog X.w _ _ _ (.tup ys) from ⟨hz, its, r', IsTup.new _ _⟩)
    exact ⟨.ref h'.objs.size, _, I2, rfl, q _ (I1.hok.fresh (Nat.le_refl _))⟩
  · obtain ⟨its, r', pl, hz⟩ := I.tuple hq
    exact call_tuple_same pl ⟨.ref p, H, I, rfl, q⟩

/-- the value is of that builtin type -/
def tyV (K : PySem.W.Frag) (T : String) (x : V) (H : Hp) : Prop := match x with
  | .str _ => T = "str"
  | .int _ => T = "int"
  | .ref p => (T = "list" ∧ ∃ xs, SqL K H p xs) ∨ (T = "tuple" ∧ ∃ o, K.lookup p = some o ∧ o.cls = .type "tuple" ∧ o.dict = none) ∨
      (T = "dict" ∧ ((∃ kvs, H p = some (.dK kvs)) ∨ ∃ kvs, H p = some (.dT kvs))) ∨ (T = "set" ∧ ∃ S n, H p = some (.set S n))
  | _ => False
theorem tyV_is {pins : List (Addr × Obj)} {σ : St} {H : Hp} {s : Shared} {T : String} {x : V} {v : Value} (I : Inv X pins σ H s) (r : RelV x v) (ty : tyV X.K T x H) :
    s.TypeIs v T ∧ ∀ a, v = .ref a → ∃ ob, s.heap.get? a = some ob ∧ ob.dict = none := by
  cases x with
  | str z =>
    obtain ⟨t, rfl⟩ := r
    cases (show T = "str" from ty)
    exact ⟨typeIs_str s z t, fun _ e => nomatch e⟩
  | int i =>
    obtain ⟨t, rfl⟩ := r
    cases (show T = "int" from ty)
    exact ⟨typeIs_int s i t, fun _ e => nomatch e⟩
  | ref p =>
    cases r
    rcases ty with ⟨rfl, xs, hq⟩ | ⟨rfl, o, hk, hc, hd⟩ | ⟨rfl, hk⟩ | ⟨rfl, S, n, hk⟩
    · obtain ⟨its, _, pl, _⟩ := I.list hq
      refine ⟨pl.isList.typeIs, fun a e => ?_⟩
      cases e
      obtain ⟨o, n, e, c, hd, _⟩ := pl
      exact ⟨o, e, hd⟩
    · refine ⟨⟨o, I.kIn p o hk, hc⟩, fun a e => ?_⟩
      cases e
      exact ⟨o, I.kIn _ o hk, hd⟩
    · have z : ∃ o, s.heap.get? p = some o ∧ o.ExactDict := by
        rcases hk with ⟨kvs, hk⟩ | ⟨kvs, hk⟩
        · obtain ⟨_, _, _, _, o, _, _, e, ex, _⟩ := I.hok p _ hk
          exact ⟨o, e, ex⟩
        · obtain ⟨_, _, _, _, o, _, _, e, ex, _⟩ := I.hok p _ hk
          exact ⟨o, e, ex⟩
      obtain ⟨o, e, ex⟩ := z
      refine ⟨⟨o, e, ex.1⟩, fun a e2 => ?_⟩
      cases e2
      exact ⟨o, e, ex.2.1⟩
    · obtain ⟨o, _, _, _, e, ex, _⟩ := I.hok p _ hk
      refine ⟨⟨o, e, ex.1⟩, fun a e2 => ?_⟩
      cases e2
      exact ⟨o, e, ex.2.1⟩
  | _ => exact False.elim ty
def tBM (K : PySem.W.Frag) (T : String) (r : V → List V → Hp → VK → Prop) (to : TE) (t : TA) : TE := fun σ H Q => to σ H fun x H1 => tyV K T x H1 ∧ t σ H1 fun xs H2 => r x xs H2 Q
variable {o e : Expr} {es : List Expr} {to : TE} {t : TA} {name : Str} {apos cpos : Pos} {T id : String} {r : V → List V → Hp → VK → Prop}
theorem pe_bm (pa : PlainAttrs T) (slot : Slot T name id) (hty : typeOf (.builtin id) = pure (.type "method_descriptor")) (hm : MtR X id r) (ho : PE X o to) (ha : PA X (e :: es) t)
    (hbase : attributeBase o name X.env (eval o X.env) = eval o X.env := by rfl)
    (hfew : ((backTo cpos (starEach (e :: es) X.env)).all (fun x => !x.1) && (backToKw cpos (keywordEach [] X.env)).all (fun x => x.1.isSome)
      && decide ((e :: es).length + ([] : List Keyword).length + (if ([] : List Keyword).isEmpty then 0 else 1) < 30)) = true := by rfl)
    (hline : (apos.endLine == cpos.line) = true := by rfl) (hs : starEach (e :: es) X.env = (false, eval e X.env) :: starEach es X.env := by rfl) (hplain : (backTo cpos (starEach es X.env)).any (·.1) = false := by rfl) :
    PE X (.Call (.Attribute o name apos) (e :: es) [] cpos) (tBM X.K T r to t) := by
  intro pins s σ H Q I h
  refine wpAny_Call_method_late hbase hfew hline rfl (thn (ho pins s σ H _ I h) fun v s1 ⟨x, H1, I1, r1, ty, q1⟩ => ?_)
  obtain ⟨h1, h2⟩ := tyV_is I1 r1 ty
  refine ⟨T, id, pa, slot, hty, h1, h2, ?_⟩
  have hA := ha cpos pins s1 σ H1 _ I1 q1
  rw [hs] at hA ⊢
  refine Calls.callWith_builtin (by show (false || (backTo cpos (starEach es X.env)).any (·.1)) = false; rw [hplain] <;> rfl) (Calls.evalArgs_plain ?_)
  exact thn hA fun us s2 ⟨vs, H2, I2, r2, q2⟩ => hm pins s2 σ H2 x vs v us Q I2 r1 r2 q2
/- xs.append(e), list.index on a module's tuple .. are MtR facts of 06m -/
end
end L2

namespace L2
open PySem PySem.Spec PyProof.Rows

def MtM (X : Cx) (id : String) (r : V → List V → Hp → VK → Prop) : Prop :=
  ∀ (pins : List (Addr × Obj)) (s : Shared) (σ : St) (H : Hp) (x : V) (xs : List V) (v : Value) (us : List Value) (Q : VK), Inv X pins σ H s → RelV x v → Vals xs us → r x xs H Q →
    wpAny (model X.prog X.w) X.A (call (.builtin id) (v :: us)) (EP X pins σ Q) X.xe s

theorem Vals.one : ∀ {x : V} {us : List Value}, Vals [x] us → ∃ u, us = [u] ∧ RelV x u
  | _, _, .cons r .nil => ⟨_, rfl, r⟩
theorem Vals.two : ∀ {x y : V} {us : List Value}, Vals [x, y] us → ∃ u v, us = [u, v] ∧ RelV x u ∧ RelV y v
  | _, _, _, .cons r (.cons q .nil) => ⟨_, _, rfl, r, q⟩
theorem Vals.reverse {xs : List V} {us : List Value} (h : Vals xs us) : Vals xs.reverse us.reverse := by
  induction h with
  | nil => exact .nil
  | cons r t ih => rw [List.reverse_cons, List.reverse_cons]; exact Vals.append ih (.cons r .nil)
theorem Vals.rep {xs : List V} {us : List Value} (h : Vals xs us) : ∀ k : Nat, Vals (List.replicate k xs).flatten (List.replicate k us).flatten
  | 0 => .nil
  | k + 1 => by
    rw [List.replicate_succ, List.replicate_succ, List.flatten_cons, List.flatten_cons]
    exact Vals.append h (Vals.rep h k)
theorem foldl_rep (its : List Value) : ∀ (k : Nat) (acc : List Value),
    List.foldl (fun x1 x2 => x1 ++ x2) acc.toArray (List.replicate k its.toArray) = (acc ++ (List.replicate k its).flatten).toArray
  | 0, acc => by simp
  | k + 1, acc => by
    have e : acc.toArray ++ its.toArray = (acc ++ its).toArray := by simp
    have e2 : (acc ++ its) ++ (List.replicate k its).flatten = acc ++ (List.replicate (k + 1) its).flatten := by
      rw [List.replicate_succ, List.flatten_cons, List.append_assoc]
    rw [← e2, ← foldl_rep its k (acc ++ its), ← e, List.replicate_succ, List.foldl_cons]

section
variable {X : Cx} {pins : List (Addr × Obj)} {σ : St} {H : Hp} {s : Shared} {l b : Addr} {xs ys zs : List V}

theorem Inv.lset {its its' : List Value} {n : Nat} {f : Array Value → Array Value} {t' : Nat} (I : Inv X pins σ H s) (hH : H l = some (.lst xs))
    (e : s.heap.get? l = some { cls := .type "list", data := .seq its.toArray n }) (hf : f its.toArray = its'.toArray) (hv : Vals ys its') (hz : ys.length ≤ sizeLine) :
    Inv X pins σ (upd H l (.lst ys)) { s with heap := s.heap.update l (Obj.mapSeq f), toks := t' } := by
  have q := PySem.IsL.update e f
  rw [hf] at q
  refine I.write (x := l) (e := l) (by rw [hH]; exact trivial) (.inl rfl) (fun b' u hb hu => (Heap.get?_update_other s.heap (Obj.mapSeq f) (Ne.symm hb)).trans hu) ⟨_, q⟩ ?_
  exact ⟨hz, its', _, hv, q⟩
theorem Inv.lnew {its : List Value} {t' : Nat} (I : Inv X pins σ H s) (hv : Vals ys its) (hz : ys.length ≤ sizeLine) :
    Inv X pins σ (upd H s.heap.objs.size (.lst ys)) { s with heap := s.heap.push { cls := .type "list", data := .seq its.toArray }, toks := t' } :=
  I.laid (fun _ _ q => Heap.get?_push_of_some _ q) (Nat.le_refl _) ⟨hz, its, 0, hv, Heap.get?_push_size _ rfl⟩
theorem Inv.fresh (I : Inv X pins σ H s) : H s.heap.objs.size = none := I.hok.fresh (Nat.le_refl _)
theorem Inv.lstM (I : Inv X pins σ H s) (hH : H l = some (.lst xs)) : xs.length ≤ sizeLine ∧ ∃ (its : List Value) (n : Nat), Vals xs its ∧ xs.length = its.length ∧ s.heap.get? l = some { cls := .type "list", data := .seq its.toArray n } := by
  obtain ⟨z, its, n, r, e⟩ := I.hok l _ hH
  exact ⟨z, its, n, r, r.length, e⟩

theorem notLongL {n : Nat} (h : n ≤ sizeLine) : Builtin.List.listTooLong n = false := by
  unfold Builtin.List.listTooLong
  exact decide_eq_false (by omega)
end

section
variable {X : Cx}

def rAppend : V → List V → Hp → VK → Prop := fun x vs H Q => ∃ l xs y, x = .ref l ∧ vs = [y] ∧ H l = some (.lst xs) ∧ xs.length < sizeLine ∧ Q .non (upd H l (.lst (xs ++ [y])))
theorem mt_append : MtM X "list.append" rAppend := by
  intro pins s σ H x vs v us Q I rx rv h
  obtain ⟨l, xs, y, rfl, rfl, hH, hz, q⟩ := h
  cases rx
  obtain ⟨u, rfl, ru⟩ := rv.one
  obtain ⟨z, its, n, r, hl, e⟩ := I.lstM hH
  refine call_meets F.slot_list_append ⟨_, e, rfl⟩ F.entry_list_append (F.args_list_append_2 _ _) (PySem.list_append l its.toArray n u (by rw [List.size_toArray]; omega)) ⟨e, ?_⟩
  refine ⟨.non, _, I.lset (its' := its ++ [u]) hH e (by simp) (r.append (.cons ru .nil)) ?_, rfl, q⟩
  rw [List.length_append, List.length_singleton]
  omega

def rExtend : V → List V → Hp → VK → Prop := fun x vs H Q => ∃ l b xs zs, x = .ref l ∧ vs = [.ref b] ∧ H l = some (.lst xs) ∧ H b = some (.lst zs) ∧ xs.length + zs.length ≤ sizeLine ∧ Q .non (upd H l (.lst (xs ++ zs)))
theorem mt_extend : MtM X "list.extend" rExtend := by
  intro pins s σ H x vs v us Q I rx rv h
  obtain ⟨l, b, xs, zs, rfl, rfl, hH, hB, hz, q⟩ := h
  cases rx
  obtain ⟨u, rfl, ru⟩ := rv.one
  cases ru
  obtain ⟨z, its, n, r, hl, e⟩ := I.lstM hH
  obtain ⟨z2, its2, n2, r2, hl2, e2⟩ := I.lstM hB
  have hsz : its.toArray.size + its2.toArray.size ≤ sizeLine := by rw [List.size_toArray, List.size_toArray]; omega
  have hlong : ¬ (!its.toArray.isEmpty && Builtin.List.listTooLong (its.toArray.size + its2.toArray.size)) = true := by
    rw [notLongL hsz, Bool.and_false]
    exact Bool.false_ne_true
  refine call_meets F.slot_list_extend ⟨_, e, rfl⟩ F.entry_list_extend (F.args_list_extend_2 _ _)
    (AutoSeq1.list_extend_list_list_0 l its.toArray n b its2.toArray n2 hlong (by rw [List.size_toArray]; omega) (by omega)) ⟨e, e2, ?_⟩
  refine ⟨.non, _, I.lset (its' := its ++ its2) hH e (by simp) (r.append r2) ?_, rfl, q⟩
  rw [List.length_append]
  omega

def rCat : R2 := fun x y H Q => ∃ l b xs zs, x = .ref l ∧ y = .ref b ∧ H l = some (.lst xs) ∧ H b = some (.lst zs) ∧ xs.length + zs.length ≤ sizeLine ∧ ∀ p, H p = none → Q (.ref p) (upd H p (.lst (xs ++ zs)))
theorem op_cat : OpR X (binaryOp .Add) rCat := by
  intro pins s σ H x y v u Q I rx ry h
  obtain ⟨l, b, xs, zs, rfl, rfl, hH, hB, hz, q⟩ := h
  cases rx
  cases ry
  obtain ⟨z, its, n, r, hl, e⟩ := I.lstM hH
  obtain ⟨z2, its2, n2, r2, hl2, e2⟩ := I.lstM hB
  refine PySem.P.add_list e e2 ?_ (by rw [List.size_toArray, List.size_toArray]; omega)
  have ea : its.toArray ++ its2.toArray = (its ++ its2).toArray := by simp
  rw [ea]
  exact ⟨.ref _, _, I.lnew (t' := s.toks) (r.append r2) (by rw [List.length_append]; omega), rfl, q _ I.fresh⟩
/-- a list times an int (a negative one is nothing) -/
def rRep : R2 := fun x y H Q => ∃ l k xs, x = .ref l ∧ y = .int k ∧ H l = some (.lst xs) ∧ -(2 ^ 63) ≤ k ∧ k < 2 ^ 63 ∧ xs.length * k.toNat ≤ sizeLine ∧
  ∀ p, H p = none → Q (.ref p) (upd H p (.lst (List.replicate k.toNat xs).flatten))
theorem len_rep {α : Type} (xs : List α) (k : Nat) : (List.replicate k xs).flatten.length = k * xs.length := by
  induction k with
  | zero => simp
  | succ k ih => rw [List.replicate_succ, List.flatten_cons, List.length_append, ih, Nat.succ_mul, Nat.add_comm]
theorem op_rep : OpR X (binaryOp .Mult) rRep := by
  intro pins s σ H x y v u Q I rx ry h
  obtain ⟨l, k, xs, rfl, rfl, hH, h1, h2, hz, q⟩ := h
  cases rx
  obtain ⟨t, rfl⟩ := ry
  obtain ⟨z, its, n, r, hl, e⟩ := I.lstM hH
  have hlen : its.toArray.size * k.toNat ≤ sizeLine := by rw [List.size_toArray, ← hl]; exact hz
  have hcap : ¬ its.toArray.size * k.toNat > (2 ^ 63 - 1) / 8 := by
    have : (sizeLine : Nat) ≤ (2 ^ 63 - 1) / 8 := by decide
    omega
  have hfit : ¬ (!Builtin.List.listFitsIndex k) = true := by
    rw [fitsIndex_both h1 h2]
    exact Bool.false_ne_true
  have hlong : ¬ Builtin.List.listTooLong (its.toArray.size * k.toNat) = true := by
    rw [notLongL hlen]
    exact Bool.false_ne_true
  have hnew : List.foldl (fun x1 x2 => x1 ++ x2) #[] (List.replicate (if its.toArray.isEmpty = true then 0 else k.toNat) its.toArray) = (List.replicate k.toNat its).flatten.toArray := by
    have f0 : ∀ m : Nat, List.foldl (fun x1 x2 => x1 ++ x2) #[] (List.replicate m its.toArray) = (List.replicate m its).flatten.toArray := fun m => by
      have := foldl_rep its m []
      rw [List.nil_append] at this
      exact this
    rw [f0]
    cases its with
    | nil => simp
    | cons a r' => rw [if_neg (by simp)]
  refine wpAny_binaryOp_repeat_ref (T := "list") (U := "int") (by decide) ⟨_, e, rfl⟩ (fun s' => typeIs_int s' k t) noFill_list_mul F.fills_int_mul F.slot_int_rmul repeat_list F.slot_int_index.lookup
    (call_meets F.slot_int_rmul (typeIs_int s k t) F.entry_int_rmul (F.args_int_rmul_2 _ _) (int___rmul___int_list k t l its.toArray n)
      ⟨e, rfl, ⟨_, e, rfl⟩, call_meets F.slot_list_mul ⟨_, e, rfl⟩ F.entry_list_mul (F.args_list_mul_2 _ _) (AutoListH.list___mul___list_int_3 l its.toArray n k t hfit hcap hlong) ⟨e, ?_⟩⟩)
  rw [hnew]
  exact ⟨.ref _, _, I.lnew (t' := s.toks) (r.rep k.toNat) (by rw [len_rep, Nat.mul_comm]; exact hz), rfl, q _ I.fresh⟩

end


end L2

namespace L2
open PySem PySem.Spec PyProof.Rows

theorem Vals.ints : ∀ {ns : List Int} {us : List Value}, Vals (ns.map V.int) us → IntsAre us ns
  | [], us, h => by
    rw [List.map_nil] at h
    cases h
    exact IntsAre.nil
  | n :: ns, us, h => by
    rw [List.map_cons] at h
    cases h with
    | cons r t =>
      obtain ⟨k, rfl⟩ := r
      exact IntsAre.cons n k (Vals.ints t)
theorem vals_of_ints : ∀ {us : List Value} {ns : List Int}, IntsAre us ns → Vals (ns.map V.int) us
  | _, _, .nil => by rw [List.map_nil]; exact Paired.nil
  | _, _, .cons n t h => by rw [List.map_cons]; exact Paired.cons (show RelV (V.int n) (Value.int n t) from ⟨t, rfl⟩) (vals_of_ints h)
theorem Vals.ref1 {a : Addr} {us : List Value} (r : Vals [V.ref a] us) : us = [Value.ref a] := by
  cases r with
  | cons r t =>
    cases t
    cases r
    rfl
section
variable {prog : Program} {w : World} {A : Around} {E : Value → Shared → Prop} {s : Shared} {l : Addr} {its : List Value} {ns : List Int} {Q : Value → Shared → Prop}
theorem max_raw (hh : A.handled = none) (hl : s.heap.IsList l its.toArray) (hi : IntsAre its ns) (hne : 0 < ns.length)
    (h : ∀ h' tk M t', (∀ b o, s.heap.get? b = some o → h'.get? b = some o) → M ∈ ns → (∀ a, a ∈ ns → a ≤ M) → Q (.int M t') { s with heap := h', toks := tk }) : wpAny (model prog w) A (call (.builtin "max") [.ref l]) Q E s := by
  obtain ⟨xs, e⟩ := hi.allInts.items
  have hn : numsOf (intItems xs).toList = ns := by rw [← e]; exact hi.numsOf
  rw [nums_intItems] at hn
  subst hn
  rw [e] at hl
  have hsz : 0 < xs.size := by simpa using hne
  refine PySem.max_intList hh hl hsz fun v h' tk hv hk => ?_
  obtain ⟨t, rfl⟩ := intItems_at hv
  obtain ⟨h1, h2⟩ := argBest_gt (numAt xs) (xs.size - 1)
  refine h h' tk _ t hk ?_ fun a ha => ?_
  · rw [numAt_eq]; exact PySem.getD_mem (by rw [List.length_map, Array.length_toList]; omega)
  · obtain ⟨j, hj, rfl⟩ := mem_getD ha
    rw [List.length_map, Array.length_toList] at hj
    rw [← numAt_eq]; exact h2 j (by omega)
theorem min_raw (hh : A.handled = none) (hl : s.heap.IsList l its.toArray) (hi : IntsAre its ns) (hne : 0 < ns.length)
    (h : ∀ h' tk M t', (∀ b o, s.heap.get? b = some o → h'.get? b = some o) → M ∈ ns → (∀ a, a ∈ ns → M ≤ a) → Q (.int M t') { s with heap := h', toks := tk }) : wpAny (model prog w) A (call (.builtin "min") [.ref l]) Q E s := by
  obtain ⟨xs, e⟩ := hi.allInts.items
  have hn : numsOf (intItems xs).toList = ns := by rw [← e]; exact hi.numsOf
  rw [nums_intItems] at hn
  subst hn
  rw [e] at hl
  have hsz : 0 < xs.size := by simpa using hne
  refine PySem.min_intList hh hl hsz fun v h' tk hv hk => ?_
  obtain ⟨t, rfl⟩ := intItems_at hv
  obtain ⟨h1, h2⟩ := argBest_lt (numAt xs) (xs.size - 1)
  refine h h' tk _ t hk ?_ fun a ha => ?_
  · rw [numAt_eq]; exact PySem.getD_mem (by rw [List.length_map, Array.length_toList]; omega)
  · obtain ⟨j, hj, rfl⟩ := mem_getD ha
    rw [List.length_map, Array.length_toList] at hj
    rw [← numAt_eq]; exact h2 j (by omega)
end

section
variable {X : Cx}
/-- max(xs), min(xs) of a list of ints -/
def rMax (K : PySem.W.Frag) : List V → Hp → VK → Prop := fun vs H Q => ∃ (a : Addr) (ns : List Int), vs = [V.ref a] ∧ SqL K H a (ns.map V.int) ∧ 0 < ns.length ∧ ∀ m, m ∈ ns → (∀ y, y ∈ ns → y ≤ m) → Q (.int m) H
def rMin (K : PySem.W.Frag) : List V → Hp → VK → Prop := fun vs H Q => ∃ (a : Addr) (ns : List Int), vs = [V.ref a] ∧ SqL K H a (ns.map V.int) ∧ 0 < ns.length ∧ ∀ m, m ∈ ns → (∀ y, y ∈ ns → m ≤ y) → Q (.int m) H
theorem cr_max (hc : X.calm = true) : CallR X (.builtin "max") (rMax X.K) := by
  intro pins s σ H vs us Q I r h
  obtain ⟨a, ns, rfl, hs, hne, q⟩ := h
  obtain ⟨its, rv, hl, _⟩ := I.list hs
  rw [Vals.ref1 r]
  exact max_raw (I.ok.hd hc) hl.isList rv.ints hne fun h' tk m t' hk h1 h2 => ⟨.int _, H, I.kept hk, ⟨_, rfl⟩, q m h1 h2⟩
theorem cr_min (hc : X.calm = true) : CallR X (.builtin "min") (rMin X.K) := by
  intro pins s σ H vs us Q I r h
  obtain ⟨a, ns, rfl, hs, hne, q⟩ := h
  obtain ⟨its, rv, hl, _⟩ := I.list hs
  rw [Vals.ref1 r]
  exact min_raw (I.ok.hd hc) hl.isList rv.ints hne fun h' tk m t' hk h1 h2 => ⟨.int _, H, I.kept hk, ⟨_, rfl⟩, q m h1 h2⟩

end

section
variable {X : Cx}
def rIndex (K : PySem.W.Frag) : V → List V → Hp → VK → Prop := fun x xs H Q => ∃ (a : Addr) (ys : List V) (y : V) (j : Nat) (z : V), x = V.ref a ∧ xs = [y] ∧ SqL K H a ys ∧ flatV y = true ∧ ys.all flatV = true ∧ ys[j]? = some z ∧ eqV z y = true ∧
  (∀ (m : Nat) (z' : V), m < j → ys[m]? = some z' → eqV z' y = false) ∧ Q (.int (j : Nat)) H
theorem flat_at {ys : List V} (f : ys.all flatV = true) {j : Nat} {z : V} (h : ys[j]? = some z) : flatV z = true := List.all_eq_true.mp f z (List.mem_of_getElem? h)
theorem mt_index : MtR X "list.index" (rIndex X.K) := by
  intro pins s σ H x xs v us Q I rx rxs h
  obtain ⟨a, ys, y, j, z, rfl, rfl, hs, fy, fys, hz, hzj, hno, q⟩ := h
  cases rx
  cases rxs with
  | cons ry rt =>
    rename_i uy ut
    cases rt
    obtain ⟨its, rv, ⟨⟨cls, dd, data, sl⟩, n, ho, hc, hdn, hd⟩, hlen⟩ := I.list hs
    simp only at hc hd
    subst hc hd
    obtain ⟨u, hu, ru⟩ := rv.get hz
    obtain ⟨hjl, hje⟩ := List.getElem?_eq_some_iff.mp hu
    have hvl := rv.length
    have hj : j < its.toArray.size := by simpa using hjl
    have hsl := sizeLine_eq
    refine call_meets PySem.F.slot_list_index ⟨_, ho, rfl⟩ PySem.F.entry_list_index (PySem.F.args_list_index_2 _ _)
      (SeqAt.list_indexAt a its.toArray n dd sl uy (eqU y) j hj (by omega) ?_ ?_) ⟨ho, fun u' hu' => mem_eqAt ry fy rv fys u' (by simpa using hu'), ?_⟩
    · have e1 : its.toArray[j] = u := by simpa using hje
      rw [e1, eqU_of ru (flat_at fys hz)]
      exact hzj
    · intro m hm hmj
      have hml : m < its.length := by simpa using hm
      have hmy : m < ys.length := by omega
      have hy' : ys[m]? = some ys[m] := List.getElem?_eq_getElem hmy
      obtain ⟨u2, hu2, ru2⟩ := rv.get hy'
      obtain ⟨_, hme⟩ := List.getElem?_eq_some_iff.mp hu2
      have e1 : its.toArray[m] = u2 := by simpa using hme
      rw [e1, eqU_of ru2 (flat_at fys hy')]
      exact hno m _ hmj hy'
    · exact ⟨.int (j : Nat), H, I.tok _, ⟨_, rfl⟩, q⟩
end



mutual
inductive Dp (K : PySem.W.Frag) (H : Hp) : V → PyData → Prop
  | non : Dp K H .non .none
  | bl (b : Bool) : Dp K H (.bl b) (.bool b)
  | int (i : Int) : Dp K H (.int i) (.int i)
  | str (x : Str) : Dp K H (.str x) (.str x)
  | lst {a : Addr} {xs : List V} {ds : List PyData} : SqL K H a xs → DpAll K H xs ds → Dp K H (.ref a) (.list ds)
  | tup {a : Addr} {xs : List V} {ds : List PyData} : SqT K H a xs → DpAll K H xs ds → Dp K H (.ref a) (.tuple ds)
inductive DpAll (K : PySem.W.Frag) (H : Hp) : List V → List PyData → Prop
  | nil : DpAll K H [] []
  | cons {v : V} {vs : List V} {d : PyData} {ds : List PyData} : Dp K H v d → DpAll K H vs ds → DpAll K H (v :: vs) (d :: ds)
end
section
variable {X : Cx} {pins : List (Addr × Obj)} {σ : St} {H : Hp} {s : Shared}
mutual
theorem Dp.reads (I : Inv X pins σ H s) : ∀ (d : PyData) (v : V) (u : Value), Dp X.K H v d → RelV v u → ∃ as, Reads s.heap u d as
  | .none, _, _, h, r => by
    cases h
    cases r
    exact ⟨_, Reads.none⟩
  | .bool b, _, _, h, r => by
    cases h
    cases r
    exact ⟨_, Reads.bool b⟩
  | .int i, _, _, h, r => by
    cases h
    obtain ⟨t, rfl⟩ := r
    exact ⟨_, Reads.int i t⟩
  | .str x, _, _, h, r => by
    cases h
    obtain ⟨t, rfl⟩ := r
    exact ⟨_, Reads.str x t⟩
  | .list ds, _, _, h, r => by
    cases h with
    | lst hs ha =>
      cases r
      obtain ⟨its, rv, ⟨o, n, ho, hc, _, hd⟩, _⟩ := I.list hs
      obtain ⟨as, hr⟩ := Dp.readsAll I ds _ its ha rv
      exact ⟨_, Reads.list ho hc hd hr⟩
  | .tuple ds, _, _, h, r => by
    cases h with
    | tup hs ha =>
      cases r
      obtain ⟨its, rv, ⟨o, ho, hc, n, hd⟩, _⟩ := I.tuple hs
      obtain ⟨as, hr⟩ := Dp.readsAll I ds _ its ha rv
      exact ⟨_, Reads.tuple ho hc hd hr⟩
  | .dict _, _, _, h, _ => by cases h
theorem Dp.readsAll (I : Inv X pins σ H s) : ∀ (ds : List PyData) (vs : List V) (us : List Value), DpAll X.K H vs ds → Vals vs us → ∃ as, ReadsAll s.heap us ds as
  | [], _, _, h, r => by
    cases h
    cases r
    exact ⟨_, ReadsAll.nil⟩
  | d :: ds, _, _, h, r => by
    cases h with
    | cons h1 h2 =>
      cases r with
      | cons r1 r2 =>
        obtain ⟨as, q1⟩ := Dp.reads I d _ _ h1 r1
        obtain ⟨bs, q2⟩ := Dp.readsAll I ds _ _ h2 r2
        exact ⟨_, ReadsAll.cons q1 q2⟩
end
end
section
variable {X : Cx}
def rNeD (K : PySem.W.Frag) : R2 := fun x y H Q => ∃ d e, Dp K H x d ∧ Dp K H y e ∧ SeqAt.shaped d = true ∧ SeqAt.shaped e = true ∧ Q (.bl (!PyData.eqv d e)) H
theorem op_neD (hu : X.A.units + 64 < cLine) : OpR X (compareOp .NotEq) (rNeD X.K) := by
  intro pins s σ H x y v u Q I rx ry h
  obtain ⟨d, e, hd, he, sd, se, q⟩ := h
  obtain ⟨as, r1⟩ := Dp.reads I d x v hd rx
  obtain ⟨bs, r2⟩ := Dp.reads I e y u he ry
  exact SeqAt.compareNe_shaped r1 r2 sd se hu ⟨.bl _, H, I, rfl, q⟩
end
end L2

namespace L2
open PySem PySem.Spec PyProof.Rows
abbrev CellAt (h : Heap) (c : Addr) (v : Option Value) : Prop := h.IsCell c v
def relS (scope sc : Scope) : Scope :=
  { scope with names := scope.names.map fun (n, k) => if (k == .free && sc.kind == .function && sc.names.lookup n == some .cell) then (n, .cell) else (n, k) }

def cloFrom (cells : List (Str × Addr)) : List (Str × NameKind) → List (Str × Addr) → List (Str × Addr)
  | [], acc => acc
  | (n, k) :: r, acc => if k == .free then cloFrom cells r ((n, (cells.lookup n).getD 0) :: acc) else cloFrom cells r acc

theorem closure_loop (env : Env) (f : Str × NameKind → List (Str × Addr) → Sem (ForInStep (List (Str × Addr))))
    (hf : ∀ n k c, f (n, k) c = if k == .free then (do let a ← cellOf env n; pure (.yield ((n, a) :: c))) else pure (.yield c)) :
    ∀ (names : List (Str × NameKind)) (acc : List (Str × Addr)), (∀ y ∈ names, y.2 = .free → ∃ c, env.cells.lookup y.1 = some c) → forIn names acc f = pure (cloFrom env.cells names acc)
  | [], acc, _ => by rw [List.forIn_nil]; rfl
  | (n, k) :: r, acc, h => by
    rw [List.forIn_cons, hf]
    have ih := fun acc => closure_loop env f hf r acc fun y hy => h y (List.mem_cons_of_mem _ hy)
    unfold cloFrom
    by_cases hk : (k == NameKind.free) = true
    · rw [if_pos hk, if_pos hk]
      obtain ⟨c, hc⟩ := h (n, k) List.mem_cons_self (by simpa using hk)
      have e : cellOf env n = pure c := by unfold cellOf; rw [hc]
      rw [e]
      have e2 : (env.cells.lookup n).getD 0 = c := by rw [hc]; rfl
      rw [e2]
      exact ih _
    · rw [if_neg hk, if_neg hk]
      exact ih _
theorem closure_ok {scope : Scope} {env : Env} (h : ∀ y ∈ scope.names, y.2 = .free → ∃ c, env.cells.lookup y.1 = some c) : closureFor scope env = pure (cloFrom env.cells scope.names []) := by
  simp only [closureFor]
  rw [closure_loop env _ (fun n k c => rfl) scope.names [] h]
  rfl

theorem mem_lookup {α : Type} : ∀ {l : List (Str × α)} {n : Str} {c : α}, (n, c) ∈ l → ∃ c', l.lookup n = some c'
  | (k, v) :: r, n, c, h => by
    rw [List.lookup_cons]
    cases hb : n == k with
    | true => exact ⟨_, rfl⟩
    | false =>
      rcases List.mem_cons.mp h with e | h
      · cases e; simp at hb
      · exact mem_lookup h

theorem cloFrom_mem {cells : List (Str × Addr)} : ∀ {names : List (Str × NameKind)} {acc : List (Str × Addr)} {n : Str} {c : Addr}, (n, c) ∈ cloFrom cells names acc → (n, c) ∈ acc ∨ ((n, .free) ∈ names ∧ c = (cells.lookup n).getD 0)
  | [], _, _, _, h => .inl h
  | (m, k) :: r, acc, n, c, h => by
    unfold cloFrom at h
    split at h
    · rename_i hk
      have hk : k = .free := by simpa using hk
      rcases cloFrom_mem h with h | ⟨h1, h2⟩
      · rcases List.mem_cons.mp h with e | h
        · cases e; exact .inr ⟨hk ▸ List.mem_cons_self, rfl⟩
        · exact .inl h
      · exact .inr ⟨List.mem_cons_of_mem _ h1, h2⟩
    · rcases cloFrom_mem h with h | ⟨h1, h2⟩
      · exact .inl h
      · exact .inr ⟨List.mem_cons_of_mem _ h1, h2⟩
theorem cloFrom_acc {cells : List (Str × Addr)} : ∀ {names : List (Str × NameKind)} {acc : List (Str × Addr)} {p : Str × Addr}, p ∈ acc → p ∈ cloFrom cells names acc
  | [], _, _, h => h
  | (m, k) :: r, acc, p, h => by
    unfold cloFrom
    split
    · exact cloFrom_acc (List.mem_cons_of_mem _ h)
    · exact cloFrom_acc h
theorem cloFrom_has {cells : List (Str × Addr)} : ∀ {names : List (Str × NameKind)} {acc : List (Str × Addr)} {n : Str}, (n, .free) ∈ names → (n, (cells.lookup n).getD 0) ∈ cloFrom cells names acc
  | (m, k) :: r, acc, n, h => by
    unfold cloFrom
    rcases List.mem_cons.mp h with e | h
    · cases e
      exact cloFrom_acc List.mem_cons_self
    · split
      · exact cloFrom_has h
      · exact cloFrom_has h

theorem cells_mem : ∀ {names : List (Str × NameKind)} {h : Heap} {acc : List (Str × Addr)} {x : Str} {c : Addr}, (x, c) ∈ cellsFrom h.objs.size names acc →
    (x, c) ∈ acc ∨ ((x, .cell) ∈ names ∧ h.objs.size ≤ c ∧ CellAt (pushCells h names) c none)
  | [], _, _, _, _, h => .inl h
  | (n, k) :: r, h, acc, x, c, hm => by
    unfold cellsFrom at hm
    unfold pushCells
    split at hm
    · rename_i hk
      rw [if_pos hk]
      have hk : k = .cell := by simpa using hk
      rw [← Heap.size_push h { cls := .type "cell", data := .cell none }] at hm
      rcases cells_mem hm with hm | ⟨h1, h2, h3⟩
      · rcases List.mem_cons.mp hm with e | hm
        · cases e
          exact .inr ⟨hk ▸ List.mem_cons_self, Nat.le_refl _, _, pushCells_keeps r _ _ _ (Heap.get?_push_size _ rfl), rfl⟩
        · exact .inl hm
      · rw [Heap.size_push] at h2
        exact .inr ⟨List.mem_cons_of_mem _ h1, Nat.le_of_succ_le h2, h3⟩
    · rename_i hk
      rw [if_neg hk]
      rcases cells_mem hm with hm | ⟨h1, h2, h3⟩
      · exact .inl hm
      · exact .inr ⟨List.mem_cons_of_mem _ h1, h2, h3⟩
theorem cells_acc : ∀ {names : List (Str × NameKind)} {n : Nat} {acc : List (Str × Addr)} {p : Str × Addr}, p ∈ acc → p ∈ cellsFrom n names acc
  | [], _, _, _, h => h
  | (m, k) :: r, n, acc, p, h => by
    unfold cellsFrom
    split
    · exact cells_acc (List.mem_cons_of_mem _ h)
    · exact cells_acc h
theorem cells_has : ∀ {names : List (Str × NameKind)} {n : Nat} {acc : List (Str × Addr)} {x : Str}, (x, .cell) ∈ names → ∃ c, (x, c) ∈ cellsFrom n names acc
  | (m, k) :: r, n, acc, x, h => by
    unfold cellsFrom
    rcases List.mem_cons.mp h with e | h
    · cases e
      exact ⟨n, cells_acc List.mem_cons_self⟩
    · split
      · exact cells_has h
      · exact cells_has h
theorem cells_inj : ∀ {names : List (Str × NameKind)} {h : Heap} {acc : List (Str × Addr)} {x y : Str} {c : Addr}, (∀ p ∈ acc, p.2 < h.objs.size) → (∀ x y c, (x, c) ∈ acc → (y, c) ∈ acc → x = y) →
    (x, c) ∈ cellsFrom h.objs.size names acc → (y, c) ∈ cellsFrom h.objs.size names acc → x = y
  | [], _, _, _, _, _, _, hi, h1, h2 => hi _ _ _ h1 h2
  | (n, k) :: r, h, acc, x, y, c, hl, hi, h1, h2 => by
    unfold cellsFrom at h1 h2
    split at h1
    · rename_i hk
      rw [if_pos hk] at h2
      rw [← Heap.size_push h { cls := .type "cell", data := .cell none }] at h1 h2
      refine cells_inj (h := h.push _) (fun p hp => ?_) (fun x y c a b => ?_) h1 h2
      · rw [Heap.size_push]
        rcases List.mem_cons.mp hp with rfl | hp
        · exact Nat.lt_succ_self _
        · exact Nat.lt_succ_of_lt (hl p hp)
      · rcases List.mem_cons.mp a with e | a <;> rcases List.mem_cons.mp b with e' | b
        · cases e; cases e'; rfl
        · cases e; exact absurd (hl _ b) (Nat.lt_irrefl _)
        · cases e'; exact absurd (hl _ a) (Nat.lt_irrefl _)
        · exact hi _ _ _ a b
    · rename_i hk
      rw [if_neg hk] at h2
      exact cells_inj hl hi h1 h2

theorem newEnv_comp {M : Model} {A : Around} {E : Value → Shared → Prop} {s : Shared} {scope : Scope} {globals : Addr} {closure : List (Str × Addr)} {qual : Str} {func : Option Addr} {code : Value} {around : Env} {builtins : Addr} {Q : Env → Shared → Prop}
    (h : Q (newEnv scope s.heap.objs.size globals (cellsFrom (s.heap.objs.size + 1) scope.names closure) qual func code (some around) builtins)
      { s with heap := pushCells (s.heap.push { cls := .type "dict", data := .dict #[] }) scope.names }) :
    wpAny M A (newFunctionEnv scope globals closure [] qual func code (some around) builtins) Q E s := by
  simp only [newFunctionEnv, Option.isSome_some, if_true]
  refine wpAny_bind (wpAny_alloc ?_)
  refine wpAny_bind (wpAny_layCells _ (fun n k c => rfl) scope.names closure _ _ ?_)
  rw [show ({ s with heap := s.heap.push { cls := .type "dict", data := .dict #[] } } : Shared).heap.objs.size = s.heap.objs.size + 1 from Heap.size_push ..]
  rw [List.forIn_nil]
  exact wpAny_bind (wpAny_pure (wpAny_pure h))

/-- every name of the written scope, in the scope that runs -/
theorem lookup_relS {sc : Scope} : ∀ {names : List (Str × NameKind)} {x : Str} {k : NameKind},
    (names.map fun (n, k) => if (k == NameKind.free && sc.kind == .function && sc.names.lookup n == some .cell) then (n, NameKind.cell) else (n, k)).lookup x = some k →
    ∃ k', names.lookup x = some k' ∧ (k = k' ∨ (k' = .free ∧ k = .cell))
  | [], _, _, h => by simp at h
  | (n, k₀) :: r, x, k, h => by
    have ih := @lookup_relS sc r x k
    have h' : List.lookup x ((if (k₀ == NameKind.free && sc.kind == .function && sc.names.lookup n == some .cell) = true then (n, NameKind.cell) else (n, k₀)) :: (r.map _)) = some k := h
    cases hx : x == n with
    | true =>
      simp only [List.lookup_cons, hx]
      by_cases hc : (k₀ == NameKind.free && sc.kind == .function && sc.names.lookup n == some .cell) = true
      · rw [if_pos hc] at h'
        simp only [List.lookup_cons, hx] at h'
        cases h'
        simp only [Bool.and_eq_true, beq_iff_eq] at hc
        exact ⟨k₀, rfl, .inr ⟨hc.1.1, rfl⟩⟩
      · rw [if_neg hc] at h'
        simp only [List.lookup_cons, hx] at h'
        cases h'
        exact ⟨_, rfl, .inl rfl⟩
    | false =>
      simp only [List.lookup_cons, hx]
      by_cases hc : (k₀ == NameKind.free && sc.kind == .function && sc.names.lookup n == some .cell) = true
      · rw [if_pos hc] at h'
        simp only [List.lookup_cons, hx] at h'
        exact ih h'
      · rw [if_neg hc] at h'
        simp only [List.lookup_cons, hx] at h'
        exact ih h'
/-- the names of a comprehension's block: its own (with their places in N), or captured -/
structure BlkOk (N : List Str) (sc scope : Scope) (own : List (Str × Nat)) : Prop where
  kind : scope.kind = .function
  uniq : ∀ y ∈ scope.names, scope.names.lookup y.1 = some y.2
  ix : ∀ p ∈ own, N[p.2]? = some p.1
  free : ∀ y ∈ scope.names, y.2 = .free → sc.names.lookup y.1 = some .cell ∨ sc.names.lookup y.1 = some .free
  own : ∀ y ∈ scope.names, y.2 = .local ∨ y.2 = .cell → y.1 ∈ own.map (·.1) ∨ y.1 ∉ N
/-- the slots of the block's own names forgotten -/
def wipe (σ : St) : List Nat → St
  | [] => σ
  | v :: vs => (wipe σ vs).set v none
theorem wipe_length (σ : St) : ∀ vs : List Nat, (wipe σ vs).length = σ.length
  | [] => rfl
  | v :: vs => by unfold wipe; rw [List.length_set, wipe_length σ vs]
theorem wipe_some {σ : St} {i : Nat} {x : V} : ∀ {vs : List Nat}, (wipe σ vs)[i]? = some (some x) → σ[i]? = some (some x) ∧ i ∉ vs
  | [], h => ⟨h, by simp⟩
  | v :: vs, h => by
    unfold wipe at h
    by_cases hi : v = i
    · subst hi
      by_cases hv : v < (wipe σ vs).length
      · rw [List.getElem?_set_self hv] at h; cases h
      · rw [List.getElem?_eq_none (by simpa using hv)] at h; cases h
    · rw [List.getElem?_set_ne hi] at h
      obtain ⟨h1, h2⟩ := wipe_some h
      exact ⟨h1, by simp only [List.mem_cons, not_or]; exact ⟨fun e => hi e.symm, h2⟩⟩

/-- the context of a block that starts at s, its iterator's objects at fp -/
abbrev Cx.blk (X : Cx) (s : Shared) (H : Hp) (scope : Scope) (cenv : Env) (fp : List Addr) : Cx := { X with s_0 := s, H_0 := H, env := cenv, outer := X.stack, ex := fp, fn := fun x => scope.names.lookup x == some .cell, pn := [], xe := fun _ _ => False }
section
variable {X : Cx} {pins : List (Addr × Obj)} {σ : St} {H : Hp} {s : Shared}
theorem block_start {scope : Scope} {own : List (Str × Nat)} {fp : List Addr} (I : Inv X pins σ H s) (ok : BlkOk X.N X.env.scope scope own) (hN : X.N.Nodup) (hfp : ∀ b ∈ fp, FpOk X pins H b ∧ b < s.heap.objs.size) :
    Inv (X.blk s H scope (compEnvC scope (cellsFrom (s.heap.objs.size + 1) scope.names (cloFrom X.env.cells scope.names [])) s.heap.objs.size X.env) fp) [] (wipe σ (own.map (·.2))) H { s with heap := pushCells (s.heap.push { cls := .type "dict", data := .dict #[] }) scope.names } := by
  have hfree : ∀ y ∈ scope.names, y.2 = .free → ∃ c, X.env.cells.lookup y.1 = some c := fun y hy e => by
    rcases ok.free y hy e with k | k
    · exact I.ok.has _ (.inl k)
    · exact I.ok.has _ (.inr k)
  generalize hcenv : compEnvC scope (cellsFrom (s.heap.objs.size + 1) scope.names (cloFrom X.env.cells scope.names [])) s.heap.objs.size X.env = cenv
  have kp : ∀ b o, s.heap.get? b = some o → (pushCells (s.heap.push { cls := .type "dict", data := .dict #[] }) scope.names).get? b = some o := fun b o e => pushCells_keeps _ _ _ _ (Heap.get?_push_of_some _ e)
  have hL : cenv.locals = s.heap.objs.size := by rw [← hcenv]; rfl
  have hcl : cenv.cells = cellsFrom (s.heap.objs.size + 1) scope.names (cloFrom X.env.cells scope.names []) := by rw [← hcenv]; rfl
  have hsc : cenv.scope = relS scope X.env.scope := by rw [← hcenv]; rfl
  rw [← Heap.size_push s.heap { cls := .type "dict", data := .dict #[] }] at hcl
  have cm : ∀ {y c}, (y, c) ∈ cloFrom X.env.cells scope.names [] → X.env.cells.lookup y = some c ∧ c < s.heap.objs.size := fun {y c} hm => by
    rcases cloFrom_mem hm with hm | ⟨h1, rfl⟩
    · cases hm
    · obtain ⟨c, hc⟩ := hfree _ h1 rfl
      rw [hc]
      obtain ⟨w, z⟩ := I.cell _ _ hc
      exact ⟨rfl, z.lt⟩
  have mem : ∀ {y c}, cenv.cells.lookup y = some c → (X.env.cells.lookup y = some c ∧ c < s.heap.objs.size) ∨ (s.heap.objs.size + 1 ≤ c ∧ CellAt (pushCells (s.heap.push { cls := .type "dict", data := .dict #[] }) scope.names) c none) := fun {y c} e => by
    rw [hcl] at e
    rcases cells_mem (PySem.mem_of_lookup e) with hm | ⟨_, h2, h3⟩
    · exact .inl (cm hm)
    · rw [Heap.size_push] at h2; exact .inr ⟨h2, h3⟩
  have look : ∀ {y}, scope.names.lookup y = some .free → ∃ c, cenv.cells.lookup y = some c ∧ X.env.cells.lookup y = some c := fun {y} hl => by
    have hy : (y, NameKind.free) ∈ scope.names := PySem.mem_of_lookup hl
    obtain ⟨c', e'⟩ := mem_lookup (cells_acc (names := scope.names) (n := (s.heap.push { cls := .type "dict", data := .dict #[] }).objs.size) (cloFrom_has (cells := X.env.cells) (acc := []) hy))
    rw [← hcl] at e'
    refine ⟨c', e', ?_⟩
    rw [hcl] at e'
    rcases cells_mem (PySem.mem_of_lookup e') with hm | ⟨h1, _, _⟩
    · exact (cm hm).1
    · have := ok.uniq _ h1
      rw [hl] at this; cases this
  have okB : (X.blk s H scope cenv fp).Ok := by
    refine ⟨I.ok.mod, by show cenv.scope.kind = _; rw [hsc]; exact ok.kind, by show cenv.globals = _; rw [← hcenv]; exact I.ok.glob, by show cenv.builtins = _; rw [← hcenv]; exact I.ok.blt, by show s.heap.objs.size ≤ cenv.locals; rw [hL]; exact Nat.le_refl _,
      fun y z c e1 e2 => ?_, fun y hy => ?_, fun y c z e => ?_, I.ok.hd, I.ok.frames, .inl rfl, fun b hb => ⟨?_, fun y c e z => ?_⟩, I.bs, Nat.le_trans I.ok.bsz I.sz, fun b o e hb => ?_, fun b hb z => ?_, I.stack, I.stkFree⟩
    · have e1 : cenv.cells.lookup y = some c := e1
      have e2 : cenv.cells.lookup z = some c := e2
      rw [hcl] at e1 e2
      refine cells_inj (fun p hp => ?_) (fun y z c a b => I.ok.inj y z c (cm a).1 (cm b).1) (PySem.mem_of_lookup e1) (PySem.mem_of_lookup e2)
      rw [Heap.size_push]
      exact Nat.lt_succ_of_lt (cm (y := p.1) (c := p.2) hp).2
    · show ∃ c, cenv.cells.lookup y = some c
      have key : ∀ k, cenv.kindOf y = some k → (k = .cell ∨ k = .free) → ∃ c, cenv.cells.lookup y = some c := fun k hk hk' => by
        unfold Env.kindOf at hk
        rw [hsc] at hk
        obtain ⟨k', e, r⟩ := lookup_relS hk
        have : k' = .cell ∨ k' = .free := by
          rcases r with rfl | ⟨rfl, _⟩
          · exact hk'
          · exact .inr rfl
        rcases this with rfl | rfl
        · obtain ⟨c, hm⟩ := cells_has (n := (s.heap.push { cls := .type "dict", data := .dict #[] }).objs.size) (acc := cloFrom X.env.cells scope.names []) (PySem.mem_of_lookup e)
          obtain ⟨c', e'⟩ := mem_lookup hm
          exact ⟨c', by rw [hcl]; exact e'⟩
        · obtain ⟨c, h1, _⟩ := look e
          exact ⟨c, h1⟩
      rcases hy with hy | hy
      · exact key _ hy (.inl rfl)
      · exact key _ hy (.inr rfl)
    · have z : (scope.names.lookup y == some NameKind.cell) = true := z
      have z : scope.names.lookup y = some .cell := by simpa using z
      have e : cenv.cells.lookup y = some c := e
      rw [hcl] at e
      rcases cells_mem (PySem.mem_of_lookup e) with hm | ⟨_, h2, _⟩
      · rcases cloFrom_mem hm with hm | ⟨h1, _⟩
        · cases hm
        · have q := ok.uniq _ h1
          rw [z] at q; cases q
      · rw [Heap.size_push] at h2
        exact Nat.le_of_succ_le h2
    · show b ≠ cenv.locals
      rw [hL]; exact Nat.ne_of_lt (hfp b hb).2
    · have e : cenv.cells.lookup y = some c := e
      rcases mem e with ⟨h1, _⟩ | ⟨h1, _⟩
      · exact (hfp b hb).1.2.2.2.2.1 y c h1 z
      · have h2 : s.heap.objs.size + 1 ≤ b := by rw [← z]; exact h1
        exact absurd (Nat.lt_of_lt_of_le (hfp b hb).2 (Nat.le_of_succ_le h2)) (Nat.lt_irrefl _)
    · rcases (hfp b hb).1.2.2.2.1 with z | z
      · exact I.ok.noex b o e z
      · exact absurd (Nat.lt_of_lt_of_le (Heap.lt_size e) (Nat.le_trans I.ok.bsz z)) (Nat.lt_irrefl _)
    · rcases List.mem_cons.mp (I.stkSub b z) with z | z
      · exact (hfp b hb).1.2.1 z
      · exact (hfp b hb).1.2.2.1 z
  refine ⟨okB, rfl, I.bare, Un.kept kp, ⟨fun _ => none, ?_, fun i y av e1 e2 e3 => ?_⟩, fun y c e => ?_, ?_, fun y c e => ?_, fun p hp => ?_, I.hok.kept kp, by rw [wipe_length]; exact I.len⟩
  · show Heap.Ns _ cenv.locals _
    rw [hL]
    exact Heap.Ns.keeps (Heap.Ns.new ..) fun b o e => pushCells_keeps _ _ _ _ e
  · obtain ⟨e2, hne⟩ := wipe_some e2
    have hfr : scope.names.lookup y = some .free ∧ (cenv.kindOf y = some .cell ∨ cenv.kindOf y = some .free) := by
      have key : ∀ k, cenv.scope.names.lookup y = some k → k = .local ∨ k = .cell ∨ k = .free → scope.names.lookup y = some .free ∧ (cenv.kindOf y = some .cell ∨ cenv.kindOf y = some .free) := fun k hk hk' => by
        have hk0 := hk
        rw [hsc] at hk
        obtain ⟨k', e, r⟩ := lookup_relS hk
        have no : ¬ (k' = .local ∨ k' = .cell) := fun hh => by
          rcases ok.own _ (PySem.mem_of_lookup e) hh with e' | e'
          · obtain ⟨p, hp, hpy⟩ := List.mem_map.mp e'
            have e3 := ok.ix p hp
            have : p.1 = y := hpy
            rw [this] at e3
            exact hne (List.mem_map.mpr ⟨p, hp, nodup_ix hN e3 e1⟩)
          · exact e' (List.mem_of_getElem? e1)
        rcases r with rfl | ⟨rfl, rfl⟩
        · rcases hk' with rfl | rfl | rfl
          · exact absurd (.inl rfl) no
          · exact absurd (.inr rfl) no
          · exact ⟨e, .inr hk0⟩
        · exact ⟨e, .inl hk0⟩
      have e3 : Vis cenv.scope y := e3
      rcases e3 with e3 | e3 | e3
      · exact key _ e3 (.inl rfl)
      · exact key _ e3 (.inr (.inl rfl))
      · exact key _ e3 (.inr (.inr rfl))
    obtain ⟨m, hn, hl⟩ := I.loc
    have hvis : Vis X.env.scope y := (ok.free _ (PySem.mem_of_lookup hfr.1) rfl).elim (fun k => .inr (.inl k)) (fun k => .inr (.inr k))
    obtain ⟨w, r, q⟩ := hl i y av e1 e2 hvis
    refine ⟨w, r, .inr ⟨hfr.2, ?_⟩⟩
    obtain ⟨c, h1, h2⟩ := look hfr.1
    rcases q with ⟨k, _⟩ | ⟨_, c', e', z⟩
    · have k : X.env.scope.names.lookup y = some .local := k
      rcases ok.free _ (PySem.mem_of_lookup hfr.1) rfl with k' | k' <;> rw [show X.env.scope.names.lookup y = _ from k'] at k <;> cases k
    · rw [h2] at e'; cases e'
      exact ⟨c, h1, z.keeps kp⟩
  · have e : cenv.cells.lookup y = some c := e
    rcases mem e with ⟨h1, _⟩ | ⟨_, z⟩
    · obtain ⟨w, z⟩ := I.cell y c h1
      exact ⟨w, z.keeps kp⟩
    · exact ⟨_, z⟩
  · show H cenv.locals = none
    rw [hL]; exact I.hok.fresh (Nat.le_refl _)
  · have e : cenv.cells.lookup y = some c := e
    rcases mem e with ⟨h1, _⟩ | ⟨h1, _⟩
    · exact I.freeC y c h1
    · exact I.hok.fresh (Nat.le_of_succ_le h1)
  · exact absurd (show p ∈ ([] : List (Addr × Obj)) ++ [] from hp) (by simp)

/-- an item appended to a tracked list -/
theorem app_ok {E : Value → Shared → Prop} {D : Addr} {xs : List V} {y : V} {v : Value} {Q : Value → Shared → Prop} (I : Inv X pins σ H s) (hD : H D = some (.lst xs)) (hz : xs.length < sizeLine) (r : RelV y v)
    (h : ∀ s', Inv X pins σ (upd H D (.lst (xs ++ [y]))) s' → Q .none s') : wpAny (model X.prog X.w) X.A (call (.builtin "list.append") [.ref D, v]) Q E s := by
  obtain ⟨hz', its, n, ri, e⟩ := I.hok D _ hD
  have hl := ri.length
  refine append_at (hsz := by rw [List.size_toArray]; omega) e fun h' sb ho' => ?_
  refine h { s with heap := h' } (I.write (t' := s.toks) (by rw [hD]; trivial) (.inl rfl) (fun b u hb q => (sb.2 b hb).trans q) ⟨_, ho'⟩ ⟨by rw [List.length_append]; exact hz, its ++ [v], n + 1, ri.append (.cons r .nil), ?_⟩)
  rw [ho']
  simp

/-- a clause's tests -/
def PTs (X : Cx) (ifs : List Expr) (t : TT) : Prop :=
  ∀ (pins : List (Addr × Obj)) (s : Shared) (σ : St) (H : Hp) (Q : Bool → Hp → Prop), Inv X pins σ H s → t σ H Q →
    wpAny (model X.prog X.w) X.A (forIn ifs true fun c r => if r = true then do let ok ← isTrue c X.env (eval c X.env); pure (ForInStep.yield ok) else pure (ForInStep.yield r)) (TP X pins σ Q) X.xe s
def tYes : TT := fun _ H Q => Q true H
theorem pts_nil : PTs X [] tYes := fun _ _ _ H _ I h => wpAny_tests_nil ⟨H, I, h⟩
theorem pts_one {c : Expr} {t : TT} (h : PT X c t) : PTs X [c] t := fun pins s σ H Q I hw => wpAny_tests_one (h pins s σ H Q I hw)
end

theorem thnF {α : Type} {t : Sem α} {Q Q' : α → Shared → Prop} {M : Model} {A : Around} {E : Value → Shared → Prop} {s : Shared} (h : wpAny M A t Q (fun _ _ => False) s) (hQ : ∀ a s, Q a s → Q' a s) : wpAny M A t Q' E s := wpAny_mono h hQ fun _ _ z => False.elim z

/-- the loop of a list comprehension's block, the target of any form (codeAny_compLoop_tests asks a target that no tuple goes to; statement and proof follow it, PyProof/CompMap.lean:41-61, with the step letOwnedTupleGo kept) -/
theorem compLoop_any {prog : Program} {w : World} {A : Around} {R : Result → Shared → Prop} {s : Shared} {elt target iter : Expr} {ifs : List Expr} {scope : Scope} {pos : Pos} {it acc : Value} {env : Env} (I : Nat → Shared → Prop)
    (turn : ∀ n s, I n s → wpAny (model prog w) A (pyNext it) (fun r s₁ => match r with
      | none => R (.ok .next) s₁
      | some v => wpAny (model prog w) A (letOwnedTupleGo target it v) (fun _ s₁' => wpAny (model prog w) A (assign target env v) (fun _ s₂ =>
          wpAny (model prog w) A (forIn ifs true fun c r => if r = true then do let ok ← isTrue c env (eval c env); pure (ForInStep.yield ok) else pure (ForInStep.yield r)) (fun ok s₃ =>
            if ok = true then wpAny (model prog w) A (eval elt env) (fun x s₄ =>
              wpAny (model prog w) A (call (.builtin "list.append") [acc, x]) (fun _ s₅ => ∃ m, m < n ∧ I m s₅) (notedBy (model prog w) A env fun e s' => R (.error e) s') s₄) (notedBy (model prog w) A env fun e s' => R (.error e) s') s₃
            else ∃ m, m < n ∧ I m s₃) (notedBy (model prog w) A env fun e s' => R (.error e) s') s₂) (notedBy (model prog w) A env fun e s' => R (.error e) s') s₁') (notedBy (model prog w) A env fun e s' => R (.error e) s') s₁) (notedBy (model prog w) A env fun e s' => R (.error e) s') s)
    (n : Nat) (h : I n s) :
    codeAny (model prog w) A (.compLoop (.ListComp elt [⟨target, iter, ifs, 0⟩] scope pos) 0 it acc env) R s := by
  refine codeAny_loop rfl I (fun n s hI => ?_) n h
  show wpAny _ A ((compTurn (.ListComp elt [⟨target, iter, ifs, 0⟩] scope pos) 0 it acc env).onRaise (fun x => do noteFrame x env; theTreesLotGoes x)) _ _ s
  refine wpAny_noted ?_
  rw [compTurn_list]
  refine wpAny_bind (wpAny_standAt (wpAny_bind (wpAny_mono (turn n s hI) (fun r s₁ h₁ => ?_) fun _ _ h' => h')))
  cases r with
  | none => exact wpAny_pure h₁
  | some v =>
    refine wpAny_bind (wpAny_mono h₁ (fun _ s₁' h₁' => ?_) fun _ _ h' => h')
    refine wpAny_bind (wpAny_mono h₁' (fun _ s₂ h₂ => wpAny_bind (wpAny_mono h₂ (fun ok s₃ h₃ => ?_) fun _ _ h' => h')) fun _ _ h' => h')
    cases ok with
    | false => exact wpAny_pure ⟨rfl, h₃⟩
    | true =>
      exact wpAny_bind (wpAny_bind (wpAny_mono h₃ (fun x s₄ h₄ => wpAny_bind (wpAny_mono h₄ (fun _ s₅ h₅ => wpAny_pure (wpAny_pure ⟨rfl, h₅⟩)) fun _ _ h' => h')) fun _ _ h' => h'))

section
variable {X : Cx}
/-- [elt for target in iter if ..]: D the new list; W by the turn and a measure, Nx what a turn is to reach -/
def tLc (wi : TI) (g : TG) (tt : TT) (te : TE) (vs : List Nat) : TE := fun σ H Q => wi σ H fun J H1 => ∀ D, H1 D = none → ∃ W : Nat → Nat → Hp → Prop, (∃ m, W 0 m (upd H1 D (.lst []))) ∧ ∀ i m H, W i m H →
  (J.stop i H ∧ Q (.ref D) H) ∨ (J.go i H ∧ ∃ Nx : Hp → Prop, (∀ H', Nx H' → ∃ m', m' < m ∧ W (i + 1) m' H') ∧ ∀ x H', J.yld i H x H' → g x (wipe σ vs) H' fun σ2 H2 => wipe σ2 vs = wipe σ vs ∧ tt σ2 H2 fun b H3 =>
    if b = true then te σ2 H3 fun y H4 => ∃ acc, H4 D = some (.lst acc) ∧ acc.length < sizeLine ∧ Nx (upd H4 D (.lst (acc ++ [y]))) else Nx H3)
theorem lc_core {pins : List (Addr × Obj)} {s : Shared} {σ : St} {H : Hp} {Q : VK} {elt tg iter : Expr} {ifs : List Expr} {scope : Scope} {own : List (Str × Nat)} {pos pos' : Pos} {wi : TI} {g : TG} {tt : TT} {te : TE} {use : Option (Value → Sem Unit)} {Qf : Value → Shared → Prop}
    (hc : X.calm = true) (hN : X.N.Nodup) (I : Inv X pins σ H s) (hi : PI X tg iter wi) (ok : BlkOk X.N X.env.scope scope own)
    (hg : ∀ (s : Shared) (H : Hp) (C : Addr) (cl : List (Str × Addr)) (fp : List Addr), PG (X.blk s H scope (compEnvC scope cl C X.env) fp) tg g) (ht : ∀ (s : Shared) (H : Hp) (C : Addr) (cl : List (Str × Addr)) (fp : List Addr), PTs (X.blk s H scope (compEnvC scope cl C X.env) fp) ifs tt)
    (he : ∀ (s : Shared) (H : Hp) (C : Addr) (cl : List (Str × Addr)) (fp : List Addr), PE (X.blk s H scope (compEnvC scope cl C X.env) fp) elt te) (hs : ∀ x, foldedSetIterable iter X.env x = pure x)
    (h : tLc wi g tt te (own.map (·.2)) σ H Q)
    (hRR : ∀ D C s' m H', Inv X pins σ H' s' → Q (.ref D) H' → s'.heap.Ns C m → FpOk X pins H' C → compPost (model X.prog X.w) X.A X.xe use Qf (.ref D) C (.ok .next) s') :
    wpAny (model X.prog X.w) X.A (comprehension (.ListComp elt [⟨tg, iter, ifs, 0⟩] scope pos) scope X.env pos' (newList []) false (eval iter X.env) use) Qf X.xe s := by
  have hfree : ∀ y ∈ scope.names, y.2 = .free → ∃ c, X.env.cells.lookup y.1 = some c := fun y hy e => by
    rcases ok.free y hy e with k | k
    · exact I.ok.has _ (.inl k)
    · exact I.ok.has _ (.inr k)
  refine wpAny_comprehension_free (use := use) rfl hs (closure_ok hfree) ok.kind (fun y hy e => by rw [ok.uniq y hy, e])
    (thn (hi pins s σ H _ I h) fun xv s1 hx => thn hx fun itv s2 h2 => ?_)
  obtain ⟨it, fp, tn, J, H2, e, I2, T, st2, f2, q⟩ := h2
  subst e
  refine wpAny_newObj_type (newEnv_comp ?_) (by show 0 ≤ sizeLine; decide)
  generalize hD : s2.heap.objs.size = D
  have hDn : H2 D = none := I2.hok.fresh (Nat.le_of_eq hD)
  obtain ⟨W, ⟨m0, w0⟩, turn⟩ := q D hDn
  -- the new list
  generalize hs3 : ({ s2 with heap := s2.heap.push { cls := .type "list", data := .seq ([] : List Value).toArray } } : Shared) = s3
  have I3 : Inv X pins σ (upd H2 D (.lst [])) s3 := by
    rw [← hs3]
    refine I2.laid (t' := s2.toks) (fun b o e => Heap.get?_push_of_some _ e) (Nat.le_of_eq hD) ⟨Nat.zero_le _, [], 0, .nil, ?_⟩
    rw [← hD]
    exact Heap.get?_push_size _ rfl
  have h3 : s3.heap = s2.heap.push { cls := .type "list", data := .seq ([] : List Value).toArray } := by rw [← hs3]
  have sz : ∀ b ∈ fp, b < s2.heap.objs.size := fun b hb => by
    obtain ⟨o, e, _⟩ := T.obj _ _ st2 b hb
    exact Heap.lt_size e
  have f3 : ∀ b ∈ fp, FpOk X pins (upd H2 D (.lst [])) b ∧ b < s3.heap.objs.size := fun b hb => by
    have hlt := sz b hb
    refine ⟨⟨?_, (f2 b hb).2⟩, by rw [h3, Heap.size_push]; exact Nat.lt_succ_of_lt hlt⟩
    rw [upd_ne (by rw [← hD]; exact Nat.ne_of_lt hlt)]
    exact (f2 b hb).1
  have st3 : tn 0 s3.heap := T.keep _ _ _ st2 fun b _ o e => by rw [h3]; exact Heap.get?_push_of_some _ e
  have I4 := block_start I3 ok hN f3
  have pg := hg s3 (upd H2 D (.lst [])) s3.heap.objs.size (cellsFrom (s3.heap.objs.size + 1) scope.names (cloFrom X.env.cells scope.names [])) fp
  have pt := ht s3 (upd H2 D (.lst [])) s3.heap.objs.size (cellsFrom (s3.heap.objs.size + 1) scope.names (cloFrom X.env.cells scope.names [])) fp
  have pe := he s3 (upd H2 D (.lst [])) s3.heap.objs.size (cellsFrom (s3.heap.objs.size + 1) scope.names (cloFrom X.env.cells scope.names [])) fp
  show codeAny _ _ (.compStart (.ListComp elt [⟨tg, iter, ifs, 0⟩] scope pos) 0 (.ref it) (.ref D) (compEnvC scope (cellsFrom (s3.heap.objs.size + 1) scope.names (cloFrom X.env.cells scope.names [])) s3.heap.objs.size X.env)) (compPost (model X.prog X.w) X.A X.xe use Qf (.ref D) s3.heap.objs.size) { s3 with heap := pushCells (s3.heap.push { cls := .type "dict", data := .dict #[] }) scope.names }
  have nfp : ∀ b ∈ fp, (upd H2 D (.lst [])) b = none := fun b hb => (f3 b hb).1.1
  generalize hce : compEnvC scope (cellsFrom (s3.heap.objs.size + 1) scope.names (cloFrom X.env.cells scope.names [])) s3.heap.objs.size X.env = ce at I4 pg pt pe ⊢
  have cL : ce.locals = s3.heap.objs.size := by subst hce; rfl
  generalize hH3 : upd H2 D (.lst []) = H3 at I3 I4 pg pt pe w0 nfp f3
  generalize hs4 : ({ s3 with heap := pushCells (s3.heap.push { cls := .type "dict", data := .dict #[] }) scope.names } : Shared) = s4 at I4 ⊢
  have st4 : tn 0 s4.heap := T.keep _ _ _ st3 fun b _ o e => by rw [← hs4]; exact pushCells_keeps _ _ _ _ (Heap.get?_push_of_some _ e)
  have stat : ∀ {σ' : St} {H' : Hp} {s' : Shared}, Inv (X.blk s3 H3 scope ce fp) [] σ' H' s' → (∀ b ∈ fp, H' b = none) → ∀ b ∈ fp, FpOk (X.blk s3 H3 scope ce fp) [] H' b := fun {σ' H' s'} I' hn b hb =>
    ⟨hn b hb, (I'.ok.exf b hb).1, I'.ok.exfs b hb, .inl hb, fun x c e => (I'.ok.exf b hb).2 x c e, fun p hp => absurd (show p ∈ ([] : List (Addr × Obj)) ++ [] from hp) (by simp)⟩
  have loop : codeAny (model X.prog X.w) X.A (.compLoop (.ListComp elt [⟨tg, iter, ifs, 0⟩] scope pos) 0 (.ref it) (.ref D) ce) (compPost (model X.prog X.w) X.A X.xe use Qf (.ref D) s3.heap.objs.size) s4 := by
    refine compLoop_any (fun n s' => ∃ i H', Inv (X.blk s3 H3 scope ce fp) [] (wipe σ (own.map (·.2))) H' s' ∧ tn i s'.heap ∧ (∀ b ∈ fp, H' b = none) ∧ W i n H') ?_ m0 ⟨0, H3, I4, st4, nfp, w0⟩
    rintro n s5 ⟨i, H5, I5, st5, n5, w5⟩
    rcases turn i n H5 w5 with ⟨stop, qq⟩ | ⟨go, Nx, hNx, step⟩
    · have td := T.done (X.blk s3 H3 scope ce fp) rfl rfl rfl hc i [] s5 _ H5 (fun _ _ => False) I5 (stat I5 n5) st5 stop
      refine thnF td fun r s6 ⟨hr, I6⟩ => ?_
      subst hr
      -- back in the def's context
      have I7 : Inv X pins σ H5 s6 := I3.call' (ch := fp) I6.os I6.base I6.hok I6.bare fun b hb => ⟨(f3 b hb).1.2.2.2.1, (f3 b hb).1.2.1, (f3 b hb).1.2.2.2.2.1, (f3 b hb).1.2.2.2.2.2⟩
      have nC : H5 s3.heap.objs.size = none := by
        have z : H5 ce.locals = none := I6.free
        rw [cL] at z
        exact z
      obtain ⟨m, hn, _⟩ := I6.loc
      have hn : s6.heap.Ns ce.locals m := hn
      rw [cL] at hn
      exact hRR D s3.heap.objs.size s6 m H5 I7 qq hn (I3.fpOk (Nat.le_refl _) nC)
    · have ti := T.item (X.blk s3 H3 scope ce fp) rfl rfl rfl hc i [] s5 _ H5 (fun _ _ => False) I5 (stat I5 n5) st5 go
      refine thnF ti fun r s6 ⟨u, hr, h6⟩ => ?_
      subst hr
      refine thnF h6 fun _ s7 ⟨x, H7, I7, r7, y7, st7, n7⟩ => ?_
      have I7' := I7.pinned (stat I7 n7) (T.obj _ _ st7)
      refine thnF (pg _ s7 _ H7 x u _ I7' r7 (step x H7 y7)) fun _ s8 ⟨σ8, H8, I8, hw8, q8⟩ => ?_
      refine thnF (pt _ s8 σ8 H8 _ I8 q8) fun b s9 ⟨H9, I9, q9⟩ => ?_
      -- the turn's end
      have fin : ∀ {s' : Shared} {H' : Hp}, Inv (X.blk s3 H3 scope ce fp) ([] ++ pinsAt fp s7.heap) σ8 H' s' → Nx H' → ∃ m, m < n ∧ ∃ i H', Inv (X.blk s3 H3 scope ce fp) [] (wipe σ (own.map (·.2))) H' s' ∧ tn i s'.heap ∧ (∀ b ∈ fp, H' b = none) ∧ W i m H' := fun {s' H'} I' nx => by
        obtain ⟨m', hm, w'⟩ := hNx H' nx
        have pin' : ∀ b ∈ fp, ∀ o, s7.heap.get? b = some o → s'.heap.get? b = some o ∧ H' b = none := fun b hb o e =>
          let z := I'.pin (b, o) (List.mem_append_right _ (List.mem_append_right _ (mem_pinsAt hb e)))
          ⟨z.1, z.2.1⟩
        have hl : (wipe σ (own.map (·.2))).length = σ8.length := by rw [← hw8, wipe_length]
        refine ⟨m', hm, i + 1, H', (I'.unpinned (pins := [])).weak hl (fun j v e => ?_), T.keep _ _ _ st7 fun b hb o e => (pin' b hb o e).1, fun b hb => ?_, w'⟩
        · rw [← hw8] at e
          exact (wipe_some e).1
        · obtain ⟨o, e, _⟩ := T.obj _ _ st7 b hb
          exact (pin' b hb o e).2
      cases b with
      | false =>
        simp only [Bool.false_eq_true, if_false] at q9 ⊢
        exact fin I9 q9
      | true =>
        simp only [if_true] at q9 ⊢
        refine thnF (pe _ s9 σ8 H9 _ I9 q9) fun z s10 ⟨yv, H10, I10, r10, acc, hD10, hz10, nx⟩ => ?_
        exact app_ok (X := X.blk s3 H3 scope ce fp) I10 hD10 hz10 r10 fun s11 I11 => fin I11 nx
  exact codeAny_compStart_list loop (T.self X.A 0 _ _ _ st4 loop)
/-- as a value -/
theorem pe_lc {elt tg iter : Expr} {ifs : List Expr} {scope : Scope} {own : List (Str × Nat)} {pos : Pos} {wi : TI} {g : TG} {tt : TT} {te : TE} (hc : X.calm = true) (hN : X.N.Nodup) (hi : PI X tg iter wi) (ok : BlkOk X.N X.env.scope scope own)
    (hg : ∀ (s : Shared) (H : Hp) (C : Addr) (cl : List (Str × Addr)) (fp : List Addr), PG (X.blk s H scope (compEnvC scope cl C X.env) fp) tg g) (ht : ∀ (s : Shared) (H : Hp) (C : Addr) (cl : List (Str × Addr)) (fp : List Addr), PTs (X.blk s H scope (compEnvC scope cl C X.env) fp) ifs tt)
    (he : ∀ (s : Shared) (H : Hp) (C : Addr) (cl : List (Str × Addr)) (fp : List Addr), PE (X.blk s H scope (compEnvC scope cl C X.env) fp) elt te) (hs : ∀ x, foldedSetIterable iter X.env x = pure x := by intro _; rfl) :
    PE X (.ListComp elt [⟨tg, iter, ifs, 0⟩] scope pos) (tLc wi g tt te (own.map (·.2))) := by
  intro pins s σ H Q I h
  rw [eval_ListComp]
  refine lc_core hc hN I hi ok hg ht he hs h fun D C s' m H' I' q hn f => ⟨m, hn, fun h'' sb => ?_⟩
  obtain ⟨f0, f1, f2, f3, f4, f5⟩ := f
  exact ⟨.ref D, H', I'.turned (t' := s'.toks) (fun b o hb e => (sb.2 b hb).trans e) f0 f1 f3 f4 f5, rfl, q⟩
/-- name = [..] on one line, the name a local -/
theorem ps_setLc {i : Nat} {y : Str} {py : Pos} {elt tg iter : Expr} {ifs : List Expr} {scope : Scope} {own : List (Str × Nat)} {pos spos : Pos} {wi : TI} {g : TG} {tt : TT} {te : TE} (hc : X.calm = true) (hN : X.N.Nodup) (hy : X.N[i]? = some y) (hyl : X.env.scope.names.lookup y = some .local)
    (hsw : swapsWith (.ListComp elt [⟨tg, iter, ifs, 0⟩] scope pos) (some (.Name y py)) spos.line X.env = pure true) (hi : PI X tg iter wi) (ok : BlkOk X.N X.env.scope scope own)
    (hg : ∀ (s : Shared) (H : Hp) (C : Addr) (cl : List (Str × Addr)) (fp : List Addr), PG (X.blk s H scope (compEnvC scope cl C X.env) fp) tg g) (ht : ∀ (s : Shared) (H : Hp) (C : Addr) (cl : List (Str × Addr)) (fp : List Addr), PTs (X.blk s H scope (compEnvC scope cl C X.env) fp) ifs tt)
    (he : ∀ (s : Shared) (H : Hp) (C : Addr) (cl : List (Str × Addr)) (fp : List Addr), PE (X.blk s H scope (compEnvC scope cl C X.env) fp) elt te) (hs : ∀ x, foldedSetIterable iter X.env x = pure x := by intro _; rfl) :
    PS X (.Assign [.Name y py] (.ListComp elt [⟨tg, iter, ifs, 0⟩] scope pos) spos) (tAsg (tLc wi g tt te (own.map (·.2))) (gName i)) := by
  intro pins s σ H D I h
  rw [exec_Assign_Name_used _ _ _ _ hsw]
  refine wpAny_bind (wpAny_standAt (wpAny_bind ?_))
  show wpAny _ X.A (do let _ ← comprehension (.ListComp elt [⟨tg, iter, ifs, 0⟩] scope pos) scope X.env (firstIterPos [⟨tg, iter, ifs, 0⟩] pos) (newList []) false (eval iter X.env) (some (assign (.Name y py) X.env))) _ _ s
  have h : tLc wi g tt te (own.map (·.2)) σ H (fun x H1 => gName i x σ H1 D.nx) := h
  refine wpAny_bind (thn (lc_core (Qf := fun _ s' => SP X pins D .next s') hc hN I hi ok hg ht he hs h fun L C s' m H' I' q hn f => ?_) fun _ s' hq => wpAny_pure (wpAny_pure hq))
  show wpAny _ _ (assign (.Name y py) X.env (.ref L)) _ _ _
  refine wpAny_assign_Name (store_ok2 (v := V.ref L) I' hN hy (.inl hyl) rfl (fun s2 I2 ⟨a, sb, ha⟩ => ?_) (.inr hyl))
  obtain ⟨f0, f1, f2, f3, f4, f5⟩ := f
  have haC : C ≠ a := by
    rcases ha with z | z
    · rw [z]; exact f1
    · exact fun e => f4 y a z e.symm
  refine ⟨m, hn.sameBut sb haC, fun h3 sb3 => ?_⟩
  exact ⟨_, H', I2.turned (t' := s2.toks) (fun b o hb e => (sb3.2 b hb).trans e) f0 f1 f3 f4 f5, q⟩
theorem sw_true {elt : Expr} {gs : List Comprehension} {scope : Scope} {pos py : Pos} {y : Str} {l : Nat} {env : Env} (hk : env.scope.kind = .function) (hy : env.scope.names.lookup y = some .local) (hl : (py.line == pos.line) = true)
    (ha : (scope.names.any fun (n, k) => n == y && (k == .local || k == .cell)) = false) : swapsWith (.ListComp elt gs scope pos) (some (.Name y py)) l env = pure true := by
  have ky : env.kindOf y = some .local := hy
  have hb : env.blockKind = .function := by unfold Env.blockKind; rw [hk]; rfl
  unfold swapsWith
  simp only [hb, ky, ha, Expr.pos, hl]
  rfl
end

/-- over a range: Pv by the turn and the heap (the new list at D within) -/
theorem lc_range {lo : Int} {n : Nat} {g : TG} {tt : TT} {te : TE} {vs : List Nat} {σ : St} {H1 : Hp} {D : Addr} {Qd : Hp → Prop} (Pv : Nat → Hp → Prop) (h0 : Pv 0 (upd H1 D (.lst [])))
    (hs : ∀ i H, i < n → Pv i H → g (.int (lo + i)) (wipe σ vs) H fun σ2 H2 => wipe σ2 vs = wipe σ vs ∧ tt σ2 H2 fun b H3 =>
      if b = true then te σ2 H3 fun y H4 => ∃ acc, H4 D = some (.lst acc) ∧ acc.length < sizeLine ∧ Pv (i + 1) (upd H4 D (.lst (acc ++ [y]))) else Pv (i + 1) H3) (hd : ∀ H, Pv n H → Qd H) :
    ∃ W : Nat → Nat → Hp → Prop, (∃ m, W 0 m (upd H1 D (.lst []))) ∧ ∀ i m H, W i m H →
      ((Itr lo n).stop i H ∧ Qd H) ∨ ((Itr lo n).go i H ∧ ∃ Nx : Hp → Prop, (∀ H', Nx H' → ∃ m', m' < m ∧ W (i + 1) m' H') ∧ ∀ x H', (Itr lo n).yld i H x H' → g x (wipe σ vs) H' fun σ2 H2 => wipe σ2 vs = wipe σ vs ∧ tt σ2 H2 fun b H3 =>
        if b = true then te σ2 H3 fun y H4 => ∃ acc, H4 D = some (.lst acc) ∧ acc.length < sizeLine ∧ Nx (upd H4 D (.lst (acc ++ [y]))) else Nx H3) := by
  refine ⟨fun i m H => m = n - i ∧ i ≤ n ∧ Pv i H, ⟨n, by simp, Nat.zero_le _, h0⟩, ?_⟩
  rintro i m H ⟨rfl, hi, p⟩
  by_cases hlt : i < n
  · refine .inr ⟨hlt, Pv (i + 1), fun H' p' => ⟨n - (i + 1), by omega, rfl, hlt, p'⟩, fun x H' y => ?_⟩
    obtain ⟨e, y⟩ := y
    subst e y
    exact hs i _ hlt p
  · have e : i = n := by omega
    subst e
    exact .inl ⟨Nat.le_refl _, hd H p⟩
/-- over a tuple -/
theorem lc_tup {K : PySem.W.Frag} {a : Addr} {xs : List V} {g : TG} {tt : TT} {te : TE} {vs : List Nat} {σ : St} {H1 : Hp} {D : Addr} {Qd : Hp → Prop} (Pv : Nat → Hp → Prop) (h0 : Pv 0 (upd H1 D (.lst []))) (hl : ∀ i H, i ≤ xs.length → Pv i H → SqT K H a xs)
    (hs : ∀ i x H, xs[i]? = some x → Pv i H → g x (wipe σ vs) H fun σ2 H2 => wipe σ2 vs = wipe σ vs ∧ tt σ2 H2 fun b H3 =>
      if b = true then te σ2 H3 fun y H4 => ∃ acc, H4 D = some (.lst acc) ∧ acc.length < sizeLine ∧ Pv (i + 1) (upd H4 D (.lst (acc ++ [y]))) else Pv (i + 1) H3) (hd : ∀ H, Pv xs.length H → Qd H) :
    ∃ W : Nat → Nat → Hp → Prop, (∃ m, W 0 m (upd H1 D (.lst []))) ∧ ∀ i m H, W i m H →
      ((Itt K a).stop i H ∧ Qd H) ∨ ((Itt K a).go i H ∧ ∃ Nx : Hp → Prop, (∀ H', Nx H' → ∃ m', m' < m ∧ W (i + 1) m' H') ∧ ∀ x H', (Itt K a).yld i H x H' → g x (wipe σ vs) H' fun σ2 H2 => wipe σ2 vs = wipe σ vs ∧ tt σ2 H2 fun b H3 =>
        if b = true then te σ2 H3 fun y H4 => ∃ acc, H4 D = some (.lst acc) ∧ acc.length < sizeLine ∧ Nx (upd H4 D (.lst (acc ++ [y]))) else Nx H3) := by
  refine ⟨fun i m H => m = xs.length - i ∧ i ≤ xs.length ∧ Pv i H, ⟨xs.length, by simp, Nat.zero_le _, h0⟩, ?_⟩
  rintro i m H ⟨rfl, hi, p⟩
  have q := hl i H hi p
  by_cases hlt : i < xs.length
  · refine .inr ⟨⟨xs, xs[i], q, by simp [hlt]⟩, Pv (i + 1), fun H' p' => ⟨xs.length - (i + 1), by omega, rfl, hlt, p'⟩, fun x H' y => ?_⟩
    obtain ⟨e, y⟩ := y
    subst e
    exact hs i x _ (y xs q) p
  · have e : i = xs.length := by omega
    subst e
    exact .inl ⟨⟨xs, q, Nat.le_refl _⟩, hd H p⟩
def blkC (N : List Str) (sc scope : Scope) (own : List (Str × Nat)) : Bool :=
  (match scope.kind with | .function => true | _ => false) && (scope.names.all fun y => decide (scope.names.lookup y.1 = some y.2)) && (own.all fun p => decide (N[p.2]? = some p.1)) &&
    (scope.names.all fun y => match y.2 with
      | .free => (match sc.names.lookup y.1 with | some .cell => true | some .free => true | _ => false)
      | .local => decide (y.1 ∈ own.map (·.1)) || decide (y.1 ∉ N)
      | .cell => decide (y.1 ∈ own.map (·.1)) || decide (y.1 ∉ N)
      | _ => true)
theorem blkOk_by {N : List Str} {sc scope : Scope} {own : List (Str × Nat)} (h : blkC N sc scope own = true) : BlkOk N sc scope own := by
  unfold blkC at h
  simp only [Bool.and_eq_true, List.all_eq_true, decide_eq_true_eq] at h
  obtain ⟨⟨⟨h1, h2⟩, h3⟩, h4⟩ := h
  refine ⟨?_, h2, h3, fun y hy e => ?_, fun y hy e => ?_⟩
  · split at h1
    · assumption
    · cases h1
  · have q := h4 y hy
    simp only [e] at q
    split at q <;> first | exact .inl (by assumption) | exact .inr (by assumption) | cases q
  · have q := h4 y hy
    rcases e with e | e <;> (simp only [e, Bool.or_eq_true, decide_eq_true_eq] at q; exact q)
end L2

namespace L2
open PySem PySem.Spec PyProof.Rows


end L2

namespace L2
open PySem PySem.Spec PyProof.Rows

section
variable {κ : Type} [DecidableEq κ]
def valV (kvs : List (κ × V)) (k : κ) : Option V := (kvs.find? fun kv => decide (kv.1 = k)).map (·.2)
/-- in its place, or at the end -/
def putK (kvs : List (κ × V)) (k : κ) (v : V) : List (κ × V) :=
  if (kvs.any fun kv => decide (kv.1 = k)) = true then kvs.map (fun kv => if kv.1 = k then (kv.1, v) else kv) else kvs ++ [(k, v)]
def dropK (kvs : List (κ × V)) (k : κ) : List (κ × V) := kvs.filter fun kv => decide (kv.1 ≠ k)

theorem valV_pos {p : κ × V} {r : List (κ × V)} {k : κ} (e : p.1 = k) : valV (p :: r) k = some p.2 := by simp [valV, List.find?_cons, e]
theorem valV_neg {p : κ × V} {r : List (κ × V)} {k : κ} (e : ¬ p.1 = k) : valV (p :: r) k = valV r k := by simp [valV, List.find?_cons, e]
theorem valV_any (k : κ) : ∀ kvs : List (κ × V), (kvs.any fun kv => decide (kv.1 = k)) = (valV kvs k).isSome
  | [] => rfl
  | p :: r => by
    rw [List.any_cons]
    by_cases e : p.1 = k
    · simp only [valV_pos e, decide_eq_true e, Bool.true_or, Option.isSome_some]
    · rw [valV_neg e, decide_eq_false e, Bool.false_or]; exact valV_any k r
theorem valV_map (k j : κ) (y : V) : ∀ kvs : List (κ × V), valV (kvs.map fun kv => if kv.1 = k then (kv.1, y) else kv) j = (valV kvs j).map fun x => if j = k then y else x
  | [] => rfl
  | p :: r => by
    have ih := valV_map k j y r
    rw [List.map_cons]
    by_cases h : p.1 = k
    · rw [if_pos h]
      by_cases e : p.1 = j
      · rw [valV_pos (p := (p.1, y)) e, valV_pos e, Option.map_some, if_pos (e.symm.trans h)]
      · rw [valV_neg (p := (p.1, y)) e, valV_neg e, ih]
    · rw [if_neg h]
      by_cases e : p.1 = j
      · rw [valV_pos (p := p) e, valV_pos e, Option.map_some, if_neg (fun z => h (e.trans z))]
      · rw [valV_neg (p := p) e, valV_neg e, ih]
theorem valV_snoc (k j : κ) (y : V) : ∀ kvs : List (κ × V), valV kvs k = none → valV (kvs ++ [(k, y)]) j = if j = k then some y else valV kvs j
  | [], _ => by
    by_cases e : k = j
    · rw [if_pos e.symm]; exact valV_pos (p := (k, y)) e
    · rw [if_neg (fun z => e z.symm)]; exact valV_neg (p := (k, y)) e
  | p :: r, hn => by
    rw [List.cons_append]
    have hk : ¬ p.1 = k := fun z => by rw [valV_pos z] at hn; cases hn
    rw [valV_neg hk] at hn
    have ih := valV_snoc k j y r hn
    by_cases e : p.1 = j
    · rw [valV_pos e, valV_pos e, if_neg (fun z => hk (e.trans z))]
    · rw [valV_neg e, valV_neg e, ih]
theorem valV_put (kvs : List (κ × V)) (k j : κ) (y : V) : valV (putK kvs k y) j = if j = k then some y else valV kvs j := by
  unfold putK
  by_cases a : (kvs.any fun kv => decide (kv.1 = k)) = true
  · rw [if_pos a, valV_map]
    rw [valV_any] at a
    by_cases e : j = k
    · obtain ⟨x, hx⟩ := Option.isSome_iff_exists.mp a
      rw [if_pos e, e, hx, Option.map_some, if_pos rfl]
    · rw [if_neg e]
      cases valV kvs j with
      | none => rfl
      | some x => rw [Option.map_some, if_neg e]
  · rw [if_neg a]
    refine valV_snoc k j y kvs ?_
    rw [valV_any] at a
    cases q : valV kvs k with
    | none => rfl
    | some x => rw [q] at a; exact (a rfl).elim
theorem length_putK (kvs : List (κ × V)) (k : κ) (v : V) : (putK kvs k v).length ≤ kvs.length + 1 := by
  unfold putK
  split
  · rw [List.length_map]; omega
  · rw [List.length_append, List.length_cons, List.length_nil]; omega
theorem putK_new {kvs : List (κ × V)} {k : κ} (v : V) (h : valV kvs k = none) : putK kvs k v = kvs ++ [(k, v)] := by
  unfold putK
  rw [valV_any, h]
  exact if_neg (by decide)

theorem RelO.isSome_eq {o : Option V} {u : Option Value} (r : RelO o u) : o.isSome = u.isSome := by
  cases o with
  | none => cases u with
    | none => rfl
    | some _ => exact (show False from r).elim
  | some _ => cases u with
    | none => exact (show False from r).elim
    | some _ => rfl
theorem RelO.getD {o : Option V} {u : Option Value} {d : V} {d' : Value} (r : RelO o u) (rd : RelV d d') : RelV (o.getD d) (u.getD d') := by
  cases o with
  | none => cases u with
    | none => exact rd
    | some _ => exact (show False from r).elim
  | some _ => cases u with
    | none => exact (show False from r).elim
    | some _ => exact r

/-- raw tables of the same keys -/
theorem KV.val {kvs : List (κ × V)} {vs : List (κ × Value)} (r : KV kvs vs) (k : κ) : RelO (valV kvs k) (valueAt vs k) := by
  unfold KV at r
  induction r with
  | nil => exact True.intro
  | @cons p q ps qs h t ih =>
    obtain ⟨h1, h2⟩ := h
    by_cases e : p.1 = k
    · have e' : q.1 = k := h1.symm.trans e
      have b : valueAt (q :: qs) k = some q.2 := by simp [valueAt, List.find?_cons, e']
      rw [valV_pos e, b]; exact h2
    · have e' : ¬ q.1 = k := fun z => e (h1.trans z)
      have b : valueAt (q :: qs) k = valueAt qs k := by simp [valueAt, List.find?_cons, e']
      rw [valV_neg e, b]; exact ih
theorem KV.any {kvs : List (κ × V)} {vs : List (κ × Value)} (r : KV kvs vs) (k : κ) : (kvs.any fun kv => decide (kv.1 = k)) = vs.any fun kv => decide (kv.1 = k) := by
  unfold KV at r
  induction r with
  | nil => rfl
  | cons h t ih => rw [List.any_cons, List.any_cons, ih, h.1]
theorem KV.repl {kvs : List (κ × V)} {vs : List (κ × Value)} (r : KV kvs vs) (k : κ) {y : V} {u : Value} (ry : RelV y u) :
    KV (kvs.map fun kv => if kv.1 = k then (kv.1, y) else kv) (vs.map fun kv => if kv.1 = k then (kv.1, u) else kv) := by
  unfold KV at r ⊢
  induction r with
  | nil => exact .nil
  | @cons p q ps qs h t ih =>
    rw [List.map_cons, List.map_cons]
    refine .cons ?_ ih
    obtain ⟨h1, h2⟩ := h
    by_cases e : p.1 = k
    · rw [if_pos e, if_pos (h1.symm.trans e)]; exact ⟨h1, ry⟩
    · rw [if_neg e, if_neg (fun z => e (h1.trans z))]; exact ⟨h1, h2⟩
theorem KV.put {kvs : List (κ × V)} {vs : List (κ × Value)} (r : KV kvs vs) (k : κ) {y : V} {u : Value} (ry : RelV y u) : KV (putK kvs k y) (stored vs k u) := by
  unfold putK stored
  rw [r.any k]
  by_cases e : (vs.any fun kv => decide (kv.1 = k)) = true
  · rw [if_pos e, if_pos e]; exact r.repl k ry
  · rw [if_neg e, if_neg e]; exact Paired.snoc r ⟨rfl, ry⟩
theorem KV.drop {kvs : List (κ × V)} {vs : List (κ × Value)} (r : KV kvs vs) (k : κ) : KV (dropK kvs k) (without vs k) := by
  unfold KV at r ⊢
  unfold dropK without
  induction r with
  | nil => exact .nil
  | @cons p q ps qs h t ih =>
    obtain ⟨h1, h2⟩ := h
    rw [List.filter_cons, List.filter_cons]
    by_cases e : p.1 = k
    · have a : ¬ decide (p.1 ≠ k) = true := by simp [e]
      have b : ¬ decide (q.1 ≠ k) = true := by simp [h1.symm.trans e]
      rw [if_neg a, if_neg b]; exact ih
    · have e' : ¬ q.1 = k := fun z => e (h1.trans z)
      have a : decide (p.1 ≠ k) = true := by simp [e]
      have b : decide (q.1 ≠ k) = true := by simp [e']
      rw [if_pos a, if_pos b]; exact .cons ⟨h1, h2⟩ ih
theorem KV.keys {kvs : List (κ × V)} {vs : List (κ × Value)} (r : KV kvs vs) : kvs.map (·.1) = vs.map (·.1) := by
  unfold KV at r
  induction r with
  | nil => rfl
  | cons h t ih => rw [List.map_cons, List.map_cons, ih, h.1]
theorem KV.length {kvs : List (κ × V)} {vs : List (κ × Value)} (r : KV kvs vs) : kvs.length = vs.length := Paired.length r
end


theorem kV_is {P : Program} {w : World} {k : Key} {u : Value} (r : RelV (kV k) u) : (mixKind P w).is k u = true := by
  cases k with
  | inl i => obtain ⟨t, e⟩ := (show ∃ t, u = Value.int i t from r); subst e; exact mixKind_int P w i t
  | inr x => obtain ⟨t, e⟩ := (show ∃ t, u = Value.str x t from r); subst e; exact mixKind_str P w x t
theorem items_are {P : Program} {w : World} : ∀ {ks : List Key} {us : List Value}, Vals (ks.map kV) us → ItemsAre (mixKind P w) ks us
  | [], _, r => by rw [List.map_nil] at r; cases r; exact .nil
  | k :: ks, _, r => by
    rw [List.map_cons] at r
    cases r with
    | cons h t => exact .cons (kV_is h) (items_are t)

/-- raw entries of a dict with tuple keys -/
abbrev KT (H : Hp) : List (List Key × V) → List (List Key × Addr × Value) → Prop := Paired fun p q => p.1 = q.1 ∧ H q.2.1 = some (.tup (p.1.map kV)) ∧ RelV p.2 q.2.2
theorem KT.val {H : Hp} {kvs : List (List Key × V)} {xs : List (List Key × Addr × Value)} (r : KT H kvs xs) (k : List Key) : RelO (valV kvs k) ((atKey xs k).map (·.2)) := by
  induction r with
  | nil => exact True.intro
  | @cons p q ps qs h t ih =>
    obtain ⟨h1, _, h2⟩ := h
    by_cases e : p.1 = k
    · have e' : q.1 = k := h1.symm.trans e
      have b : atKey (q :: qs) k = some q.2 := by simp [atKey, List.find?_cons, e']
      rw [valV_pos e, b]; exact h2
    · have e' : ¬ q.1 = k := fun z => e (h1.trans z)
      have b : atKey (q :: qs) k = atKey qs k := by simp [atKey, List.find?_cons, e']
      rw [valV_neg e, b]; exact ih
theorem KT.repl {H : Hp} {kvs : List (List Key × V)} {xs : List (List Key × Addr × Value)} (r : KT H kvs xs) (k : List Key) {y : V} {u : Value} (ry : RelV y u) :
    KT H (kvs.map fun kv => if kv.1 = k then (kv.1, y) else kv) (xs.map (putAt k u)) := by
  induction r with
  | nil => exact .nil
  | @cons p q ps qs h t ih =>
    rw [List.map_cons, List.map_cons]
    refine .cons ?_ ih
    obtain ⟨h1, h2, h3⟩ := h
    unfold putAt
    by_cases e : p.1 = k
    · rw [if_pos e, if_pos (h1.symm.trans e)]; exact ⟨h1, h2, ry⟩
    · rw [if_neg e, if_neg (fun z => e (h1.trans z))]; exact ⟨h1, h2, h3⟩
theorem KT.put {H : Hp} {kvs : List (List Key × V)} {xs : List (List Key × Addr × Value)} (r : KT H kvs xs) (k : List Key) {b : Addr} {y : V} {u : Value} (hb : H b = some (.tup (k.map kV))) (ry : RelV y u) :
    KT H (putK kvs k y) (storedH xs k b u) := by
  have e : (kvs.any fun kv => decide (kv.1 = k)) = (atKey xs k).isSome := by
    rw [valV_any, (r.val k).isSome_eq, Option.isSome_map]
  unfold putK storedH
  rw [e]
  by_cases q : (atKey xs k).isSome = true
  · rw [if_pos q, if_pos q]; exact r.repl k ry
  · rw [if_neg q, if_neg q]; exact Paired.snoc r ⟨rfl, hb, ry⟩
theorem KT.keeps {H H' : Hp} {kvs : List (List Key × V)} {xs : List (List Key × Addr × Value)} (r : KT H kvs xs) (ht : ∀ b ys, H b = some (.tup ys) → H' b = some (.tup ys)) : KT H' kvs xs :=
  Paired.mapP r fun _ _ z => ⟨z.1, ht _ _ z.2.1, z.2.2⟩

section
variable {P : Program} {w : World} {H : Hp} {h : Heap} {a : Addr}
theorem rd_of {u : HO} (ok : HOk P w H h) (e : Rd H a u) : ObjOk P w H h a u := e.ok ok
theorem dk_rd {kvs : List (Key × V)} (ok : HOk P w H h) (e : Rd H a (.dK kvs)) : kvs.length ≤ sizeLine ∧ (a == sysModules) = false ∧ ∃ vs, KV kvs vs ∧ h.DictOf (mixKind P w) a vs :=
  show ObjOk P w H h a (.dK kvs) from rd_of ok e
theorem dk_of {kvs : List (Key × V)} (ok : HOk P w H h) (e : H a = some (.dK kvs)) : kvs.length ≤ sizeLine ∧ (a == sysModules) = false ∧ ∃ vs, KV kvs vs ∧ h.DictOf (mixKind P w) a vs := dk_rd ok (.inl e)
/-- a tracked tuple of ints and texts is a key -/
theorem key_of {ks : List Key} (ok : HOk P w H h) (e : H a = some (.tup (ks.map kV))) : (tupleKind (mixKind P w)).is h ks a := by
  obtain ⟨_, its, r, o, h1, h2, n, h3⟩ := (show ObjOk P w H h a (.tup (ks.map kV)) from ok a _ e)
  exact ⟨o, its.toArray, n, h1, h2, h3, by simpa using items_are r⟩
theorem dt_rd {kvs : List (List Key × V)} (ok : HOk P w H h) (e : Rd H a (.dT kvs)) : kvs.length ≤ sizeLine ∧ (a == sysModules) = false ∧
    ∃ xs, KT H kvs xs ∧ h.DictOfH (tupleKind (mixKind P w)) a xs := by
  obtain ⟨z, y, xs, r, o, es, ep, h1, h2, h3, h4, h5⟩ := (show ObjOk P w H h a (.dT kvs) from rd_of ok e)
  refine ⟨z, y, xs, r, o, es, ep, h1, h2, h3, h4, fun x hx => ?_, h5⟩
  have all : ∀ {l : List (List Key × V)} {m : List (List Key × Addr × Value)}, KT H l m → ∀ x ∈ m, (tupleKind (mixKind P w)).is h x.1 x.2.1 := by
    intro l m q
    induction q with
    | nil => intro x hx; exact nomatch hx
    | @cons p q ps qs hq t ih =>
      intro x hx
      rcases List.mem_cons.mp hx with e | hx
      · subst e
        exact key_of ok (by rw [← hq.1]; exact hq.2.1)
      · exact ih x hx
  exact all r x hx
end

/-- what the dict at a holds at the key y -/
def DGet (H : Hp) (a : Addr) (y : V) (r : Option V) : Prop :=
  (∃ kvs k, Rd H a (.dK kvs) ∧ y = kV k ∧ r = valV kvs k) ∨ ∃ kvs k b, Rd H a (.dT kvs) ∧ y = .ref b ∧ H b = some (.tup (k.map kV)) ∧ r = valV kvs k
/-- the heap behind a[y] = v -/
def DPut (H : Hp) (a : Addr) (y v : V) (H' : Hp) : Prop :=
  (∃ kvs k, H a = some (.dK kvs) ∧ y = kV k ∧ kvs.length < sizeLine ∧ H' = upd H a (.dK (putK kvs k v))) ∨
  ∃ kvs k b, H a = some (.dT kvs) ∧ y = .ref b ∧ H b = some (.tup (k.map kV)) ∧ kvs.length < sizeLine ∧ H' = upd H a (.dT (putK kvs k v))
theorem DGet.k {H : Hp} {a : Addr} {kvs : List (Key × V)} {k : Key} (e : H a = some (.dK kvs)) : DGet H a (kV k) (valV kvs k) := .inl ⟨kvs, k, .inl e, rfl, rfl⟩
theorem DGet.t {H : Hp} {a b : Addr} {kvs : List (List Key × V)} {k : List Key} (e : H a = some (.dT kvs)) (eb : H b = some (.tup (k.map kV))) : DGet H a (.ref b) (valV kvs k) := .inr ⟨kvs, k, b, .inl e, rfl, eb, rfl⟩
theorem DPut.k {H : Hp} {a : Addr} {kvs : List (Key × V)} {k : Key} {v : V} (e : H a = some (.dK kvs)) (hl : kvs.length < sizeLine) : DPut H a (kV k) v (upd H a (.dK (putK kvs k v))) := .inl ⟨kvs, k, e, rfl, hl, rfl⟩
theorem DPut.t {H : Hp} {a b : Addr} {kvs : List (List Key × V)} {k : List Key} {v : V} (e : H a = some (.dT kvs)) (eb : H b = some (.tup (k.map kV))) (hl : kvs.length < sizeLine) :
    DPut H a (.ref b) v (upd H a (.dT (putK kvs k v))) := .inr ⟨kvs, k, b, e, rfl, eb, hl, rfl⟩


section
variable {X : Cx} {pins : List (Addr × Obj)} {σ : St} {H : Hp} {s : Shared} {a : Addr} {y v : V} {u r : Value} {o : Option V} {A : Around} {E : Value → Shared → Prop}

theorem Inv.big (I : Inv X pins σ H s) : sysModules < s.heap.objs.size := by
  have h : mainGlobals < s.heap.objs.size := (I.mod.glob.keeps I.bk).lt
  exact Nat.lt_trans (by decide) h

/-- y in d -/
theorem d_in {Q : Value → Shared → Prop} (hu : A.units + 1 < cLine) (I : Inv X pins σ H s) (g : DGet H a y o) (ry : RelV y u) (h : ∀ s', Inv X pins σ H s' → Q (.bool o.isSome) s') :
    wpAny (model X.prog X.w) A (compareOp .In u (.ref a)) Q E s := by
  rcases g with ⟨kvs, k, e, ey, l⟩ | ⟨kvs, k, b, e, ey, eb, l⟩
  · subst ey
    obtain ⟨z, hd, vs, rel, dd⟩ := dk_rd I.hok e
    refine wpAny_in_of (kV_is ry) hd dd.mapOf ?_
    rw [← (rel.val k).isSome_eq, ← l]
    exact h _ (I.tok _)
  · subst ey
    cases (show u = Value.ref b from ry)
    obtain ⟨z, hd, xs, rel, dd⟩ := dt_rd I.hok e
    refine wpAny_in_heap (tupleKind_room_in1 hu) (key_of I.hok eb) hd dd ?_
    have q := (rel.val k).isSome_eq
    rw [Option.isSome_map] at q
    rw [← q, ← l]
    exact h _ (I.tok _)
/-- a dict's object is replaced -/
theorem d_write {h' : Heap} {t' : Nat} {ob : HO} (I : Inv X pins σ H s) (mu : Mut (H a)) (hs : Heap.SameBut a s.heap h') (he : ∃ q, h'.get? a = some q) (new : ObjOk X.prog X.w (upd H a ob) h' a ob) :
    Inv X pins σ (upd H a ob) { s with heap := h', toks := t' } :=
  I.write (x := a) (e := a) mu (.inl rfl) (fun b q hb z => (hs.2 b hb).trans z) he new
theorem dk_new {P : Program} {w : World} {H' : Hp} {h' : Heap} {kvs : List (Key × V)} {vs : List (Key × Value)} (z : kvs.length ≤ sizeLine) (hd : (a == sysModules) = false) (rel : KV kvs vs) (dd : h'.DictOf (mixKind P w) a vs) :
    ObjOk P w H' h' a (.dK kvs) := ⟨z, hd, vs, rel, dd⟩
end



/-- the element of a subscription, not a slice -/
def NoSl (i : Expr) : Prop := ∀ ov iv, subscripted i false ov iv = operate [ov, iv] (getItem ov iv)
theorem subD_of {prog : Program} {w : World} {A : Around} {E : Value → Shared → Prop} {s : Shared} {env : Env} {value slice : Expr} {pos : Pos} {T id : String} {Q : Value → Shared → Prop}
    (hl : typeLookup (.type T) "__getitem__" = pure (some (.builtin id))) (hs : NoSl slice)
    (h : wpAny (model prog w) A (eval value env) (fun o s₁ => wpAny (model prog w) A (eval slice env) (fun i s₂ => s₂.TypeIs o T ∧ wpAny (model prog w) A (getItem o i) Q E s₂) E s₁) E s) :
    wpAny (model prog w) A (eval (.Subscript value slice pos) env) Q E s := by
  refine Subscript_ (wpAny_mono h (fun o s₁ h₁ => wpAny_mono h₁ (fun i s₂ h₂ => ?_) fun _ _ x => x) fun _ _ x => x)
  obtain ⟨hT, h₂⟩ := h₂
  unfold subscriptTail
  refine wpAny_bind ?_
  rw [getitemInPython_of_ne hT.not_modules]
  refine wpAny_bind (wpAny_specialOf hT hl ?_)
  have fin : wpAny (model prog w) A (subscripted slice false o i) (fun r s₃ => wpAny (model prog w) A (letTemporaryGo value o r >>= fun _ => pure r) Q E s₃) E s₂ := by
    rw [hs o i]
    exact wpAny_operating (wpAny_mono h₂ (fun r s₃ h₃ => wpAny_bind (wpAny_letTemporaryGo (wpAny_pure h₃))) fun _ _ x => x)
  first
    | exact wpAny_pure (wpAny_bind fin)
    | exact wpAny_bind (wpAny_pure (wpAny_bind fin))
    | exact wpAny_bind fin

/-- y in d, y not in d -/
def tDIn (ty td : TE) : TE := fun σ H Q => ty σ H fun y H1 => td σ H1 fun x H2 => ∃ a o, x = .ref a ∧ DGet H2 a y o ∧ Q (.bl o.isSome) H2
section
variable {X : Cx} {o i e value : Expr} {pos pos' tpos : Pos} {td ty tv : TE}
theorem pc_din (hu : X.A.units + 1 < cLine) (hi : PE X i ty) (ho : PE X o td) : PC X .In i o (tDIn ty td) := by
  intro pins s σ H Q I h
  refine thn (hi pins s σ H _ I h) fun iv s1 ⟨y, H1, I1, ry, q1⟩ => thn (ho pins s1 σ H1 _ I1 q1) fun u s2 ⟨x, H2, I2, rx, a, ov, ex, g, q2⟩ => ?_
  subst ex
  obtain rfl : u = Value.ref a := rx
  exact d_in hu I2 g ry fun s3 I3 => ⟨.bl ov.isSome, H2, I3, rfl, q2⟩
end


theorem dk_empty {P : Program} {w : World} {H : Hp} (h : Heap) (hb : sysModules < h.objs.size) : ObjOk P w H (h.push { cls := .type "dict", data := .dict #[] }) h.objs.size (.dK []) :=
  ⟨Nat.zero_le _, beq_eq_false_iff_ne.mpr (Ne.symm (Nat.ne_of_lt hb)), [], .nil, Heap.DictOf.new h⟩
/-- {}, to be a dict of the kind that is wanted -/
def tDNewK : TE := fun _ H Q => ∀ p, H p = none → Q (.ref p) (upd H p (.dK []))
section
variable {X : Cx} {pos : Pos}
theorem pe_dnewK : PE X (.Dict [] [] pos) tDNewK := fun pins s σ H Q I h =>
  wpAny_Dict_empty ⟨.ref s.heap.objs.size, _, I.laid (a := s.heap.objs.size) (o := .dK []) (t' := s.toks) (fun _ _ q => Heap.get?_push_of_some _ q) (Nat.le_refl _) (dk_empty s.heap I.big), rfl, h _ (I.hok.fresh (Nat.le_refl _))⟩
end

/-- the pairs of a display, from the left -/
def tPairs : List (TE × TE) → St → Hp → (List (V × V) → Hp → Prop) → Prop
  | [], _, H, Q => Q [] H
  | (tk, tv) :: r, σ, H, Q => tk σ H fun x H1 => tv σ H1 fun y H2 => tPairs r σ H2 fun ps H3 => Q ((x, y) :: ps) H3
abbrev VV : List (V × V) → List (Value × Value) → Prop := Paired fun p q => RelV p.1 q.1 ∧ RelV p.2 q.2
def PPs (X : Cx) (pos : Pos) (keys : List (Option Expr)) (values : List Expr) (trs : List (TE × TE)) : Prop :=
  ∀ (pins : List (Addr × Obj)) (s : Shared) (σ : St) (H : Hp) (Q : List (V × V) → Hp → Prop), Inv X pins σ H s → tPairs trs σ H Q →
    wpAny (model X.prog X.w) X.A (evalPairs (pairTrees keys values X.env pos)) (fun vs s' => ∃ ps H', Inv X pins σ H' s' ∧ VV ps vs ∧ Q ps H') X.xe s
theorem pps_nil {X : Cx} {pos : Pos} : PPs X pos [] [] [] := fun pins s σ H Q I h => pairTrees_nil_walk ⟨[], H, I, .nil, h⟩
theorem pps_cons {X : Cx} {pos : Pos} {k v : Expr} {ks : List (Option Expr)} {vs : List Expr} {tk tv : TE} {trs : List (TE × TE)} (hk : PE X k tk) (hv : PE X v tv) (hr : PPs X pos ks vs trs) :
    PPs X pos (some k :: ks) (v :: vs) ((tk, tv) :: trs) := fun pins s σ H Q I h =>
  pairTrees_cons_walk (thn (hk pins s σ H _ I h) fun u s1 ⟨x, H1, I1, rx, q1⟩ => thn (hv pins s1 σ H1 _ I1 q1) fun w2 s2 ⟨y, H2, I2, ry, q2⟩ =>
    thn (hr pins s2 σ H2 _ I2 q2) fun ws s3 ⟨ps, H3, I3, rel, q3⟩ => ⟨(x, y) :: ps, H3, I3, .cons ⟨rx, ry⟩ rel, q3⟩)

def mergeK (kvs more : List (Key × V)) : List (Key × V) := more.foldl (fun acc kv => putK acc kv.1 kv.2) kvs
theorem KV.merge : ∀ {more : List (Key × V)} {rs : List (Key × Value)} {kvs : List (Key × V)} {vs : List (Key × Value)}, KV more rs → KV kvs vs → KV (mergeK kvs more) (merged vs rs) := by
  intro more rs kvs vs r
  unfold KV at r
  induction r generalizing kvs vs with
  | nil => intro q; exact q
  | @cons p q ps qs h t ih =>
    intro r0
    have e : KV (putK kvs p.1 p.2) (stored vs q.1 q.2) := by
      have := r0.put p.1 h.2
      rw [← h.1]; exact this
    exact ih e
theorem length_mergeK : ∀ (more kvs : List (Key × V)), (mergeK kvs more).length ≤ kvs.length + more.length
  | [], kvs => by show kvs.length ≤ kvs.length + 0; omega
  | p :: r, kvs => by
    have h1 := length_mergeK r (putK kvs p.1 p.2)
    have h2 := length_putK kvs p.1 p.2
    show (mergeK (putK kvs p.1 p.2) r).length ≤ _
    rw [List.length_cons]; omega
theorem carries_of {P : Program} {w : World} : ∀ {kvs : List (Key × V)} {ws : List (Value × Value)}, VV (kvs.map fun kv => (kV kv.1, kv.2)) ws → ∃ rs, Carries (mixKind P w) ws rs ∧ KV kvs rs
  | [], _, r => by rw [List.map_nil] at r; cases r; exact ⟨[], True.intro, .nil⟩
  | p :: kvs, _, r => by
    rw [List.map_cons] at r
    cases r with
    | @cons a b as bs h t =>
      obtain ⟨rs, c, q⟩ := carries_of (P := P) (w := w) t
      obtain ⟨b1, b2⟩ := b
      exact ⟨(p.1, b2) :: rs, ⟨kV_is h.1, rfl, c⟩, .cons ⟨rfl, h.2⟩ q⟩
/-- {k: v, ..} with keys ints and texts; the new dict stands empty while the pairs are made -/
def tDisp (trs : List (TE × TE)) : TE := fun σ H Q => ∀ p, H p = none → tPairs trs σ (upd H p (.dK [])) fun ps H2 => H2 p = some (.dK []) ∧ ∃ kvs : List (Key × V), ps = kvs.map (fun kv => (kV kv.1, kv.2)) ∧ kvs.length ≤ 15 ∧ Q (.ref p) (upd H2 p (.dK (mergeK [] kvs)))
theorem pe_disp {X : Cx} {pos : Pos} {keys : List (Option Expr)} {values : List Expr} {trs : List (TE × TE)} (h : PPs X pos keys values trs) (hall : keys.all (·.isSome) = true) (hl : keys.length = values.length) (h0 : keys ≠ [])
    (h15 : keys.length ≤ 15) : PE X (.Dict keys values pos) (tDisp trs) := by
  intro pins s σ H Q I q
  have hn := I.hok.fresh (Nat.le_refl s.heap.objs.size)
  have I1 := I.laid (a := s.heap.objs.size) (o := .dK []) (h' := s.heap.push { cls := .type "dict", data := .dict #[] }) (t' := s.toks) (fun _ _ q => Heap.get?_push_of_some _ q) (Nat.le_refl _) (dk_empty s.heap I.big)
  refine wpAny_Dict_walk (knd := mixKind X.prog X.w) hall hl h0 h15 (thn (h pins _ σ _ _ I1 (q _ hn)) fun ws s2 ⟨ps, H2, I2, rel, e, kvs, ep, lk, q2⟩ => ?_)
  subst ep
  obtain ⟨rs, c, rk⟩ := carries_of (P := X.prog) (w := X.w) rel
  obtain ⟨z, hd, vs0, r0, dd⟩ := dk_of I2.hok e
  cases r0
  refine ⟨rs, c, dd, fun h' dd' hs => ⟨.ref s.heap.objs.size, _, ?_, rfl, q2⟩⟩
  have hz : (mergeK [] kvs).length ≤ sizeLine := by
    have h1 := length_mergeK kvs []
    rw [List.length_nil] at h1
    rw [sizeLine_eq]; omega
  have he : ∃ q, h'.get? s.heap.objs.size = some q := let ⟨q, _, _, hq, _⟩ := dd'; ⟨q, hq⟩
  exact d_write I2 (by rw [e]; exact True.intro) hs he (dk_new hz hd (rk.merge .nil) dd')


/-- a method call o.m(e) of a built-in, with one argument: what must be seen of the text -/
structure M1 (X : Cx) (o : Expr) (m : Str) (apos : Pos) (e : Expr) (cpos : Pos) : Prop where
  base : attributeBase o m X.env (eval o X.env) = eval o X.env
  few : ((backTo cpos (starEach [e] X.env)).all (fun x => !x.1) && (backToKw cpos (keywordEach [] X.env)).all (fun x => x.1.isSome)
    && decide (([e] : List Expr).length + ([] : List Keyword).length + (if ([] : List Keyword).isEmpty then 0 else 1) < 30)) = true
  line : (apos.endLine == cpos.line) = true
  trees : backTo cpos (starEach [e] X.env) = [(false, eval e X.env)]
structure M2 (X : Cx) (o : Expr) (m : Str) (apos : Pos) (e f : Expr) (cpos : Pos) : Prop where
  base : attributeBase o m X.env (eval o X.env) = eval o X.env
  few : ((backTo cpos (starEach [e, f] X.env)).all (fun x => !x.1) && (backToKw cpos (keywordEach [] X.env)).all (fun x => x.1.isSome)
    && decide (([e, f] : List Expr).length + ([] : List Keyword).length + (if ([] : List Keyword).isEmpty then 0 else 1) < 30)) = true
  line : (apos.endLine == cpos.line) = true
  trees : backTo cpos (starEach [e, f] X.env) = [(false, eval e X.env), (false, eval f X.env)]





end L2

namespace L2
open PySem PySem.Spec PyProof.Rows


end L2

namespace L2
open PySem PySem.Spec PyProof.Rows







end L2

section 
namespace Bits
open PySem PyProof.Rows

end Bits
end 

section 
namespace TL
open PySem PySem.Builtin PySem.Builtin.Str PySem.StrLaws

abbrev tl (x : Str) : List Nat := x.cps.toList
/-- S stands at the head of l -/
def pre (S l : List Nat) : Bool := l.take S.length == S
/-- l cut at each S from the left; k signs are still to be passed over -/
def spl (S : List Nat) : Nat → List Nat → List Nat → List (List Nat)
  | _, acc, [] => [acc]
  | 0, acc, c :: r => if pre S (c :: r) = true then acc :: spl S (S.length - 1) [] r else spl S 0 (acc ++ [c]) r
  | k + 1, acc, _ :: r => spl S k acc r
/-- what stands before the first S, and behind it -/
def par (S : List Nat) : List Nat → List Nat → Option (List Nat × List Nat)
  | _, [] => none
  | acc, c :: r => if pre S (c :: r) = true then some (acc, (c :: r).drop S.length) else par S (acc ++ [c]) r

end TL
end 

namespace L2
open PySem PySem.Spec PyProof.Rows



end L2

namespace L2
open PySem PySem.Spec PyProof.Rows


end L2

namespace Att
open PySem PySem.W PySem.Calls PyProof.Rows

theorem ints_of_wellAll {P : Params} {h : Heap} : ∀ (ns : List Int) (vs : List Value), WellAll P h vs (ns.map WData.int) → IntsAre vs ns := by
  intro ns
  induction ns with
  | nil =>
    intro vs w
    rw [List.map_nil] at w
    cases w
    exact .nil
  | cons n ns ih =>
    intro vs w
    rw [List.map_cons] at w
    cases w with
    | cons a b =>
      cases a
      exact .cons _ _ (ih _ b)

theorem script_of {l : OpenLaw} {n : Nat} (hn : l.most = some n) {P : Params} {h : Heap} {args : List WData} {vals : List Value}
    (hpre : l.row.toRowW.claim.pre args = true) (hwl : WellAll P h vals args) :
    ∃ a vs ns, vals = [Value.ref a] ∧ args = [WData.list (ns.map WData.int)] ∧ h.get? a = some { cls := .type "list", data := .seq vs.toArray } ∧ IntsAre vs ns ∧ ns.length ≤ n := by
  have hsh : WShape.hasAll [] args [.list .int] = true := (pre_splitW hpre).1
  have hc : l.pre.holds [] { args := args } = true := (pre_splitW hpre).2
  obtain ⟨d, r, rfl, h1, h2⟩ := hasAllW_cons hsh
  obtain rfl := hasAllW_nil h2
  obtain ⟨xs, rfl, h3⟩ := hasW_list h1
  obtain ⟨ns, rfl⟩ := items_int h3
  have hlen : ns.length ≤ n := by
    unfold OpenLaw.pre at hc
    have h4 : (WTm.not (.lt (.lit (.int (n : Int))) (.len (.arg 0)))).holds [] { args := [.list (ns.map .int)] } = true := by
      have h4 := (holds_andW hc).1
      rw [hn] at h4
      exact h4
    have h5 := condW_of h4 (w_not (w_lt w_lit (w_len_list (w_arg rfl))))
    rw [List.length_map] at h5
    refine Nat.le_of_not_lt fun q => ?_
    have q' : (n : Int) < ((ns.length : Nat) : Int) := by omega
    first
      | (rw [decide_eq_true q'] at h5; exact absurd h5 (by decide))
      | (simp at h5; omega)
  cases hwl with
  | cons w1 w2 =>
    cases w2
    cases w1 with
    | list ho hall => exact ⟨_, _, ns, rfl, rfl, ho, ints_of_wellAll ns _ hall, hlen⟩

theorem post_true (l : OpenLaw) (args : List WData) : l.row.toRowW.claim.post args (.bool true) args = true :=
  postW_of (r := l.row.toRowW) (X := (true == true))
    (show WShape.has [] (.bool true) .bool = true by first | rfl | decide | simp [WShape.has, WShape.arms, WShape.armsAll])
    (show (WTm.eq .res (.lit (.bool true))).value [] { args := args, res := some (.bool true), after := args } = some (.bool (true == true)) from w_eq_bool (w_res rfl) w_lit) rfl

/-- the same from a codeAny of the CALL (for a layer whose function contracts speak of calls) -/
theorem attach_call {l : OpenLaw} {n : Nat} {q : Program} {loose : List Str} {XP : (Str → Option Value) → Heap → Prop} {YP : World → Heap → Prop} {d : DefRec}
    (hn : l.most = some n) (hdf : d.params.defaults = [])
    (call : ∀ (w : World) (s₀ s₁ : Shared) (mg mb : Str → Option Value) (fa : Addr) (o : Obj) (pm cd doc : Value) (a : Addr) (vs : List Value) (ns : List Int),
      Ground q loose [] XP w s₀ mg mb s₁.heap → YP w s₁.heap →
      s₁.heap.get? fa = some o → o.data = .func (docDef d.name d.params d.body d.scope pm cd doc) → s₁.heap.CodeRec cd d.name → mg d.name = some (.ref fa) →
      s₁.heap.get? a = some { cls := .type "list", data := .seq vs.toArray } → IntsAre vs ns → ns.length ≤ n → s₁.gens = #[] →
      codeAny (model l.prog w) callerA (.call (.ref fa) ⟨[.ref a], []⟩) (fun r s' => r = .ok (.ret (.bool true)) ∧ OldK s₁.heap s'.heap ∧ s'.os = s₁.os ∧ AllBare s'.gens) s₁) :
    WalkO q loose XP YP l.row.toRowW d [] (fun f vs => PySem.call f vs) := by
  intro w s₀ s₁ mg mb G Y fa o pm cd doc dV kV ho hd hcd hD hmg hg args vals as hpre hlay hrd hwl hlo
  obtain rfl : dV = .none := Dflts.none hD hdf
  obtain rfl : kV = .none := Dflts.noKw hD
  obtain ⟨a, vs, ns, rfl, rfl, hobj, hints, hlen⟩ := script_of hn hpre hwl
  refine enter_call (codeAny_mono (call w s₀ s₁ mg mb fa o pm cd doc a vs ns G Y ho (fd_plain hd) hcd hmg hobj hints hlen hg) fun r s' hq => ?_)
  obtain ⟨rfl, h2, h3, h4⟩ := hq
  exact ⟨.inl ⟨.bool true, .bool true, [], rfl, fun _ => rfl, .bool true, post_true l _, fun _ => ⟨List.Pairwise.nil, fun _ hm => (nomatch hm)⟩⟩, h2, h3, h4⟩

section
variable {prog : Program} {w : World} {A : Around} {E : Value → Shared → Prop} {s : Shared} {K : Frag}

def noObjs (h : Heap) : Heap := { h with objs := #[] }
theorem noObjs_get (h : Heap) (b : Addr) : (noObjs h).get? b = none := by
  cases e : (noObjs h).get? b with
  | none => rfl
  | some o => exact absurd (Heap.lt_size e) (Nat.not_lt_zero _)
def ledger (h : Heap) (L d : Addr) : List (Addr × Obj) := (List.range h.objs.size).filterMap fun a => if a = L ∨ a = d then none else (h.get? a).map fun o => (a, o)
theorem mem_ledger {h : Heap} {L d a : Addr} {o : Obj} : (a, o) ∈ ledger h L d ↔ a ≠ L ∧ a ≠ d ∧ h.get? a = some o := by
  unfold ledger
  rw [List.mem_filterMap]
  constructor
  · rintro ⟨b, _, e⟩
    split at e
    · cases e
    · rename_i hb
      obtain ⟨o', ho, e'⟩ := Option.map_eq_some_iff.mp e
      cases e'
      exact ⟨fun q => hb (.inl q), fun q => hb (.inr q), ho⟩
  · rintro ⟨n1, n2, ho⟩
    refine ⟨a, List.mem_range.mpr (Heap.lt_size ho), ?_⟩
    rw [if_neg (show ¬ (a = L ∨ a = d) from fun q => q.elim n1 n2), ho] <;> rfl
theorem fr_all {h : Heap} {L : Addr} {m : Str → Option Value} (n : h.Ns L m) : Fr (noObjs h) L h m :=
  ⟨n, fun b o e => (by rw [noObjs_get] at e; cases e), Nat.zero_le _⟩
end
end Att

namespace L2
open PySem PySem.Spec PyProof.Rows

theorem vals_ints : ∀ {vs : List Value} {ns : List Int}, IntsAre vs ns → Vals (ns.map V.int) vs
  | _, _, .nil => .nil
  | _, _, .cons n t h => .cons ⟨t, rfl⟩ (vals_ints h)

end L2

namespace L2
open PySem PySem.Spec PyProof.Rows

end L2


namespace L2
open PySem PySem.Spec PyProof.Rows

/-- the j-th statement of a class's body -/
def inClass (s : Stmt) (j : Nat) : Stmt := match s with
  | .ClassDef _ _ _ body _ _ _ _ _ _ _ => body.getD j (.Pass ⟨0, 0, 0, 0⟩)
  | _ => .Pass ⟨0, 0, 0, 0⟩
def defArgs (s : Stmt) : Arguments := match s with
  | .FunctionDef _ a _ _ _ _ _ _ _ _ => a
  | _ => { posonlyargs := [], args := [], vararg := none, kwonlyargs := [], kw_defaults := [], kwarg := none, defaults := [] }
def defBody (s : Stmt) : List Stmt := match s with
  | .FunctionDef _ _ b _ _ _ _ _ _ _ => b
  | _ => []
def defScope (s : Stmt) : Scope := match s with
  | .FunctionDef _ _ _ _ _ _ sc _ _ _ => sc
  | _ => { kind := .function, names := [], isGenerator := false, isCoroutine := false }

abbrev CX0 : CXT := fun _ _ _ _ _ _ => False
abbrev E0 : XK := fun _ _ _ => False
theorem pass0 {X : Cx} : Passes CX0 X E0 := fun _ _ _ _ _ _ _ h => h.elim

structure Fun (K : PySem.W.Frag) (x qual : Str) (st : Stmt) (f : Addr) (fd : FuncData) : Prop where
  ex : ∃ (oc : Value) (od : Option Addr) (kV doc pm : Value) (an : Option Addr) (cdv ct : Value) (osl : Array (Option Value)),
    fd = PySem.W.fnOf x qual (defArgs st) (defBody st) (defScope st) .none kV doc pm an cdv ct ∧ K.lookup f = some ⟨oc, od, .func fd, osl⟩ ∧ PySem.W.codeIn K cdv qual = true
  kp : PySem.W.keepIn K (.ref f) = true
section
variable {P : Program} {w : World} {K : PySem.W.Frag} {mg : Str → Option Value} {base : Heap}
/-- THE RULE for a def: its body as a term of rules, and the reading of that term -/
theorem Fun.ok {x qual : Str} {st : Stmt} {f : Addr} {fd : FuncData} {N ps : List Str} {k : Nat} {sp : Sp} (F : Fun K x qual st f fd) (S : FnScope N ps (defScope st)) (len : ∀ vs H Q E, sp vs H Q E → vs.length = ps.length)
    (hbody : ∀ (cdv : Value) (A : Around) (outer : List Env) (s : Shared) (H : Hp) (vs : List V) (Q : VK) (E : XK), Room k (A.deeper (envOfC qual (defScope st) s.heap.objs.size f cdv)) → sp vs H Q E →
      ∃ t, PSs (cxOf CX0 P w K mg base N qual (defScope st) f cdv A outer s H E).nox (defBody st) t ∧ t { nx := fun _ H' => Q .non H', rt := Q } (start N vs) H) : FnOk P w K mg base CX0 (k + 1) f fd ps sp := by
  obtain ⟨oc, od, kV, doc, pm, an, cdv, ct, osl, rfl, lk, hcd⟩ := F.ex
  refine fn_of lk hcd S len fun A outer s H vs Q E hr hsp => ?_
  obtain ⟨t, h, q⟩ := hbody cdv A outer s H vs Q E hr hsp
  exact ⟨t, h.nox, q⟩
/-- how its arguments bind (no defaults): h is «fun _ _ _ _ _ _ us hl => match us, hl with | [_, _], _ => rfl», one _ a parameter -/
theorem Fun.binds {x qual : Str} {st : Stmt} {f : Addr} {fd : FuncData} {ps : List Str} (F : Fun K x qual st f fd)
    (h : ∀ (kV doc pm : Value) (an : Option Addr) (cdv ct : Value) (us : List Value), us.length = ps.length → bindArgs (PySem.W.fnOf x qual (defArgs st) (defBody st) (defScope st) .none kV doc pm an cdv ct) ⟨us, []⟩ = pure (ps.zip us)) : Binds K fd ps [] := by
  obtain ⟨oc, od, kV, doc, pm, an, cdv, ct, osl, rfl, lk, hcd⟩ := F.ex
  exact .all (h kV doc pm an cdv ct)
theorem fun_mk {x qual : Str} {st : Stmt} {f : Addr} {oc : Value} {od an : Option Addr} {osl : Array (Option Value)} {kV doc pm cdv ct : Value} (l : K.lookup f = some ⟨oc, od, .func (PySem.W.fnOf x qual (defArgs st) (defBody st) (defScope st) .none kV doc pm an cdv ct), osl⟩)
    (c : PySem.W.codeIn K cdv qual = true) (k : PySem.W.keepIn K (.ref f) = true) : Fun K x qual st f (PySem.W.fnOf x qual (defArgs st) (defBody st) (defScope st) .none kV doc pm an cdv ct) := ⟨⟨oc, od, kV, doc, pm, an, cdv, ct, osl, rfl, l, c⟩, k⟩
end
theorem small1000 {n : Nat} (h : n ≤ 1000) : n < sizeLine := Nat.lt_of_le_of_lt h (by decide)

section
variable {X : Cx}
theorem pv (i : Nat) {x : Str} {pos : Pos} (hN : X.N[i]? = some x := by rfl) (hv : Vis X.env.scope x := by first | exact Or.inl rfl | exact Or.inr (Or.inl rfl) | exact Or.inr (Or.inr rfl)) (hd : (x == ("__debug__" : Str)) = false := by decide)
    (hcd : (x == ("__classdict__" : Str)) = false := by decide) : PE X (.Name x pos) (tVar i) := pe_var hN hv hd hcd
end

theorem iteF {A B : Prop} (h : B) : if false = true then A else B := by
  rw [if_neg Bool.false_ne_true]
  exact h
theorem iteT {A B : Prop} (h : A) : if true = true then A else B := by
  rw [if_pos rfl]
  exact h
theorem ite2 {c A B : Prop} [Decidable c] (h1 : c → A) (h2 : ¬ c → B) : if c then A else B := by
  by_cases h : c
  · rw [if_pos h]
    exact h1 h
  · rw [if_neg h]
    exact h2 h
/-- all that was tracked is as it was -/
def Same (H H' : Hp) : Prop := ∀ b o, H b = some o → H' b = some o
theorem Same.refl (H : Hp) : Same H H := fun _ _ h => h
theorem Same.trans {H H1 H2 : Hp} (a : Same H H1) (b : Same H1 H2) : Same H H2 := fun c o h => b c o (a c o h)
theorem Same.free {H H' : Hp} (e : Same H H') {l : Addr} (h : H' l = Option.none) : H l = Option.none := by
  cases q : H l with
  | none => rfl
  | some o =>
    rw [e l o q] at h
    cases h
theorem Same.seq {K : PySem.W.Frag} {H H' : Hp} {a : Addr} {xs : List V} (e : Same H H') (h : SqL K H a xs) : SqL K H' a xs := by
  rcases h with (h | ⟨o, h⟩) | h
  · exact .inl (.inl (e _ _ h))
  · exact .inl (.inr ⟨o, e _ _ h⟩)
  · exact .inr h

end L2
namespace FK
def par (n : Nat) : Bool := if n = 0 then false else Bool.xor (n % 2 == 1) (par (n / 2))
termination_by n
decreasing_by omega
def tgt (n b : Nat) : Nat := if n = 0 then 0 else (if n % 2 = 1 then b else 0) ^^^ tgt (n / 2) (b + 1)
termination_by n
decreasing_by omega
def ck (t : Nat) : Nat → Nat
  | 0 => 0
  | j + 1 => ck t j + (if t.testBit j then 2 ^ (2 ^ j) else 0)
def spr (n : Nat) : Nat := n % 2 * 8 + n / 2 % 8 * 32 + n / 16 % 128 * 512 + n / 2048 % 32768 * 131072 + n / 67108864 % 2147483648 * 8589934592
/-- the sealed word -/
def pre (n : Nat) : Nat := spr n + ck (tgt (spr n) 0) 6
def b2 (b : Bool) : Nat := if b then 1 else 0
def spot (i : Nat) : Nat := i + (if i < 1 then 3 else if i < 4 then 4 else if i < 11 then 5 else if i < 26 then 6 else 7)
def lw (n : Nat) : Nat → Nat
  | 0 => 0
  | k + 1 => lw n k + n / 2 ^ k % 2 * 2 ^ spot k
end FK
namespace FK
def off : Nat → Nat
  | 0 => 0
  | j + 1 => off j + (2 ^ (j + 1) - 1)
end FK
namespace FK
theorem x4 (p q r s : Nat) : p ^^^ q ^^^ (r ^^^ s) = p ^^^ r ^^^ (q ^^^ s) := by
  rw [Nat.xor_assoc, Nat.xor_assoc, ← Nat.xor_assoc q r s, Nat.xor_comm q r, Nat.xor_assoc r q s]
def rN (w : Nat) : Nat := if w ≤ 1 then 2 else if w ≤ 4 then 3 else if w ≤ 11 then 4 else if w ≤ 26 then 5 else 6
def lastN (w : Nat) : Nat := w + rN w
def numIn (x : Nat) : Nat := x / 8 % 2 + x / 32 % 8 * 2 + x / 512 % 128 * 16 + x / 131072 % 32768 * 2048 + x / 8589934592 % 2147483648 * 67108864
def cnt (n : Nat) : Nat := if n = 0 then 0 else n % 2 + cnt (n / 2)
termination_by n
decreasing_by omega
end FK
namespace FK
end FK
namespace FK
end FK
namespace FK
structure Flds where
  k : Nat
  pl : Nat
  nu : Nat
  gr : Nat
  da : Nat
  deriving DecidableEq
structure Flds.Ok (F : Flds) : Prop where
  k : F.k < 4
  pl : F.pl < 16
  nu : F.nu < 16384
  gr : F.gr < 16384
  da : F.da < 64
  g0 : F.k < 2 → F.gr = 0
  d1 : F.k = 1 → F.da = 0
  d3 : F.k = 3 → F.da = 0
  p3 : F.k = 3 → F.pl = 0
def okB (F : Flds) : Bool := decide (F.k < 4) && decide (F.pl < 16) && decide (F.nu < 16384) && decide (F.gr < 16384) && decide (F.da < 64) && (decide (F.gr = 0) || decide (2 ≤ F.k)) && (decide (F.da = 0) || (decide (F.k ≠ 1) && decide (F.k ≠ 3))) && (decide (F.pl = 0) || decide (F.k ≠ 3))
theorem okB_iff (F : Flds) : okB F = true ↔ F.Ok := by
  unfold okB
  simp only [Bool.and_eq_true, Bool.or_eq_true, decide_eq_true_eq]
  constructor
  · rintro ⟨⟨⟨⟨⟨⟨⟨h1, h2⟩, h3⟩, h4⟩, h5⟩, h6⟩, h7⟩, h8⟩
    exact ⟨h1, h2, h3, h4, h5, fun h => by omega, fun h => by omega, fun h => by omega, fun h => by omega⟩
  · rintro ⟨h1, h2, h3, h4, h5, h6, h7, h8, h9⟩
    refine ⟨⟨⟨⟨⟨⟨⟨h1, h2⟩, h3⟩, h4⟩, h5⟩, ?_⟩, ?_⟩, ?_⟩
    · by_cases h : F.k < 2
      · exact .inl (h6 h)
      · exact .inr (by omega)
    · by_cases ha : F.k = 1
      · exact .inl (h7 ha)
      · by_cases hb : F.k = 3
        · exact .inl (h8 hb)
        · exact .inr ⟨ha, hb⟩
    · by_cases h : F.k = 3
      · exact .inl (h9 h)
      · exact .inr h
def decF (n : Nat) : Flds := ⟨n / 274877906944, n / 17179869184 % 16, n / 1048576 % 16384, n / 64 % 16384, n % 64⟩
inductive PRes where
  | good (F : Flds) | mended (F : Flds) | spoilt
end FK
set_option Elab.async false
set_option linter.all false
set_option maxRecDepth 100000
namespace L2
open PySem PySem.Spec PyProof.Rows
section
variable {X : Cx}
def CDivL (i j : Int) : Prop := 0 < j ∧ j < 2 ^ 100
theorem op_fdivL : OpR X (binaryOp .FloorDiv) (rI CDivL fun i j => .int (i / j)) := opI fun i j _ _ _ _ _ hc q => by
  have h1 : (0 : Int) < j := hc.1
  have h2 : j < 2 ^ 100 := hc.2
  refine floordiv_int (by omega) (by rw [Int.fdiv_eq_ediv_of_nonneg i (by omega)]; exact q) (.inl (PyProof.noPylong_of_log2 ?_))
  exact Nat.lt_trans ((Nat.log2_lt (by omega)).mpr (by omega : j.natAbs < 2 ^ 100)) (by decide)
theorem call_isinst : CallR X (.builtin "isinstance") (fun xs H Q => ∃ x c t b, xs = [x, .ty c] ∧ TyOf X.K H x t ∧ PySem.W.kitOne X.K t (.type c) = some b ∧ Q (.bl b) H) := by
  intro pins s σ H xs us Q I r h
  obtain ⟨x, c, t, b, rfl, ty, e, q⟩ := h
  obtain ⟨u, v, rfl, ru, rv⟩ := Vals.two r
  cases rv
  exact isinst_ok I ru ty e fun tk => ⟨.bl b, H, I.kept (h' := s.heap) (t' := tk) (fun _ _ e => e), rfl, q⟩
theorem call_repr {k : Nat} (hr : Room k X.A) : CallR X (.builtin "repr") (fun xs H Q => ∃ a d, xs = [.ref a] ∧ Dp X.K H (.ref a) d ∧ d.showable = true ∧ d.hasDict = false ∧ d.depth ≤ 60 ∧ d.shown.length ≤ sizeLine ∧ Q (.str d.shown) H) := by
  intro pins s σ H xs us Q I r h
  obtain ⟨a, d, rfl, hd, hs, hn, hp, hz, q⟩ := h
  obtain ⟨u, rfl, ru⟩ := Vals.one r
  obtain ⟨as, rd⟩ := Dp.reads I d _ u hd ru
  cases ru
  refine repr_of_reads' rd hs (PyData.noDict_hsm hn) hr.gd (by have := hr.units; omega) (fun _ _ e => e) (fun h' u tk hk => ?_) hz
  exact ⟨.str d.shown, H, I.kept (h' := h') (t' := tk) hk, ⟨_, rfl⟩, q⟩
end
structure FunD (K : PySem.W.Frag) (x qual : Str) (st : Stmt) (f : Addr) (fd : FuncData) (ds : List Value) : Prop where
  ex : ∃ (oc : Value) (od : Option Addr) (Td : Addr) (kV doc pm : Value) (an : Option Addr) (cdv ct : Value) (osl : Array (Option Value)) (oT : Obj) (n : Nat),
    fd = PySem.W.fnOf x qual (defArgs st) (defBody st) (defScope st) (.ref Td) kV doc pm an cdv ct ∧ K.lookup f = some ⟨oc, od, .func fd, osl⟩ ∧ PySem.W.codeIn K cdv qual = true ∧ K.lookup Td = some oT ∧ oT.data = .seq ds.toArray n
  kp : PySem.W.keepIn K (.ref f) = true
section
variable {P : Program} {w : World} {K : PySem.W.Frag} {mg : Str → Option Value} {base : Heap}
theorem FunD.ok {x qual : Str} {st : Stmt} {f : Addr} {fd : FuncData} {ds : List Value} {N ps : List Str} {k : Nat} {sp : Sp} (F : FunD K x qual st f fd ds) (S : FnScope N ps (defScope st)) (len : ∀ vs H Q E, sp vs H Q E → vs.length = ps.length)
    (hbody : ∀ (cdv : Value) (A : Around) (outer : List Env) (s : Shared) (H : Hp) (vs : List V) (Q : VK) (E : XK), Room k (A.deeper (envOfC qual (defScope st) s.heap.objs.size f cdv)) → sp vs H Q E →
      ∃ t, PSs (cxOf CX0 P w K mg base N qual (defScope st) f cdv A outer s H E).nox (defBody st) t ∧ t { nx := fun _ H' => Q .non H', rt := Q } (start N vs) H) : FnOk P w K mg base CX0 (k + 1) f fd ps sp := by
  obtain ⟨oc, od, Td, kV, doc, pm, an, cdv, ct, osl, oT, n, rfl, lk, hcd, _⟩ := F.ex
  refine fn_of lk hcd S len fun A outer s H vs Q E hr hsp => ?_
  obtain ⟨t, h, q⟩ := hbody cdv A outer s H vs Q E hr hsp
  exact ⟨t, h.nox, q⟩
theorem FunD.binds {x qual : Str} {st : Stmt} {f : Addr} {fd : FuncData} {ds es : List Value} {ps : List Str} (F : FunD K x qual st f fd ds)
    (h : ∀ (Td : Addr) (kV doc pm : Value) (an : Option Addr) (cdv ct : Value) (us : List Value), (us ++ es).length = ps.length → ∃ k : Option (Array Value) → Sem (List (Str × Value)),
      bindArgs (PySem.W.fnOf x qual (defArgs st) (defBody st) (defScope st) (.ref Td) kV doc pm an cdv ct) ⟨us, []⟩ = seqItems? (.ref Td) >>= k ∧ k (some ds.toArray) = pure (ps.zip (us ++ es))) : Binds K fd ps es := by
  obtain ⟨oc, od, Td, kV, doc, pm, an, cdv, ct, osl, oT, n, rfl, lk, hcd, ho, hs⟩ := F.ex
  intro s us hK hl
  obtain ⟨k, h1, h2⟩ := h Td kV doc pm an cdv ct us hl
  exact PySem.W.binds_K hK rfl ho hs h1 h2
end
end L2
set_option Elab.async false
set_option linter.all false
set_option maxRecDepth 100000
namespace L2
open PySem PySem.Spec PyProof.Rows
structure FliesAt (P : Program) (w : World) (outer : List Env) (H : Hp) (s : Shared) (B : Heap) (H' : Hp) (ea : Addr) (cls : Value) (s' : Shared) : Prop where
  os : s'.os = s.os
  bare : AllBare s'.gens
  fly : ∃ a0, Heap.FlyingW B outer ea cls a0 s'.heap
  un : Un (frs outer) [] H H' s.heap s'.heap
  hok : HOk P w H' B
  full : ∀ b o, s.heap.get? b = some o → H b = none → b ∉ frs outer → B.get? b = some o
  there : ∀ b o, s.heap.get? b = some o → b ∉ frs outer → ∃ o', B.get? b = some o'
def CXF (P : Program) (w : World) : CXT := fun outer H s E e s' => ∃ B H' ea cls, e = .ref ea ∧ FliesAt P w outer H s B H' ea cls s' ∧ E cls none H'
theorem frs_tail {env : Env} {outer : List Env} {b : Addr} (h : b ∈ frs outer) : b ∈ frs (env :: outer) := by
  unfold frs at h ⊢
  rw [List.filterMap_cons]
  split
  · exact h
  · exact List.mem_cons_of_mem _ h
section
variable {X : Cx} {pins : List (Addr × Obj)} {σ : St} {H H' : Hp} {s s' : Shared} {B : Heap} {ea : Addr} {cls : Value} {M : Model} {E : Value → Shared → Prop}
theorem Inv.notStk (I : Inv X pins σ H s) {b : Addr} {o : Obj} (e : X.s_0.heap.get? b = some o) (hb : b ∉ X.fs) : b ∉ frs X.stack := fun z => by
  rcases List.mem_cons.mp (I.stkSub b z) with q | q
  · exact absurd q (Nat.ne_of_lt (Nat.lt_of_lt_of_le (Heap.lt_size e) I.ok.above))
  · exact hb q
/-- what was kept while the body ran, and then while an exception passed: the callers' view -/
theorem Inv.flown {h' : Heap} (I : Inv X pins σ H s) (hX : X.ex = []) (hst : X.stack = X.env :: X.outer) (fl : ∃ a0, Heap.FlyingW B X.outer ea cls a0 h')
    (os : s'.os = s.os) (bare : AllBare s'.gens) (hok : HOk X.prog X.w H' B)
    (full : ∀ b o, s.heap.get? b = some o → H b = none → b ∉ frs X.stack → B.get? b = some o) (there : ∀ b o, s.heap.get? b = some o → b ∉ frs X.stack → ∃ o', B.get? b = some o')
    (slot : ∀ b o, s.heap.get? b = some o → H b = none → b ∈ X.fs → ∃ sl, h'.get? b = some { o with slots := sl })
    (free : ∀ b o, s.heap.get? b = some o → H b = none → H' b = none) (tups : ∀ b xs, H b = some (.tup xs) → H' b = some (.tup xs)) (frzs : ∀ b o u, H b = some (.frz o u) → H' b = some (.frz o u))
    (tbls : ∀ b ps, H b = some (.tbl ps) → ∃ more, H' b = some (.tbl (ps ++ more))) : FliesAt X.prog X.w X.outer X.H_0 X.s_0 B H' ea cls { s' with heap := h' } := by
  have nox : ∀ b : Addr, b ∉ X.ex := fun b z => by rw [hX] at z; exact absurd z (by simp)
  obtain ⟨a0, fl⟩ := fl
  have hB : ∀ b o, X.s_0.heap.get? b = some o → X.H_0 b = none → b ∉ X.fs → B.get? b = some o := fun b o e n hb =>
    full b o (I.base.keep b o e n hb (nox b)) (I.base.free b o e n (nox b)) (I.notStk e hb)
  have hT : ∀ b o, X.s_0.heap.get? b = some o → b ∉ X.fs → ∃ o', B.get? b = some o' := fun b o e hb => by
    obtain ⟨o1, e1⟩ := I.base.there b o e (nox b)
    exact there b o1 e1 (I.notStk e hb)
  refine ⟨os.trans I.os, bare, ⟨a0, fl⟩, ⟨fun b o e n hb _ => fl.1 b o (hB b o e n hb), fun b o e n hb _ => ?_, fun b o e n _ => ?_, fun b o e _ => ?_, fun b xs e => tups b xs (I.base.tups b xs e), fun b o u e => frzs b o u (I.base.frzs b o u e), fun b ps e => ?_⟩, hok, hB, hT⟩
  · obtain ⟨sl, e1⟩ := I.base.slot b o e n hb (nox b)
    obtain ⟨sl', e2⟩ := slot b _ e1 (I.base.free b o e n (nox b)) hb
    exact ⟨sl', e2⟩
  · obtain ⟨o1, e1⟩ := I.base.there b o e (nox b)
    exact free b o1 e1 (I.base.free b o e n (nox b))
  · by_cases hb : b ∈ X.fs
    · obtain ⟨_, o', e', _⟩ := fl.2.2.1.mem hb
      exact ⟨o', e'⟩
    · obtain ⟨o', e'⟩ := hT b o e hb
      exact ⟨o', fl.1 b o' e'⟩
  · obtain ⟨m1, e1⟩ := I.base.tbls b ps e
    obtain ⟨m2, e2⟩ := tbls b _ e1
    exact ⟨m1 ++ m2, by rw [e2, Array.append_assoc]⟩
/-- a callee's exception passes this frame -/
theorem flies_out (I : Inv X pins σ H s) (hX : X.ex = []) (hst : X.stack = X.env :: X.outer) (hf : X.env.frame = some X.env.locals) (f : FliesAt X.prog X.w X.stack H s B H' ea cls s') :
    wpAny M X.A (leaving X.env (.ref ea)) (fun _ s'' => FliesAt X.prog X.w X.outer X.H_0 X.s_0 B H' ea cls s'') E s' := by
  obtain ⟨a0, fl⟩ := f.fly
  rw [hst] at fl
  refine wpAny_leaves_onW (by rw [I.ok.frames, hst]) hf fl fun h' x1 x2 => ?_
  refine I.flown hX hst ⟨a0, x1⟩ f.os f.bare f.hok f.full f.there (fun b o e n hb => ?_) (fun b o e n => f.un.free b o e n (by simp)) f.un.tups f.un.frzs f.un.tbls
  have hbs : b ∈ frs X.stack := by rw [hst]; exact frs_tail hb
  obtain ⟨sl, e1⟩ := f.un.slot b o e n hbs (by simp)
  obtain ⟨_, o', e', nf⟩ := fl.2.2.1.mem (by rw [hst] at hbs; exact hbs)
  rw [e1] at e'
  cases e'
  obtain ⟨sl', e2⟩ := x2 b _ e1 nf
  exact ⟨sl', e2⟩
/-- an exception made here leaves this frame -/
theorem flies_made {vs : List Value} {h1 : Heap} (I : Inv X pins σ H s) (hX : X.ex = []) (hst : X.stack = X.env :: X.outer) (hf : X.env.frame = some X.env.locals) (mk : Heap.MadeExcOf s.heap h1 ea cls vs) :
    wpAny M X.A (leaving X.env (.ref ea)) (fun _ s'' => ∃ B, FliesAt X.prog X.w X.outer X.H_0 X.s_0 B H ea cls s'') E { s with heap := h1 } := by
  have hin : ∀ env ∈ X.env :: X.outer, ∀ a, env.frame = some a → a ∈ frs (X.env :: X.outer) := fun env he a ha => List.mem_filterMap.mpr ⟨env, he, ha⟩
  have hst2 : s.heap.FunFrames X.base (X.env :: X.outer) := by have := I.stack; rw [hst] at this; exact this
  have inB : ∀ b o, s.heap.get? b = some o → b ∉ frs (X.env :: X.outer) → (PySem.W.hideAll s.heap (frs (X.env :: X.outer))).get? b = some o := fun b o e hb => PySem.W.hideAll_get _ e hb
  refine wpAny_leaves_madeW (base := PySem.W.hideAll s.heap (frs (X.env :: X.outer))) (by rw [I.ok.frames, hst]) hf (fun b o q => PySem.W.of_hideAll _ q) (PySem.W.funFrames_hide hst2 hin) mk fun h' t x1 x2 x3 x4 => ⟨PySem.W.hideAll s.heap (frs (X.env :: X.outer)), ?_⟩
  refine I.flown (s' := s) hX hst ⟨_, x1⟩ rfl I.bare (fun b u e => (I.hok b u e).stay (fun c v hc q => inB c v q fun z => ?_) (fun _ q => q) fun _ _ q => q) (fun b o e _ hb => inB b o e (by rw [← hst]; exact hb)) (fun b o e hb => ⟨o, inB b o e (by rw [← hst]; exact hb)⟩)
    (fun b o e n hb => ?_) (fun _ _ _ n => n) (fun _ _ q => q) (fun _ _ _ q => q) fun b ps q => ⟨#[], by rw [q]; simp⟩
  · have n : H c = none := I.stkFree c (by rw [hst]; exact z)
    rcases hc with hc | hc
    · rw [hc] at n; rw [n] at e; cases e
    · rw [n] at hc; cases hc
  · obtain ⟨_, o', e', nf⟩ := hst2.mem (frs_tail hb)
    rw [e] at e'
    cases e'
    exact x4 b o (mk.keeps b o e) nf
/-- what a body wants of an exception that it makes itself -/
def Raises (X : Cx) (E : XK) : Prop := ∀ (pins : List (Addr × Obj)) (σ : St) (H : Hp) (s : Shared) (ea : Addr) (cls : Value) (vs : List Value) (h' : Heap), Inv X pins σ H s → Heap.MadeExcOf s.heap h' ea cls vs → E cls none H → X.xe (.ref ea) { s with heap := h' }
end
section
variable {P : Program} {w : World} {K : PySem.W.Frag} {mg : Str → Option Value} {base : Heap} {N : List Str} {qual : Str} {scope : Scope} {f : Addr} {cd : Value} {A : Around} {outer : List Env} {s : Shared} {H : Hp} {E : XK}
theorem pass_cx : Passes (CXF P w) (cxOf (CXF P w) P w K mg base N qual scope f cd A outer s H E) E := fun pins σ H1 s1 e s' I ⟨B, H', ea, cls, he, fl, hE⟩ => by
  subst he
  exact thn (flies_out (B := B) (H' := H') (cls := cls) I rfl rfl rfl fl) fun _ s'' x => ⟨B, H', ea, cls, rfl, x, hE⟩
theorem raises_cx : Raises (cxOf (CXF P w) P w K mg base N qual scope f cd A outer s H E) E := fun pins σ H1 s1 ea cls vs h' I mk hE =>
  thn (flies_made (cls := cls) I rfl rfl rfl mk) fun _ s'' ⟨B, x⟩ => ⟨B, H1, ea, cls, rfl, x, hE⟩
end
theorem passF {P : Program} {w : World} {X : Cx} : Passes (CXF P w) X E0 := fun _ _ _ _ _ _ _ ⟨_, _, _, _, _, _, h⟩ => h.elim
/-- a def from which none leaves is one of any way that exceptions go -/
theorem FnOk.cx {P : Program} {w : World} {K : PySem.W.Frag} {mg : Str → Option Value} {base : Heap} {CX : CXT} {k : Nat} {f : Addr} {fd : FuncData} {ps : List Str} {sp : Sp} (F : FnOk P w K mg base CX0 k f fd ps sp) :
    FnOk P w K mg base CX k f fd ps sp := ⟨F.len, fun A outer s H args us vs Q E hr he hb hv hs => codeAny_mono (F.run A outer s H args us vs Q E hr he hb hv hs) fun r s' h => by
      cases r with
      | ok fl => cases fl <;> exact h
      | error e => exact False.elim h⟩
/-- the rule for a def that may raise -/
theorem Fun.okE {P : Program} {w : World} {K : PySem.W.Frag} {mg : Str → Option Value} {base : Heap} {x qual : Str} {st : Stmt} {f : Addr} {fd : FuncData} {N ps : List Str} {k : Nat} {sp : Sp} (F : Fun K x qual st f fd) (S : FnScope N ps (defScope st)) (len : ∀ vs H Q E, sp vs H Q E → vs.length = ps.length)
    (hbody : ∀ (cdv : Value) (A : Around) (outer : List Env) (s : Shared) (H : Hp) (vs : List V) (Q : VK) (E : XK), Room k (A.deeper (envOfC qual (defScope st) s.heap.objs.size f cdv)) → sp vs H Q E →
      ∃ t, PSs (cxOf (CXF P w) P w K mg base N qual (defScope st) f cdv A outer s H E) (defBody st) t ∧ t { nx := fun _ H' => Q .non H', rt := Q } (start N vs) H) : FnOk P w K mg base (CXF P w) (k + 1) f fd ps sp := by
  obtain ⟨oc, od, kV, doc, pm, an, cdv, ct, osl, rfl, lk, hcd⟩ := F.ex
  exact fn_of lk hcd S len fun A outer s H vs Q E hr hsp => hbody cdv A outer s H vs Q E hr hsp
end L2
set_option Elab.async false
set_option linter.all false
set_option maxRecDepth 100000
namespace L2
open PySem PySem.Spec PyProof.Rows
abbrev bmVE : List Value := [.type "ValueError", .type "Exception", .type "BaseException", .type "object"]
theorem excObj_of {K : PySem.W.Frag} {h : Heap} {C : Addr} {bmB : List Value} {newId : String} (X : K.In h) (q : PySem.W.excIn K C bmB newId = true) :
    ∃ bm N nm qn bs hd sn sub ab col dd k0 k1 k2 k3 k5 mN, h.get? C = some (excClassObj nm qn C N bs bm hd sn sub ab col dd k0 k1 k2 k3 k5 newId) ∧ h.Ns N mN ∧ mN "__init__" = none ∧ OwnTail h bmB bm := by
  cases hl : K.lookup C with
  | none =>
    unfold PySem.W.excIn at q
    rw [hl] at q
    cases q
  | some o =>
    have ho := X _ _ hl
    unfold PySem.W.excIn at q
    rw [hl] at q
    split at q
    · rename_i dd cd sl z
      cases z
      split at q
      · rename_i C' bm k0 k1 k2 k3 nId k5 hm hs
        rw [Bool.and_eq_true, Bool.and_eq_true, Bool.and_eq_true, Bool.and_eq_true, Bool.and_eq_true] at q
        obtain ⟨⟨⟨⟨⟨q1, q2⟩, q3⟩, q4⟩, q5⟩, q6⟩ := q
        have e1 := beq_iff_eq.mp q1
        have e2 := beq_iff_eq.mp q2
        have e3 : cd.hasDel = false := by simpa using q3
        subst e1 e2
        rcases cd with ⟨nm, bs, mro, ns, qn, hd, sn, sub, ab, col, del⟩
        have hm' : mro = Value.ref C' :: bm := hm
        have e3' : del = false := e3
        subst hm' e3'
        have hs' : sl = #[k0, k1, k2, k3, some (.builtin nId), k5] := by
          obtain ⟨sl⟩ := sl
          exact congrArg Array.mk hs
        subst hs'
        exact ⟨bm, ns, nm, qn, bs, hd, sn, sub, ab, col, dd, k0, k1, k2, k3, k5, _, ho, .of_isNs (PySem.W.isNs_of_in X q5), PySem.W.nsMap_none_of_in X q5 (beq_iff_eq.mp q6), PySem.W.tail_of_in X q4⟩
      · cases q
    · cases q
def tRaise (cls : Value) (E : XK) (ta : TA) : TS := fun _ σ H => ta σ H fun vs H1 => vs.length ≤ sizeLine ∧ E cls none H1
section
variable {X : Cx} {x : Str} {C : Addr} {e : Expr} {es : List Expr} {ta : TA} {E : XK} {np cpos pos : Pos}
theorem ps_raise (hc : X.calm = true) (hR : Raises X E) (hm : X.mg x = some (.ref C)) (hC : PySem.W.excIn X.K C bmVE "ValueError.__new__" = true) (ha : PA X (e :: es) ta)
    (hg : Gl X x := by rfl) (hdb : (x == ("__debug__" : Str)) = false := by decide) (he : starEach (e :: es) X.env = (false, eval e X.env) :: starEach es X.env := by rfl)
    (hpl : (backTo cpos (starEach es X.env)).any (·.1) = false := by rfl) : PS X (.Raise (some (.Call (.Name x np) (e :: es) [] cpos)) none pos) (tRaise (.ref C) E ta) := by
  intro pins s σ H D I h
  obtain ⟨tl, N, nm, q, bs, hdct, sn, sub, ab, col, dd, k0, k1, k2, k3, k5, mN, hCo, hN, hni, T⟩ := excObj_of I.mod.kin hC
  have F := PySem.F.excBase_ValueError
  refine wpAny_Raise_call_subT (C := C) (nm := nm) (q := q) (N := N) (bs := bs) (bm := tl) (hdct := hdct) (sn := sn) (sub := sub) (ab := ab) (col := col) (dd := dd) (k0 := k0) (k1 := k1) (k2 := k2) (k3 := k3) (k5 := k5) F (mN := mN) (T.hasType F.hasBase)
    (I.ok.hd hc) (by rw [he]; exact hpl) hni (ld_glob I hg hm ⟨rfl, ?_⟩ hdb)
  have hw := ha cpos pins s σ H _ I h
  rw [he] at hw ⊢
  refine Calls.evalArgs_plain (thn hw fun us s2 ⟨vs, H1, I1, r, hz, hE⟩ => ?_)
  exact ⟨rfl, by rw [← r.length]; exact hz, I1.bk _ _ hCo, hN.keeps I1.bk, T.keeps I1.bk, fun h' ea mk => hR pins σ H1 s2 ea _ _ h' I1 mk hE⟩
end
end L2
set_option Elab.async false
set_option linter.all false
set_option maxRecDepth 100000
namespace PySem.W
open PySem PySem.Spec PySem.Calls PyProof.Rows Builtin Builtin.ObjectAttr Builtin.Getset_descriptor
structure XC (K : Frag) (D : Addr) : Prop where
  ga : findIn K (.ref D) "__getattribute__" = some (some (.builtin "BaseException.__getattribute__"))
  nga : findIn K (.ref D) "__getattr__" = some none
  cl : findIn K (.ref D) "__class__" = some (some (.builtin "object.__class__"))
  gt : specialIn K (.builtin "object.__class__") "__get__" = some (some (.builtin "getset_descriptor.__get__"))
  tk : takesIn K (.builtin "object.__class__") = some true
  mo : mroIn K D (.type "object") = some true
  mb : mroIn K D (.type "BaseException") = some true
  isc : (clsIn K D).isSome = true
section
variable {prog : Program} {w : World} {A : Around} {E : Value → Shared → Prop} {s : Shared} {K : Frag} {x D : Addr} {R : Result → Shared → Prop} {tk : Tok}
def AtX (x D : Addr) (h : Heap) : Prop := ∃ o, h.get? x = some o ∧ o.cls = .ref D
theorem AtX.type {M : Model} {h : Heap} (I : AtX x D h) : Looks M h (typeOf (.ref x)) (.ref D) := by
  rcases I with ⟨o, at_x, of_D⟩
  exact of_D ▸ (Looks.ld at_x).andThen .now
theorem xc_class_get {tp : Value} (X : K.In s.heap) (I : AtX x D s.heap) (F : XC K D)
    (h : R (.ok (.ret (.ref D))) s) : codeAny (model prog w) A (.call (.builtin "getset_descriptor.__get__") ⟨[.builtin "object.__class__", .ref x, tp], []⟩) R s := by
  rcases s with ⟨hp0, gn0, dw0, tk0, os0⟩
  have J0 := I.type (M := model prog w); have J1 := looks_mroIn (M := model prog w) X F.mo
  refine codeAny_call_builtin KF.slot_gs.plain KF.entry_gs ?_
  refine KF.slot_gs.check _ _ _ _ _ _ _ _ KF.type_class (KF.args_gs _ _ _) ?_
  unfold Builtin.«getset_descriptor.__get__»; unfold descrGet
  rw [dga_obj]; refine wpAny_bind (wpAny_pure ?_)
  unfold descrGetter; unfold descrCheckInstance; unfold descrNameAndClass isInstance
  simp only [KF.owner_class]; (repeat lk)
  refine And.intro (Code.quiet_builtin _ (by decide +kernel)) (codeAny_builtin KF.entry_class ?_)
  unfold Builtin.«object.__class__» shownTypeOf; (repeat lk)
  exact h
theorem xc_find {M : Model} {h : Heap} (X : K.In h) (F : XC K D) : Looks M h (find (.ref x) (.ref D) "__class__") (.bind (.builtin "getset_descriptor.__get__") (.builtin "object.__class__")) := by
  have J1 := looks_findIn (M := M) X F.cl; have J2 := looks_specialIn (M := M) X F.gt; have J3 := looks_takesIn (M := M) X F.tk
  exact J1.andThen ((show Looks M h (getOf (some (.builtin "object.__class__"))) _ from J2).andThen ((show Looks M h (dataDescriptor? (some _) (some _)) (some (_, _)) from J3.andThen .now).andThen (Looks.tag .now)))
theorem xc_entry {Q : Fin → Shared → Prop} (X : K.In s.heap) (I : AtX x D s.heap) (F : XC K D) (hq : Q (.done (.ret (.ref D))) s) :
    wpAny (model prog w) A (Builtin.«object.__getattribute__» ⟨[.ref x, .str "__class__" tk], []⟩) Q E s := by
  have J1 := xc_find (M := model prog w) (x := x) X F; have J0 := I.type (M := model prog w)
  rcases s with ⟨hp0, gn0, dw0, tk0, os0⟩
  unfold Builtin.«object.__getattribute__»; (repeat (any_goals (first | assumption | (with_reducible refine Looks.at (by assumption) ?_) | wp_step)))
  refine xc_class_get X I F ?_
  (repeat (any_goals (first | assumption | (with_reducible refine Looks.at (by assumption) ?_) | wp_step)))
theorem xc_check {M : Model} {nameV : Value} {Q : Unit → Shared → Prop} (X : K.In s.heap) (I : AtX x D s.heap) (F : XC K D) (hq : Q () s) : wpAny M A (checkBuiltinCall "BaseException.__getattribute__" ⟨[.ref x, nameV], []⟩) Q E s := by
  have kd : builtinKind "BaseException.__getattribute__" = some .slot := by decide +kernel
  have hp : splitId "BaseException.__getattribute__" = some ("BaseException", "__getattribute__") := by decide +kernel
  have J0 := I.type (M := M); have J1 := looks_mroIn (M := M) X F.mb; have ha := PySem.F.args_bexc_ga (.ref x) nameV
  rcases s with ⟨hp0, gn0, dw0, tk0, os0⟩
  simp only [checkBuiltinCall, kd, hp]
  refine wpAny_bind ?_
  unfold isInstance
  (repeat (first | (with_reducible refine Looks.at (by assumption) ?_) | wp_step))
  exact hq
theorem xc_call (X : K.In s.heap) (I : AtX x D s.heap) (F : XC K D) (hq : R (.ok (.ret (.ref D))) s) : codeAny (model prog w) A (.call (.builtin "BaseException.__getattribute__") ⟨[.ref x, .str "__class__" tk], []⟩) R s :=
  codeAny_call_builtin PySem.F.excAttr_ValueError.ga.plain PySem.F.entry_bexc_ga (xc_check X I F (xc_entry X I F hq))
theorem xc_by {Q : Value → Shared → Prop} (X : K.In s.heap) (I : AtX x D s.heap) (F : XC K D) (hq : Q (.ref D) s) : wpAny (model prog w) A (getAttrBy (.ref x) (.str "__class__" tk) false) Q E s := by
  have J0 := I.type (M := model prog w); have J1 := looks_findIn (M := model prog w) X F.ga; have J2 := looks_findIn (M := model prog w) X F.nga
  have f3 := PySem.F.excAttr_ValueError.ga.bind (.ref x)
  have unlike : (Value.builtin "BaseException.__getattribute__" == Value.builtin "object.__getattribute__") = false := by decide +kernel
  have hx1 : (onTheHeap (Value.ref D) && Value.builtin "BaseException.__getattribute__" == Value.builtin "object.__getattribute__") = false := by rw [unlike]; rfl
  rcases s with ⟨hp0, gn0, dw0, tk0, os0⟩
  (repeat (any_goals (first | assumption | (with_reducible refine Looks.at (by assumption) ?_) | wp_step)))
  refine xc_call X I F ?_
  (repeat (any_goals (first | assumption | (with_reducible refine Looks.at (by assumption) ?_) | wp_step)))
theorem xc_attr {Q : Option Value → Shared → Prop} (X : K.In s.heap) (I : AtX x D s.heap) (F : XC K D) (hq : Q (some (.ref D)) { s with toks := s.toks + 1 }) : wpAny (model prog w) A (getAttr? (.ref x) "__class__") Q E s := by
  rcases s with ⟨hp0, gn0, dw0, tk0, os0⟩
  unfold getAttr? getAttrBy?
  (repeat (any_goals (first | assumption | (with_reducible refine xc_by (K := K) (s := ⟨hp0, gn0, dw0, tk0 + 1, os0⟩) X I F ?_) | wp_step)))
theorem kitx_exc (F : XC K D) : KitX K (.ref x) (.ref D) (AtX x D) where
  ty := fun _ _ _ I => I.type
  it := fun _ _ X _ => by
    obtain ⟨cd, hc⟩ := Option.isSome_iff_exists.mp F.isc
    unfold clsIn at hc
    split at hc
    · rename_i ho
      intro A' Q' E' s' k q
      unfold isType loadHead; exact wpAny_bind (wpAny_loadPart (k _ _ (X _ _ ho)) (wpAny_pure q))
    · cases hc
  ne := fun h tp dd its n sl inK htp => by
    obtain ⟨cd, hc⟩ := Option.isSome_iff_exists.mp F.isc
    refine Bool.eq_false_iff.mpr fun same => ?_
    cases (Value.ref.inj (beq_iff_eq.mp same) : D = tp)
    unfold clsIn at hc
    split at hc
    · rename_i ho
      cases (inK _ _ ho).symm.trans htp
    · cases hc
  ca := fun X I k => xc_attr X I F k
end
end PySem.W
set_option Elab.async false
set_option linter.all false
set_option maxRecDepth 100000
namespace L2
open PySem PySem.Spec PyProof.Rows
theorem ObjOk.obj {P : Program} {w : World} {H : Hp} {h : Heap} {a : Addr} {o : HO} (x : ObjOk P w H h a o) : ∃ u, h.get? a = some u := by
  cases o with
  | lst xs => obtain ⟨_, _, _, _, e⟩ := x; exact ⟨_, e⟩
  | tup xs => obtain ⟨_, _, _, ob, e, _⟩ := x; exact ⟨_, e⟩
  | dK kvs => obtain ⟨_, _, _, _, o, _, _, e, _⟩ := x; exact ⟨_, e⟩
  | dT kvs => obtain ⟨_, _, _, _, ob, _, _, e, _⟩ := x; exact ⟨_, e⟩
  | set S n => obtain ⟨ob, _, _, _, e, _⟩ := x; exact ⟨_, e⟩
  | ins C dx fs => obtain ⟨_, _, _, e, _⟩ := x; exact ⟨_, e⟩
  | own y => obtain ⟨ob, e⟩ := x; exact ⟨_, e⟩
  | xd fs => obtain ⟨_, ⟨od, _, _, e, _⟩, _⟩ := x; exact ⟨_, e⟩
  | rng lo hi => obtain ⟨_, _, _, e⟩ := x; exact ⟨_, e⟩
  | frz ob u => obtain ⟨e, _⟩ := x; exact ⟨_, e⟩
  | tbl ps => exact ⟨_, x⟩
  | met f y => exact ⟨_, x⟩
  | ext φ => obtain ⟨_, ⟨ob, e⟩, _⟩ := x; exact ⟨_, e⟩
theorem HOk.none_of {P : Program} {w : World} {H : Hp} {h : Heap} {a : Addr} (x : HOk P w H h) (e : h.get? a = none) : H a = none := by
  cases q : H a with
  | none => rfl
  | some u =>
    obtain ⟨o, z⟩ := (x a u q).obj
    rw [e] at z; cases z
/-- an exception that was caught, by its class -/
def XO (ea : Addr) (cls : Value) : HO := .ext fun h => ∃ o, h.get? ea = some o ∧ o.cls = cls
theorem HOk.add {P : Program} {w : World} {H : Hp} {h : Heap} {a : Addr} {o : HO} (x : HOk P w H h) (hn : H a = none) (new : ObjOk P w (upd H a o) h a o) : HOk P w (upd H a o) h := fun b u e => by
  by_cases hb : b = a
  · subst hb; rw [upd_same] at e; cases e; exact new
  · rw [upd_ne hb] at e
    exact (x b u e).stay (fun c v _ q => q) (fun c q => by rw [upd_ne (ne_of_none q hn)]; exact q) fun c xs q => by rw [upd_ne (ne_of_none q hn)]; exact q
abbrev Cx.bod (X : Cx) (pn : List (Addr × Obj)) (Ex : Value → Shared → Prop) : Cx := { X with pn := pn, xe := Ex }
def Cx.han (X : Cx) (ea : Addr) : Cx := { X with A := X.A.mark (some (.ref ea)), calm := false, xe := fun _ _ => False }
section
variable {X : Cx} {pins pins' : List (Addr × Obj)} {σ : St} {H H' H1 : Hp} {s s1 s' : Shared} {B : Heap} {ea : Addr} {cls : Value} {M : Model} {A : Around} {E Ex : Value → Shared → Prop}
theorem Cx.Ok.bod (ok : X.Ok) (pn : List (Addr × Obj)) : (X.bod pn Ex).Ok :=
  ⟨ok.mod, ok.kind, ok.glob, ok.blt, ok.above, ok.inj, ok.has, ok.cab, ok.hd, ok.frames, ok.stk, ok.exf, ok.bs, ok.bsz, ok.noex, ok.exfs, ok.funs, ok.frf⟩
theorem Cx.Ok.unbod {pn : List (Addr × Obj)} (ok : (X.bod pn Ex).Ok) : X.Ok :=
  ⟨ok.mod, ok.kind, ok.glob, ok.blt, ok.above, ok.inj, ok.has, ok.cab, ok.hd, ok.frames, ok.stk, ok.exf, ok.bs, ok.bsz, ok.noex, ok.exfs, ok.funs, ok.frf⟩
theorem Cx.Ok.han (ok : X.Ok) (ea : Addr) : (X.han ea).Ok :=
  ⟨ok.mod, ok.kind, ok.glob, ok.blt, ok.above, ok.inj, ok.has, ok.cab, (fun z => nomatch z), ok.frames, ok.stk, ok.exf, ok.bs, ok.bsz, ok.noex, ok.exfs, ok.funs, ok.frf⟩
theorem Inv.toB (I : Inv X pins σ H s) : Inv (X.bod (X.pn ++ pins) Ex) [] σ H s :=
  ⟨I.ok.bod _, I.os, I.bare, I.base, I.loc, I.cell, I.free, I.freeC, fun p hp => I.pin p (by rw [List.append_nil] at hp; exact hp), I.hok, I.len⟩
theorem Inv.ofB (I : Inv (X.bod (X.pn ++ pins) Ex) pins' σ H s) : Inv X pins σ H s :=
  ⟨I.ok.unbod, I.os, I.bare, I.base, I.loc, I.cell, I.free, I.freeC, fun p hp => I.pin p (List.mem_append_left _ hp), I.hok, I.len⟩
theorem Inv.toH (I : Inv X pins σ H s) : Inv (X.han ea) pins σ H s := ⟨I.ok.han ea, I.os, I.bare, I.base, I.loc, I.cell, I.free, I.freeC, I.pin, I.hok, I.len⟩
theorem Inv.ofH (ok : X.Ok) (I : Inv (X.han ea) pins σ H s) : Inv X pins σ H s := ⟨ok, I.os, I.bare, I.base, I.loc, I.cell, I.free, I.freeC, I.pin, I.hok, I.len⟩
theorem SP.ofB {D : Ends} {f : Flow} (h : SP (X.bod (X.pn ++ pins) Ex) [] D f s') : SP X pins D f s' := by
  cases f with
  | next => obtain ⟨σ', H', I, q⟩ := h; exact ⟨σ', H', I.ofB, q⟩
  | brk => obtain ⟨σ', H', I, q⟩ := h; exact ⟨σ', H', I.ofB, q⟩
  | cont => obtain ⟨σ', H', I, q⟩ := h; exact ⟨σ', H', I.ofB, q⟩
  | ret u => obtain ⟨v, σ', H', I, r, q⟩ := h; exact ⟨v, σ', H', I.ofB, r, q⟩
/-- behind a callee's exception that is caught here: the exception is a thing of the heap -/
theorem Inv.caught {h : Heap} {a0 : Value} (I : Inv X pins σ H s) (hst : X.stack = X.env :: X.outer) (f : FliesAt X.prog X.w X.stack H s B H' ea cls s') (fl : Heap.FlyingW B (X.env :: X.outer) ea cls a0 h) (sm : s'.heap.UpToSlots h) :
    H' ea = none ∧ Inv X pins σ (upd H' ea (XO ea cls)) { s' with heap := h } := by
  have hn : H' ea = none := f.hok.none_of fl.2.1
  obtain ⟨oe, he, hce⟩ := fl.there
  obtain ⟨a1, f1⟩ := f.fly
  have nea : ∀ b o, s.heap.get? b = some o → b ≠ ea := fun b o e z => by
    subst z
    by_cases hb : b ∈ frs X.stack
    · have hb' := hb
      rw [hst] at hb'
      obtain ⟨_, o', e', nf⟩ := fl.2.2.1.mem hb'
      obtain ⟨oe, vs, _, _, _, e1, _, e2, _⟩ := fl.2.2.2
      rw [e'] at e1; cases e1
      exact nf vs e2
    · obtain ⟨o', e'⟩ := f.there b o e hb
      rw [fl.2.1] at e'; cases e'
  refine ⟨hn, I.call' (ch := []) f.os ⟨fun b o e n hb _ => fl.1 b o (f.full b o e n hb), fun b o e n hb _ => ?_, fun b o e n _ => ?_, fun b o e _ => ?_, fun b xs q => ?_, fun b o u q => ?_, fun b ps q => ?_⟩ ?_ f.bare fun b z => absurd z (by simp)⟩
  · obtain ⟨sl, e1⟩ := f.un.slot b o e n hb (by simp)
    obtain ⟨_, o', e', nf⟩ := f1.2.2.1.mem hb
    rw [e1] at e'; cases e'
    obtain ⟨sl', e2⟩ := sm b _ e1 nf
    exact ⟨sl', e2⟩
  · rw [upd_ne (nea b o e)]; exact f.un.free b o e n (by simp)
  · by_cases hb : b ∈ frs X.stack
    · have hb' := hb
      rw [hst] at hb'
      obtain ⟨_, o', e', _⟩ := fl.2.2.1.mem hb'
      exact ⟨o', e'⟩
    · obtain ⟨o', e'⟩ := f.there b o e hb
      exact ⟨o', fl.1 b o' e'⟩
  · have z := f.un.tups b xs q
    rw [upd_ne (ne_of_none z hn)]; exact z
  · have z := f.un.frzs b o u q
    rw [upd_ne (ne_of_none z hn)]; exact z
  · obtain ⟨m, z⟩ := f.un.tbls b ps q
    exact ⟨m, by rw [upd_ne (ne_of_none z hn)]; exact z⟩
  · exact (f.hok.kept fun b u e => fl.1 b u e).add hn ⟨⟨oe, he, hce⟩, ⟨oe, he⟩, fun h1 h2 ⟨o, e, c⟩ k => ⟨o, k o e, c⟩⟩
/-- the name behind as goes -/
theorem unbind_ok {i : Nat} {n : Str} {pos : Pos} {Q : Unit → Shared → Prop} (I : Inv X pins σ H s) (hN : X.N.Nodup) (hi : X.N[i]? = some n) (hl : X.env.scope.names.lookup n = some .local)
    (h : ∀ s', Inv X pins (σ.set i none) H s' → Q () s') : wpAny M A (do bindName X.env n .none; unbindBehindTheSuite X.env n pos) Q E s := by
  obtain ⟨m, hn, hlk⟩ := id I.loc
  have hcls : (X.env.scope.kind == .class || (X.env.scope.kind == .module && X.env.locals != X.env.globals)) = false := by rw [I.ok.kind]; rfl
  refine wpAny_nameGoes_keeps hl hn hcls fun h' v hn' hs => h _ ?_
  obtain ⟨oL, _, _, hoL, _⟩ := id hn
  have ne0 : ∀ b o, X.s_0.heap.get? b = some o → b ≠ X.env.locals := fun b o e => Nat.ne_of_lt (Nat.lt_of_lt_of_le (Heap.lt_size e) I.ok.above)
  refine ⟨I.ok, I.os, I.bare, ⟨fun b o e n hb hx => (hs.2 b (ne0 b o e)).trans (I.base.keep b o e n hb hx), fun b o e n hb hx => ?_, I.base.free, fun b o e hx => ?_, I.base.tups, I.base.frzs, I.base.tbls⟩, ⟨_, hn', fun j y v' e1 e2 e3 => ?_⟩, fun y c e => ?_, I.free, I.freeC, fun p hp => ?_, fun b ob e => ?_, by simpa using I.len⟩
  · obtain ⟨sl, e1⟩ := I.base.slot b o e n hb hx
    exact ⟨sl, (hs.2 b (ne0 b o e)).trans e1⟩
  · obtain ⟨o', e1⟩ := I.base.there b o e hx
    exact ⟨o', (hs.2 b (ne0 b o e)).trans e1⟩
  · have hj : j ≠ i := fun z => by
      subst z
      by_cases hz : j < σ.length
      · rw [List.getElem?_set_self hz] at e2; cases e2
      · rw [List.getElem?_eq_none (by rw [List.length_set]; omega)] at e2; cases e2
    rw [List.getElem?_set_ne (Ne.symm hj)] at e2
    obtain ⟨u', r', q⟩ := hlk j y v' e1 e2 e3
    refine ⟨u', r', ?_⟩
    rcases q with ⟨k, e⟩ | ⟨k, c, e, z⟩
    · refine .inl ⟨k, ?_⟩
      have : y ≠ n := fun e => hj (nodup_ix hN e1 (e ▸ hi))
      show (if y = n then v else m y) = some u'; rw [if_neg this]; exact e
    · exact .inr ⟨k, c, e, z.sameBut hs (I.cne y c e)⟩
  · obtain ⟨w', z⟩ := I.cell y c e
    exact ⟨w', z.sameBut hs (I.cne y c e)⟩
  · obtain ⟨e, n, ne, nf, d⟩ := I.pin p hp
    exact ⟨(hs.2 p.1 ne).trans e, n, ne, nf, d⟩
  · refine (I.hok b ob e).stay (fun c w' hc q => (hs.2 c ?_).trans q) (fun _ q => q) fun _ _ q => q
    intro z
    have fr := I.free
    rcases hc with hc | hc
    · rw [← z, hc] at fr; rw [fr] at e; cases e
    · rw [z, fr] at hc; cases hc
def unb (i : Nat) (D : Ends) : Ends := ⟨fun σ H => D.nx (σ.set i none) H, D.rt, fun σ H => D.bk (σ.set i none) H, fun σ H => D.ct (σ.set i none) H⟩
def tTry (K : PySem.W.Frag) (C : Addr) (n i : Nat) (tb : XK → TS) (ts : Addr → TS) : TS := fun D σ H =>
  tb (fun cls _ H1 => PySem.W.exmOne K cls (.ref C) = some true ∧ ∀ ea, H1 ea = none → ts ea (unb i D) ((List.replicate n none).set i (some (.ref ea))) (upd H1 ea (XO ea cls))) D σ H
theorem ps_try {x n : Str} {C : Addr} {i : Nat} {body suite : List Stmt} {b0 : Stmt} {tb : XK → TS} {ts : Addr → TS} {hp np pos : Pos} (hX : X.ex = []) (hst : X.stack = X.env :: X.outer) (hf : X.env.frame = some X.env.locals)
    (hN : X.N.Nodup) (hi : X.N[i]? = some n) (hl : X.env.scope.names.lookup n = some .local) (hm : X.mg x = some (.ref C))
    (hb : ∀ (pn : List (Addr × Obj)) (Ex : Value → Shared → Prop) (E : XK), Passes (CXF X.prog X.w) (X.bod pn Ex) E → PSs (X.bod pn Ex) body (tb E))
    (hs : ∀ ea, PSs (X.han ea) (b0 :: suite) (ts ea)) (hg : Gl X x := by rfl) (hdb : (x == ("__debug__" : Str)) = false := by decide) :
    PS X (.Try body [.ExceptHandler (some (.Name x np)) (some n) (b0 :: suite) hp] [] [] pos) (tTry X.K C X.N.length i tb ts) := by
  intro pins s σ H D I h
  refine wpAny_Try_except (wpAny_mono (hb (X.pn ++ pins) _ _ ?P [] s σ H D I.toB h) (fun f s1 q => ?_) fun _ _ z => z)
  case P =>
    intro pins' σ1 H1 s1 e s2 I1 hx
    obtain ⟨B, H2, ea, cls, rfl, fl, hmt, hts⟩ := hx
    have J1 : Inv X pins σ1 H1 s1 := I1.ofB
    obtain ⟨a0, fly⟩ := fl.fly
    have fly' : Heap.FlyingW B (X.env :: X.outer) ea cls a0 s2.heap := by rw [← hst]; exact fly
    refine wpAny_looks_onW (by rw [I.ok.frames, hst]) hf fly' fun h4 hh4 sm4 => ?_
    refine wpAny_landsW hh4 fun h5 fl5 sm5 => ?_
    have sm : s2.heap.UpToSlots h5 := sm4.trans sm5
    obtain ⟨hn, J5⟩ := J1.caught hst fl fl5 sm
    refine wpAny_handleBy_cons (codeAny_handlers_test (ld_glob (X := X.han ea) J5.toH hg hm ?_ hdb)) (by intro q; cases q)
    refine PySem.W.exm_one (K := X.K) J5.kIn ?_ hmt _ _ _ _ (fun _ _ z => z) ?_
    · obtain ⟨oe, he, hce⟩ := fl5.there
      exact hce ▸ (PySem.W.Looks.ld he).andThen .now
    refine codeAny_handlers_suite_as (lands_againW fl5 fun h6 fl6 sm6 => ?_)
    obtain ⟨_, J6⟩ := J1.caught hst fl fl6 (sm.trans sm6)
    have J7 : Inv (X.han ea) pins (List.replicate X.N.length none) (upd H2 ea (XO ea cls)) { s2 with heap := h6 } := J6.toH.weak (by rw [List.length_replicate]; exact J6.len.symm) fun j v z => by
      rw [List.getElem?_replicate] at z
      split at z <;> cases z
    refine store_ok (X := X.han ea) (v := .ref ea) J7 hN hi (.inl hl) rfl (fun s7 J8 => ?_) (.inr hl)
    refine wpAny_mono (hs ea pins s7 _ _ (unb i D) J8 (hts ea hn)) (fun f s8 q => ?_) fun _ _ z => False.elim z
    cases f with
    | next =>
      obtain ⟨σ', H', J, q⟩ := q
      exact unbind_ok (J.ofH I.ok) hN hi hl fun s9 J9 => ⟨_, H', J9, q⟩
    | brk =>
      obtain ⟨σ', H', J, q⟩ := q
      exact unbind_ok (J.ofH I.ok) hN hi hl fun s9 J9 => ⟨_, H', J9, q⟩
    | cont =>
      obtain ⟨σ', H', J, q⟩ := q
      exact unbind_ok (J.ofH I.ok) hN hi hl fun s9 J9 => ⟨_, H', J9, q⟩
    | ret u =>
      obtain ⟨v, σ', H', J, r, q⟩ := q
      exact unbind_ok (J.ofH I.ok) hN hi hl fun s9 J9 => ⟨v, _, H', J9, r, q⟩
  have q' := SP.ofB q
  cases f with
  | next => exact wpAny_execs_nil q'
  | brk => exact q'
  | cont => exact q'
  | ret u => exact q'
end
end L2
set_option Elab.async false
set_option linter.all false
set_option maxRecDepth 100000
namespace L2
open PySem PySem.Spec PyProof.Rows
structure RoomH (k : Nat) (A : Around) : Prop where
  dp : A.depth + 3 * k + 5 < recursionLimit
  un : A.units + 16 * k + 200 < cLine
  gd : A.guards = some []
theorem Room.toH {k : Nat} {A : Around} (r : Room k A) (e : Option Value) : RoomH k (A.mark e) := ⟨r.dp, r.un, r.gd⟩
theorem RoomH.mono {j k : Nat} {A : Around} (r : RoomH k A) (h : j ≤ k) : RoomH j A := ⟨by have := r.dp; omega, by have := r.un; omega, r.gd⟩
theorem RoomH.deeper {k : Nat} {A : Around} (r : RoomH (k + 1) A) (env : Env) : RoomH k (A.deeper env) :=
  ⟨by have := r.dp; show A.depth + 1 + 3 * k + 5 < _; omega, by have := r.un; show A.units + 3 + 16 * k + 200 < _; omega, by show A.guards = some []; exact r.gd⟩
theorem RoomH.depth {k : Nat} {A : Around} (r : RoomH k A) : A.depth < recursionLimit := by have := r.dp; omega
abbrev cxH (P : Program) (w : World) (K : PySem.W.Frag) (mg : Str → Option Value) (base : Heap) (N : List Str) (qual : Str) (scope : Scope) (f : Addr) (cd : Value) (A : Around) (outer : List Env) (s : Shared) (H : Hp) : Cx :=
  { cxOf CX0 P w K mg base N qual scope f cd A outer s H E0 with calm := false, xe := fun _ _ => False }
structure FnOkH (P : Program) (w : World) (K : PySem.W.Frag) (mg : Str → Option Value) (base : Heap) (k : Nat) (f : Addr) (fd : FuncData) (ps : List Str) (sp : Sp) : Prop where
  len : ∀ vs H Q E, sp vs H Q E → vs.length = ps.length
  run : ∀ (A : Around) (outer : List Env) (s : Shared) (H : Hp) (args : Args) (us : List Value) (vs : List V) (Q : VK), RoomH k A → Env0 P w K mg base A outer s H → BindsTo s fd args (ps.zip us) → Vals vs us → sp vs H Q E0 →
    codeAny (model P w) A (.call (.ref f) args) (CR CX0 outer P w H s Q E0) s
section
variable {P : Program} {w : World} {K : PySem.W.Frag} {mg : Str → Option Value} {base : Heap} {N ps : List Str} {qual x : Str} {scope : Scope} {f : Addr} {fd : FuncData} {cd : Value} {A : Around} {outer : List Env} {s s1 : Shared} {H : Hp} {us : List Value} {vs : List V} {k : Nat} {sp : Sp} {st : Stmt}
/-- .. the entry over A.mark none is one over A -/
theorem inv_startH (S : FnScope N ps scope) (e0 : Env0 P w K mg base A outer s H) (hl : vs.length = ps.length) (r : Vals vs us)
    (x : InCallC s s.heap.objs.size (bindL (envOfC qual scope s.heap.objs.size f cd).kindOf (ps.zip us) fun _ => none) (cellsFrom (s.heap.objs.size + 1) scope.names []) (bindC (envOfC qual scope s.heap.objs.size f cd).kindOf (ps.zip us) fun _ => none) s1) :
    Inv (cxH P w K mg base N qual scope f cd A outer s H) [] (start N vs) H s1 := by
  have I : Inv (cxOf CX0 P w K mg base N qual scope f cd ({ A with handled := none }) outer s H E0) [] (start N vs) H s1 := inv_start S rfl ⟨e0.frames, e0.mod, e0.bs, e0.bsz, e0.funs, e0.frf, e0.hok, e0.bare⟩ hl r x
  exact ⟨⟨I.ok.mod, I.ok.kind, I.ok.glob, I.ok.blt, I.ok.above, I.ok.inj, I.ok.has, I.ok.cab, (fun z => nomatch z), I.ok.frames, I.ok.stk, I.ok.exf, I.ok.bs, I.ok.bsz, I.ok.noex, I.ok.exfs, I.ok.funs, I.ok.frf⟩, I.os, I.bare, I.base, I.loc, I.cell, I.free, I.freeC, I.pin, I.hok, I.len⟩
theorem Fun.okH (F : Fun K x qual st f fd) (S : FnScope N ps (defScope st)) (len : ∀ vs H Q E, sp vs H Q E → vs.length = ps.length)
    (hbody : ∀ (cdv : Value) (A : Around) (outer : List Env) (s : Shared) (H : Hp) (vs : List V) (Q : VK), RoomH k (A.deeper (envOfC qual (defScope st) s.heap.objs.size f cdv)) → sp vs H Q E0 →
      ∃ t, PSs (cxH P w K mg base N qual (defScope st) f cdv A outer s H) (defBody st) t ∧ t { nx := fun _ H' => Q .non H', rt := Q } (start N vs) H) : FnOkH P w K mg base (k + 1) f fd ps sp := by
  obtain ⟨oc, od, kV, doc, pm, an, cdv, ct, osl, rfl, lk, hcd⟩ := F.ex
  refine ⟨len, fun A outer s H args us vs Q hr e0 hb r hsp => ?_⟩
  have hl := len _ _ _ _ hsp
  have KX : K.In s.heap := e0.mod.kin.keeps fun b o e => (e0.bs b o e).1
  have lim : s.heap.NoLimit := e0.mod.nolimit.keeps fun b o e => (e0.bs b o e).1
  have hkind : ∀ y ∈ ps.zip us, (defScope st).names.lookup y.1 = some .local ∨ ((defScope st).names.lookup y.1 = some .cell ∧ ((cellsFrom (s.heap.objs.size + 1) (defScope st).names []).lookup y.1).isSome = true) := fun ⟨n, v⟩ hy => by
    rcases S.par n (List.of_mem_zip hy).1 with q | q
    · exact .inl q
    · exact .inr ⟨q, PySem.W.cellsFrom_some _ _ _ (.inl q)⟩
  refine codeAny_call_function hr.depth (KX _ _ lk) rfl S.co S.gen rfl (PySem.W.codeRec_of KX hcd) (hb _ _ _ _ ?_)
  refine wpAny_newFunctionEnv_cells S.kind hkind fun env he s1 x => ?_
  subst he
  refine ⟨lim.keeps x.toInCall.keep, codeAny_func ?_⟩
  obtain ⟨t, ht, hq⟩ := hbody cdv A outer s H vs Q (hr.deeper _) hsp
  have I : Inv (cxH P w K mg base N qual (defScope st) f cdv A outer s H) [] (start N vs) H s1 := inv_startH S e0 hl r x
  refine wpAny_mono (ht [] s1 (start N vs) H _ I hq) (fun fl s' hs => ?_) fun e s' hs => False.elim hs
  have fin : ∀ {σ' : St} {H' : Hp} {v : V} {u : Value}, Inv (cxH P w K mg base N qual (defScope st) f cdv A outer s H) [] σ' H' s' → RelV v u → Q v H' → CE outer P w H s Q u s' :=
    fun {σ' H' v u} J rv q => ⟨v, H', J.os, J.bare, J.base, J.hok, rv, q⟩
  cases fl with
  | ret u =>
    obtain ⟨v, σ', H', J, rv, q⟩ := hs
    exact fin J rv q
  | next =>
    obtain ⟨σ', H', J, q⟩ := hs
    exact fin (v := V.non) (u := Value.none) J rfl q
  | brk =>
    obtain ⟨_, _, _, q⟩ := hs
    exact False.elim q
  | cont =>
    obtain ⟨_, _, _, q⟩ := hs
    exact False.elim q
end
section
variable {X : Cx} {k : Nat} {f : Addr} {fd : FuncData} {ps : List Str} {sp : Sp} {x : Str} {p pos : Pos} {e : Expr} {es : List Expr} {t : TA}
theorem pe_callH (F : FnOkH X.prog X.w X.K X.mg X.base k f fd ps sp) (hr : RoomH k X.A) (hg : Gl X x) (hm : X.mg x = some (.ref f)) (hk : PySem.W.keepIn X.K (.ref f) = true) (hb : Binds X.K fd ps [])
    (ha : PA X (e :: es) t) (hdb : (x == ("__debug__" : Str)) = false := by decide) (he : starEach (e :: es) X.env = (false, eval e X.env) :: starEach es X.env := by rfl) (hpl : (backTo pos (starEach es X.env)).any (·.1) = false := by rfl) :
    PE X (.Call (.Name x p) (e :: es) [] pos) (tCall sp [] E0 t) := by
  intro pins s σ H Q I h
  refine wpAny_Call_Name_kw (ld_glob I hg hm ?_ hdb)
  refine PySem.W.callWith_K (h₀ := X.base) I.ok.mod.kin hk (thn (ha pos pins s σ H _ I h) fun us s1 ⟨vs, H1, I1, r, q⟩ => ⟨I1.kIn, ?_⟩) he hpl
  have q : sp vs H1 Q E0 := by have z : sp (vs ++ []) H1 Q E0 := q; rw [List.append_nil] at z; exact z
  have hl : (us ++ []).length = ps.length := by rw [List.append_nil, ← r.length]; exact F.len _ _ _ _ q
  have hb' := hb s1 us I1.kIn hl
  rw [List.append_nil] at hb'
  refine wpAny_call (codeAny_mono (F.run X.A X.stack s1 H1 ⟨us, []⟩ us vs Q hr I1.env0 hb' r q) fun r s' hq => ?_)
  cases r with
  | error e => exact False.elim hq
  | ok fl =>
    cases fl with
    | ret u => exact I1.after hq
    | next => exact False.elim hq
    | brk => exact False.elim hq
    | cont => exact False.elim hq
/-- isinstance of a caught exception, a class of one's own or a built-in type -/
theorem call_isinstX : CallR X (.builtin "isinstance") (fun xs H Q => ∃ ea D b, (∃ x c, xs = [.ref ea, x] ∧ (x = .ref c ∧ PySem.W.kitOne X.K (.ref D) (.ref c) = some b)) ∧ H ea = some (XO ea (.ref D)) ∧ PySem.W.XC X.K D ∧ Q (.bl b) H) := by
  intro pins s σ H xs us Q I r h
  obtain ⟨ea, D, b, ⟨x, c, rfl, rfl, e⟩, he, F, q⟩ := h
  obtain ⟨u, v, rfl, ru, rv⟩ := Vals.two r
  cases rv
  cases ru
  obtain ⟨⟨o, h1, h2⟩, _⟩ := I.hok ea _ he
  exact PySem.W.kia_one (PySem.W.kitx_exc F) I.kIn ⟨o, h1, h2⟩ e (fun z => nomatch z) fun tk => ⟨.bl b, H, I.kept (h' := s.heap) (t' := tk) (fun _ _ e => e), rfl, q⟩
theorem call_isinstXT : CallR X (.builtin "isinstance") (fun xs H Q => ∃ ea D b c, xs = [.ref ea, .ty c] ∧ PySem.W.kitOne X.K (.ref D) (.type c) = some b ∧ H ea = some (XO ea (.ref D)) ∧ PySem.W.XC X.K D ∧ Q (.bl b) H) := by
  intro pins s σ H xs us Q I r h
  obtain ⟨ea, D, b, c, rfl, e, he, F, q⟩ := h
  obtain ⟨u, v, rfl, ru, rv⟩ := Vals.two r
  cases rv
  cases ru
  obtain ⟨⟨o, h1, h2⟩, _⟩ := I.hok ea _ he
  exact PySem.W.kia_one (PySem.W.kitx_exc F) I.kIn ⟨o, h1, h2⟩ e (fun z => nomatch z) fun tk => ⟨.bl b, H, I.kept (h' := s.heap) (t' := tk) (fun _ _ e => e), rfl, q⟩
end
end L2
set_option Elab.async false
set_option linter.all false
set_option maxRecDepth 100000
namespace L2
open PySem PySem.Spec PyProof.Rows
structure FnOkS (P : Program) (w : World) (K : PySem.W.Frag) (mg : Str → Option Value) (base : Heap) (CX : CXT) (k : Nat) (f : Addr) (fd : FuncData) (ps : List Str) (sp : Shared → Sp) : Prop where
  len : ∀ s vs H Q E, sp s vs H Q E → vs.length = ps.length
  run : ∀ (A : Around) (outer : List Env) (s : Shared) (H : Hp) (args : Args) (us : List Value) (vs : List V) (Q : VK) (E : XK), Room k A → Env0 P w K mg base A outer s H → BindsTo s fd args (ps.zip us) → Vals vs us → sp s vs H Q E →
    codeAny (model P w) A (.call (.ref f) args) (CR CX outer P w H s Q E) s
section
variable {P : Program} {w : World} {K : PySem.W.Frag} {mg : Str → Option Value} {base : Heap} {N ps : List Str} {qual x : Str} {f : Addr} {fd : FuncData} {k : Nat} {sp : Shared → Sp} {st : Stmt}
theorem Fun.okS (F : Fun K x qual st f fd) (S : FnScope N ps (defScope st)) (len : ∀ s vs H Q E, sp s vs H Q E → vs.length = ps.length)
    (hbody : ∀ (cdv : Value) (A : Around) (outer : List Env) (s : Shared) (H : Hp) (vs : List V) (Q : VK) (E : XK), Room k (A.deeper (envOfC qual (defScope st) s.heap.objs.size f cdv)) → sp s vs H Q E →
      ∃ t, PSs (cxOf CX0 P w K mg base N qual (defScope st) f cdv A outer s H E).nox (defBody st) t ∧ t { nx := fun _ H' => Q .non H', rt := Q } (start N vs) H) : FnOkS P w K mg base CX0 (k + 1) f fd ps sp := by
  obtain ⟨oc, od, kV, doc, pm, an, cdv, ct, osl, rfl, lk, hcd⟩ := F.ex
  refine ⟨len, fun A outer s H args us vs Q E hr e0 hb r hsp => ?_⟩
  have hl := len _ _ _ _ _ hsp
  have KX : K.In s.heap := e0.mod.kin.keeps fun b o e => (e0.bs b o e).1
  have lim : s.heap.NoLimit := e0.mod.nolimit.keeps fun b o e => (e0.bs b o e).1
  have hkind : ∀ y ∈ ps.zip us, (defScope st).names.lookup y.1 = some .local ∨ ((defScope st).names.lookup y.1 = some .cell ∧ ((cellsFrom (s.heap.objs.size + 1) (defScope st).names []).lookup y.1).isSome = true) := fun ⟨n, v⟩ hy => by
    rcases S.par n (List.of_mem_zip hy).1 with q | q
    · exact .inl q
    · exact .inr ⟨q, PySem.W.cellsFrom_some _ _ _ (.inl q)⟩
  refine codeAny_call_function hr.depth (KX _ _ lk) rfl S.co S.gen rfl (PySem.W.codeRec_of KX hcd) (hb _ _ _ _ ?_)
  refine wpAny_newFunctionEnv_cells S.kind hkind fun env he s1 x => ?_
  subst he
  refine ⟨lim.keeps x.toInCall.keep, codeAny_func ?_⟩
  obtain ⟨t, ht, hq⟩ := hbody cdv A outer s H vs Q E (hr.deeper _) hsp
  have I : Inv (cxOf CX0 P w K mg base N qual (defScope st) f cdv A outer s H E) [] (start N vs) H s1 := inv_start S hr.hd e0 hl r x
  refine wpAny_mono (ht.nox [] s1 (start N vs) H _ I hq) (fun fl s' hs => ?_) fun e s' hs => hs
  have fin : ∀ {σ' : St} {H' : Hp} {v : V} {u : Value}, Inv (cxOf CX0 P w K mg base N qual (defScope st) f cdv A outer s H E) [] σ' H' s' → RelV v u → Q v H' → CE outer P w H s Q u s' :=
    fun {σ' H' v u} J rv q => ⟨v, H', J.os, J.bare, J.base, J.hok, rv, q⟩
  cases fl with
  | ret u =>
    obtain ⟨v, σ', H', J, rv, q⟩ := hs
    exact fin J rv q
  | next =>
    obtain ⟨σ', H', J, q⟩ := hs
    exact fin (v := V.non) (u := Value.none) J rfl q
  | brk =>
    obtain ⟨_, _, _, q⟩ := hs
    exact False.elim q
  | cont =>
    obtain ⟨_, _, _, q⟩ := hs
    exact False.elim q
end
abbrev SpC := Hp → VK → XK → Prop
structure Clo (P : Program) (w : World) (K : PySem.W.Frag) (mg : Str → Option Value) (base : Heap) (k : Nat) (f : Addr) (H : Hp) (h : Heap) (spc : SpC) : Prop where
  run : ∀ (A : Around) (outer : List Env) (fs : List Addr) (s' : Shared) (H' : Hp) (Q : VK) (E : XK), Room k A → Env0 P w K mg base A outer s' H' → Un fs [] H H' h s'.heap → spc H' Q E →
    codeAny (model P w) A (.call (.ref f) ⟨[], []⟩) (CR (CXF P w) outer P w H' s' Q E) s'
  obj : ∀ (fs : List Addr) (H' : Hp) (h' : Heap), HOk P w H' h' → Un fs [] H H' h h' → ∃ o fd, h'.get? f = some o ∧ o.data = .func fd
section
variable {X : Cx} {k i : Nat} {f : Addr} {spc : SpC} {E : XK} {x : Str} {p pos : Pos}
def tClo (i : Nat) (f : Addr) (spc : SpC) (E : XK) : TE := fun σ H Q => σ[i]? = some (some (.ref f)) ∧ spc H Q E
/-- n(), n a name of ours that holds a closure -/
theorem pe_clo (C : Clo X.prog X.w X.K X.mg X.base k f X.H_0 X.s_0.heap spc) (hX : X.ex = []) (hr : Room k X.A) (hx : Passes (CXF X.prog X.w) X E) (hN : X.N[i]? = some x := by rfl)
    (hv : Vis X.env.scope x := by first | exact Or.inl rfl | exact Or.inr (Or.inl rfl) | exact Or.inr (Or.inr rfl)) (hd : (x == ("__debug__" : Str)) = false := by decide)
    (hcd : (x == ("__classdict__" : Str)) = false := by decide) : PE X (.Call (.Name x p) [] [] pos) (tClo i f spc E) := by
  intro pins s σ H Q I h
  obtain ⟨e, q⟩ := h
  have un : Un X.fs [] X.H_0 H X.s_0.heap s.heap := by have := I.base; rw [hX] at this; exact this
  obtain ⟨o, fd, ho, hd'⟩ := C.obj _ _ _ I.hok un
  refine wpAny_Call_Name_kw (thn (pe_var (pos := p) hN hv hd hcd pins s σ H (fun v H' => v = .ref f ∧ H' = H) I ⟨_, e, rfl, rfl⟩) fun u s1 ⟨v, H1, I1, ru, ev, eH⟩ => ?_)
  subst ev eH
  cases (show u = Value.ref f from ru)
  have un1 : Un X.fs [] X.H_0 H1 X.s_0.heap s1.heap := by have := I1.base; rw [hX] at this; exact this
  refine PySem.W.callWith_of (P := fun h => ∃ o fd, h.get? f = some o ∧ o.data = .func fd) rfl (fun h ⟨o, fd, ho, hd'⟩ => ⟨.frame, .inl rfl, (PySem.W.Looks.ld (part := none) ho).andThen (by rw [hd']; exact .now)⟩) (PyProof.Rows.evalArgs_nil3 ⟨C.obj _ _ _ I1.hok un1, ?_⟩)
  refine wpAny_call (codeAny_mono (C.run X.A X.stack _ s1 H1 Q E hr I1.env0 un1 q) fun r s' hq => ?_)
  cases r with
  | error e => exact hx pins σ H1 s1 e s' I1 hq
  | ok fl =>
    cases fl with
    | ret u => exact I1.after hq
    | next => exact False.elim hq
    | brk => exact False.elim hq
    | cont => exact False.elim hq
end
end L2
set_option Elab.async false
set_option linter.all false
set_option maxRecDepth 100000
namespace L2
open PySem PySem.Spec PyProof.Rows
theorem codeAmong_app {pos : Pos} {r : List Value} (zs : List Value) (h : TriplesOk zs) : codeAmong pos (zs ++ r) = (codeAmong pos zs).or (codeAmong pos r) := by
  fun_induction TriplesOk zs with
  | case1 => rfl
  | case2 a t b u x rest ih =>
    show codeAmong pos (.int a t :: .int b u :: x :: (rest ++ r)) = _
    simp only [codeAmong]
    split
    · rfl
    · exact ih h
  | case3 => exact h.elim
theorem triples_app {r : List Value} (zs : List Value) (h : TriplesOk zs) (hr : TriplesOk r) : TriplesOk (zs ++ r) := by
  fun_induction TriplesOk zs with
  | case1 => exact hr
  | case2 a t b u x rest ih => exact ih h
  | case3 => exact h.elim
/-- the table at P: its code records bear the name q and are known -/
def TbOk (q : Str) (P : Addr) (H : Hp) : Prop := ∃ ps, H P = some (.tbl ps) ∧ TriplesOk ps.toList ∧ ∀ pos cv, codeAmong pos ps.toList = some cv →
  ∃ c' oc vs t, cv = .ref c' ∧ H c' = some (.frz oc (.own c')) ∧ oc.data = .fields vs ∧ vs[1]? = some (.str q t)
abbrev TbM := Addr → Option Str
def TbS (T : TbM) (H : Hp) : Prop := ∀ P q, T P = some q → TbOk q P H
/-- all that is tracked stays, but tables, that grow -/
def Grow (H H' : Hp) : Prop := ∀ b o, H b = some o → (∀ ps, o ≠ .tbl ps) → H' b = some o
theorem Grow.refl {H : Hp} : Grow H H := fun _ _ e _ => e
theorem Grow.trans {H H1 H2 : Hp} (a : Grow H H1) (b : Grow H1 H2) : Grow H H2 := fun c o e n => b c o (a c o e n) n
theorem Grow.upd {H : Hp} {a : Addr} {o : HO} (n : H a = none) : Grow H (upd H a o) := fun b u e _ => by rw [upd_ne (ne_of_none e n)]; exact e
theorem Grow.get {H H' : Hp} (g : Grow H H') {a : Addr} {o : HO} (e : H a = some o) (n : ∀ ps, o ≠ .tbl ps := by intro ps z; cases z) : H' a = some o := g a o e n
theorem TbS.upd {T : TbM} {H : Hp} {a : Addr} {o : HO} (t : TbS T H) (n : H a = none) : TbS T (L2.upd H a o) := fun P q e => by
  obtain ⟨ps, h1, h2, h3⟩ := t P q e
  refine ⟨ps, by rw [upd_ne (ne_of_none h1 n)]; exact h1, h2, fun pos cv z => ?_⟩
  obtain ⟨c', oc, vs, tk, z1, z2, z3⟩ := h3 pos cv z
  exact ⟨c', oc, vs, tk, z1, by rw [upd_ne (ne_of_none z2 n)]; exact z2, z3⟩
theorem TbS.set {T : TbM} {H : Hp} {a : Addr} {o : HO} {xs : List V} (t : TbS T H) (n : H a = some (.lst xs)) : TbS T (L2.upd H a o) := fun P q e => by
  obtain ⟨ps, h1, h2, h3⟩ := t P q e
  refine ⟨ps, by rw [upd_ne (ne_of h1 n fun z => nomatch z)]; exact h1, h2, fun pos cv z => ?_⟩
  obtain ⟨c', oc, vs, tk, z1, z2, z3⟩ := h3 pos cv z
  exact ⟨c', oc, vs, tk, z1, by rw [upd_ne (ne_of z2 n fun z => nomatch z)]; exact z2, z3⟩
/-- what a def with lambdas wants of the base -/
structure TabB (base : Heap) (mg : Str → Option Value) (c P : Addr) : Prop where
  hd : PySem.W.CodeHd base c P
  bl : base.BuiltinsAt mg P
def closL (cells : List (Str × Addr)) : List (Str × NameKind) → List (Str × Addr) → List (Str × Addr)
  | [], acc => acc
  | (x, k) :: r, acc => if k == .free then closL cells r ((x, (cells.lookup x).getD 0) :: acc) else closL cells r acc
theorem closL_sub {cells : List (Str × Addr)} : ∀ (names : List (Str × NameKind)) (acc : List (Str × Addr)), (∀ y ∈ names, y.2 = .free → ∃ c, cells.lookup y.1 = some c) → (∀ x c, acc.lookup x = some c → cells.lookup x = some c) →
    ∀ x c, (closL cells names acc).lookup x = some c → cells.lookup x = some c
  | [], acc, _, ha, x, c, e => ha x c e
  | (n, k) :: r, acc, hn, ha, x, c, e => by
    unfold closL at e
    split at e
    · rename_i hk
      refine closL_sub r _ (fun y hy => hn y (.tail _ hy)) (fun x' c' z => ?_) x c e
      rw [List.lookup_cons] at z
      cases hb : x' == n with
      | true =>
        rw [hb] at z
        obtain ⟨c0, e0⟩ := hn (n, k) (.head _) (beq_iff_eq.mp hk)
        have e0' : cells.lookup n = some c0 := e0
        rw [eq_of_beq hb, e0']
        rw [e0'] at z
        exact z
      | false => rw [hb] at z; exact ha x' c' z
    · exact closL_sub r _ (fun y hy => hn y (.tail _ hy)) ha x c e
theorem closL_has {cells : List (Str × Addr)} : ∀ (names : List (Str × NameKind)) (acc : List (Str × Addr)) (x : Str), ((∃ c, acc.lookup x = some c) ∨ (x, NameKind.free) ∈ names) → ∃ c, (closL cells names acc).lookup x = some c
  | [], acc, x, h => by
    rcases h with h | h
    · exact h
    · cases h
  | (n, k) :: r, acc, x, h => by
    unfold closL
    split
    · rename_i hk
      refine closL_has r _ x ?_
      rcases h with ⟨c, h⟩ | h
      · left
        rw [List.lookup_cons]
        cases hb : x == n with
        | true => exact ⟨_, rfl⟩
        | false => exact ⟨c, h⟩
      · rcases List.mem_cons.mp h with e | e
        · cases e
          left
          rw [List.lookup_cons, beq_self_eq_true]
          exact ⟨_, rfl⟩
        · exact .inr e
    · rename_i hk
      refine closL_has r _ x ?_
      rcases h with h | h
      · exact .inl h
      · rcases List.mem_cons.mp h with e | e
        · cases e; exact absurd rfl hk
        · exact .inr e
theorem closFor_go {env : Env} : ∀ (names : List (Str × NameKind)) (acc : List (Str × Addr)), (∀ y ∈ names, y.2 = .free → ∃ c, env.cells.lookup y.1 = some c) →
    (forIn names acc fun x cs => (match x with
      | (name, kind) => if (kind == NameKind.free) = true then do
          let a ← cellOf env name
          pure (ForInStep.yield ((name, a) :: cs))
        else pure (ForInStep.yield cs) : Sem (ForInStep (List (Str × Addr))))) = pure (closL env.cells names acc)
  | [], acc, _ => rfl
  | (n, k) :: r, acc, hn => by
    have ih := fun acc => closFor_go (env := env) r acc fun y hy => hn y (.tail _ hy)
    rw [List.forIn_cons]
    unfold closL
    cases hk : k == NameKind.free with
    | true =>
      obtain ⟨c0, e0⟩ := hn (n, k) (.head _) (beq_iff_eq.mp hk)
      have e0' : env.cells.lookup n = some c0 := e0
      have hc : cellOf env n = pure c0 := by unfold cellOf; rw [e0']
      simp only [hc, e0', pure_bind, if_true, hk]
      exact ih _
    | false =>
      simp only [pure_bind, hk, Bool.false_eq_true, if_false]
      exact ih _
theorem closFor {env : Env} {scope : Scope} (hn : ∀ y ∈ scope.names, y.2 = .free → ∃ c, env.cells.lookup y.1 = some c) : closureFor scope env = pure (closL env.cells scope.names []) := by
  unfold closureFor
  have := closFor_go scope.names [] hn
  simp only [bind_pure]
  exact this
end L2
set_option Elab.async false
set_option linter.all false
set_option maxRecDepth 100000
namespace L2
open PySem PySem.Spec PyProof.Rows
def cxL (P : Program) (w : World) (K : PySem.W.Frag) (mg : Str → Option Value) (base : Heap) (N : List Str) (qual : Str) (scope : Scope) (f : Addr) (cd : Value) (cl : List (Str × Addr)) (A : Around) (outer : List Env) (s : Shared) (H : Hp) (E : XK) : Cx where
  prog := P
  w := w
  K := K
  mg := mg
  base := base
  A := A.deeper (PySem.W.envX qual scope s.heap.objs.size f cd cl)
  N := N
  s_0 := s
  H_0 := H
  env := PySem.W.envX qual scope s.heap.objs.size f cd cl
  outer := outer
  stack := PySem.W.envX qual scope s.heap.objs.size f cd cl :: outer
  ex := []
  calm := true
  fn := fun _ => false
  pn := []
  xe := fun e s' => wpAny (model P w) (A.deeper (PySem.W.envX qual scope s.heap.objs.size f cd cl)) (leaving (PySem.W.envX qual scope s.heap.objs.size f cd cl) e) (fun _ s'' => CXF P w outer H s E e s'') (fun e' s'' => CXF P w outer H s E e' s'') s'
section
variable {P : Program} {w : World} {K : PySem.W.Frag} {mg : Str → Option Value} {base : Heap} {N : List Str} {qual : Str} {scope : Scope} {f : Addr} {cd : Value} {cl : List (Str × Addr)} {A : Around} {outer : List Env} {s : Shared} {H : Hp} {E : XK}
theorem pass_cxL : Passes (CXF P w) (cxL P w K mg base N qual scope f cd cl A outer s H E) E := fun pins σ H1 s1 e s' I ⟨B, H', ea, cls, he, fl, hE⟩ => by
  subst he
  exact thn (flies_out (B := B) (H' := H') (cls := cls) I rfl rfl rfl fl) fun _ s'' x => ⟨B, H', ea, cls, rfl, x, hE⟩
end
/-- what is held of the lambda's scope: its names are global ones and cells of the def around it -/
def lamOk (sc dsc : Scope) : Bool := sc.names.all (fun y => y.2 == .globalImplicit || (y.2 == .free && dsc.names.lookup y.1 == some .cell)) && sc.kind == .function && !sc.isCoroutine && !sc.isGenerator
structure LamOk (sc dsc : Scope) : Prop where
  nm : ∀ y ∈ sc.names, y.2 = .globalImplicit ∨ (y.2 = .free ∧ dsc.names.lookup y.1 = some .cell)
  kd : sc.kind = .function
  co : sc.isCoroutine = false
  gn : sc.isGenerator = false
theorem lamOk_of {sc dsc : Scope} (h : lamOk sc dsc = true) : LamOk sc dsc := by
  unfold lamOk at h
  simp only [Bool.and_eq_true, Bool.not_eq_true', List.all_eq_true, Bool.or_eq_true, beq_iff_eq] at h
  exact ⟨h.1.1.1, h.1.1.2, h.1.2, h.2⟩
section
variable {X : Cx} {pins : List (Addr × Obj)} {σ : St} {H : Hp} {s : Shared} {scope : Scope}
theorem LamOk.free (L : LamOk scope X.env.scope) {x : Str} (h : Vis scope x) : scope.names.lookup x = some .free ∧ X.env.scope.names.lookup x = some .cell := by
  rcases h with h | h | h
  · rcases L.nm _ (PySem.mem_of_lookup h) with z | z
    · cases z
    · cases z.1
  · rcases L.nm _ (PySem.mem_of_lookup h) with z | z
    · cases z
    · cases z.1
  · rcases L.nm _ (PySem.mem_of_lookup h) with z | z
    · cases z
    · exact ⟨h, z.2⟩
theorem LamOk.cells (L : LamOk scope X.env.scope) (ok : X.Ok) : ∀ y ∈ scope.names, y.2 = .free → ∃ c, X.env.cells.lookup y.1 = some c := fun y hy e => by
  rcases L.nm y hy with z | z
  · rw [e] at z; cases z
  · exact ok.has y.1 (.inl z.2)
abbrev lamCl (X : Cx) (scope : Scope) : List (Str × Addr) := closL X.env.cells scope.names []
theorem LamOk.sub (L : LamOk scope X.env.scope) (ok : X.Ok) {x : Str} {c : Addr} (e : (lamCl X scope).lookup x = some c) : X.env.cells.lookup x = some c :=
  closL_sub scope.names [] (L.cells ok) (fun _ _ z => by cases z) x c e
theorem IsCell.un {fs : List Addr} {H H' : Hp} {h h' : Heap} {c : Addr} {v : Option Value} (x : h.IsCell c v) (u : Un fs [] H H' h h') (n : H c = none) : h'.IsCell c v ∧ H' c = none := by
  obtain ⟨o, ho, hd⟩ := x
  obtain ⟨sl, e⟩ := u.any ho n (by simp)
  exact ⟨⟨_, e, hd⟩, u.free c o ho n (by simp)⟩
/-- the closure that a lambda makes -/
theorem lam_clo {k : Nat} {f c' : Addr} {qual : Str} {body : Expr} {pm ctv : Value} {oc : Obj} {vs : Array Value} {t : Tok} {params : Arguments} {tb : XK → TE} (I : Inv X pins σ H s) (L : LamOk scope X.env.scope)
    (ef : H f = some (.frz (PySem.W.kla_obj "<lambda>" qual params body scope (lamCl X scope) pm c' ctv) (.own f))) (ec : H c' = some (.frz oc (.own c'))) (hd : oc.data = .fields vs) (hq : vs[1]? = some (.str qual t))
    (hp : bindArgs (PySem.W.kla_fn "<lambda>" qual params body scope (lamCl X scope) pm (.ref c') ctv) ⟨[], []⟩ = pure [])
    (hb : ∀ (A : Around) (outer : List Env) (s' : Shared) (H' : Hp) (E : XK), Room k (A.deeper (PySem.W.envX qual scope s'.heap.objs.size f (.ref c') (lamCl X scope))) →
      PE (cxL X.prog X.w X.K X.mg X.base X.N qual scope f (.ref c') (lamCl X scope) A outer s' H' E) body (tb E)) :
    Clo X.prog X.w X.K X.mg X.base (k + 1) f H s.heap fun H' Q E => tb E σ H' Q := by
  refine ⟨fun A outer fs s' H' Q E hr e0 un hsp => ?_, fun fs H' h' hok un => ?_⟩
  · have ef' := un.frzs _ _ _ ef
    have ec' := un.frzs _ _ _ ec
    obtain ⟨hf, _⟩ := e0.hok _ _ ef'
    obtain ⟨hc, _⟩ := e0.hok _ _ ec'
    have lim : s'.heap.NoLimit := e0.mod.nolimit.keeps fun b o e => (e0.bs b o e).1
    refine PySem.W.kla_callFunE hr.depth hf rfl L.co L.gn rfl ⟨c', oc, vs, t, rfl, hc, hd, hq⟩ ?_
    rw [hp]
    refine wpAny_pure (wpAny_newFunctionEnv (fun y hy z => ?_) (fun y hy => by cases hy) (fun h₁ hns hsb => ⟨lim.fresh _ hsb, ?_⟩) L.kd)
    · rcases L.nm y hy with q | q
      · rw [z] at q; cases q
      · rw [z] at q; cases q.1
    show codeAny _ _ (.expr body (PySem.W.envX qual scope s'.heap.objs.size f (.ref c') (lamCl X scope))) _ _
    have hk : ∀ b o, s'.heap.get? b = some o → h₁.get? b = some o := fun b o e => hsb.extBut b o (Nat.ne_of_lt (Heap.lt_size e)) (Heap.get?_push_of_some _ e)
    have cellOk : ∀ x c, (lamCl X scope).lookup x = some c → X.env.cells.lookup x = some c := fun x c e => L.sub I.ok e
    have J : Inv (cxL X.prog X.w X.K X.mg X.base X.N qual scope f (.ref c') (lamCl X scope) A outer s' H' E) [] σ H' { s' with heap := h₁, toks := s'.toks + 0 } := by
      refine ⟨⟨e0.mod, L.kd, rfl, rfl, Nat.le_refl _, fun y z c h1 h2 => I.ok.inj y z c (cellOk _ _ h1) (cellOk _ _ h2), fun y hy => ?_, fun y c h => (nomatch h), fun _ => hr.hd, Around.frames_deeper e0.frames, .inr ⟨rfl, rfl⟩, (fun b z => absurd (show b ∈ ([] : List Addr) from z) (by simp)), e0.bs, e0.bsz, (fun b _ _ z => absurd (show b ∈ ([] : List Addr) from z) (by simp)), (fun b z => absurd (show b ∈ ([] : List Addr) from z) (by simp)), e0.funs, e0.frf⟩,
        rfl, e0.bare, Un.kept hk, ⟨_, hns, fun i y v h1 h2 h3 => ?_⟩, fun y c h => ?_, e0.hok.fresh (Nat.le_refl _), fun y c h => ?_, (fun p hp => absurd (show p ∈ ([] : List (Addr × Obj)) from hp) (by simp)), e0.hok.kept hk, I.len⟩
      · have hy : scope.names.lookup y = some .cell ∨ scope.names.lookup y = some .free := hy
        have z : scope.names.lookup y = some .free := (L.free (X := X) (.inr hy)).1
        exact closL_has scope.names [] y (.inr (PySem.mem_of_lookup z))
      · have h3' : Vis scope y := h3
        obtain ⟨z1, z2⟩ := L.free h3'
        obtain ⟨m, hn, hl⟩ := I.loc
        obtain ⟨u, ru, lk⟩ := hl i y v h1 h2 (.inr (.inl z2))
        refine ⟨u, ru, .inr ⟨.inr z1, ?_⟩⟩
        obtain ⟨c, hc⟩ := closL_has (cells := X.env.cells) scope.names [] y (.inr (PySem.mem_of_lookup z1))
        refine ⟨c, hc, ?_⟩
        have e1 := cellOk _ _ hc
        rcases lk with ⟨kk, _⟩ | ⟨_, c1, e2, z⟩
        · have kk : X.env.scope.names.lookup y = some .local := kk
          rw [z2] at kk; cases kk
        · rw [e1] at e2; cases e2
          obtain ⟨⟨o, ho, hd⟩, _⟩ := IsCell.un z un (I.freeC _ _ e1)
          exact ⟨o, hk _ _ ho, hd⟩
      · obtain ⟨v, z⟩ := I.cell _ _ (cellOk _ _ h)
        obtain ⟨⟨o, ho, hd⟩, _⟩ := IsCell.un z un (I.freeC _ _ (cellOk _ _ h))
        exact ⟨v, o, hk _ _ ho, hd⟩
      · obtain ⟨v, z⟩ := I.cell _ _ (cellOk _ _ h)
        exact (IsCell.un z un (I.freeC _ _ (cellOk _ _ h))).2
    refine PySem.W.kla_codeExpr (wpAny_mono (hb A outer s' H' E (hr.deeper _) [] _ σ H' Q J hsp) (fun v s2 h => ?_) fun e s2 h => h)
    obtain ⟨v', H2, J2, r2, q2⟩ := h
    exact ⟨v', H2, J2.os, J2.bare, J2.base, J2.hok, r2, q2⟩
  · obtain ⟨hf, _⟩ := hok _ _ (un.frzs _ _ _ ef)
    exact ⟨_, _, hf, rfl⟩
end
end L2
set_option Elab.async false
set_option linter.all false
set_option maxRecDepth 100000
namespace L2
open PySem PySem.Spec PyProof.Rows
section
variable {X : Cx} {pins : List (Addr × Obj)} {σ : St} {H : Hp} {s : Shared} {scope : Scope} {T : TbM} {c P : Addr} {qual : Str} {params : Arguments} {body : Expr} {pos : Pos} {Q : Value → Shared → Prop} {E : Value → Shared → Prop}
theorem lam_eval (I : Inv X pins σ H s) (hT : TbS T H) (hq : T P = some qual) (B : TabB X.base X.mg c P) (hcode : X.env.code = .ref c) (L : LamOk scope X.env.scope) (hqual : X.env.qual ++ "<lambda>" = qual) (hdef : defaultsOf params X.env = ([], []))
    (h : ∀ f c' oc vs t ctv H1 s1, Inv X pins σ H1 s1 → Grow H H1 → TbS T H1 → H1 f = some (.frz (PySem.W.kla_obj "<lambda>" qual params body scope (lamCl X scope) ((X.mg "__name__").getD .none) c' ctv) (.own f)) → H1 c' = some (.frz oc (.own c')) →
      oc.data = .fields vs → vs[1]? = some (.str qual t) → Q (.ref f) s1) : wpAny (model X.prog X.w) X.A (eval (.Lambda params body scope pos) X.env) Q E s := by
  refine PySem.W.kla_eval hdef ?_
  rw [hqual]
  obtain ⟨ps, hP, htr, hcs⟩ := id (hT P qual hq)
  have oP : s.heap.get? P = some (PySem.W.tabObj ps) := I.hok P _ hP
  have hcl := closFor (scope := scope) (env := X.env) (L.cells I.ok)
  have hgs : s.heap.Ns mainGlobals X.mg := I.mod.glob.keeps I.bk
  have hbl : s.heap.BuiltinsAt X.mg P := by
    obtain ⟨bm, ob, b1, b2, b3, b4, b5, b6⟩ := B.bl
    exact ⟨bm, ob, b1, b2, b3, b4, I.bk _ _ b5, b6⟩
  cases hca : codeAmong pos ps.toList with
  | some cv =>
    obtain ⟨c', oc, vs, t, rfl, e1, e2, e3⟩ := hcs pos cv hca
    refine PySem.W.kla_makeFunctionHit hcl I.ok.glob hgs hcode (B.hd.keeps I.bk) oP htr hca hbl fun ctv h' tk hk hsz => ?_
    have hn : H h'.objs.size = none := I.hok.fresh hsz
    have hk2 : ∀ b u, s.heap.get? b = some u → (h'.push (PySem.W.kla_obj "<lambda>" qual params body scope (lamCl X scope) ((X.mg "__name__").getD .none) c' ctv)).get? b = some u := fun b u e => Heap.get?_push_of_some _ (hk b u e)
    refine h h'.objs.size c' oc vs t ctv (upd H h'.objs.size (.frz (PySem.W.kla_obj "<lambda>" qual params body scope (lamCl X scope) ((X.mg "__name__").getD .none) c' ctv) (.own h'.objs.size))) _ (I.laid (t' := tk) hk2 hsz ⟨Heap.get?_push_size _ rfl, _, Heap.get?_push_size _ rfl⟩) (Grow.upd hn) (hT.upd hn) upd_same ?_ e2 e3
    rw [upd_ne (ne_of_none e1 hn)]; exact e1
  | none =>
    have hgP : mainGlobals ≠ P := fun z => by
      obtain ⟨o, _, _, e, _⟩ := id I.mod.glob
      have := (I.bs _ _ e).2
      rw [z, hP] at this; cases this
    refine PySem.W.kla_makeFunction hcl I.ok.glob hgs hcode (B.hd.keeps I.bk) oP htr hca hgP hbl fun c' ctv h' tk hx hge hlt hrec htb => ?_
    obtain ⟨c₂, oc, vs, t, z, hoc, hd, hv⟩ := hrec
    cases z
    have lt : ∀ b u, H b = some u → b < s.heap.objs.size := fun b u e => I.hok.lt e
    have szP : P < s.heap.objs.size := lt _ _ hP
    have neP : ∀ b, H b = none → b ≠ P := fun b n z => by rw [z, hP] at n; cases n
    have kp : ∀ b u, b ≠ P → s.heap.get? b = some u → (h'.push (PySem.W.kla_obj "<lambda>" qual params body scope (lamCl X scope) ((X.mg "__name__").getD .none) c' ctv)).get? b = some u := fun b u n e => Heap.get?_push_of_some _ (hx b u n e)
    have cP : c' ≠ P := fun z => by rw [z] at hge; exact absurd szP (Nat.not_lt.mpr hge)
    have fP : h'.objs.size ≠ P := fun z => by have := Nat.lt_of_le_of_lt hge hlt; rw [z] at this; exact absurd szP (Nat.not_lt.mpr (Nat.le_of_lt this))
    have fc : c' ≠ h'.objs.size := Nat.ne_of_lt hlt
    -- the new abstract heap
    have old : ∀ b, b < s.heap.objs.size → b ≠ P → ∀ o1 o2 o3, upd (upd (upd H P o1) c' o2) h'.objs.size o3 b = H b := fun b l n o1 o2 o3 => by
      rw [upd_ne (Nat.ne_of_lt (Nat.lt_trans (Nat.lt_of_lt_of_le l hge) hlt)), upd_ne (Nat.ne_of_lt (Nat.lt_of_lt_of_le l hge)), upd_ne n]
    have atP : ∀ o1 o2 o3, upd (upd (upd H P o1) c' o2) h'.objs.size o3 P = some o1 := fun o1 o2 o3 => by
      rw [upd_ne (Ne.symm fP), upd_ne (Ne.symm cP), upd_same]
    have atC : ∀ o1 o2 o3, upd (upd (upd H P o1) c' o2) h'.objs.size o3 c' = some o2 := fun o1 o2 o3 => by rw [upd_ne fc, upd_same]
    refine h h'.objs.size c' oc vs t ctv (upd (upd (upd H P (.tbl (ps ++ #[rawInt pos.line, rawInt pos.col, .ref c']))) c' (.frz oc (.own c'))) h'.objs.size (.frz (PySem.W.kla_obj "<lambda>" qual params body scope (lamCl X scope) ((X.mg "__name__").getD .none) c' ctv) (.own h'.objs.size))) _ ?_ ?_ ?_ upd_same (atC _ _ _) hd hv
    · refine I.step (g' := s.gens) (d' := s.drawn) (t' := tk) (ch := []) (fun _ z => nomatch z) (fun b o _ _ _ e n => kp b o (neP b n) e) (fun b o _ _ _ e n => ⟨o.slots, kp b o (neP b n) e⟩) (fun b o _ e n => ?_) (fun b o _ e => ?_) (fun b xs e => ?_) (fun b o u e => ?_) (fun b ps2 e => ?_) (fun m hm => ?_) ?_ I.bare
      · rw [old b (Heap.lt_size e) (neP b n)]; exact n
      · by_cases hb : b = P
        · subst hb; exact ⟨_, Heap.get?_push_of_some _ htb⟩
        · exact ⟨o, kp b o hb e⟩
      · rw [old b (lt _ _ e) (ne_of e hP fun z => nomatch z)]; exact e
      · rw [old b (lt _ _ e) (ne_of e hP fun z => nomatch z)]; exact e
      · by_cases hb : b = P
        · subst hb
          rw [hP] at e; cases e
          exact ⟨_, atP _ _ _⟩
        · exact ⟨#[], by rw [old b (lt _ _ e) hb, e]; simp⟩
      · obtain ⟨o, es, ep, e, r⟩ := hm
        exact ⟨o, es, ep, kp _ o (neP _ I.free) e, r⟩
      · intro b u e
        by_cases hb : b = h'.objs.size
        · subst hb
          rw [upd_same] at e; cases e
          exact ⟨Heap.get?_push_size _ rfl, _, Heap.get?_push_size _ rfl⟩
        · by_cases hb2 : b = c'
          · subst hb2
            rw [atC] at e; cases e
            exact ⟨Heap.get?_push_of_some _ hoc, _, Heap.get?_push_of_some _ hoc⟩
          · by_cases hb3 : b = P
            · subst hb3
              rw [atP] at e; cases e
              show _ = _
              exact Heap.get?_push_of_some _ htb
            · have e' : H b = some u := by rw [upd_ne hb, upd_ne hb2, upd_ne hb3] at e; exact e
              refine (I.hok b u e').stay (fun c v hc q => kp c v (fun z => ?_) q) (fun c q => ?_) (fun c xs q => ?_)
              · rcases hc with hc | hc
                · exact hb3 (hc.symm.trans z)
                · rw [z, hP] at hc; cases hc
              · rw [old c (lt _ _ q) (ne_of q hP fun z => nomatch z)]; exact q
              · rw [old c (lt _ _ q) (ne_of q hP fun z => nomatch z)]; exact q
    · intro b o e n
      have hb : b ≠ P := fun z => by subst z; rw [hP] at e; cases e; exact n _ rfl
      rw [old b (lt _ _ e) hb]; exact e
    · intro P' q' hq'
      have keepC : ∀ c'' oo, H c'' = some (.frz oo (.own c'')) → ∀ o1 o2 o3, upd (upd (upd H P o1) c' o2) h'.objs.size o3 c'' = some (.frz oo (.own c'')) := fun c'' oo e o1 o2 o3 => by
        rw [old c'' (lt _ _ e) (ne_of e hP fun z => nomatch z)]; exact e
      by_cases hb : P' = P
      · subst hb
        rw [hq] at hq'; cases hq'
        refine ⟨_, atP _ _ _, ?_, fun pos' cv z => ?_⟩
        · rw [Array.toList_append]
          exact triples_app _ htr trivial
        · rw [Array.toList_append, codeAmong_app _ htr] at z
          cases z1 : codeAmong pos' ps.toList with
          | some cv' =>
            rw [z1] at z; cases z
            obtain ⟨c2, o2, v2, t2, y1, y2, y3⟩ := hcs _ _ z1
            exact ⟨c2, o2, v2, t2, y1, keepC _ _ y2 _ _ _, y3⟩
          | none =>
            rw [z1] at z
            have z' : codeAmong pos' [rawInt pos.line, rawInt pos.col, .ref c'] = some cv := z
            unfold rawInt codeAmong at z'
            split at z'
            · cases z'
              exact ⟨c', oc, vs, t, rfl, atC _ _ _, hd, hv⟩
            · cases z'
      · obtain ⟨ps2, y1, y2, y3⟩ := hT P' q' hq'
        refine ⟨ps2, by rw [old P' (lt _ _ y1) hb]; exact y1, y2, fun pos' cv z => ?_⟩
        obtain ⟨c2, o2, v2, t2, x1, x2, x3⟩ := y3 _ _ z
        exact ⟨c2, o2, v2, t2, x1, keepC _ _ x2 _ _ _, x3⟩
/-- d(lambda: e), d a def whose promise speaks of what its closure does: R -/
abbrev RC := SpC → Hp → VK → Prop
def spCl (P : Program) (w : World) (K : PySem.W.Frag) (mg : Str → Option Value) (base : Heap) (k : Nat) (R : RC) : Shared → Sp := fun s vs H Q _ => ∃ f spc, vs = [.ref f] ∧ Clo P w K mg base k f H s.heap spc ∧ R spc H Q
def tLam (T : TbM) (R : RC) (tb : XK → TE) : TE := fun σ H Q => TbS T H ∧ ∀ H1, Grow H H1 → TbS T H1 → R (fun H' Q' E => tb E σ H' Q') H1 Q
theorem pe_lam {x px : Str} {g : Addr} {fd : FuncData} {k j : Nat} {R : RC} {tb : XK → TE} {np cpos : Pos} (F : FnOkS X.prog X.w X.K X.mg X.base CX0 k g fd [px] (spCl X.prog X.w X.K X.mg X.base (j + 1) R)) (hr : Room k X.A) (hm : X.mg x = some (.ref g)) (hk : PySem.W.keepIn X.K (.ref g) = true)
    (hbd : ∀ (s : Shared) (u : Value), BindsTo s fd ⟨[u], []⟩ [(px, u)]) (hq : T P = some qual) (B : TabB X.base X.mg c P) (hcode : X.env.code = .ref c) (hL : lamOk scope X.env.scope = true)
    (hb : ∀ (f c' : Addr) (A : Around) (outer : List Env) (s' : Shared) (H' : Hp) (E : XK), Room j (A.deeper (PySem.W.envX qual scope s'.heap.objs.size f (.ref c') (lamCl X scope))) →
      PE (cxL X.prog X.w X.K X.mg X.base X.N qual scope f (.ref c') (lamCl X scope) A outer s' H' E) body (tb E))
    (hg : Gl X x := by rfl) (hqual : X.env.qual ++ "<lambda>" = qual := by rfl) (hdef : defaultsOf params X.env = ([], []) := by rfl)
    (hp : ∀ (pm ctv : Value) (c' : Addr), bindArgs (PySem.W.kla_fn "<lambda>" qual params body scope (lamCl X scope) pm (.ref c') ctv) ⟨[], []⟩ = pure [] := by intros; rfl)
    (hdb : (x == ("__debug__" : Str)) = false := by decide) :
    PE X (.Call (.Name x np) [.Lambda params body scope pos] [] cpos) (tLam T R tb) := by
  intro pins s σ H Q I ⟨hT, h⟩
  have L := lamOk_of hL
  refine wpAny_Call_Name_kw (ld_glob I hg hm ?_ hdb)
  refine PySem.W.callWith_K (h₀ := X.base) I.ok.mod.kin hk ?_ rfl rfl
  refine Calls.spliced_cons (lam_eval I hT hq B hcode L hqual hdef fun f c' oc vs t ctv H1 s1 I1 gr t1 e1 e2 e3 e4 => Calls.spliced_nil ⟨I1.kIn, ?_⟩)
  refine wpAny_call (codeAny_mono (F.run X.A X.stack s1 H1 ⟨[.ref f], []⟩ [.ref f] [.ref f] Q E0 hr I1.env0 (hbd s1 _) (.cons rfl .nil) ⟨f, _, rfl, lam_clo I1 L e1 e2 e3 e4 (hp _ _ _) (hb f c'), h H1 gr t1⟩) fun r s' hq => ?_)
  cases r with
  | error e => exact False.elim hq
  | ok fl =>
    cases fl with
    | ret u => exact I1.after hq
    | next => exact False.elim hq
    | brk => exact False.elim hq
    | cont => exact False.elim hq
end
end L2
set_option Elab.async false
set_option linter.all false
set_option maxRecDepth 100000
namespace L2
open PySem PySem.Spec PyProof.Rows
section
variable {X : Cx}
def rCount (K : PySem.W.Frag) : V → List V → Hp → VK → Prop := fun x xs H Q => ∃ (a : Addr) (ys : List V) (y : V), x = V.ref a ∧ xs = [y] ∧ SqL K H a ys ∧ flatV y = true ∧ ys.all flatV = true ∧ Q (.int ((ys.countP fun z => eqV z y : Nat) : Int)) H
theorem countP_rel {y : V} : ∀ {ys : List V} {its : List Value}, Vals ys its → ys.all flatV = true → its.countP (eqU y) = ys.countP fun z => eqV z y
  | _, _, .nil, _ => rfl
  | z :: ys, u :: its, .cons r rs, f => by
    rw [List.all_cons, Bool.and_eq_true] at f
    rw [List.countP_cons, List.countP_cons, countP_rel rs f.2, eqU_of r f.1]
theorem mt_lcount : MtR X "list.count" (rCount X.K) := by
  intro pins s σ H x xs v us Q I rx rxs h
  obtain ⟨a, ys, y, rfl, rfl, hs, fy, fys, q⟩ := h
  cases rx
  cases rxs with
  | cons ry rt =>
    rename_i uy ut
    cases rt
    obtain ⟨its, rv, ⟨⟨cls, dd, data, sl⟩, n, ho, hc, hdn, hd⟩, hlen⟩ := I.list hs
    simp only at hc hd
    subst hc hd
    refine call_meets PySem.F.slot_list_count ⟨_, ho, rfl⟩ PySem.F.entry_list_count (PySem.F.args_list_count_2 _ _)
      (SeqAt.list_countAt a its.toArray n dd sl uy (eqU y)) ⟨ho, fun u' hu' => mem_eqAt ry fy rv fys u' (by simpa using hu'), ?_⟩
    have e : its.toArray.toList.countP (eqU y) = ys.countP fun z => eqV z y := countP_rel rv fys
    rw [e]
    exact ⟨.int _, H, I.tok _, ⟨_, rfl⟩, q⟩
def rRepr (K : PySem.W.Frag) : List V → Hp → VK → Prop := fun xs H Q => (∃ i : Int, xs = [.int i] ∧ i.natAbs.log2 < 1920 ∧ Q (.str (toString i)) H) ∨
  ∃ a d, xs = [.ref a] ∧ Dp K H (.ref a) d ∧ d.showable = true ∧ d.hasDict = false ∧ d.depth ≤ 60 ∧ d.shown.length ≤ sizeLine ∧ Q (.str d.shown) H
theorem call_reprA {k : Nat} (hr : Room k X.A) : CallR X (.builtin "repr") (rRepr X.K) := by
  intro pins s σ H xs us Q I r h
  rcases h with ⟨i, rfl, hz, q⟩ | h
  · obtain ⟨u, rfl, t, rfl⟩ := vals1 r
    exact PySem.P.repr_of_int hz ⟨.str _, H, I.tok _, ⟨_, rfl⟩, q⟩
  · exact call_repr hr pins s σ H xs us Q I r h
end
/-- two promises of one def -/
theorem FnOk.or {P : Program} {w : World} {K : PySem.W.Frag} {mg : Str → Option Value} {base : Heap} {CX : CXT} {k : Nat} {f : Addr} {fd : FuncData} {ps : List Str} {sp sp' : Sp} (F : FnOk P w K mg base CX k f fd ps sp) (F' : FnOk P w K mg base CX k f fd ps sp') :
    FnOk P w K mg base CX k f fd ps (fun vs H Q E => sp vs H Q E ∨ sp' vs H Q E) :=
  ⟨fun vs H Q E h => h.elim (F.len vs H Q E) (F'.len vs H Q E), fun A outer s H args us vs Q E hr he hb hv hs => hs.elim (F.run A outer s H args us vs Q E hr he hb hv) (F'.run A outer s H args us vs Q E hr he hb hv)⟩
section
variable {X : Cx} {es : List Expr} {t : TA} {te : TE} {k : Nat} {p pos : Pos} {c : Const}
theorem pa_con (he : PE X (.Constant c k p) te) (h : PA X es t) : PA X (.Constant c k p :: es) (tCons te t) := pa_cons he h rfl
theorem pa_tpl {as : List Expr} (he : PE X (.Tuple as k p) te) (h : PA X es t) : PA X (.Tuple as k p :: es) (tCons te t) := pa_cons he h rfl
theorem pa_lst {as : List Expr} (he : PE X (.List as p) te) (h : PA X es t) : PA X (.List as p :: es) (tCons te t) := pa_cons he h rfl
theorem pa_una {o : UnaryOp} {a : Expr} (he : PE X (.UnaryOp o a p) te) (h : PA X es t) : PA X (.UnaryOp o a p :: es) (tCons te t) := pa_cons he h rfl
theorem pa_bin {o : Operator} {a b : Expr} (he : PE X (.BinOp a o b p) te) (h : PA X es t) : PA X (.BinOp a o b p :: es) (tCons te t) := pa_cons he h rfl
theorem pa_dic {a : List (Option Expr)} {b : List Expr} (he : PE X (.Dict a b p) te) (h : PA X es t) : PA X (.Dict a b p :: es) (tCons te t) := pa_cons he h rfl
end
def strsOf : List Expr → Option (List Str)
  | [] => some []
  | .Constant (.str x) _ _ :: r => (strsOf r).map (x :: ·)
  | _ => none
section
variable {X : Cx}
def tStrs (l : List Str) : TA := fun _ H Q => Q (l.map V.str) H
theorem pa_strs : ∀ (es : List Expr) (l : List Str), strsOf es = some l → PA X es (tStrs l)
  | [], l, h => by cases h; exact pa_nil
  | .Constant (.str x) k p :: r, l, h => by
    have h' : (strsOf r).map (x :: ·) = some l := h
    obtain ⟨l', e, rfl⟩ := Option.map_eq_some_iff.mp h'
    exact pa_con pe_str (pa_strs r l' e)
def tLstS (l : List Str) : TE := fun _ H Q => l.length ≤ sizeLine ∧ ∀ p, H p = none → Q (.ref p) (upd H p (.lst (l.map V.str)))
theorem pe_lstS (X : Cx) (es : List Expr) (l : List Str) (pos : Pos) (h : strsOf es = some l) : PE X (.List es pos) (tLstS l) := fun pins s σ H Q I q =>
  pe_lst (pa_strs es l h) pins s σ H Q I ⟨by rw [List.length_map]; exact q.1, q.2⟩
theorem pss_setS (X : Cx) (i : Nat) (x : Str) (es : List Expr) (l : List Str) (p pos pos' : Pos) (rest : List Stmt) (t : TS) (hN : X.N.Nodup) (hi : X.N[i]? = some x) (hx : Loc X.env.scope x) (hf : X.fn x = true ∨ X.env.scope.names.lookup x = some .local) (h : strsOf es = some l) (hr : PSs X rest t) :
    PSs X (.Assign [.Name x pos'] (.List es p) pos :: rest) (tSeq (tAsg (tLstS l) (gName i)) t) := pss_cons (ps_set hN hi hx (pe_lstS X es l p h) rfl hf) hr
end
end L2
set_option Elab.async false
set_option linter.all false
set_option maxRecDepth 100000
namespace L2
open PySem PySem.Spec PyProof.Rows
theorem law_callT {P : Program} {w : World} {K : PySem.W.Frag} {mg mb : Str → Option Value} {k : Nat} {fa a : Addr} {fd : FuncData} {x : Str} {sp : Sp} {s₁ : Shared} {vs : List Value} {ns : List Int} {T : TbM}
    (KX : K.In s₁.heap) (hns : s₁.heap.Ns mainGlobals mg) (hb : s₁.heap.Ns builtinsNs mb) (hbb : ∀ x : Str, x ≠ "__name__" → mb x = bootBuiltins x) (hlim : s₁.heap.NoLimit) (hg : s₁.gens = #[])
    (ha : s₁.heap.get? a = some { cls := .type "list", data := .seq vs.toArray }) (hi : IntsAre vs ns) (hl : ns.length ≤ sizeLine) (hr : Room k callerA)
    (hT : ∀ b q, T b = some q → s₁.heap.get? b = some (PySem.W.tabObj #[]) ∧ isCodeTable s₁.heap b) (hK : PySem.W.noTabs K = true)
    (F : ∀ base : Heap, K.In base → base.Ns mainGlobals mg → (∀ b o, s₁.heap.get? b = some o → o.cls ≠ .none → o.cls ≠ .type "list" → base.get? b = some o) → FnOk P w K mg base CX0 k fa fd [x] sp) (hbind : ∀ (s : Shared) (u : Value), BindsTo s fd ⟨[u], []⟩ [(x, u)])
    (hsp : ∀ H : Hp, TbS T H → SqL K H a (ns.map V.int) → sp [.ref a] H (fun v _ => v = .bl true) fun _ _ _ => False) :
    codeAny (model P w) callerA (.call (.ref fa) ⟨[.ref a], []⟩) (fun r s' => r = .ok (.ret (.bool true)) ∧ OldK s₁.heap s'.heap ∧ s'.os = s₁.os ∧ AllBare s'.gens) s₁ := by
  have rv := vals_ints hi
  have lenV := hi.length
  have core : ∀ H : Hp, (∀ b u, H b = some u → (T b ≠ none ∧ u = .tbl #[]) ∨ (b = a ∧ K.lookup a = none ∧ ∃ xs, u = .frz { cls := .type "list", data := .seq vs.toArray } (.lst xs))) → TbS T H → SqL K H a (ns.map V.int) → HOk P w H s₁.heap →
      codeAny (model P w) callerA (.call (.ref fa) ⟨[.ref a], []⟩) (fun r s' => r = .ok (.ret (.bool true)) ∧ OldK s₁.heap s'.heap ∧ s'.os = s₁.os ∧ AllBare s'.gens) s₁ := by
    intro H hO hTb hS hok
    have base_of : ∀ {b : Addr} {o : Obj}, s₁.heap.get? b = some o → H b = none → (hidT s₁.heap H).get? b = some o := fun e n => hidT_get e n
    have tabOf : ∀ {b : Addr}, T b ≠ none → s₁.heap.get? b = some (PySem.W.tabObj #[]) ∧ isCodeTable s₁.heap b := fun {b} n => by
      cases q : T b with
      | none => exact absurd q n
      | some y => exact hT b y q
    have free : ∀ {b : Addr} {o : Obj}, s₁.heap.get? b = some o → o.cls ≠ .none → o.cls ≠ .type "list" → H b = none := fun {b o} e c1 c2 => by
      cases q : H b with
      | none => rfl
      | some u =>
        rcases hO b u q with ⟨z, _⟩ | ⟨z, _⟩
        · have := (tabOf z).1
          rw [e] at this; cases this
          exact absurd rfl c1
        · subst z
          rw [ha] at e; cases e
          exact absurd rfl c2
    have noD : ∀ {b : Addr} {o : Obj} {es : Array DictEntry} {ep : Nat}, s₁.heap.get? b = some o → o.data = .dict es ep → H b = none := fun {b o es ep} e d => by
      cases q : H b with
      | none => rfl
      | some u =>
        rcases hO b u q with ⟨z, _⟩ | ⟨z, _⟩
        · have := (tabOf z).1
          rw [e] at this; cases this
          cases d
        · subst z
          rw [ha] at e; cases e
          have d' : Data.seq vs.toArray _ = Data.dict es ep := d
          cases d'
    have nsK : ∀ {b : Addr} {m : Str → Option Value}, s₁.heap.Ns b m → (hidT s₁.heap H).Ns b m := fun {b m} ⟨o, es, ep, e, d, r⟩ => ⟨o, es, ep, base_of e (noD e d), d, r⟩
    have hKb : K.In (hidT s₁.heap H) := fun b o e => base_of (KX b o e) (by
      cases q : H b with
      | none => rfl
      | some u =>
        rcases hO b u q with ⟨z, _⟩ | ⟨z, z2, _⟩
        · have h1 := (tabOf z).1
          rw [KX b o e] at h1; cases h1
          have h2 : false = true := List.all_eq_true.mp hK (b, _) (PySem.W.mem_of_lookupK e)
          cases h2
        · subst z
          rw [z2] at e; cases e)
    have hM : Mod K mg (hidT s₁.heap H) := ⟨hKb, nsK hns, ⟨mb, nsK hb, hbb⟩, let ⟨mc, h1, h2⟩ := hlim; ⟨mc, nsK h1, h2⟩⟩
    have e0 : Env0 P w K mg (hidT s₁.heap H) callerA [] s₁ H := ⟨rfl, hM, fun b o e => of_hidT e, Nat.le_of_eq (hidT_size _ _), trivial, fun b hb => absurd (show b ∈ ([] : List Addr) from hb) (by simp), hok, .of_eq hg⟩
    refine codeAny_mono ((F _ hKb (nsK hns) fun b o e c1 c2 => base_of e (free e c1 c2)).run callerA [] s₁ H ⟨[.ref a], []⟩ [.ref a] [.ref a] _ _ hr e0 (hbind s₁ (.ref a)) (.cons rfl .nil) (hsp H hTb hS)) fun r s' h => ?_
    cases r with
    | error e => exact False.elim h
    | ok fl =>
      cases fl with
      | next => exact False.elim h
      | brk => exact False.elim h
      | cont => exact False.elim h
      | ret u =>
        obtain ⟨v, H', os, bare, un, hok', r', q⟩ := h
        have q' : v = .bl true := q
        subst q'
        obtain rfl : u = Value.bool true := r'
        have nofs : ∀ b : Addr, b ∉ frs ([] : List Env) := fun b z => absurd (show b ∈ ([] : List Addr) from z) (by simp)
        refine ⟨rfl, ⟨fun b o e => ?_, fun b o e => ?_⟩, os, bare⟩
        · cases q : H b with
          | none => exact .inl (un.keep b o e q (nofs b) (by simp))
          | some u =>
            rcases hO b u q with ⟨z, rfl⟩ | ⟨z, _, xs, rfl⟩
            · obtain ⟨h1, h2⟩ := tabOf z
              rw [e] at h1; cases h1
              obtain ⟨more, h3⟩ := un.tbls b _ q
              have h4 : s'.heap.get? b = some { cls := .none, data := .fields (#[] ++ more) } := hok' b _ h3
              exact .inr (.inl ⟨h2, rfl, #[], more, rfl, h4⟩)
            · obtain ⟨e1, _⟩ := hok b _ q
              obtain ⟨e2, _⟩ := hok' b _ (un.frzs b _ _ q)
              rw [e] at e1; cases e1
              exact .inl e2
        · exact un.there b o e (by simp)
  have Ta : T a = none := by
    cases q : T a with
    | none => rfl
    | some y =>
      have := (hT a y q).1
      rw [ha] at this; cases this
  cases hk : K.lookup a with
  | some o =>
    have e := KX a o hk
    rw [ha] at e
    cases e
    refine core (fun b => if T b = none then none else some (.tbl #[])) (fun b u z => ?_) (fun P q e => ?_) (.inr ⟨_, vs.toArray, _, hk, rfl, rfl, rfl, by rw [List.size_toArray, lenV]; exact hl, by simpa using rv⟩) fun b u z => ?_
    · by_cases hb : T b = none
      · have z' := (if_pos hb).symm.trans z; cases z'
      · have z' := (if_neg hb).symm.trans z; cases z'; exact .inl ⟨hb, rfl⟩
    · exact ⟨#[], if_neg (by rw [e]; simp), trivial, fun pos cv z => by cases z⟩
    · by_cases hb : T b = none
      · have z' := (if_pos hb).symm.trans z; cases z'
      · have z' := (if_neg hb).symm.trans z; cases z'
        obtain ⟨y, hy⟩ := Option.ne_none_iff_exists'.mp hb
        exact (hT b y hy).1
  | none =>
    refine core (fun b => if b = a then some (.frz { cls := .type "list", data := .seq vs.toArray } (.lst (ns.map V.int))) else if T b = none then none else some (.tbl #[])) (fun b u z => ?_) (fun P q e => ?_) (.inl (.inr ⟨{ cls := .type "list", data := .seq vs.toArray }, if_pos rfl⟩)) fun b u z => ?_
    · by_cases hb : b = a
      · have z' := (if_pos hb).symm.trans z
        cases z'
        exact .inr ⟨hb, hk, _, rfl⟩
      · have z1 := (if_neg hb).symm.trans z
        by_cases hb : T b = none
        · have z' := (if_pos hb).symm.trans z1; cases z'
        · have z' := (if_neg hb).symm.trans z1; cases z'; exact .inl ⟨hb, rfl⟩
    · have hP : P ≠ a := fun z => by subst z; rw [Ta] at e; cases e
      refine ⟨#[], ?_, trivial, fun pos cv z => by cases z⟩
      show (if P = a then _ else if T P = none then none else some (HO.tbl #[])) = _
      rw [if_neg hP, if_neg (by rw [e]; simp)]
    · by_cases hb : b = a
      · have z' := (if_pos hb).symm.trans z
        cases z'
        subst hb
        exact ⟨ha, by rw [List.length_map]; exact hl, vs, _, rv, ha⟩
      · have z1 := (if_neg hb).symm.trans z
        by_cases hb : T b = none
        · have z' := (if_pos hb).symm.trans z1; cases z'
        · have z' := (if_neg hb).symm.trans z1; cases z'
          obtain ⟨y, hy⟩ := Option.ne_none_iff_exists'.mp hb
          exact (hT b y hy).1
/-- the head, from the law's promise -/
theorem walk_ofT {l : PySem.W.OpenLaw} {n k : Nat} {q : Program} {loose : List Str} {XP : (Str → Option Value) → Heap → Prop} {YP : World → Heap → Prop} {d : DefRec} {K : Params → PySem.W.Frag} {sp : TbM → PySem.W.Frag → Sp} {x : Str}
    (hn : l.most = some n) (hn2 : n ≤ sizeLine) (hdf : d.params.defaults = []) (hr : Room k callerA)
    (hY : ∀ (w : World) (h : Heap), YP w h → (K w.params).In h)
    (F : ∀ (w : World) (s₀ : Shared) (mg mb : Str → Option Value) (fa : Addr) (h : Heap), (K w.params).In h → Top q (PySem.W.looseW q loose) (ExcName.means s₀.heap) mg mb h → mg d.name = some (.ref fa) →
      ∃ (T : TbM) (fd : FuncData), (∀ b y, T b = some y → h.get? b = some (PySem.W.tabObj #[]) ∧ isCodeTable h b) ∧ PySem.W.noTabs (K w.params) = true ∧ (∀ (s : Shared) (u : Value), BindsTo s fd ⟨[u], []⟩ [(x, u)]) ∧
        ∀ base : Heap, (K w.params).In base → base.Ns mainGlobals mg → (∀ b o, h.get? b = some o → o.cls ≠ .none → o.cls ≠ .type "list" → base.get? b = some o) → FnOk l.prog w (K w.params) mg base CX0 k fa fd [x] (sp T (K w.params)))
    (hsp : ∀ (T : TbM) (K : PySem.W.Frag) (H : Hp) (a : Addr) (ns : List Int), ns.length ≤ n → TbS T H → SqL K H a (ns.map V.int) → sp T K [.ref a] H (fun v _ => v = .bl true) fun _ _ _ => False) :
    PySem.W.WalkO q loose XP YP l.row.toRowW d [] (fun f vs => PySem.call f vs) := by
  refine Att.attach_call hn hdf fun w s₀ s₁ mg mb fa o pm cd doc a vs ns G Y ho hd hcd hmg hobj hints hlen hg => ?_
  have KX := hY w _ Y
  obtain ⟨T, fd, hT, hK, hb, hF⟩ := F w s₀ mg mb fa _ KX G.T hmg
  exact law_callT KX G.T.g G.T.b G.T.builtins G.T.nolimit hg hobj hints (Nat.le_trans hlen hn2) hr hT hK hF hb fun H hO hS => hsp T _ H a ns hlen hO hS
/-- what a def that makes lambdas wants of the base, from the top -/
theorem tabB_of {q : Program} {loose : List Str} {mean : ExcName → Option Value} {mg mb : Str → Option Value} {h base : Heap} {c P : Addr} (T : Top q loose mean mg mb h) (C : PySem.W.CodeHd h c P) (hP : h.get? P = some (PySem.W.tabObj #[]))
    (k : ∀ b o, h.get? b = some o → o.cls ≠ .none → o.cls ≠ .type "list" → base.get? b = some o) : TabB base mg c P := by
  obtain ⟨o, vs, file, tf, flags, tg, inF, text, tt, e1, e2, r⟩ := C
  rcases T.bmain with ⟨bm, ob, b1, b2, b3, b4, b5, b6⟩
  refine ⟨⟨o, vs, file, tf, flags, tg, inF, text, tt, k c o e1 (by rw [e2]; simp) (by rw [e2]; simp), e2, r⟩, ⟨bm, ob, b1, b2, fun z => ?_, fun z => ?_, k bm ob b3 (by rw [b4]; simp) (by rw [b4]; simp), b4, b5, b6⟩⟩
  · obtain ⟨o', es, ep, e, hd, _⟩ := T.g
    rw [z, e] at b3; cases b3; rw [hd] at b6; cases b6
  · rw [z, hP] at b3; cases b3; cases b4
end L2
set_option Elab.async false
set_option linter.all false
set_option maxRecDepth 100000
namespace L2
open PySem PySem.Spec PyProof.Rows
mutual
inductive Dh (H : Hp) : V → PyData → Prop
  | non : Dh H .non .none
  | bl (b : Bool) : Dh H (.bl b) (.bool b)
  | int (i : Int) : Dh H (.int i) (.int i)
  | str (x : Str) : Dh H (.str x) (.str x)
  | lst {a : Addr} {xs : List V} {ds : List PyData} : H a = some (.lst xs) → DhAll H xs ds → Dh H (.ref a) (.list ds)
  | tup {a : Addr} {xs : List V} {ds : List PyData} : H a = some (.tup xs) → DhAll H xs ds → Dh H (.ref a) (.tuple ds)
  | d0 {a : Addr} : H a = some (.dK []) → Dh H (.ref a) (.dict [])
  | d1 {a : Addr} : H a = some (.dK [(.inl 0, .int 1)]) → Dh H (.ref a) (.dict [(.int 0, .int 1)])
inductive DhAll (H : Hp) : List V → List PyData → Prop
  | nil : DhAll H [] []
  | cons {v : V} {vs : List V} {d : PyData} {ds : List PyData} : Dh H v d → DhAll H vs ds → DhAll H (v :: vs) (d :: ds)
end
mutual
theorem Dh.same {H H' : Hp} (s : ∀ b o, H b = some o → H' b = some o) : ∀ {x : V} {d : PyData}, Dh H x d → Dh H' x d
  | _, _, .non => .non
  | _, _, .bl b => .bl b
  | _, _, .int i => .int i
  | _, _, .str x => .str x
  | _, _, .lst e h => .lst (s _ _ e) (DhAll.same s h)
  | _, _, .tup e h => .tup (s _ _ e) (DhAll.same s h)
  | _, _, .d0 e => .d0 (s _ _ e)
  | _, _, .d1 e => .d1 (s _ _ e)
theorem DhAll.same {H H' : Hp} (s : ∀ b o, H b = some o → H' b = some o) : ∀ {xs : List V} {ds : List PyData}, DhAll H xs ds → DhAll H' xs ds
  | _, _, .nil => .nil
  | _, _, .cons h t => .cons (Dh.same s h) (DhAll.same s t)
end
mutual
theorem Dh.dp {K : PySem.W.Frag} {H : Hp} : ∀ {x : V} {d : PyData}, Dh H x d → d.hasDict = false → Dp K H x d
  | _, _, .non, _ => .non
  | _, _, .bl b, _ => .bl b
  | _, _, .int i, _ => .int i
  | _, _, .str x, _ => .str x
  | _, _, .lst e h, n => .lst (SqL.of e) (DhAll.dp h n)
  | _, _, .tup e h, n => .tup (SqT.of e) (DhAll.dp h n)
theorem DhAll.dp {K : PySem.W.Frag} {H : Hp} : ∀ {xs : List V} {ds : List PyData}, DhAll H xs ds → PyData.hasDictAll ds = false → DpAll K H xs ds
  | _, _, .nil, _ => .nil
  | _, _, .cons h t, n => by
    have n' := Bool.or_eq_false_iff.mp n
    exact .cons (Dh.dp h n'.1) (DhAll.dp t n'.2)
end
def tyD : PyData → String
  | .bool _ => "bool" | .int _ => "int" | .none => "NoneType" | .tuple _ => "tuple" | .str _ => "str" | .list _ => "list" | .dict _ => "dict"
theorem Dh.ty {K : PySem.W.Frag} {H : Hp} {x : V} {d : PyData} (h : Dh H x d) : TyOf K H x (.type (tyD d)) := by
  cases h with
  | non => exact .non
  | bl b => exact .bl b
  | int i => exact .int i
  | str x => exact .str x
  | lst e h => exact .lst e
  | tup e h => exact .tup e
  | d0 e => exact .dK e
  | d1 e => exact .dK e
theorem DhAll.length {H : Hp} : ∀ {xs : List V} {ds : List PyData}, DhAll H xs ds → xs.length = ds.length
  | _, _, .nil => rfl
  | _, _, .cons _ t => by rw [List.length_cons, List.length_cons, DhAll.length t]
theorem DhAll.get {H : Hp} : ∀ {xs : List V} {ds : List PyData} {i : Nat} {d : PyData}, DhAll H xs ds → ds[i]? = some d → ∃ x, xs[i]? = some x ∧ Dh H x d
  | _, _, 0, _, .cons h t, e => by cases e; exact ⟨_, rfl, h⟩
  | _, _, i + 1, _, .cons h t, e => by
    obtain ⟨x, h1, h2⟩ := DhAll.get (i := i) t (by simpa using e)
    exact ⟨x, by simpa using h1, h2⟩
theorem DhAll.at {H : Hp} : ∀ {xs : List V} {ds : List PyData} {i : Nat} {x : V}, DhAll H xs ds → xs[i]? = some x → ∃ d, ds[i]? = some d ∧ Dh H x d
  | _, _, 0, _, .cons h t, e => by cases e; exact ⟨_, rfl, h⟩
  | _, _, i + 1, _, .cons h t, e => by
    obtain ⟨d, h1, h2⟩ := DhAll.at (i := i) t (by simpa using e)
    exact ⟨d, by simpa using h1, h2⟩
theorem DhAll.app {H : Hp} : ∀ {xs ys : List V} {ds es : List PyData}, DhAll H xs ds → DhAll H ys es → DhAll H (xs ++ ys) (ds ++ es)
  | _, _, _, _, .nil, k => k
  | _, _, _, _, .cons h t, k => .cons h (DhAll.app t k)
theorem DhAll.take {H : Hp} : ∀ {xs : List V} {ds : List PyData} (n : Nat), DhAll H xs ds → DhAll H (xs.take n) (ds.take n)
  | _, _, 0, _ => .nil
  | _, _, n + 1, .nil => .nil
  | _, _, n + 1, .cons h t => .cons h (DhAll.take n t)
theorem DhAll.drop {H : Hp} : ∀ {xs : List V} {ds : List PyData} (n : Nat), DhAll H xs ds → DhAll H (xs.drop n) (ds.drop n)
  | _, _, 0, h => h
  | _, _, n + 1, .nil => .nil
  | _, _, n + 1, .cons h t => DhAll.drop n t
/-- what may be shown: by repr -/
structure Sho (d : PyData) : Prop where
  sh : d.showable = true
  nd : d.hasDict = false ∨ d = .dict [] ∨ d = .dict [(.int 0, .int 1)]
  dp : d.depth ≤ 60
  len : d.shown.length ≤ sizeLine
section
variable {X : Cx} {k : Nat}
def rReprH : List V → Hp → VK → Prop := fun xs H Q => ∃ x d, xs = [x] ∧ Dh H x d ∧ Sho d ∧ Q (.str d.shown) H
theorem call_reprH (hr : Room k X.A) : CallR X (.builtin "repr") rReprH := by
  intro pins s σ H xs us Q I r h
  obtain ⟨x, d, rfl, hd, S, q⟩ := h
  obtain ⟨u, rfl, ru⟩ := Vals.one r
  have dic : ∀ (a : Addr) (as : List Addr), Reads s.heap (.ref a) d as → (d.hasDict = true → sysModules ∉ as) → wpAny (model X.prog X.w) X.A (call (.builtin "repr") [.ref a]) (EP X pins σ Q) X.xe s := fun a as rd hsm =>
    repr_of_reads' rd S.sh hsm hr.gd (by have := hr.units; have := S.dp; omega) (fun _ _ e => e) (fun h' u tk hk => ⟨.str d.shown, H, I.kept (h' := h') (t' := tk) hk, ⟨_, rfl⟩, q⟩) S.len
  cases hd with
  | non => cases ru; exact PySem.P.repr_of_none ⟨.str _, H, I.tok _, ⟨_, rfl⟩, q⟩
  | bl b =>
    cases ru
    refine PySem.P.repr_of_bool ⟨.str _, H, I.tok _, ⟨_, rfl⟩, ?_⟩
    cases b <;> exact q
  | int i =>
    obtain ⟨t, rfl⟩ := ru
    exact PySem.P.repr_of_int (by have := S.sh; simpa only [PyData.showable, decide_eq_true_eq] using this) ⟨.str _, H, I.tok _, ⟨_, rfl⟩, q⟩
  | str y =>
    obtain ⟨t, rfl⟩ := ru
    exact PySem.P.repr_of_str ⟨.str _, H, I.tok _, ⟨_, rfl⟩, q⟩ S.len
  | @lst a xs ds e hh =>
    cases ru
    have nd : (PyData.list ds).hasDict = false := by
      rcases S.nd with h | h | h
      · exact h
      · cases h
      · cases h
    obtain ⟨as, rd⟩ := Dp.reads I _ _ _ (Dh.dp (Dh.lst e hh) nd) rfl
    exact dic a as rd (PyData.noDict_hsm nd)
  | @tup a xs ds e hh =>
    cases ru
    have nd : (PyData.tuple ds).hasDict = false := by
      rcases S.nd with h | h | h
      · exact h
      · cases h
      · cases h
    obtain ⟨as, rd⟩ := Dp.reads I _ _ _ (Dh.dp (Dh.tup e hh) nd) rfl
    exact dic a as rd (PyData.noDict_hsm nd)
  | @d0 a e =>
    cases ru
    obtain ⟨_, ns, vs, kv, o, es, ep, ho, ex, hd, _, pr, _⟩ := (show ObjOk X.prog X.w H s.heap a (.dK []) from I.hok a _ e)
    cases kv
    have hes : es.toList = [] := by cases hx : es.toList with
      | nil => rfl
      | cons y l => rw [hx] at pr; cases pr
    refine dic a _ (.dict ho ex.1 hd (by rw [hes]; exact .nil) (by rw [hes]; exact .nil)) (fun _ z => ?_)
    have z' : sysModules = a := by simpa using z
    rw [z'] at ns; simp at ns
  | @d1 a e =>
    cases ru
    obtain ⟨_, ns, vs, kv, o, es, ep, ho, ex, hd, _, pr, _⟩ := (show ObjOk X.prog X.w H s.heap a (.dK [(.inl 0, .int 1)]) from I.hok a _ e)
    match vs, kv, pr with
    | [(kk, vv)], .cons h0 .nil, pr =>
      obtain ⟨k1, k2⟩ := h0
      have k1 : Sum.inl 0 = kk := k1
      subst k1
      obtain ⟨t2, k3⟩ := (show ∃ t, vv = Value.int 1 t from k2)
      subst k3
      cases hx : es.toList with
      | nil => rw [hx] at pr; cases pr
      | cons y l =>
        rw [hx] at pr
        cases pr with
        | cons p1 p2 p3 =>
          cases p3
          obtain ⟨i, t, e1, e2⟩ | ⟨_, _, e1, _⟩ := keyIs_shape (show keyIs (Sum.inl 0) y.key = true from p1)
          · cases e1
            refine dic a _ (.dict ho ex.1 hd (by rw [hx]; exact .cons (by show Reads _ y.key _ _; rw [e2]; exact .int 0 t) .nil) (by rw [hx]; exact .cons (by show Reads _ y.val _ _; rw [p2]; exact .int 1 t2) .nil)) (fun _ z => ?_)
            have z' : sysModules = a := by simpa using z
            rw [z'] at ns; simp at ns
          · cases e1
end
end L2
set_option Elab.async false
set_option linter.all false
set_option maxRecDepth 100000
namespace L2
open PySem PySem.Spec PyProof.Rows
structure OkD (b n : Nat) (d : PyData) : Prop where
  sh : d.showable = true
  nd : d.hasDict = false
  ls : d.leavesShort 2000 = true
  bk : d.bulk ≤ b
  dp : d.depth ≤ n
  ly : d.canLay0 = true
structure OkL (b n : Nat) (ds : List PyData) : Prop where
  sh : PyData.showableAll ds = true
  nd : PyData.hasDictAll ds = false
  ls : PyData.leavesShortAll 2000 ds = true
  bk : PyData.bulkAll ds ≤ b
  dp : PyData.depthAll ds ≤ n
  ly : PyData.canLayAll0 ds = true
theorem OkD.mono {b n c m : Nat} {d : PyData} (h : OkD b n d) (h1 : b ≤ c) (h2 : n ≤ m) : OkD c m d := ⟨h.sh, h.nd, h.ls, Nat.le_trans h.bk h1, Nat.le_trans h.dp h2, h.ly⟩
theorem OkL.mono {b n c m : Nat} {d : List PyData} (h : OkL b n d) (h1 : b ≤ c) (h2 : n ≤ m) : OkL c m d := ⟨h.sh, h.nd, h.ls, Nat.le_trans h.bk h1, Nat.le_trans h.dp h2, h.ly⟩
theorem OkL.nil {b n : Nat} : OkL b n [] := ⟨rfl, rfl, rfl, Nat.zero_le _, Nat.zero_le _, rfl⟩
theorem OkL.cons {b c n : Nat} {d : PyData} {ds : List PyData} (h : OkD b n d) (t : OkL c n ds) : OkL (b + 1 + c) n (d :: ds) := by
  refine ⟨?_, ?_, ?_, ?_, ?_, ?_⟩
  · show (d.showable && PyData.showableAll ds) = true; rw [h.sh, t.sh]; rfl
  · show (d.hasDict || PyData.hasDictAll ds) = false; rw [h.nd, t.nd]; rfl
  · show (d.leavesShort 2000 && PyData.leavesShortAll 2000 ds) = true; rw [h.ls, t.ls]; rfl
  · show d.bulk + 1 + PyData.bulkAll ds ≤ _; have := h.bk; have := t.bk; omega
  · show max d.depth (PyData.depthAll ds) ≤ n; have := h.dp; have := t.dp; omega
  · show (d.canLay0 && PyData.canLayAll0 ds) = true; rw [h.ly, t.ly]; rfl
theorem OkL.head {b n : Nat} {d : PyData} {ds : List PyData} (h : OkL b n (d :: ds)) : OkD b n d := by
  have h1 : (d.showable && PyData.showableAll ds) = true := h.sh
  have h2 : (d.hasDict || PyData.hasDictAll ds) = false := h.nd
  have h3 : (d.leavesShort 2000 && PyData.leavesShortAll 2000 ds) = true := h.ls
  have h4 : d.bulk + 1 + PyData.bulkAll ds ≤ b := h.bk
  have h5 : max d.depth (PyData.depthAll ds) ≤ n := h.dp
  have h6 : (d.canLay0 && PyData.canLayAll0 ds) = true := h.ly
  rw [Bool.and_eq_true] at h1 h3 h6
  exact ⟨h1.1, (Bool.or_eq_false_iff.mp h2).1, h3.1, by omega, by omega, h6.1⟩
/-- the rest, with what the first one weighs left over -/
theorem OkL.tail {b n : Nat} {d : PyData} {ds : List PyData} (h : OkL b n (d :: ds)) : OkL b n ds := by
  have h1 : (d.showable && PyData.showableAll ds) = true := h.sh
  have h2 : (d.hasDict || PyData.hasDictAll ds) = false := h.nd
  have h3 : (d.leavesShort 2000 && PyData.leavesShortAll 2000 ds) = true := h.ls
  have h4 : d.bulk + 1 + PyData.bulkAll ds ≤ b := h.bk
  have h5 : max d.depth (PyData.depthAll ds) ≤ n := h.dp
  have h6 : (d.canLay0 && PyData.canLayAll0 ds) = true := h.ly
  rw [Bool.and_eq_true] at h1 h3 h6
  exact ⟨h1.2, (Bool.or_eq_false_iff.mp h2).2, h3.2, by omega, by omega, h6.2⟩
theorem OkL.get {b n : Nat} : ∀ {ds : List PyData} {i : Nat} {d : PyData}, OkL b n ds → ds[i]? = some d → OkD b n d
  | _ :: _, 0, _, h, e => by cases e; exact h.head
  | _ :: _, i + 1, _, h, e => OkL.get (i := i) h.tail (by simpa using e)
theorem OkL.app {b c n : Nat} : ∀ {xs ys : List PyData}, OkL b n xs → OkL c n ys → OkL (b + c) n (xs ++ ys)
  | [], ys, h, k => k.mono (by omega) (Nat.le_refl _)
  | d :: xs, ys, h, k => by
    have h4 : d.bulk + 1 + PyData.bulkAll xs ≤ b := h.bk
    have t : OkL (b - (d.bulk + 1)) n xs := ⟨h.tail.sh, h.tail.nd, h.tail.ls, by omega, h.tail.dp, h.tail.ly⟩
    have hd : OkD d.bulk n d := ⟨h.head.sh, h.head.nd, h.head.ls, Nat.le_refl _, h.head.dp, h.head.ly⟩
    exact (OkL.cons hd (t.app k)).mono (by omega) (Nat.le_refl _)
theorem OkL.take {b n : Nat} : ∀ {xs : List PyData} (k : Nat), OkL b n xs → OkL b n (xs.take k)
  | _, 0, _ => .nil
  | [], _ + 1, _ => .nil
  | d :: xs, k + 1, h => by
    have h4 : d.bulk + 1 + PyData.bulkAll xs ≤ b := h.bk
    have t : OkL (b - (d.bulk + 1)) n xs := ⟨h.tail.sh, h.tail.nd, h.tail.ls, by omega, h.tail.dp, h.tail.ly⟩
    have hd : OkD d.bulk n d := ⟨h.head.sh, h.head.nd, h.head.ls, Nat.le_refl _, h.head.dp, h.head.ly⟩
    exact (OkL.cons hd (t.take k)).mono (by omega) (Nat.le_refl _)
theorem OkL.drop {b n : Nat} : ∀ {xs : List PyData} (k : Nat), OkL b n xs → OkL b n (xs.drop k)
  | _, 0, h => h
  | [], _ + 1, _ => .nil
  | _ :: xs, k + 1, h => OkL.drop k h.tail
theorem OkL.tup {b n : Nat} {ds : List PyData} (h : OkL b n ds) : OkD b (n + 1) (.tuple ds) := ⟨h.sh, h.nd, h.ls, h.bk, Nat.succ_le_succ h.dp, h.ly⟩
theorem OkL.lst {b n : Nat} {ds : List PyData} (h : OkL b n ds) : OkD b (n + 1) (.list ds) := ⟨h.sh, h.nd, h.ls, h.bk, Nat.succ_le_succ h.dp, h.ly⟩
theorem OkD.non {b n : Nat} : OkD b n .none := ⟨rfl, rfl, rfl, Nat.zero_le _, Nat.zero_le _, rfl⟩
theorem OkD.bl {b n : Nat} (v : Bool) : OkD b n (.bool v) := ⟨rfl, rfl, rfl, Nat.zero_le _, Nat.zero_le _, rfl⟩
theorem OkD.int {b n : Nat} (i : Int) (h : i.natAbs < 2 ^ 100) : OkD b n (.int i) := by
  have hl : i.natAbs.log2 < 1920 := by
    by_cases h0 : i.natAbs = 0
    · rw [h0]; decide +kernel
    · exact Nat.lt_trans ((Nat.log2_lt h0).mpr h) (by decide)
  have e := PySem.int_text_length_le (a := i) (k := 1920) (by decide) hl
  refine ⟨by simpa only [PyData.showable, decide_eq_true_eq] using hl, rfl, ?_, Nat.zero_le _, Nat.zero_le _, rfl⟩
  simp only [PyData.leavesShort, PyData.shown]
  apply decide_eq_true
  rw [PySem.ofString_length]
  omega
theorem OkD.str {b n : Nat} (x : Str) (h : (x.cps.toList.all fun c => decide (c < 16 ^ 8)) = true) (hb : x.cps.size ≤ b) (hs : (PyData.str x).canLay0 = true) : OkD b n (.str x) := ⟨rfl, rfl, h, hb, Nat.zero_le _, hs⟩
theorem OkD.sho {b n : Nat} {d : PyData} (h : OkD b n d) (hb : b ≤ 1000) (hn : n ≤ 60) : Sho d := by
  refine ⟨h.sh, .inl h.nd, Nat.le_trans h.dp hn, ?_⟩
  have e := PyData.shown_le_bulk 2000 (by decide) d h.ls
  have hk := h.bk
  have : sizeLine = 2 ^ 24 := rfl
  omega
theorem sho_d0 : Sho (.dict []) := ⟨rfl, .inr (.inl rfl), by decide, by decide +kernel⟩
def Hm (H : Hp) (p : Addr) : Hp := fun b => if b = p then none else H b
theorem Hm.get {H : Hp} {p b : Addr} {o : HO} (e : H b = some o) (n : b ≠ p) : Hm H p b = some o := by unfold Hm; rw [if_neg n]; exact e
theorem Hm.of {H : Hp} {p b : Addr} {o : HO} (e : Hm H p b = some o) : H b = some o ∧ b ≠ p := by
  unfold Hm at e
  by_cases h : b = p
  · rw [if_pos h] at e; cases e
  · rw [if_neg h] at e; exact ⟨e, h⟩
theorem Hm.un {H : Hp} {p : Addr} : ∀ b o, Hm H p b = some o → H b = some o := fun b o e => (Hm.of e).1
theorem Hm.step {H H' : Hp} {p : Addr} (k : ∀ b o, H b = some o → b ≠ p → H' b = some o) : ∀ b o, Hm H p b = some o → Hm H' p b = some o := fun b o e => Hm.get (k b o (Hm.of e).1 (Hm.of e).2) (Hm.of e).2
theorem Dh.full {H : Hp} {p : Addr} {x : V} {d : PyData} (h : Dh (Hm H p) x d) : Dh H x d := h.same Hm.un
theorem Dh.on {H H' : Hp} {p : Addr} {x : V} {d : PyData} (h : Dh (Hm H p) x d) (k : ∀ b o, H b = some o → b ≠ p → H' b = some o) : Dh (Hm H' p) x d := h.same (Hm.step k)
end L2
set_option Elab.async false
set_option linter.all false
namespace My
open PySem PyProof PyProof.Rows PySem.SeqAt
end My
set_option Elab.async false
set_option linter.all false
namespace My
open PySem PySem.Spec PyProof.Rows L2
structure KDic (P : Program) (w : World) (K : PySem.W.Frag) (a : Addr) (kvs : List (Key × V)) : Prop where
  sz : kvs.length ≤ sizeLine
  ns : (a == sysModules) = false
  at' : ∃ vs : List (Key × Value), KV kvs vs ∧ ∀ h : Heap, K.In h → h.DictOf (mixKind P w) a vs
def tDGetK (P : Program) (w : World) (K : PySem.W.Frag) (td ty : TE) : TE := fun σ H Q => td σ H fun x H1 => ty σ H1 fun y H2 => ∃ a kvs k v, x = .ref a ∧ KDic P w K a kvs ∧ y = kV k ∧ valV kvs k = some v ∧ Q v H2
def tDNotInK (P : Program) (w : World) (K : PySem.W.Frag) (ty td : TE) : TE := fun σ H Q => ty σ H fun y H1 => td σ H1 fun x H2 => ∃ a kvs k, x = .ref a ∧ KDic P w K a kvs ∧ y = kV k ∧ Q (.bl (!(valV kvs k).isSome)) H2
section
variable {X : Cx} {o i : Expr} {pos : Pos} {td ty : TE}
theorem pe_dgetK (ho : PE X o td) (hi : PE X i ty) (hs : NoSl i) : PE X (.Subscript o i pos) (tDGetK X.prog X.w X.K td ty) := by
  intro pins s σ H Q I h
  refine subD_of PySem.F.slot_dict_getitem.lookup hs (thn (ho pins s σ H _ I h) fun u s1 ⟨x, H1, I1, rx, q1⟩ => thn (hi pins s1 σ H1 _ I1 q1) fun iv s2 ⟨y, H2, I2, ry, a, kvs, k, v, ex, g, ey, l, q2⟩ => ?_)
  subst ex ey
  obtain rfl : u = Value.ref a := rx
  obtain ⟨vs, rel, dd⟩ := g.at'
  obtain ⟨w', hw, rw'⟩ := RelO.some_of (v := v) (o := valueAt vs k) (by rw [← l]; exact rel.val k)
  exact ⟨(dd _ I2.kIn).typeIs, wpAny_getItem_of (kV_is ry) (dd _ I2.kIn).mapOf hw ⟨v, H2, I2.tok _, rw', q2⟩⟩
theorem pc_dnotinK (hi : PE X i ty) (ho : PE X o td) : PC X .NotIn i o (tDNotInK X.prog X.w X.K ty td) := by
  intro pins s σ H Q I h
  refine thn (hi pins s σ H _ I h) fun iv s1 ⟨y, H1, I1, ry, q1⟩ => thn (ho pins s1 σ H1 _ I1 q1) fun u s2 ⟨x, H2, I2, rx, a, kvs, k, ex, g, ey, q2⟩ => ?_
  subst ex ey
  obtain rfl : u = Value.ref a := rx
  obtain ⟨vs, rel, dd⟩ := g.at'
  refine wpAny_notIn_of (kV_is ry) g.ns (dd _ I2.kIn).mapOf ?_
  rw [← (rel.val k).isSome_eq]
  exact ⟨.bl (!(valV kvs k).isSome), H2, I2.tok _, rfl, q2⟩
end
end My
namespace My
open PySem PySem.Spec PyProof.Rows L2
end My
set_option Elab.async false
set_option linter.all false
namespace My
open PySem PySem.Spec PyProof.Rows L2
section
variable {X : Cx}
def rCatA : R2 := fun x y H Q => ∃ a b xs ys, x = .ref a ∧ y = .ref b ∧ H a = some (.tup xs) ∧ H b = some (.tup ys) ∧ xs.length + ys.length ≤ sizeLine ∧
  ∀ p H', Same H H' → H' p = some (.tup (xs ++ ys)) → Q (.ref p) H'
theorem op_catA : OpR X (binaryOp .Add) rCatA := by
  intro pins s σ H x y v u Q I rx ry h
  obtain ⟨a, b, xs, ys, rfl, rfl, ha, hb, hz, q⟩ := h
  by_cases hx : xs = []
  · subst hx
    cases rx
    cases ry
    obtain ⟨its, r1, p1, _⟩ := I.tuple (SqT.of ha)
    obtain ⟨its2, r2, p2, _⟩ := I.tuple (SqT.of hb)
    cases r1
    obtain ⟨⟨cls, dd, data, sl⟩, ho, hc, n, hd⟩ := id p1
    obtain ⟨⟨cls2, dd2, data2, sl2⟩, ho2, hc2, n2, hd2⟩ := id p2
    simp only at hc hd hc2 hd2
    subst hc hd hc2 hd2
    exact concat_meets ⟨_, ho, rfl⟩ ⟨_, ho2, rfl⟩ noFill_tuple_add seq_tuple_add PySem.F.slot_tuple_add PySem.F.entry_tuple_add (PySem.F.args_tuple_add_2 _ _)
      (tuple_addW0 a b _ its2.toArray n n2 dd dd2 sl sl2 (by rfl)) ⟨ho, ho2, .ref b, H, I, rfl, q b H (Same.refl H) hb⟩
  · refine op_catT pins s σ H _ _ v u Q I rx ry ⟨a, b, xs, ys, rfl, rfl, SqT.of ha, SqT.of hb, hx, hz, fun e => ?_, fun _ p hp => ?_⟩
    · subst e
      exact q a H (Same.refl H) (by rw [List.append_nil]; exact ha)
    · exact q p _ (fun b u e => by rw [upd_ne (ne_of_none e hp)]; exact e) upd_same
end
end My
namespace FK
end FK
set_option Elab.async false
set_option linter.all false
set_option maxRecDepth 100000
namespace HT
open PySem PySem.Spec PyProof.Rows
end HT
namespace L2
open PySem PySem.Spec PyProof.Rows
end L2
set_option Elab.async false
set_option linter.all false
set_option maxRecDepth 100000
namespace L2
open PySem PySem.Spec PyProof.Rows
mutual
def noL : PyData → Bool
  | .list _ => false
  | .tuple xs => noLAll xs
  | _ => true
def noLAll : List PyData → Bool
  | [] => true
  | x :: xs => noL x && noLAll xs
end
structure OkG (b n : Nat) (d : PyData) : Prop where
  sh : d.showable = true
  ls : d.leavesShort 2000 = true
  bk : d.bulk ≤ b
  dp : d.depth ≤ n
  nd : d.hasDict = false ∨ noL d = true
structure OkF (d : PyData) : Prop where
  sh : d.showable = true
  ls : d.leavesShort 2000 = true
  bk : d.bulk ≤ 0
  dp : d.depth ≤ 0
  nd : d.hasDict = false
  nl : noL d = true
structure GL (b n : Nat) (ds : List PyData) : Prop where
  sh : PyData.showableAll ds = true
  ls : PyData.leavesShortAll 2000 ds = true
  bk : PyData.bulkAll ds ≤ b
  dp : PyData.depthAll ds ≤ n
  nd : PyData.hasDictAll ds = false ∨ noLAll ds = true
structure FL (ds : List PyData) : Prop where
  sh : PyData.showableAll ds = true
  ls : PyData.leavesShortAll 2000 ds = true
  bk : PyData.bulkAll ds ≤ ds.length
  dp : PyData.depthAll ds ≤ 0
  nd : PyData.hasDictAll ds = false
  nl : noLAll ds = true
theorem OkG.mono {b n c m : Nat} {d : PyData} (h : OkG b n d) (h1 : b ≤ c) (h2 : n ≤ m) : OkG c m d := ⟨h.sh, h.ls, Nat.le_trans h.bk h1, Nat.le_trans h.dp h2, h.nd⟩
theorem OkD.g {b n : Nat} {d : PyData} (h : OkD b n d) : OkG b n d := ⟨h.sh, h.ls, h.bk, h.dp, .inl h.nd⟩
theorem OkF.g {d : PyData} (h : OkF d) : OkG 0 0 d := ⟨h.sh, h.ls, h.bk, h.dp, .inl h.nd⟩
theorem OkF.int {i : Int} (h : i.natAbs < 2 ^ 100) : OkF (.int i) := let k := OkD.int (b := 0) (n := 0) i h; ⟨k.sh, k.ls, k.bk, k.dp, rfl, rfl⟩
theorem OkF.bl (b : Bool) : OkF (.bool b) := ⟨rfl, rfl, Nat.le_refl _, Nat.le_refl _, rfl, rfl⟩
theorem OkF.non : OkF .none := ⟨rfl, rfl, Nat.le_refl _, Nat.le_refl _, rfl, rfl⟩
theorem FL.nil : FL [] := ⟨rfl, rfl, Nat.le_refl _, Nat.le_refl _, rfl, rfl⟩
theorem FL.cons {d : PyData} {ds : List PyData} (h : OkF d) (t : FL ds) : FL (d :: ds) := by
  refine ⟨?_, ?_, ?_, ?_, ?_, ?_⟩
  · show (d.showable && PyData.showableAll ds) = true; rw [h.sh, t.sh]; rfl
  · show (d.leavesShort 2000 && PyData.leavesShortAll 2000 ds) = true; rw [h.ls, t.ls]; rfl
  · show d.bulk + 1 + PyData.bulkAll ds ≤ ds.length + 1; have := h.bk; have := t.bk; omega
  · show max d.depth (PyData.depthAll ds) ≤ 0; have := h.dp; have := t.dp; omega
  · show (d.hasDict || PyData.hasDictAll ds) = false; rw [h.nd, t.nd]; rfl
  · show (noL d && noLAll ds) = true; rw [h.nl, t.nl]; rfl
theorem GL.mid {b n : Nat} {d : PyData} {ys : List PyData} (h : OkG b n d) (t : FL ys) : GL (b + 1 + ys.length) n (d :: ys) := by
  refine ⟨?_, ?_, ?_, ?_, ?_⟩
  · show (d.showable && PyData.showableAll ys) = true; rw [h.sh, t.sh]; rfl
  · show (d.leavesShort 2000 && PyData.leavesShortAll 2000 ys) = true; rw [h.ls, t.ls]; rfl
  · show d.bulk + 1 + PyData.bulkAll ys ≤ _; have := h.bk; have := t.bk; omega
  · show max d.depth (PyData.depthAll ys) ≤ n; have := h.dp; have := t.dp; omega
  · rcases h.nd with z | z
    · left; show (d.hasDict || PyData.hasDictAll ys) = false; rw [z, t.nd]; rfl
    · right; show (noL d && noLAll ys) = true; rw [z, t.nl]; rfl
theorem GL.pre {b n : Nat} {d : PyData} {ys : List PyData} (h : OkF d) (t : GL b n ys) : GL (1 + b) n (d :: ys) := by
  refine ⟨?_, ?_, ?_, ?_, ?_⟩
  · show (d.showable && PyData.showableAll ys) = true; rw [h.sh, t.sh]; rfl
  · show (d.leavesShort 2000 && PyData.leavesShortAll 2000 ys) = true; rw [h.ls, t.ls]; rfl
  · show d.bulk + 1 + PyData.bulkAll ys ≤ _; have := h.bk; have := t.bk; omega
  · show max d.depth (PyData.depthAll ys) ≤ n; have := h.dp; have := t.dp; omega
  · rcases t.nd with z | z
    · left; show (d.hasDict || PyData.hasDictAll ys) = false; rw [h.nd, z]; rfl
    · right; show (noL d && noLAll ys) = true; rw [h.nl, z]; rfl
theorem GL.ins {b n : Nat} {d : PyData} {ys : List PyData} (h : OkG b n d) (t : FL ys) : ∀ xs : List PyData, (∀ e ∈ xs, OkF e) → GL (xs.length + (b + 1 + ys.length)) n (xs ++ d :: ys)
  | [], _ => by
    have := GL.mid h t
    rw [List.length_nil, Nat.zero_add]; exact this
  | e :: xs, hx => by
    have := GL.pre (hx e (List.mem_cons_self ..)) (GL.ins h t xs fun e' he => hx e' (List.mem_cons_of_mem _ he))
    refine ⟨this.sh, this.ls, Nat.le_trans this.bk ?_, this.dp, this.nd⟩
    rw [List.length_cons]; omega
theorem FL.of : ∀ xs : List PyData, (∀ e ∈ xs, OkF e) → FL xs
  | [], _ => .nil
  | e :: xs, hx => .cons (hx e (List.mem_cons_self ..)) (FL.of xs fun e' he => hx e' (List.mem_cons_of_mem _ he))
theorem GL.tup {b n : Nat} {ds : List PyData} (h : GL b n ds) : OkG b (n + 1) (.tuple ds) := ⟨h.sh, h.ls, h.bk, Nat.succ_le_succ h.dp, h.nd⟩
theorem FL.lst {ds : List PyData} (h : FL ds) : OkG ds.length 1 (.list ds) := ⟨h.sh, h.ls, h.bk, Nat.succ_le_succ h.dp, .inl h.nd⟩
def HZ (H : Hp) (Z : List Addr) : Hp := fun b => if b ∈ Z then none else H b
theorem HZ.get {H : Hp} {Z : List Addr} {b : Addr} {o : HO} (e : H b = some o) (n : b ∉ Z) : HZ H Z b = some o := by unfold HZ; rw [if_neg n]; exact e
theorem HZ.of {H : Hp} {Z : List Addr} {b : Addr} {o : HO} (e : HZ H Z b = some o) : H b = some o ∧ b ∉ Z := by
  unfold HZ at e
  by_cases h : b ∈ Z
  · rw [if_pos h] at e; cases e
  · rw [if_neg h] at e; exact ⟨e, h⟩
def ExZ (H H' : Hp) (Z : List Addr) : Prop := ∀ b o, H b = some o → b ∉ Z → H' b = some o
theorem ExZ.refl (H : Hp) (Z : List Addr) : ExZ H H Z := fun _ _ e _ => e
theorem ExZ.trans {H H1 H2 : Hp} {Z : List Addr} (a : ExZ H H1 Z) (b : ExZ H1 H2 Z) : ExZ H H2 Z := fun c o e n => b c o (a c o e n) n
theorem Same.exz {H H' : Hp} {Z : List Addr} (s : Same H H') : ExZ H H' Z := fun b o e _ => s b o e
theorem Dh.exz {H H' : Hp} {Z : List Addr} {x : V} {d : PyData} (h : Dh (HZ H Z) x d) (k : ExZ H H' Z) : Dh (HZ H' Z) x d := h.same fun b o e => HZ.get (k b o (HZ.of e).1 (HZ.of e).2) (HZ.of e).2
theorem DhAll.exz {H H' : Hp} {Z : List Addr} {x : List V} {d : List PyData} (h : DhAll (HZ H Z) x d) (k : ExZ H H' Z) : DhAll (HZ H' Z) x d := h.same fun b o e => HZ.get (k b o (HZ.of e).1 (HZ.of e).2) (HZ.of e).2
/-- all of Z stands already: what is new isn't of it -/
def Old (H : Hp) (Z : List Addr) : Prop := ∀ b ∈ Z, ∃ o, H b = some o
theorem Old.new {H : Hp} {Z : List Addr} (h : Old H Z) {b : Addr} (n : H b = none) : b ∉ Z := fun z => by
  obtain ⟨o, e⟩ := h b z
  rw [n] at e; cases e
end L2
set_option Elab.async false
set_option linter.all false
set_option maxRecDepth 100000
namespace L2
open PySem PySem.Spec PyProof.Rows
theorem compLoop_anyD {prog : Program} {w : World} {A : Around} {R : Result → Shared → Prop} {s : Shared} {keyX valX targ iter : Expr} {ifs : List Expr} {scope : Scope} {pos : Pos} {it : Value} {D : Addr} {env : Env} (I : Nat → Shared → Prop)
    (turn : ∀ n s, I n s → wpAny (model prog w) A (pyNext it) (fun r s₁ => match r with
      | none => R (.ok .next) s₁
      | some v => wpAny (model prog w) A (letOwnedTupleGo targ it v) (fun _ s₁' => wpAny (model prog w) A (assign targ env v) (fun _ s₂ =>
          wpAny (model prog w) A (forIn ifs true fun c r => if r = true then do let ok ← isTrue c env (eval c env); pure (ForInStep.yield ok) else pure (ForInStep.yield r)) (fun ok s₃ =>
            if ok = true then wpAny (model prog w) A (eval keyX env) (fun kq sA => wpAny (model prog w) A (eval valX env) (fun vq sB =>
              wpAny (model prog w) A (dictSet D kq vq) (fun _ sC => ∃ m, m < n ∧ I m sC) (notedBy (model prog w) A env fun e s' => R (.error e) s') sB) (notedBy (model prog w) A env fun e s' => R (.error e) s') sA) (notedBy (model prog w) A env fun e s' => R (.error e) s') s₃
            else ∃ m, m < n ∧ I m s₃) (notedBy (model prog w) A env fun e s' => R (.error e) s') s₂) (notedBy (model prog w) A env fun e s' => R (.error e) s') s₁') (notedBy (model prog w) A env fun e s' => R (.error e) s') s₁) (notedBy (model prog w) A env fun e s' => R (.error e) s') s)
    (n : Nat) (h : I n s) :
    codeAny (model prog w) A (.compLoop (.DictComp keyX valX [⟨targ, iter, ifs, 0⟩] scope pos) 0 it (.ref D) env) R s := by
  refine codeAny_loop rfl I (fun n s hI => ?_) n h
  show wpAny _ A ((compTurn (.DictComp keyX valX [⟨targ, iter, ifs, 0⟩] scope pos) 0 it (.ref D) env).onRaise (fun x => do noteFrame x env; theTreesLotGoes x)) _ _ s
  refine wpAny_noted ?_
  rw [compTurn_dict]
  refine wpAny_bind (wpAny_standAt (wpAny_bind (wpAny_mono (turn n s hI) (fun r s₁ h₁ => ?_) fun _ _ h' => h')))
  cases r with
  | none => exact wpAny_pure h₁
  | some v =>
    refine wpAny_bind (wpAny_mono h₁ (fun _ s₁' h₁' => ?_) fun _ _ h' => h')
    refine wpAny_bind (wpAny_mono h₁' (fun _ s₂ h₂ => wpAny_bind (wpAny_mono h₂ (fun ok s₃ hP => ?_) fun _ _ h' => h')) fun _ _ h' => h')
    cases ok with
    | false => exact wpAny_pure ⟨rfl, hP⟩
    | true =>
      exact wpAny_bind (wpAny_bind (wpAny_mono hP (fun kq sA hQ => wpAny_bind (wpAny_holding (wpAny_mono hQ (fun vq sB hR => wpAny_bind (wpAny_standAt (wpAny_holding (wpAny_mono hR (fun _ sC hT => wpAny_pure ⟨rfl, hT⟩) fun _ _ h' => h')))) fun _ _ h' => h'))) fun _ _ h' => h'))
theorem dset_ok {X : Cx} {pins : List (Addr × Obj)} {σ : St} {H : Hp} {s : Shared} {E : Value → Shared → Prop} {D : Addr} {kvs : List (Key × V)} {k : Key} {z : V} {u v : Value} {Q : Unit → Shared → Prop} (I : Inv X pins σ H s) (hD : H D = some (.dK kvs)) (hz : kvs.length < sizeLine) (rk : RelV (kV k) u) (r : RelV z v)
    (h : ∀ s', Inv X pins σ (upd H D (.dK (putK kvs k z))) s' → Q () s') : wpAny (model X.prog X.w) X.A (dictSet D u v) Q E s := by
  obtain ⟨zz, hd, vs, rel, dd⟩ := dk_of I.hok hD
  have hz' : vs.length ≤ sizeLine := by rw [← rel.length]; exact zz
  have hl : (putK kvs k z).length ≤ sizeLine := by have := length_putK kvs k z; omega
  refine wpAny_dictSet_pairs (hsz := hz') (kV_is rk) dd fun h' dd' hs => h _ ?_
  have he : ∃ q, h'.get? D = some q := let ⟨q, _, _, hq, _⟩ := dd'; ⟨q, hq⟩
  exact d_write I (by rw [hD]; exact True.intro) hs he (dk_new hl hd (rel.put k r) dd')
section
variable {X : Cx}
def tDc (wi : TI) (g : TG) (tt : TT) (tk tv : TE) (vs : List Nat) : TE := fun σ H Q => wi σ H fun J H1 => ∀ D, H1 D = none → ∃ W : Nat → Nat → Hp → Prop, (∃ m, W 0 m (upd H1 D (.dK []))) ∧ ∀ i m H, W i m H →
  (J.stop i H ∧ Q (.ref D) H) ∨ (J.go i H ∧ ∃ Nx : Hp → Prop, (∀ H', Nx H' → ∃ m', m' < m ∧ W (i + 1) m' H') ∧ ∀ x H', J.yld i H x H' → g x (wipe σ vs) H' fun σ2 H2 => wipe σ2 vs = wipe σ vs ∧ tt σ2 H2 fun b H3 =>
    if b = true then tk σ2 H3 fun y H4 => tv σ2 H4 fun z H5 => ∃ kvs k, H5 D = some (.dK kvs) ∧ y = kV k ∧ kvs.length < sizeLine ∧ Nx (upd H5 D (.dK (putK kvs k z))) else Nx H3)
theorem dc_core {pins : List (Addr × Obj)} {s : Shared} {σ : St} {H : Hp} {Q : VK} {kx vx tg iter : Expr} {ifs : List Expr} {scope : Scope} {own : List (Str × Nat)} {pos pos' : Pos} {wi : TI} {g : TG} {tt : TT} {tk tv : TE} {use : Option (Value → Sem Unit)} {Qf : Value → Shared → Prop}
    (hc : X.calm = true) (hN : X.N.Nodup) (I : Inv X pins σ H s) (hi : PI X tg iter wi) (ok : BlkOk X.N X.env.scope scope own)
    (hg : ∀ (s : Shared) (H : Hp) (C : Addr) (cl : List (Str × Addr)) (fp : List Addr), PG (X.blk s H scope (compEnvC scope cl C X.env) fp) tg g) (ht : ∀ (s : Shared) (H : Hp) (C : Addr) (cl : List (Str × Addr)) (fp : List Addr), PTs (X.blk s H scope (compEnvC scope cl C X.env) fp) ifs tt)
    (hk : ∀ (s : Shared) (H : Hp) (C : Addr) (cl : List (Str × Addr)) (fp : List Addr), PE (X.blk s H scope (compEnvC scope cl C X.env) fp) kx tk) (he : ∀ (s : Shared) (H : Hp) (C : Addr) (cl : List (Str × Addr)) (fp : List Addr), PE (X.blk s H scope (compEnvC scope cl C X.env) fp) vx tv) (hs : ∀ x, foldedSetIterable iter X.env x = pure x)
    (h : tDc wi g tt tk tv (own.map (·.2)) σ H Q)
    (hRR : ∀ D C s' m H', Inv X pins σ H' s' → Q (.ref D) H' → s'.heap.Ns C m → FpOk X pins H' C → compPost (model X.prog X.w) X.A X.xe use Qf (.ref D) C (.ok .next) s') :
    wpAny (model X.prog X.w) X.A (comprehension (.DictComp kx vx [⟨tg, iter, ifs, 0⟩] scope pos) scope X.env pos' newDict false (eval iter X.env) use) Qf X.xe s := by
  have hfree : ∀ y ∈ scope.names, y.2 = .free → ∃ c, X.env.cells.lookup y.1 = some c := fun y hy e => by
    rcases ok.free y hy e with k | k
    · exact I.ok.has _ (.inl k)
    · exact I.ok.has _ (.inr k)
  refine wpAny_comprehension_free (use := use) rfl hs (closure_ok hfree) ok.kind (fun y hy e => by rw [ok.uniq y hy, e])
    (thn (hi pins s σ H _ I h) fun xv s1 hx => thn hx fun itv s2 h2 => ?_)
  obtain ⟨it, fp, tn, J, H2, e, I2, T, st2, f2, q⟩ := h2
  subst e
  refine wpAny_newObj_type (newEnv_comp ?_) (by first | exact trivial | decide | simp [sizeOk])
  generalize hD : s2.heap.objs.size = D
  have hDn : H2 D = none := I2.hok.fresh (Nat.le_of_eq hD)
  obtain ⟨W, ⟨m0, w0⟩, turn⟩ := q D hDn
  -- the new list
  generalize hs3 : ({ s2 with heap := s2.heap.push { cls := .type "dict", data := .dict #[] } } : Shared) = s3
  have I3 : Inv X pins σ (upd H2 D (.dK [])) s3 := by
    rw [← hs3]
    rw [← hD]
    exact I2.laid (t' := s2.toks) (fun b o e => Heap.get?_push_of_some _ e) (Nat.le_refl _) (dk_empty s2.heap I2.big)
  have h3 : s3.heap = s2.heap.push { cls := .type "dict", data := .dict #[] } := by rw [← hs3]
  have sz : ∀ b ∈ fp, b < s2.heap.objs.size := fun b hb => by
    obtain ⟨o, e, _⟩ := T.obj _ _ st2 b hb
    exact Heap.lt_size e
  have f3 : ∀ b ∈ fp, FpOk X pins (upd H2 D (.dK [])) b ∧ b < s3.heap.objs.size := fun b hb => by
    have hlt := sz b hb
    refine ⟨⟨?_, (f2 b hb).2⟩, by rw [h3, Heap.size_push]; exact Nat.lt_succ_of_lt hlt⟩
    rw [upd_ne (by rw [← hD]; exact Nat.ne_of_lt hlt)]
    exact (f2 b hb).1
  have st3 : tn 0 s3.heap := T.keep _ _ _ st2 fun b _ o e => by rw [h3]; exact Heap.get?_push_of_some _ e
  have I4 := block_start I3 ok hN f3
  have pg := hg s3 (upd H2 D (.dK [])) s3.heap.objs.size (cellsFrom (s3.heap.objs.size + 1) scope.names (cloFrom X.env.cells scope.names [])) fp
  have pt := ht s3 (upd H2 D (.dK [])) s3.heap.objs.size (cellsFrom (s3.heap.objs.size + 1) scope.names (cloFrom X.env.cells scope.names [])) fp
  have pk := hk s3 (upd H2 D (.dK [])) s3.heap.objs.size (cellsFrom (s3.heap.objs.size + 1) scope.names (cloFrom X.env.cells scope.names [])) fp
  have pe := he s3 (upd H2 D (.dK [])) s3.heap.objs.size (cellsFrom (s3.heap.objs.size + 1) scope.names (cloFrom X.env.cells scope.names [])) fp
  show codeAny _ _ (.compStart (.DictComp kx vx [⟨tg, iter, ifs, 0⟩] scope pos) 0 (.ref it) (.ref D) (compEnvC scope (cellsFrom (s3.heap.objs.size + 1) scope.names (cloFrom X.env.cells scope.names [])) s3.heap.objs.size X.env)) (compPost (model X.prog X.w) X.A X.xe use Qf (.ref D) s3.heap.objs.size) { s3 with heap := pushCells (s3.heap.push { cls := .type "dict", data := .dict #[] }) scope.names }
  have nfp : ∀ b ∈ fp, (upd H2 D (.dK [])) b = none := fun b hb => (f3 b hb).1.1
  generalize hce : compEnvC scope (cellsFrom (s3.heap.objs.size + 1) scope.names (cloFrom X.env.cells scope.names [])) s3.heap.objs.size X.env = ce at I4 pg pt pk pe ⊢
  have cL : ce.locals = s3.heap.objs.size := by subst hce; rfl
  generalize hH3 : upd H2 D (.dK []) = H3 at I3 I4 pg pt pk pe w0 nfp f3
  generalize hs4 : ({ s3 with heap := pushCells (s3.heap.push { cls := .type "dict", data := .dict #[] }) scope.names } : Shared) = s4 at I4 ⊢
  have st4 : tn 0 s4.heap := T.keep _ _ _ st3 fun b _ o e => by rw [← hs4]; exact pushCells_keeps _ _ _ _ (Heap.get?_push_of_some _ e)
  have stat : ∀ {σ' : St} {H' : Hp} {s' : Shared}, Inv (X.blk s3 H3 scope ce fp) [] σ' H' s' → (∀ b ∈ fp, H' b = none) → ∀ b ∈ fp, FpOk (X.blk s3 H3 scope ce fp) [] H' b := fun {σ' H' s'} I' hn b hb =>
    ⟨hn b hb, (I'.ok.exf b hb).1, I'.ok.exfs b hb, .inl hb, fun x c e => (I'.ok.exf b hb).2 x c e, fun p hp => absurd (show p ∈ ([] : List (Addr × Obj)) ++ [] from hp) (by simp)⟩
  have loop : codeAny (model X.prog X.w) X.A (.compLoop (.DictComp kx vx [⟨tg, iter, ifs, 0⟩] scope pos) 0 (.ref it) (.ref D) ce) (compPost (model X.prog X.w) X.A X.xe use Qf (.ref D) s3.heap.objs.size) s4 := by
    refine compLoop_anyD (fun n s' => ∃ i H', Inv (X.blk s3 H3 scope ce fp) [] (wipe σ (own.map (·.2))) H' s' ∧ tn i s'.heap ∧ (∀ b ∈ fp, H' b = none) ∧ W i n H') ?_ m0 ⟨0, H3, I4, st4, nfp, w0⟩
    rintro n s5 ⟨i, H5, I5, st5, n5, w5⟩
    rcases turn i n H5 w5 with ⟨stop, qq⟩ | ⟨go, Nx, hNx, step⟩
    · have td := T.done (X.blk s3 H3 scope ce fp) rfl rfl rfl hc i [] s5 _ H5 (fun _ _ => False) I5 (stat I5 n5) st5 stop
      refine thnF td fun r s6 ⟨hr, I6⟩ => ?_
      subst hr
      -- back in the def's context
      have I7 : Inv X pins σ H5 s6 := I3.call' (ch := fp) I6.os I6.base I6.hok I6.bare fun b hb => ⟨(f3 b hb).1.2.2.2.1, (f3 b hb).1.2.1, (f3 b hb).1.2.2.2.2.1, (f3 b hb).1.2.2.2.2.2⟩
      have nC : H5 s3.heap.objs.size = none := by
        have z : H5 ce.locals = none := I6.free
        rw [cL] at z
        exact z
      obtain ⟨m, hn, _⟩ := I6.loc
      have hn : s6.heap.Ns ce.locals m := hn
      rw [cL] at hn
      exact hRR D s3.heap.objs.size s6 m H5 I7 qq hn (I3.fpOk (Nat.le_refl _) nC)
    · have ti := T.item (X.blk s3 H3 scope ce fp) rfl rfl rfl hc i [] s5 _ H5 (fun _ _ => False) I5 (stat I5 n5) st5 go
      refine thnF ti fun r s6 ⟨u, hr, h6⟩ => ?_
      subst hr
      refine thnF h6 fun _ s7 ⟨x, H7, I7, r7, y7, st7, n7⟩ => ?_
      have I7' := I7.pinned (stat I7 n7) (T.obj _ _ st7)
      refine thnF (pg _ s7 _ H7 x u _ I7' r7 (step x H7 y7)) fun _ s8 ⟨σ8, H8, I8, hw8, q8⟩ => ?_
      refine thnF (pt _ s8 σ8 H8 _ I8 q8) fun b s9 ⟨H9, I9, q9⟩ => ?_
      -- the turn's end
      have fin : ∀ {s' : Shared} {H' : Hp}, Inv (X.blk s3 H3 scope ce fp) ([] ++ pinsAt fp s7.heap) σ8 H' s' → Nx H' → ∃ m, m < n ∧ ∃ i H', Inv (X.blk s3 H3 scope ce fp) [] (wipe σ (own.map (·.2))) H' s' ∧ tn i s'.heap ∧ (∀ b ∈ fp, H' b = none) ∧ W i m H' := fun {s' H'} I' nx => by
        obtain ⟨m', hm, w'⟩ := hNx H' nx
        have pin' : ∀ b ∈ fp, ∀ o, s7.heap.get? b = some o → s'.heap.get? b = some o ∧ H' b = none := fun b hb o e =>
          let z := I'.pin (b, o) (List.mem_append_right _ (List.mem_append_right _ (mem_pinsAt hb e)))
          ⟨z.1, z.2.1⟩
        have hl : (wipe σ (own.map (·.2))).length = σ8.length := by rw [← hw8, wipe_length]
        refine ⟨m', hm, i + 1, H', (I'.unpinned (pins := [])).weak hl (fun j v e => ?_), T.keep _ _ _ st7 fun b hb o e => (pin' b hb o e).1, fun b hb => ?_, w'⟩
        · rw [← hw8] at e
          exact (wipe_some e).1
        · obtain ⟨o, e, _⟩ := T.obj _ _ st7 b hb
          exact (pin' b hb o e).2
      cases b with
      | false =>
        simp only [Bool.false_eq_true, if_false] at q9 ⊢
        exact fin I9 q9
      | true =>
        simp only [if_true] at q9 ⊢
        refine thnF (pk _ s9 σ8 H9 _ I9 q9) fun z s10 ⟨yv, H10, I10, r10, q10⟩ => ?_
        refine thnF (pe _ s10 σ8 H10 _ I10 q10) fun z2 s11 ⟨zv, H11, I11, r11, kvs, k, hD11, ek, hz11, nx⟩ => ?_
        subst ek
        exact dset_ok (X := X.blk s3 H3 scope ce fp) I11 hD11 hz11 r10 r11 fun s12 I12 => fin I12 nx
  exact codeAny_compStart_dict loop (T.self X.A 0 _ _ _ st4 loop)
/-- as a value -/
theorem pe_dc {kx vx tg iter : Expr} {ifs : List Expr} {scope : Scope} {own : List (Str × Nat)} {pos : Pos} {wi : TI} {g : TG} {tt : TT} {tk tv : TE} (hc : X.calm = true) (hN : X.N.Nodup) (hi : PI X tg iter wi) (ok : BlkOk X.N X.env.scope scope own)
    (hg : ∀ (s : Shared) (H : Hp) (C : Addr) (cl : List (Str × Addr)) (fp : List Addr), PG (X.blk s H scope (compEnvC scope cl C X.env) fp) tg g) (ht : ∀ (s : Shared) (H : Hp) (C : Addr) (cl : List (Str × Addr)) (fp : List Addr), PTs (X.blk s H scope (compEnvC scope cl C X.env) fp) ifs tt)
    (hk : ∀ (s : Shared) (H : Hp) (C : Addr) (cl : List (Str × Addr)) (fp : List Addr), PE (X.blk s H scope (compEnvC scope cl C X.env) fp) kx tk) (he : ∀ (s : Shared) (H : Hp) (C : Addr) (cl : List (Str × Addr)) (fp : List Addr), PE (X.blk s H scope (compEnvC scope cl C X.env) fp) vx tv) (hs : ∀ x, foldedSetIterable iter X.env x = pure x := by intro _; rfl) :
    PE X (.DictComp kx vx [⟨tg, iter, ifs, 0⟩] scope pos) (tDc wi g tt tk tv (own.map (·.2))) := by
  intro pins s σ H Q I h
  have e : eval (.DictComp kx vx [⟨tg, iter, ifs, 0⟩] scope pos) X.env = comprehension (.DictComp kx vx [⟨tg, iter, ifs, 0⟩] scope pos) scope X.env (firstIterPos [⟨tg, iter, ifs, 0⟩] pos) newDict false (eval iter X.env) none := by rfl
  rw [e]
  refine dc_core hc hN I hi ok hg ht hk he hs h fun D C s' m H' I' q hn f => ⟨m, hn, fun h'' sb => ?_⟩
  obtain ⟨f0, f1, f2, f3, f4, f5⟩ := f
  exact ⟨.ref D, H', I'.turned (t' := s'.toks) (fun b o hb e => (sb.2 b hb).trans e) f0 f1 f3 f4 f5, rfl, q⟩
theorem dc_tup {K : PySem.W.Frag} {a : Addr} {xs : List V} {g : TG} {tt : TT} {tk tv : TE} {vs : List Nat} {σ : St} {H1 : Hp} {D : Addr} {Qd : Hp → Prop} (Pv : Nat → Hp → Prop) (h0 : Pv 0 (upd H1 D (.dK []))) (hl : ∀ i H, i ≤ xs.length → Pv i H → SqT K H a xs)
    (hs : ∀ i x H, xs[i]? = some x → Pv i H → g x (wipe σ vs) H fun σ2 H2 => wipe σ2 vs = wipe σ vs ∧ tt σ2 H2 fun b H3 =>
      if b = true then tk σ2 H3 fun y H4 => tv σ2 H4 fun z H5 => ∃ kvs k, H5 D = some (.dK kvs) ∧ y = kV k ∧ kvs.length < sizeLine ∧ Pv (i + 1) (upd H5 D (.dK (putK kvs k z))) else Pv (i + 1) H3) (hd : ∀ H, Pv xs.length H → Qd H) :
    ∃ W : Nat → Nat → Hp → Prop, (∃ m, W 0 m (upd H1 D (.dK []))) ∧ ∀ i m H, W i m H →
      ((Itt K a).stop i H ∧ Qd H) ∨ ((Itt K a).go i H ∧ ∃ Nx : Hp → Prop, (∀ H', Nx H' → ∃ m', m' < m ∧ W (i + 1) m' H') ∧ ∀ x H', (Itt K a).yld i H x H' → g x (wipe σ vs) H' fun σ2 H2 => wipe σ2 vs = wipe σ vs ∧ tt σ2 H2 fun b H3 =>
        if b = true then tk σ2 H3 fun y H4 => tv σ2 H4 fun z H5 => ∃ kvs k, H5 D = some (.dK kvs) ∧ y = kV k ∧ kvs.length < sizeLine ∧ Nx (upd H5 D (.dK (putK kvs k z))) else Nx H3) := by
  refine ⟨fun i m H => m = xs.length - i ∧ i ≤ xs.length ∧ Pv i H, ⟨xs.length, by simp, Nat.zero_le _, h0⟩, ?_⟩
  rintro i m H ⟨rfl, hi, p⟩
  have q := hl i H hi p
  by_cases hlt : i < xs.length
  · refine .inr ⟨⟨xs, xs[i], q, by simp [hlt]⟩, Pv (i + 1), fun H' p' => ⟨xs.length - (i + 1), by omega, rfl, hlt, p'⟩, fun x H' y => ?_⟩
    obtain ⟨e, y⟩ := y
    subst e
    exact hs i x _ (y xs q) p
  · have e : i = xs.length := by omega
    subst e
    exact .inl ⟨⟨xs, q, Nat.le_refl _⟩, hd H p⟩
end
end L2
set_option Elab.async false
set_option linter.all false
set_option maxRecDepth 100000
namespace L2
open PySem PySem.Spec PyProof.Rows
end L2
set_option Elab.async false
set_option linter.all false
set_option maxRecDepth 100000
namespace L2
open PySem PySem.Spec PyProof.Rows
section
variable {X : Cx}
structure Lay (d : PyData) : Prop where
  c : d.canLay0 = true
  dp : d.depth ≤ 60
def rInD (K : PySem.W.Frag) : R2 := fun x y H Q => ∃ d xs e, Dp K H x d ∧ Dp K H y e ∧ (e = .tuple xs ∨ e = .list xs) ∧ PyData.canLayAll0 xs = true ∧ Lay d ∧ Q (.bl (xs.any fun z => PyData.eqv z d)) H
theorem op_inD (hu : X.A.units + 64 < cLine) : OpR X (compareOp .In) (rInD X.K) := by
  intro pins s σ H x y v u Q I rx ry h
  obtain ⟨d, xs, e, hd, he, hx, hl, ld, q⟩ := h
  obtain ⟨as, r1⟩ := Dp.reads I d x v hd rx
  obtain ⟨bs, r2⟩ := Dp.reads I e y u he ry
  have room : X.A.units + 1 + min (PyData.depthAll xs) d.depth < cLine := by
    have := ld.dp
    have := Nat.min_le_right (PyData.depthAll xs) d.depth
    omega
  rcases hx with rfl | rfl
  · exact SeqAt.in_tuple_reads r2 r1 hl ld.c room ⟨.bl _, H, I, rfl, q⟩
  · exact SeqAt.in_list_reads r2 r1 hl ld.c room ⟨.bl _, H, I, rfl, q⟩
theorem call_isinstO : CallR X (.builtin "isinstance") (fun xs H Q => ∃ x C t b, xs = [x, .ref C] ∧ TyOf X.K H x t ∧ PySem.W.kitOne X.K t (.ref C) = some b ∧ Q (.bl b) H) := by
  intro pins s σ H xs us Q I r h
  obtain ⟨x, c, t, b, rfl, ty, e, q⟩ := h
  obtain ⟨u, v, rfl, ru, rv⟩ := Vals.two r
  cases rv
  exact isinst_ok I ru ty e fun tk => ⟨.bl b, H, I.kept (h' := s.heap) (t' := tk) (fun _ _ e => e), rfl, q⟩
def rGetL (K : PySem.W.Frag) : V → V → Hp → VK → Prop := fun x y H Q => ∃ (p : Addr) (xs : List V) (j : Nat) (v : V), x = .ref p ∧ y = .int (j : Nat) ∧ SqL K H p xs ∧ xs[j]? = some v ∧ Q v H
theorem get_listN : PGet X (rGetL X.K) := by
  intro pins s σ H x y v u Q I rx ry h
  obtain ⟨p, xs, j, z, rfl, rfl, hq, he, q⟩ := h
  cases rx
  obtain ⟨t, rfl⟩ := ry
  obtain ⟨its, r, pl, hz⟩ := I.list hq
  obtain ⟨w, ew, rw'⟩ := r.get he
  have hj := (List.getElem?_eq_some_iff.mp he).1
  have hn := line63
  exact wpAny_getItem_list pl.isList (by omega) (by omega) (by simpa using ew) ⟨z, H, I, rw', q⟩
end
end L2
set_option Elab.async false
set_option linter.all false
set_option maxRecDepth 100000
namespace L2
open PySem PySem.Spec PyProof.Rows
section
variable {X : Cx}
def rIndexD (K : PySem.W.Frag) : V → List V → Hp → VK → Prop := fun x xs H Q => ∃ (a : Addr) (ys : List V) (y : V) (ds : List PyData) (d : PyData) (j : Nat) (c : PyData), x = V.ref a ∧ xs = [y] ∧ SqL K H a ys ∧ DpAll K H ys ds ∧ Dp K H y d ∧
  PyData.canLayAll0 ds = true ∧ Lay d ∧ ds[j]? = some c ∧ PyData.eqv c d = true ∧ (∀ (m : Nat) (c' : PyData), m < j → ds[m]? = some c' → PyData.eqv c' d = false) ∧ Q (.int (j : Nat)) H
theorem mt_indexD (hu : X.A.units + 64 < cLine) : MtR X "list.index" (rIndexD X.K) := by
  intro pins s σ H x xs v us Q I rx rxs h
  obtain ⟨a, ys, y, ds, d, j, c, rfl, rfl, hs, hds, hd, hl, ld, hc, hcj, hno, q⟩ := h
  cases rx
  cases rxs with
  | cons ry rt =>
    rename_i uy ut
    cases rt
    obtain ⟨its, rv, ⟨⟨cls, dd, data, sl⟩, n, ho, hc0, hdn, hd0⟩, hlen⟩ := I.list hs
    simp only at hc0 hd0
    subst hc0 hd0
    obtain ⟨as, rA⟩ := Dp.readsAll I ds ys its hds rv
    obtain ⟨bs, rB⟩ := Dp.reads I d y uy hd ry
    have em : its.map (SeqAt.readOf s.heap) = ds := SeqAt.readsAll_map ds its as hl rA
    have hvl := rv.length
    have hjd : j < ds.length := (List.getElem?_eq_some_iff.mp hc).1
    have hlm : its.length = ds.length := by rw [← em, List.length_map]
    have hj : j < its.toArray.size := by
      show j < its.length
      omega
    have hsl := sizeLine_eq
    have room : X.A.units + 1 + min (PyData.depthAll ds) d.depth < cLine := by
      have := ld.dp
      have := Nat.min_le_right (PyData.depthAll ds) d.depth
      omega
    have get : ∀ (m : Nat) (hm : m < its.toArray.size), ds[m]? = some (SeqAt.readOf s.heap its.toArray[m]) := fun m hm => by
      rw [← em, List.getElem?_map]
      have : its[m]? = some its.toArray[m] := by
        rw [List.getElem?_eq_getElem (show m < its.length from hm)]
        simp
      rw [this]; rfl
    refine call_meets PySem.F.slot_list_index ⟨_, ho, rfl⟩ PySem.F.entry_list_index (PySem.F.args_list_index_2 _ _)
      (SeqAt.list_indexAt a its.toArray n dd sl uy (fun z => PyData.eqv (SeqAt.readOf s.heap z) d) j hj (by omega) ?_ ?_) ⟨ho, SeqAt.items_eqAt (vs := its.toArray) (by simpa using rA) rB hl ld.c room, ?_⟩
    · have e := get j hj
      rw [hc] at e
      show PyData.eqv (SeqAt.readOf s.heap its.toArray[j]) d = true
      rw [← Option.some.inj e]; exact hcj
    · intro m hm hmj
      exact hno m _ hmj (get m hm)
    · exact ⟨.int (j : Nat), H, I.tok _, ⟨_, rfl⟩, q⟩
end
end L2
set_option Elab.async false
set_option linter.all false
set_option maxRecDepth 100000
namespace L2
open PySem PySem.Spec PyProof.Rows
end L2
set_option Elab.async false
set_option linter.all false
set_option maxRecDepth 100000
namespace L2
open PySem PySem.Spec PyProof.Rows
end L2
set_option Elab.async false
set_option linter.all false
set_option maxRecDepth 100000
namespace L2
open PySem PySem.Spec PyProof.Rows
theorem nofill_tup : fillsNumberSlot (.type "tuple") "mul" = pure false :=
  PySem.fillsNumberSlot_seq (id := "tuple.__mul__") (r := some (.builtin "tuple.__rmul__")) F.slot_tuple_mul.lookup (by decide +kernel) F.slot_tuple_rmul.lookup (by decide +kernel)
theorem rep_tup : seqRepeat? (.type "tuple") = pure (some (.builtin "tuple.__mul__")) := by
  unfold seqRepeat?
  rw [PySem.seqSlot_of (T := "tuple") (name := "__mul__") (id := "tuple.__mul__") F.slot_tuple_mul.lookup (by decide +kernel), PySem.seqSlot_of (T := "tuple") (name := "__rmul__") (id := "tuple.__rmul__") F.slot_tuple_rmul.lookup (by decide +kernel)]
  rfl
theorem rmul_tup (a : Int) (t : Tok) (l : Addr) (items : Array Value) (n : Nat) (od : Option Addr) (sl : Array (Option Value)) :
    Meets (Builtin.«int.__rmul__» ⟨[.int a t, .ref l], []⟩) (fun _ R s => s.heap.get? l = some { cls := .type "tuple", dict := od, data := .seq items n, slots := sl } ∧ R (.ok (.ret Value.notImplemented)) s) :=
  .of_wp fun prog w A R s h => by
    obtain ⟨hp, g, dn, tk, os⟩ := s; obtain ⟨hl, h⟩ := h
    wp_walk
    exact ⟨_, rfl, h⟩
theorem mul_tup1 (l : Addr) (items : Array Value) (n : Nat) (od : Option Addr) (sl : Array (Option Value)) (u : Tok) :
    Meets (Builtin.«tuple.__mul__» ⟨[.ref l, .int 1 u], []⟩) (fun _ R s => s.heap.get? l = some { cls := .type "tuple", dict := od, data := .seq items n, slots := sl } ∧ R (.ok (.ret (.ref l))) s) :=
  .of_wp fun prog w A R s h => by
    obtain ⟨hp, g, dn, tk, os⟩ := s; obtain ⟨hl, h⟩ := h
    wp_walk
    exact ⟨_, rfl, h⟩
theorem mul_tupN (l : Addr) (items : Array Value) (n : Nat) (od : Option Addr) (sl : Array (Option Value)) (x : Int) (u : Tok) (h1 : ¬ (decide (x < -(2 ^ 63)) || decide (x ≥ 2 ^ 63)) = true) (h2 : ¬ (items.isEmpty || x == 1) = true) (h3 : ¬ (decide (x ≤ 0) || items.isEmpty) = true) (h4 : ¬ (items.size : Int) * x > (2 ^ 63 - 1) / 8) (h5 : ¬ Builtin.Tuple.tupleTooMany ((items.size : Int) * x) = true) (h6 : (List.foldl (fun x1 x2 => x1 ++ x2) #[] (List.replicate x.toNat items)).size ≤ sizeLine) :
    Meets (Builtin.«tuple.__mul__» ⟨[.ref l, .int x u], []⟩) (fun _ R s => s.heap.get? l = some { cls := .type "tuple", dict := od, data := .seq items n, slots := sl } ∧ R (.ok (.ret (.ref s.heap.objs.size))) { s with heap := s.heap.push { cls := .type "tuple", data := .seq (List.foldl (fun x1 x2 => x1 ++ x2) #[] (List.replicate x.toNat items)) } }) :=
  .of_wp fun prog w A R s h => by
    obtain ⟨hp, g, dn, tk, os⟩ := s; obtain ⟨hl, h⟩ := h
    wp_walk
    rw [if_neg h1]
    wp_walk
    rw [if_neg h4]
    wp_walk
    exact ⟨_, rfl, h⟩
section
variable {X : Cx}
def rRepT : R2 := fun x y H Q => ∃ (l : Addr) (k : Nat) (xs : List V), x = .ref l ∧ y = .int (k : Nat) ∧ H l = some (.tup xs) ∧ xs ≠ [] ∧ 1 ≤ k ∧ xs.length * k ≤ 1000 ∧
  ∀ p H', H' p = some (.tup (List.replicate k xs).flatten) → Same H H' → Q (.ref p) H'
theorem op_repT : OpR X (binaryOp .Mult) rRepT := by
  intro pins s σ H x y v u Q I rx ry h
  obtain ⟨l, k, xs, rfl, rfl, hH, hne, h1, hz, q⟩ := h
  cases rx
  obtain ⟨t, rfl⟩ := ry
  obtain ⟨z, its, r, pl⟩ := I.hok _ _ hH
  obtain ⟨o, e, hc, n, hd⟩ := pl
  obtain ⟨cl, od, dt, sl⟩ := o
  have hc : cl = .type "tuple" := hc
  have hd : dt = .seq its.toArray n := hd
  subst hc hd
  have hlen := r.length
  have hs : sizeLine = 16777216 := sizeLine_eq
  refine wpAny_binaryOp_repeat_ref (T := "tuple") (U := "int") (by decide) ⟨_, e, rfl⟩ (fun s' => typeIs_int s' k t) nofill_tup F.fills_int_mul F.slot_int_rmul rep_tup F.slot_int_index.lookup
    (call_meets F.slot_int_rmul (typeIs_int s k t) F.entry_int_rmul (F.args_int_rmul_2 _ _) (rmul_tup k t l its.toArray n od sl) ⟨e, rfl, ⟨_, e, rfl⟩, ?_⟩)
  have hsz : its.toArray.size = xs.length := by rw [List.size_toArray, hlen]
  have hep : its.toArray.isEmpty = false := by
    cases its with
    | nil => cases r; exact absurd rfl hne
    | cons a b => rfl
  by_cases hk : k = 1
  · subst hk
    refine call_meets F.slot_tuple_mul ⟨_, e, rfl⟩ F.entry_tuple_mul (F.args_tuple_mul_2 _ _) (mul_tup1 l its.toArray n od sl t) ⟨e, ?_⟩
    exact ⟨.ref l, H, I, rfl, q l H (by rw [hH]; simp) (Same.refl H)⟩
  · have hnew : List.foldl (fun x1 x2 => x1 ++ x2) #[] (List.replicate ((k : Nat) : Int).toNat its.toArray) = (List.replicate k its).flatten.toArray := by
      have := foldl_rep its k []
      rw [List.nil_append] at this
      exact this
    have hle : (List.replicate k its).flatten.length ≤ 1000 := by rw [len_rep, ← hlen, Nat.mul_comm]; exact hz
    have hzi : (its.toArray.size : Int) * (k : Int) ≤ 1000 := by rw [hsz]; exact_mod_cast hz
    refine call_meets F.slot_tuple_mul ⟨_, e, rfl⟩ F.entry_tuple_mul (F.args_tuple_mul_2 _ _) (mul_tupN l its.toArray n od sl k t ?_ ?_ ?_ ?_ ?_ ?_) ⟨e, ?_⟩
    · have : k ≤ 1000 := Nat.le_trans (Nat.le_mul_of_pos_left k (by cases xs with | nil => exact absurd rfl hne | cons a b => simp)) hz
      simp only [Bool.or_eq_true, decide_eq_true_eq]
      omega
    · rw [hep]; simp; omega
    · rw [hep]; simp; omega
    · omega
    · unfold Builtin.Tuple.tupleTooMany
      rw [decide_eq_true_eq]
      omega
    · rw [hnew, List.size_toArray]; omega
    · rw [hnew]
      have I2 : Inv X pins σ (upd H s.heap.objs.size (.tup (List.replicate k xs).flatten)) { s with heap := s.heap.push { cls := .type "tuple", data := .seq (List.replicate k its).flatten.toArray } } :=
        I.laid (t' := s.toks) (fun b o e => Heap.get?_push_of_some _ e) (Nat.le_refl _) (show ObjOk X.prog X.w _ _ _ (.tup _) from ⟨by rw [len_rep, Nat.mul_comm]; omega, _, r.rep k, IsTup.new _ _⟩)
      have hf : H s.heap.objs.size = none := I.hok.fresh (Nat.le_refl _)
      exact ⟨.ref _, _, I2, rfl, q _ _ upd_same fun b o e => by rw [upd_ne (ne_of_none e hf)]; exact e⟩
end
end L2
set_option Elab.async false
set_option linter.all false
set_option maxRecDepth 100000
namespace L2
open PySem PySem.Spec PyProof.Rows
section
variable {X : Cx}
theorem ps_setDc {i : Nat} {y : Str} {py : Pos} {kx vx tg iter : Expr} {ifs : List Expr} {scope : Scope} {own : List (Str × Nat)} {pos spos : Pos} {wi : TI} {g : TG} {tt : TT} {tk tv : TE} (hc : X.calm = true) (hN : X.N.Nodup) (hy : X.N[i]? = some y) (hyl : X.env.scope.names.lookup y = some .local)
    (hsw : swapsWith (.DictComp kx vx [⟨tg, iter, ifs, 0⟩] scope pos) (some (.Name y py)) spos.line X.env = pure true) (hi : PI X tg iter wi) (ok : BlkOk X.N X.env.scope scope own)
    (hg : ∀ (s : Shared) (H : Hp) (C : Addr) (cl : List (Str × Addr)) (fp : List Addr), PG (X.blk s H scope (compEnvC scope cl C X.env) fp) tg g) (ht : ∀ (s : Shared) (H : Hp) (C : Addr) (cl : List (Str × Addr)) (fp : List Addr), PTs (X.blk s H scope (compEnvC scope cl C X.env) fp) ifs tt)
    (hk : ∀ (s : Shared) (H : Hp) (C : Addr) (cl : List (Str × Addr)) (fp : List Addr), PE (X.blk s H scope (compEnvC scope cl C X.env) fp) kx tk) (he : ∀ (s : Shared) (H : Hp) (C : Addr) (cl : List (Str × Addr)) (fp : List Addr), PE (X.blk s H scope (compEnvC scope cl C X.env) fp) vx tv) (hs : ∀ x, foldedSetIterable iter X.env x = pure x := by intro _; rfl) :
    PS X (.Assign [.Name y py] (.DictComp kx vx [⟨tg, iter, ifs, 0⟩] scope pos) spos) (tAsg (tDc wi g tt tk tv (own.map (·.2))) (gName i)) := by
  intro pins s σ H D I h
  rw [exec_Assign_Name_used _ _ _ _ hsw]
  refine wpAny_bind (wpAny_standAt (wpAny_bind ?_))
  show wpAny _ X.A (do let _ ← comprehension (.DictComp kx vx [⟨tg, iter, ifs, 0⟩] scope pos) scope X.env (firstIterPos [⟨tg, iter, ifs, 0⟩] pos) newDict false (eval iter X.env) (some (assign (.Name y py) X.env))) _ _ s
  have h : tDc wi g tt tk tv (own.map (·.2)) σ H (fun x H1 => gName i x σ H1 D.nx) := h
  refine wpAny_bind (thn (dc_core (Qf := fun _ s' => SP X pins D .next s') hc hN I hi ok hg ht hk he hs h fun L C s' m H' I' q hn f => ?_) fun _ s' hq => wpAny_pure (wpAny_pure hq))
  show wpAny _ _ (assign (.Name y py) X.env (.ref L)) _ _ _
  refine wpAny_assign_Name (store_ok2 (v := V.ref L) I' hN hy (.inl hyl) rfl (fun s2 I2 ⟨a, sb, ha⟩ => ?_) (.inr hyl))
  obtain ⟨f0, f1, f2, f3, f4, f5⟩ := f
  have haC : C ≠ a := by
    rcases ha with z | z
    · rw [z]; exact f1
    · exact fun e => f4 y a z e.symm
  refine ⟨m, hn.sameBut sb haC, fun h3 sb3 => ?_⟩
  exact ⟨_, H', I2.turned (t' := s2.toks) (fun b o hb e => (sb3.2 b hb).trans e) f0 f1 f3 f4 f5, q⟩
theorem sw_trueD {kx vx : Expr} {gs : List Comprehension} {scope : Scope} {pos py : Pos} {y : Str} {l : Nat} {env : Env} (hk : env.scope.kind = .function) (hy : env.scope.names.lookup y = some .local) (hl : (py.line == pos.line) = true)
    (ha : (scope.names.any fun (n, k) => n == y && (k == .local || k == .cell)) = false) : swapsWith (.DictComp kx vx gs scope pos) (some (.Name y py)) l env = pure true := by
  have ky : env.kindOf y = some .local := hy
  have hb : env.blockKind = .function := by unfold Env.blockKind; rw [hk]; rfl
  unfold swapsWith
  simp only [hb, ky, ha, Expr.pos, hl]
  rfl
theorem dc_list {K : PySem.W.Frag} {a : Addr} {xs : List V} {g : TG} {tt : TT} {tk tv : TE} {vs : List Nat} {σ : St} {H1 : Hp} {D : Addr} {Qd : Hp → Prop} (Pv : Nat → Hp → Prop) (h0 : Pv 0 (upd H1 D (.dK []))) (hl : ∀ i H, i ≤ xs.length → Pv i H → SqL K H a xs)
    (hs : ∀ i x H, xs[i]? = some x → Pv i H → g x (wipe σ vs) H fun σ2 H2 => wipe σ2 vs = wipe σ vs ∧ tt σ2 H2 fun b H3 =>
      if b = true then tk σ2 H3 fun y H4 => tv σ2 H4 fun z H5 => ∃ kvs k, H5 D = some (.dK kvs) ∧ y = kV k ∧ kvs.length < sizeLine ∧ Pv (i + 1) (upd H5 D (.dK (putK kvs k z))) else Pv (i + 1) H3) (hd : ∀ H, Pv xs.length H → Qd H) :
    ∃ W : Nat → Nat → Hp → Prop, (∃ m, W 0 m (upd H1 D (.dK []))) ∧ ∀ i m H, W i m H →
      ((Itl K a).stop i H ∧ Qd H) ∨ ((Itl K a).go i H ∧ ∃ Nx : Hp → Prop, (∀ H', Nx H' → ∃ m', m' < m ∧ W (i + 1) m' H') ∧ ∀ x H', (Itl K a).yld i H x H' → g x (wipe σ vs) H' fun σ2 H2 => wipe σ2 vs = wipe σ vs ∧ tt σ2 H2 fun b H3 =>
        if b = true then tk σ2 H3 fun y H4 => tv σ2 H4 fun z H5 => ∃ kvs k, H5 D = some (.dK kvs) ∧ y = kV k ∧ kvs.length < sizeLine ∧ Nx (upd H5 D (.dK (putK kvs k z))) else Nx H3) := by
  refine ⟨fun i m H => m = xs.length - i ∧ i ≤ xs.length ∧ Pv i H, ⟨xs.length, by simp, Nat.zero_le _, h0⟩, ?_⟩
  rintro i m H ⟨rfl, hi, p⟩
  have q := hl i H hi p
  by_cases hlt : i < xs.length
  · refine .inr ⟨⟨xs, xs[i], q, by simp [hlt]⟩, Pv (i + 1), fun H' p' => ⟨xs.length - (i + 1), by omega, rfl, hlt, p'⟩, fun x H' y => ?_⟩
    obtain ⟨e, y⟩ := y
    subst e
    exact hs i x _ (y xs q) p
  · have e : i = xs.length := by omega
    subst e
    exact .inl ⟨⟨xs, q, Nat.le_refl _⟩, hd H p⟩
end
end L2
set_option Elab.async false
set_option linter.all false
set_option maxRecDepth 100000
namespace L2
open PySem PySem.Spec PyProof.Rows
end L2
set_option Elab.async false
set_option linter.all false
set_option maxRecDepth 100000
namespace L2
open PySem PySem.Spec PyProof.Rows
theorem perm_lift {α β : Type} {f : α → β} {l' l : List β} (p : l'.Perm l) : ∀ xs : List α, l = xs.map f → ∃ ys : List α, ys.Perm xs ∧ l' = ys.map f := by
  induction p with
  | nil =>
    intro xs e
    cases xs with
    | nil => exact ⟨[], List.Perm.refl _, rfl⟩
    | cons z zs => cases e
  | cons x p ih =>
    intro xs e
    cases xs with
    | nil => cases e
    | cons z zs =>
      obtain ⟨e1, e2⟩ := List.cons.inj e
      obtain ⟨ys, p1, p2⟩ := ih zs e2
      exact ⟨z :: ys, p1.cons z, by rw [p2, e1, List.map_cons]⟩
  | swap x y l =>
    intro xs e
    match xs, e with
    | z1 :: z2 :: zs, e =>
      obtain ⟨e1, e2⟩ := List.cons.inj e
      obtain ⟨e3, e4⟩ := List.cons.inj e2
      exact ⟨z2 :: z1 :: zs, .swap _ _ _, by rw [e1, e3, e4]; rfl⟩
  | trans p q ih1 ih2 =>
    intro xs e
    obtain ⟨ys, p1, e1⟩ := ih2 xs e
    obtain ⟨zs, p2, e2⟩ := ih1 ys e1
    exact ⟨zs, p2.trans p1, e2⟩
end L2
set_option Elab.async false
set_option linter.all false
set_option maxRecDepth 100000
namespace L2
open PySem PySem.Spec PyProof.Rows
theorem ints_at : ∀ {us : List Value} {ns : List Int} {j : Nat} {x : Value}, IntsAre us ns → us[j]? = some x → ∃ n t, x = .int n t ∧ ns[j]? = some n
  | _, _, 0, x, .cons n t h, e => ⟨n, t, by simpa using e.symm, rfl⟩
  | _, _, j + 1, x, .cons n t h, e => by
    obtain ⟨n', t', e1, e2⟩ := ints_at h (by simpa using e)
    exact ⟨n', t', e1, by simpa using e2⟩
/-- keys and whole numbers in order: the numbers, by their keys -/
theorem kskInts {its out : List Value} {ns : List Int} {g : Int → Int} (hi : IntsAre its ns) (k : KskOutSt false (ns.map g) its out) : ∃ ns' : List Int, ns'.Perm ns ∧ ns'.Pairwise (fun x y => g x ≤ g y) ∧ (∀ z, ns'.filter (fun x => g x == z) = ns.filter (fun x => g x == z)) ∧ IntsAre out ns' := by
  obtain ⟨ps, p1, rfl, p2, p3⟩ := k
  have zs : ∀ {us : List Value} {ms : List Int}, IntsAre us ms → ((ms.map g).zip us).map (fun z => numOf z.2) = ms ∧ ∀ z ∈ (ms.map g).zip us, ∃ n t, z = (g n, .int n t) := by
    intro us ms h
    induction h with
    | nil => exact ⟨rfl, fun z hz => by cases hz⟩
    | cons n t h ih =>
      refine ⟨?_, fun z hz => ?_⟩
      · exact congrArg (n :: ·) ih.1
      · rcases List.mem_cons.mp hz with rfl | hz
        · exact ⟨n, t, rfl⟩
        · exact ih.2 z hz
  obtain ⟨e1, e2⟩ := zs hi
  have e3 : ∀ z ∈ ps, ∃ n t, z = (g n, .int n t) := fun z hz => e2 z (p1.subset hz)
  have e4 : ∀ z ∈ ps, g (numOf z.2) = z.1 := fun z hz => by obtain ⟨n, t, rfl⟩ := e3 z hz; rfl
  have e5 : ∀ z ∈ (ns.map g).zip its, g (numOf z.2) = z.1 := fun z hz => by obtain ⟨n, t, rfl⟩ := e2 z hz; rfl
  refine ⟨ps.map fun z => numOf z.2, ?_, ?_, fun c => ?_, ?_⟩
  · have := p1.map (fun z => numOf z.2)
    rw [e1] at this
    exact this
  · rw [List.pairwise_map]
    refine List.Pairwise.imp_of_mem (fun {a b} ha hb h => ?_) p2
    rw [e4 a ha, e4 b hb]
    simpa using h
  · rw [List.filter_map]
    have h1 : ps.filter ((fun x => g x == c) ∘ fun z => numOf z.2) = ps.filter (fun z => z.1 == c) := List.filter_congr fun z hz => by
      show (g (numOf z.2) == c) = (z.1 == c)
      rw [e4 z hz]
    have h2 : ((ns.map g).zip its).filter ((fun x => g x == c) ∘ fun z => numOf z.2) = ((ns.map g).zip its).filter (fun z => z.1 == c) := List.filter_congr fun z hz => by
      show (g (numOf z.2) == c) = (z.1 == c)
      rw [e5 z hz]
    have h3 := congrArg (List.filter fun x => g x == c) e1
    rw [List.filter_map, h2] at h3
    rw [h1, p3 c, h3]
  · clear p1 p2 p3 e4
    induction ps with
    | nil => exact .nil
    | cons z zs' ih =>
      obtain ⟨n, t, rfl⟩ := e3 z (.head _)
      exact .cons n t (ih fun y hy => e3 y (.tail _ hy))
section
variable {X : Cx} {pins : List (Addr × Obj)} {σ : St} {H : Hp} {s : Shared}
theorem bound_ok {a C dx gm : Addr} {fs : List (Str × V)} {m : Str} {A : Around} {E : Value → Shared → Prop} {Q : Value → Shared → Prop} (I : Inv X pins σ H s) (e : H a = some (.ins C dx fs)) (c : Cls X.K C) (k : Meth X.K C m gm) (l : fs.lookup m = none)
    (hgf : PySem.W.specialIn X.K (.ref gm) "__get__" = some (some (.builtin "function.__get__"))) (htk : PySem.W.takesIn X.K (.ref gm) = some false) (hcp : PySem.W.copiedNames.contains m = false)
    (h : Q (.ref s.heap.objs.size) { s with heap := s.heap.push (PySem.W.methodObj (.ref gm) (.ref a)), toks := s.toks + 1 }) : wpAny (model X.prog X.w) A (getAttr (.ref a) m true) Q E s := by
  obtain ⟨mA, O, r, _, _, _⟩ := ins_get I.hok e
  have hn : mA m = none := RelO.none_of (by rw [← l]; exact r m)
  obtain ⟨od, J, hl⟩ := O.look
  exact PySem.W.get_bind I.kIn J (PySem.W.plainGet_of (c.get m)).1 (PySem.W.findObj_fn c.hd k.at_ hgf htk hcp (by rw [hl, hn])) (PySem.W.plainGet_of (c.get m)).2
    (wpAny_call (PySem.W.fn_get (s := { s with toks := s.toks + 1 }) I.kIn (beq_iff_eq.mp k.fn) (PySem.W.handed_on rfl h)))
/-- the map of a namespace is one -/
theorem ns_one {h : Heap} {L : Addr} {m m' : Str → Option Value} (x : h.Ns L m) (y : h.Ns L m') : m = m' := by
  obtain ⟨o, es, ep, ho, hd, _, e⟩ := x
  obtain ⟨o', es', ep', ho', hd', _, e'⟩ := y
  rw [ho] at ho'; cases ho'
  rw [hd] at hd'; cases hd'
  funext z
  rw [← e z, ← e' z]
/-- a list of ours (pinned) has turned: pinned anew -/
theorem Inv.repin {kS : Addr} {ob ob' : Obj} {h' : Heap} {t' : Nat} (I : Inv X (pins ++ [(kS, ob)]) σ H s) (fp : FpOk X pins H kS) (keep : ∀ b o, b ≠ kS → s.heap.get? b = some o → h'.get? b = some o) (at' : h'.get? kS = some ob') (nc : ∀ v, ob'.data ≠ .cell v) :
    Inv X (pins ++ [(kS, ob')]) σ H { s with heap := h', toks := t' } := by
  have I1 : Inv X pins σ H s := I.unpinned
  have I2 : Inv X pins σ H { s with heap := h', toks := t' } := I1.turned (it := kS) keep fp.1 fp.2.1 fp.2.2.2.1 fp.2.2.2.2.1 fp.2.2.2.2.2
  refine I2.pins_of fun p hp => ?_
  rcases List.mem_append.mp (id hp) with hp | hp
  · exact I2.pin p (List.mem_append_right _ hp)
  · rw [List.mem_singleton.mp (id hp)]
    exact ⟨at', fp.1, fp.2.1, fp.2.2.1, nc⟩
end
section
variable {X : Cx} {pins : List (Addr × Obj)} {σ : St} {H : Hp} {s : Shared} {CX : CXT} {k : Nat} {f p q D : Addr} {fd : FuncData} {ps : List Str} {sp : Sp} {XE : XK} {its : List Value} {ns : List Int} {g : Int → Int}
/-- the keys are asked one by one, then all are put in order: D the list that is sorted (emptied), kS the keys -/
theorem sortM_rest {kS : Addr} {e1 : Nat} {P : PySem.Fin → Shared → Prop} {E' : Value → Shared → Prop} (F : FnOk X.prog X.w X.K X.mg X.base CX k f fd ps sp) (hr : Room k X.A.in1.in1) (hb : Binds X.K fd ps []) (hx : ∀ (H : Hp) (s : Shared) (e : Value) (s' : Shared), ¬ CX X.stack H s XE e s')
    (hi : IntsAre its ns) (hZ : ns.length ≤ sizeLine) (hq : (q, PySem.W.methodObj (.ref f) (.ref p)) ∈ pins) (hsp : ∀ n ∈ ns, sp [.ref p, .int n] H (fun v H' => v = .int (g n) ∧ H' = H) XE)
    (I : Inv X ((pins ++ [(D, seqObj "list" #[] e1)]) ++ [(kS, seqObj "list" #[] 0)]) σ H s) (fD : FpOk X pins H D) (fS : FpOk X (pins ++ [(D, seqObj "list" #[] e1)]) H kS)
    (fin : ∀ (ns' : List Int) (s' : Shared), ns'.Perm ns → ns'.Pairwise (fun x y => g x ≤ g y) → (∀ z, ns'.filter (fun x => g x == z) = ns.filter (fun x => g x == z)) → Inv X pins σ (upd H D (.lst (ns'.map V.int))) s' → P (.done (.ret .none)) s') :
    wpAny (model X.prog X.w) X.A.in1.in1 (ksk_rest D (.ref q) false its.toArray e1 (.ref kS)) P E' s := by
  have hlen := hi.length
  have hZ2 := hZ
  rw [sizeLine_eq] at hZ2
  unfold ksk_rest
  refine wpAny_bind (wpAny_rule ?_)
  (first | rw [List.forIn_toArray] | (rw [← Array.forIn_toList]; simp only [List.toList_toArray]) | rw [← Array.forIn_toList])
  refine wpAny_bind (ksk_fold (fun i s' => ∃ kA e, Inv X ((pins ++ [(D, seqObj "list" #[] e1)]) ++ [(kS, seqObj "list" kA e)]) σ H s' ∧ IntsAre kA.toList ((ns.map g).take i)) its 0 s ⟨#[], 0, I, by simpa using IntsAre.nil⟩ ?step ?done)
  case step =>
    rintro j x s' hxj ⟨kA, e, I', hk⟩
    (simp only [Nat.zero_add] at hk ⊢; skip)
    have hj : j < its.length := (List.getElem?_eq_some_iff.mp hxj).1
    obtain ⟨n, t, rfl, hn⟩ : ∃ n t, x = .int n t ∧ ns[j]? = some n := ints_at hi hxj
    have hmem : n ∈ ns := List.mem_of_getElem? hn
    have hz : kA.size ≤ its.length := by
      have h1 := hk.length
      rw [Array.length_toList, List.length_take, List.length_map] at h1
      omega
    have hoq := (I'.pin (q, _) (List.mem_append_right _ (List.mem_append_left _ (List.mem_append_left _ hq)))).1
    refine wpAny_bind (wpAny_attempt (wpAny_call (PySem.W.method_call hoq (codeAny_mono (F.run X.A.in1.in1 X.stack s' H ⟨[.ref p, .int n t], []⟩ [.ref p, .int n t] [.ref p, .int n] _ XE hr I'.env0.in1.in1 (by simpa using hb s' [.ref p, .int n t] I'.kIn (by rw [List.append_nil]; exact (F.len _ _ _ _ (hsp n hmem)))) (.cons rfl (.cons ⟨t, rfl⟩ .nil)) (hsp n hmem)) fun r s2 hq2 => ?_))))
    cases r with
    | error ev => exact absurd hq2 (hx _ _ _ _)
    | ok fl =>
      cases fl with
      | next => exact False.elim hq2
      | brk => exact False.elim hq2
      | cont => exact False.elim hq2
      | ret u =>
        obtain ⟨v, H', I2, rv, rfl, rfl⟩ := I'.after hq2
        obtain ⟨t2, rfl⟩ := rv
        (try dsimp only)
        have nk := I2.pin (kS, seqObj "list" kA e) (List.mem_append_right _ (List.mem_append_right _ (.head _)))
        have s1 := Heap.SameBut.update s2.heap kS (Obj.mapSeq (·.push (.int (g n) t2)))
        obtain ⟨c2, hc2⟩ : ∃ c2, (s2.heap.update kS (Obj.mapSeq (·.push (.int (g n) t2)))).get? kS = some (seqObj "list" (kA.push (.int (g n) t2)) c2) := ⟨_, get?_update_seq nk.1 (·.push (.int (g n) t2))⟩
        have ek : (ns.map g).take (j + 1) = (ns.map g).take j ++ [g n] := by rw [List.take_add_one, List.getElem?_map, hn]; rfl
        have ea : (kA.push (Value.int (g n) t2)).toList = kA.toList ++ [Value.int (g n) t2] := by simp
        (refine wpAny_bind (listUpdate_at nk.1 rfl ?_ (by rw [sizeLine_eq]; omega) (Nat.le_trans (Nat.le_of_eq (Array.size_push ..)) (by rw [sizeLine_eq]; omega))); skip)
        exact wpAny_pure ⟨rfl, kA.push (.int (g n) t2), c2, I2.repin (t' := s2.toks) fS (fun b o nb z => (s1.2 b nb).trans z) hc2 (fun v => by intro z; cases z), by rw [ea, ek]; exact ksk_snoc hk⟩
  case done =>
    rintro s' ⟨kA, e, I', hk⟩
    have hk' : IntsAre kA.toList (ns.map g) := by
      have e3 : (ns.map g).take (0 + its.length) = ns.map g := List.take_of_length_le (by rw [List.length_map]; omega)
      rw [e3] at hk; exact hk
    have nk := I'.pin (kS, seqObj "list" kA e) (List.mem_append_right _ (List.mem_append_right _ (.head _)))
    have nD := I'.pin (D, seqObj "list" #[] e1) (List.mem_append_right _ (List.mem_append_left _ (List.mem_append_right _ (.head _))))
    have hne : kS ≠ D := fun z => fS.2.2.2.2.2 (D, _) (List.mem_append_right _ (List.mem_append_right _ (.head _))) z.symm
    obtain ⟨m, hm, _⟩ := id I'.loc
    (refine wpAny_bind (listItems_at nk.1 rfl ?_); skip)
    have mem : ∀ (b : Addr) (o : Obj), (b, o) ∈ (Att.ledger s'.heap X.env.locals kS).filter (fun z => decide (z.1 ≠ D)) ↔ b ≠ X.env.locals ∧ b ≠ kS ∧ b ≠ D ∧ s'.heap.get? b = some o := fun b o => by
      rw [List.mem_filter, Att.mem_ledger, decide_eq_true_eq]
      exact ⟨fun ⟨⟨x, y, z⟩, w⟩ => ⟨x, y, w, z⟩, fun ⟨x, y, w, z⟩ => ⟨⟨x, y, z⟩, w⟩⟩
    refine ksk_end_St (h₀ := Att.noObjs s'.heap) (L := X.env.locals) (m := m) (news := (Att.ledger s'.heap X.env.locals kS).filter (fun z => decide (z.1 ≠ D))) (kz := ns.map g) (vs := its) (e := e) (Att.fr_all hm) ?_ hne (fun ⟨b, o⟩ hp => ((mem b o).mp hp).2.1) (fun ⟨b, o⟩ hp => ((mem b o).mp hp).2.2.1) hk' (by rw [List.length_map]; omega) (by omega) fun h3 tk3 out c F3 N3 k3 => ?_
    · rintro ⟨b, o⟩ hp
      rcases List.mem_append.mp (id hp) with hp | hp
      · have z := (mem b o).mp hp
        exact ⟨z.2.2.2, z.1, Att.noObjs_get _ _⟩
      · rcases List.mem_cons.mp hp with z | hp
        · cases z; exact ⟨nk.1, nk.2.2.1, Att.noObjs_get _ _⟩
        · cases List.mem_singleton.mp hp; exact ⟨nD.1, nD.2.2.1, Att.noObjs_get _ _⟩
    · obtain ⟨ns', p1, p2, p3, hi'⟩ := kskInts hi k3
      have hD3 : h3.get? D = some (seqObj "list" out c) := (N3 _ (.head _)).1
      have kept : ∀ b o, b ≠ X.env.locals → b ∉ [kS, D] → s'.heap.get? b = some o → h3.get? b = some o := fun b o nl nb z =>
        (N3 (b, o) (.tail _ ((mem b o).mpr ⟨nl, fun e => nb (e ▸ .head _), fun e => nb (e ▸ .tail _ (.head _)), z⟩))).1
      have I0 : Inv X pins σ H s' := I'.unpinned.unpinned
      have fSx : FpOk X pins H kS := ⟨fS.1, fS.2.1, fS.2.2.1, fS.2.2.2.1, fS.2.2.2.2.1, fun p hp => fS.2.2.2.2.2 p ((List.mem_append.mp hp).elim (fun z => List.mem_append_left _ z) fun z => List.mem_append_right _ (List.mem_append_left _ z))⟩
      have fch : ∀ b ∈ [kS, D], FpOk X pins H b := fun b hb => by
        rcases List.mem_cons.mp (id hb) with rfl | hb
        · exact fSx
        · rw [List.mem_singleton.mp hb]; exact fD
      have nit : ∀ b u, H b = some u → b ∉ [kS, D] := fun b u e z => by rw [(fch b z).1] at e; cases e
      have nl : ∀ b u, H b = some u → b ≠ X.env.locals := fun b u e z => by rw [z, I0.free] at e; cases e
      have hlz : (ns'.map V.int).length ≤ sizeLine := by rw [List.length_map, p1.length_eq]; exact hZ
      have hND : H D = none := fD.1
      refine fin ns' _ p1 p2 p3 (I0.step (H' := upd H D (.lst (ns'.map V.int))) (h' := h3) (g' := s'.gens) (d' := s'.drawn) (t' := tk3) (ch := [kS, D]) (fun b hb => ⟨(fch b hb).2.2.2.1, (fch b hb).2.1, (fch b hb).2.2.2.2.1, (fch b hb).2.2.2.2.2⟩)
        (fun b o nl' _ hc z _ => kept b o nl' hc z) (fun b o nl' _ hc z _ => ⟨o.slots, kept b o nl' hc z⟩) (fun b o hc z n => ?_) (fun b o hc z => ?_) (fun b xs z => ?_) (fun b o u z => ?_) (fun b pz z => ⟨#[], ?_⟩) (fun m' hm' => ?_) (fun b u z => ?_) I0.bare)
      · rw [upd_ne (show b ≠ D from fun e => hc (by rw [e]; exact .tail _ (.head _)))]; exact n
      · by_cases hL : b = X.env.locals
        · obtain ⟨o', es, ep, ho', _⟩ := F3.ns
          exact ⟨o', hL ▸ ho'⟩
        · exact ⟨o, kept b o hL hc z⟩
      · rw [upd_ne (ne_of_none z hND)]; exact z
      · rw [upd_ne (ne_of_none z hND)]; exact z
      · rw [upd_ne (ne_of_none z hND), z]; simp
      · rw [ns_one hm' hm]; exact F3.ns
      · by_cases hbD : b = D
        · subst hbD
          rw [upd_same] at z
          cases z
          exact ⟨hlz, out.toList, c, vals_of_ints hi', by rw [Array.toArray_toList]; exact hD3⟩
        · rw [upd_ne hbD] at z
          refine (I0.hok b u z).stay (fun c' v hc qv => kept c' v ?_ ?_ qv) (fun c' qv => by rw [upd_ne (ne_of_none qv hND)]; exact qv) fun c' xs qv => by rw [upd_ne (ne_of_none qv hND)]; exact qv
          · rcases hc with e | e
            · rw [e]; exact nl b u z
            · exact nl c' _ e
          · rcases hc with e | e
            · rw [e]; exact nit b u z
            · exact nit c' _ e
/-- list.sort(key = ..) of a new list -/
theorem sortM_tree {n : Nat} {h3 : Heap} {P : PySem.Fin → Shared → Prop} {E' : Value → Shared → Prop} (F : FnOk X.prog X.w X.K X.mg X.base CX k f fd ps sp) (hr : Room k X.A.in1.in1) (hb : Binds X.K fd ps []) (hx : ∀ (H : Hp) (s : Shared) (e : Value) (s' : Shared), ¬ CX X.stack H s XE e s')
    (hi : IntsAre its ns) (hZ : ns.length ≤ sizeLine) (hq : (q, PySem.W.methodObj (.ref f) (.ref p)) ∈ pins) (hsp : ∀ n ∈ ns, sp [.ref p, .int n] H (fun v H' => v = .int (g n) ∧ H' = H) XE)
    (I : Inv X pins σ H s) (keep : ∀ b o, s.heap.get? b = some o → h3.get? b = some o) (ho : h3.get? D = some (seqObj "list" its.toArray n)) (hD : s.heap.objs.size ≤ D)
    (fin : ∀ (ns' : List Int) (s' : Shared), ns'.Perm ns → ns'.Pairwise (fun x y => g x ≤ g y) → (∀ z, ns'.filter (fun x => g x == z) = ns.filter (fun x => g x == z)) → Inv X pins σ (upd H D (.lst (ns'.map V.int))) s' → P (.done (.ret .none)) s') :
    wpAny (model X.prog X.w) X.A.in1.in1 (ksk_tree D (.ref q) false) P E' { s with heap := h3 } := by
  have hlen := hi.length
  have hZ2 := hZ
  rw [sizeLine_eq] at hZ2
  have hD3 : D < h3.objs.size := Heap.lt_size ho
  have s1 := Heap.SameBut.update h3 D (Obj.mapSeq fun _ => (#[] : Array Value))
  obtain ⟨e1, ho1⟩ : ∃ e1, (h3.update D (Obj.mapSeq fun _ => (#[] : Array Value))).get? D = some (seqObj "list" #[] e1) := ⟨_, get?_update_seq ho fun _ => #[]⟩
  have hkS : ((h3.update D (Obj.mapSeq fun _ => (#[] : Array Value))).push (seqObj "tuple" its.toArray 0)).objs.size = h3.objs.size + 1 := by rw [size_push', Heap.size_update]
  have keep6 : ∀ b o, s.heap.get? b = some o → (((h3.update D (Obj.mapSeq fun _ => (#[] : Array Value))).push (seqObj "tuple" its.toArray 0)).push (seqObj "list" #[] 0)).get? b = some o := fun b o z =>
    Heap.get?_push_of_some _ (Heap.get?_push_of_some _ ((s1.2 b (Nat.ne_of_lt (Nat.lt_of_lt_of_le (Heap.lt_size z) hD))).trans (keep b o z)))
  unfold ksk_tree
  (refine wpAny_bind (listItems_at ho rfl ?_); skip)
  (refine wpAny_bind (listUpdate_at ho rfl ?_ (by rw [List.size_toArray, sizeLine_eq]; omega) (Nat.zero_le _)); skip)
  (refine wpAny_bind (seqEpoch_at ho1 rfl ?_); skip)
  refine wpAny_bind (wpAny_newTuple ?_ (by show its.length ≤ _; rw [sizeLine_eq]; omega))
  (refine wpAny_bind (wpAny_newList ?_ (Nat.zero_le _)); refine wpAny_holding ?_)
  have I6 : Inv X pins σ H { s with heap := ((h3.update D (Obj.mapSeq fun _ => (#[] : Array Value))).push (seqObj "tuple" its.toArray 0)).push (seqObj "list" #[] 0) } := I.kept (t' := s.toks) keep6
  have fD : FpOk X pins H D := I.fpOk hD (I.hok.fresh hD)
  have I7 : Inv X (pins ++ [(D, seqObj "list" #[] e1)]) σ H { s with heap := ((h3.update D (Obj.mapSeq fun _ => (#[] : Array Value))).push (seqObj "tuple" its.toArray 0)).push (seqObj "list" #[] 0) } := I6.pins_of fun z hz => by
    rcases List.mem_append.mp hz with hz | hz
    · exact I6.pin z (List.mem_append_right _ hz)
    · rw [List.mem_singleton.mp hz]
      exact ⟨Heap.get?_push_of_some _ (Heap.get?_push_of_some _ ho1), fD.1, fD.2.1, fD.2.2.1, fun v => by intro e; cases e⟩
  have szD : s.heap.objs.size ≤ h3.objs.size + 1 := Nat.le_succ_of_le (Nat.le_trans hD (Nat.le_of_lt hD3))
  have fS : FpOk X (pins ++ [(D, seqObj "list" #[] e1)]) H ((h3.update D (Obj.mapSeq fun _ => (#[] : Array Value))).push (seqObj "tuple" its.toArray 0)).objs.size := by
    rw [hkS]
    have f0 := I.fpOk szD (I.hok.fresh szD)
    refine ⟨f0.1, f0.2.1, f0.2.2.1, f0.2.2.2.1, f0.2.2.2.2.1, fun z hz => ?_⟩
    rcases List.mem_append.mp hz with hz | hz
    · exact f0.2.2.2.2.2 z (List.mem_append_left _ hz)
    · rcases List.mem_append.mp hz with hz | hz
      · exact f0.2.2.2.2.2 z (List.mem_append_right _ hz)
      · rw [List.mem_singleton.mp hz]; exact Nat.ne_of_lt (Nat.lt_succ_of_lt hD3)
  refine sortM_rest F hr hb hx hi hZ hq hsp (I7.pins_of fun z hz => ?_) fD fS fin
  rcases List.mem_append.mp hz with hz | hz
  · exact I7.pin z (List.mem_append_right _ hz)
  · rw [List.mem_singleton.mp hz]
    exact ⟨Heap.get?_push_size _ rfl, fS.1, fS.2.1, fS.2.2.1, fun v => by intro e; cases e⟩
theorem sortM_core {a : Addr} {Q : VK} (F : FnOk X.prog X.w X.K X.mg X.base CX k f fd ps sp) (hr : Room (k + 2) X.A) (hb : Binds X.K fd ps []) (hx : ∀ (H : Hp) (s : Shared) (e : Value) (s' : Shared), ¬ CX X.stack H s XE e s')
    (hs : SqL X.K H a (ns.map V.int)) (hq : (q, PySem.W.methodObj (.ref f) (.ref p)) ∈ pins) (hsp : ∀ n ∈ ns, sp [.ref p, .int n] H (fun v H' => v = .int (g n) ∧ H' = H) XE) (I : Inv X pins σ H s)
    (fin : ∀ (ns' : List Int) (D : Addr), ns'.Perm ns → ns'.Pairwise (fun x y => g x ≤ g y) → (∀ z, ns'.filter (fun x => g x == z) = ns.filter (fun x => g x == z)) → H D = none → Q (.ref D) (upd H D (.lst (ns'.map V.int)))) :
    wpAny (model X.prog X.w) X.A (call (.builtin "sorted") [.ref a] [(Str.ofString "key", .ref q)]) (EP X pins σ Q) X.xe s := by
  obtain ⟨its, rv, hl, hZ⟩ := I.list hs
  rw [List.length_map] at hZ
  have hi : IntsAre its ns := rv.ints
  have hlen := hi.length
  have hZ2 := hZ
  rw [sizeLine_eq] at hZ2
  (refine call_function_entry_kw kind_sorted plain_sorted entry_sorted (ksk_s1 _ _) ?_; unfold Builtin.«sorted»)
  (refine wpAny_bind (m := checkCount "sorted" 1 1 _) (wpAny_pure ?_); skip)
  (refine wpAny_bind (collect_list hl.isList ?_ (by rw [sizeLine_eq]; omega)); refine wpAny_bind (wpAny_newList ?_ (by rw [sizeLine_eq]; omega)))
  have hsz : ((s.heap.push (seqObj "list" #[] 0)).update s.heap.objs.size (Obj.mapSeq (· ++ its.toArray))).objs.size = s.heap.objs.size + 1 := by rw [Heap.size_update, size_push']
  have hoL : (((s.heap.push (seqObj "list" #[] 0)).update s.heap.objs.size (Obj.mapSeq (· ++ its.toArray))).push (seqObj "list" its.toArray 0)).get? (s.heap.objs.size + 1) = some (seqObj "list" its.toArray 0) := by rw [← hsz]; exact Heap.get?_push_size _ rfl
  have keep : ∀ b o, s.heap.get? b = some o → (((s.heap.push (seqObj "list" #[] 0)).update s.heap.objs.size (Obj.mapSeq (· ++ its.toArray))).push (seqObj "list" its.toArray 0)).get? b = some o := fun b o z => by
    have hlt : b < s.heap.objs.size := Heap.lt_size z
    rw [Heap.get?_push_ne _ _ _ (by rw [hsz]; exact Nat.ne_of_lt (Nat.lt_succ_of_lt hlt)), Heap.get?_update_ne _ _ _ _ (Nat.ne_of_lt hlt), Heap.get?_push_ne _ _ _ (Nat.ne_of_lt hlt)]; exact z
  show wpAny _ _ _ _ _ { s with heap := ((s.heap.push (seqObj "list" #[] 0)).update s.heap.objs.size (Obj.mapSeq (· ++ its.toArray))).push (seqObj "list" its.toArray 0) }
  rw [hsz]
  refine wpAny_bind (wpAny_holding (wpAny_call_entry_kw slot_list_sort ⟨_, hoL, rfl⟩ entry_list_sort ?body (ksk_l1 _ _)))
  case body =>
    show wpAny (model X.prog X.w) X.A.in1.in1 (Builtin.«list.sort» ⟨[.ref (s.heap.objs.size + 1)], [(Str.ofString "key", .ref q)]⟩) _ _ _
    rw [ksk_t1]
    refine sortM_tree F hr.in1.in1 hb hx hi hZ hq hsp I keep hoL (Nat.le_succ _) fun ns' s' p1 p2 p3 I' => ⟨_, rfl, ?_⟩
    exact wpAny_pure ⟨_, rfl, .ref _, _, I', rfl, fin ns' _ p1 p2 p3 (I.hok.fresh (Nat.le_succ _))⟩
end
section
variable {X : Cx} {CX : CXT} {k : Nat} {f C : Addr} {fd : FuncData} {ps : List Str} {sp : Sp} {m : Str} {pz pos apos kpos : Pos} {e o : Expr} {te ta : TE}
/-- sorted(e, key = o.m) -/
def tSortM (K : PySem.W.Frag) (C : Addr) (m : Str) (sp : Sp) (E : XK) (te ta : TE) : TE := fun σ H Q => te σ H fun x H1 => ta σ H1 fun y H2 => ∃ (a p dx : Addr) (fs : List (Str × V)) (ns : List Int) (g : Int → Int), x = .ref a ∧ SqL K H2 a (ns.map V.int) ∧ y = .ref p ∧ H2 p = some (.ins C dx fs) ∧ fs.lookup m = none ∧
  (∀ n ∈ ns, sp [.ref p, .int n] H2 (fun v H' => v = .int (g n) ∧ H' = H2) E) ∧
  ∀ (ns' : List Int) (D : Addr), ns'.Perm ns → ns'.Pairwise (fun x y => g x ≤ g y) → (∀ z, ns'.filter (fun x => g x == z) = ns.filter (fun x => g x == z)) → H2 D = none → Q (.ref D) (upd H2 D (.lst (ns'.map V.int)))
theorem pe_sortM (hg : Gl X "sorted") (hm : X.mg "sorted" = none) (he : PE X e te) (ho : PE X o ta) (c : Cls X.K C) (hme : Meth X.K C m f) (hgf : PySem.W.specialIn X.K (.ref f) "__get__" = some (some (.builtin "function.__get__"))) (htk : PySem.W.takesIn X.K (.ref f) = some false)
    (F : FnOk X.prog X.w X.K X.mg X.base CX k f fd ps sp) (hr : Room (k + 2) X.A) (hb : Binds X.K fd ps []) {E : XK} (hx : ∀ (H : Hp) (s : Shared) (e : Value) (s' : Shared), ¬ CX X.stack H s E e s')
    (hcp : PySem.W.copiedNames.contains m = false := by decide +kernel) (hba : attributeBase o m X.env (eval o X.env) = eval o X.env := by rfl) (hst : starEach [e] X.env = (false, eval e X.env) :: starEach [] X.env := by rfl) :
    PE X (.Call (.Name "sorted" pz) [e] [⟨some "key", .Attribute o m apos, kpos⟩] pos) (tSortM X.K C m sp E te ta) := by
  intro pins s σ H Q I h
  refine wpAny_Call_Name_kw (ld_blt (u := .builtin "sorted") I hg hm (by decide +kernel) ?_ (by decide) (by decide))
  refine PyProof.Rows.callWith_kw ?_ (by rw [hst]; rfl) (by rw [hst]; rfl)
  refine thn (pa_cons he pa_nil hst pos pins s σ H (fun vs H1 => match vs with
    | [x] => ta σ H1 fun y H2 => ∃ (a p dx : Addr) (fs : List (Str × V)) (ns : List Int) (g : Int → Int), x = .ref a ∧ SqL X.K H2 a (ns.map V.int) ∧ y = .ref p ∧ H2 p = some (.ins C dx fs) ∧ fs.lookup m = none ∧
      (∀ n ∈ ns, sp [.ref p, .int n] H2 (fun v H' => v = .int (g n) ∧ H' = H2) E) ∧
      ∀ (ns' : List Int) (D : Addr), ns'.Perm ns → ns'.Pairwise (fun x y => g x ≤ g y) → (∀ z, ns'.filter (fun x => g x == z) = ns.filter (fun x => g x == z)) → H2 D = none → Q (.ref D) (upd H2 D (.lst (ns'.map V.int)))
    | _ => False) I h) fun us s1 ⟨vs, H1, I1, r1, q1⟩ => ?_
  match vs, r1, q1 with
  | [x], r1, q1 =>
    show wpAny _ _ (evalAll [do let v ← eval (.Attribute o m apos) X.env; standAt pos; pure v]) _ _ s1
    refine wpAny_evalAll_cons (wpAny_bind (attr_of hba (thn (ho pins s1 σ H1 _ I1 q1) fun u s2 ⟨y, H2, I2, ry, a, p, dx, fs, ns, g, ex, hs, ey, hp, hl, hsp, fin⟩ => ?_)))
    subst ex ey
    obtain rfl : u = Value.ref p := ry
    refine bound_ok I2 hp c hme hl hgf htk hcp ?_
    refine wpAny_bind (wpAny_standAt (wpAny_pure (wpAny_evalAll_nil ?_)))
    rw [Vals.ref1 r1]
    have I3 : Inv X pins σ H2 { s2 with heap := s2.heap.push (PySem.W.methodObj (.ref f) (.ref p)), toks := s2.toks + 1 } := I2.kept (t' := s2.toks + 1) fun b v z => Heap.get?_push_of_some _ z
    have fq := I2.fpOk (Nat.le_refl _) (I2.hok.fresh (Nat.le_refl _))
    have I4 : Inv X (pins ++ [(s2.heap.objs.size, PySem.W.methodObj (.ref f) (.ref p))]) σ H2 { s2 with heap := s2.heap.push (PySem.W.methodObj (.ref f) (.ref p)), toks := s2.toks + 1 } := I3.pins_of fun z hz => by
      rcases List.mem_append.mp hz with hz | hz
      · exact I3.pin z (List.mem_append_right _ hz)
      · rw [List.mem_singleton.mp hz]
        exact ⟨Heap.get?_push_size _ rfl, fq.1, fq.2.1, fq.2.2.1, fun v => by intro e; cases e⟩
    refine thn (sortM_core F hr hb hx hs (List.mem_append_right _ (.head _)) hsp I4 fin) fun u s5 ⟨v, H5, I5, rv, q5⟩ => ⟨v, H5, I5.unpinned, rv, q5⟩
end
end L2
set_option Elab.async false
set_option linter.all false
set_option maxRecDepth 100000
namespace L2
open PySem PySem.Spec PyProof.Rows
end L2
set_option Elab.async false
set_option linter.all false
set_option maxRecDepth 100000
namespace L2
open PySem PySem.Spec PyProof.Rows
end L2
set_option Elab.async false
set_option linter.all false
set_option maxRecDepth 100000
namespace L2
open PySem PySem.Spec PyProof.Rows
end L2
set_option Elab.async false
set_option linter.all false
set_option maxRecDepth 100000
namespace L2
open PySem PySem.Spec PyProof.Rows PySem.SeqAt
end L2
set_option Elab.async false
set_option linter.all false
set_option maxRecDepth 100000
namespace L2
open PySem PySem.Spec PyProof.Rows
end L2
set_option Elab.async false
set_option linter.all false
set_option maxRecDepth 100000
namespace My
open PySem L2
def top (i : Nat) : Stmt := PySem.Challenge.pw_flashkeep_k32_wear_refused.main.body.getD i (.Pass ⟨0, 0, 0, 0⟩)
structure Df (K : PySem.W.Frag) (mg : Str → Option Value) (x : Str) (st : Stmt) (ps : List Str) (f : Addr) (fd : FuncData) : Prop where
  F : Fun K x x st f fd
  b : Binds K fd ps []
  m : mg x = some (.ref f)
structure Tx (K : PySem.W.Frag) (mg : Str → Option Value) : Prop where
  isi : mg "isinstance" = none
  int : mg "int" = none
  bool : mg "bool" = none
  len : mg "len" = none
  max : mg "max" = none
  min : mg "min" = none
  range : mg "range" = none
  enumerate : mg "enumerate" = none
  repr : mg "repr" = none
  widest : ∃ t, mg "WIDEST" = some (.int 57 t)
  ib : PySem.W.kitOne K (.type "int") (.type "bool") = some false
theorem pc {X : Cx} {k : Nat} {f : Addr} {fd : FuncData} {ps : List Str} {sp : Sp} {x : Str} {st : Stmt} {p pos : Pos} {e : Expr} {es : List Expr} {t : TA} (D : Df X.K X.mg x st ps f fd) (G : FnOk X.prog X.w X.K X.mg X.base CX0 k f fd ps sp) (hr : Room k X.A) (ha : PA X (e :: es) t)
    (hg : Gl X x := by rfl) (hdb : (x == ("__debug__" : Str)) = false := by decide) (he : starEach (e :: es) X.env = (false, eval e X.env) :: starEach es X.env := by rfl) (hpl : (backTo pos (starEach es X.env)).any (·.1) = false := by rfl) :
    PE X (.Call (.Name x p) (e :: es) [] pos) (tCall sp [] E0 t) := pe_call G hr hg D.m D.F.kp D.b .nil pass0 ha hdb he hpl
theorem pz {a : Nat} (h : (0 : Int) < (a : Int)) : a ≠ 0 := by omega
theorem s2 {a a' b b' : Int} (h1 : a = a') (h2 : b = b') : ([some (V.int a), some (V.int b)] : St) = [some (V.int a'), some (V.int b')] := by subst h1 h2; rfl
theorem s3 {a a' b b' : Int} {v : Option V} (h1 : a = a') (h2 : b = b') : ([some (V.int a), some (V.int b), v] : St) = [some (V.int a'), some (V.int b'), v] := by subst h1 h2; rfl
theorem s4 {a a' b b' c c' : Int} {v : Option V} (h1 : a = a') (h2 : b = b') (h3 : c = c') : ([some (V.int a), some (V.int b), some (V.int c), v] : St) = [some (V.int a'), some (V.int b'), some (V.int c'), v] := by subst h1 h2 h3; rfl
section
variable {P : Program} {w : World} {K : PySem.W.Frag} {mg : Str → Option Value} {base : Heap}
abbrev sWhole : Stmt := top 26
def spWhole : Sp := fun vs H Q _ => ∃ i : Int, vs = [.int i] ∧ Q (.bl true) H
theorem scWhole : FnScope ["thing"] ["thing"] (defScope sWhole) := ⟨rfl, rfl, rfl, by decide +kernel, rfl, by decide +kernel, by decide +kernel⟩
theorem okWhole {f : Addr} {fd : FuncData} (D : Df K mg "is_whole" sWhole ["thing"] f fd) (T : Tx K mg) : FnOk P w K mg base CX0 1 f fd ["thing"] spWhole := by
  refine D.F.ok scWhole (fun vs H Q E h => ?_) (fun cdv A outer s H vs Q E hr h => ?_)
  · obtain ⟨i, rfl, _⟩ := h; rfl
  · obtain ⟨i, rfl, k⟩ := h
    refine ⟨_, pss_one (ps_ret (pe_and (pe_callB call_isinst (by rfl) T.isi (by decide +kernel) (pa_cons (pv 0) (pa_cons (pe_bltn (v := .ty "int") (by rfl) T.int (by decide +kernel) rfl) pa_nil)))
      (pe_one (pe_not (pe_callB call_isinst (by rfl) T.isi (by decide +kernel) (pa_cons (pv 0) (pa_cons (pe_bltn (v := .ty "bool") (by rfl) T.bool (by decide +kernel) rfl) pa_nil))))))), ?_⟩
    refine ⟨_, rfl, _, _, _, true, rfl, .int i, by rfl, _, rfl, ?_⟩
    refine iteT ?_
    exact ⟨_, rfl, _, _, _, false, rfl, .int i, T.ib, _, rfl, k⟩
abbrev sWithin : Stmt := top 27
def spWithin : Sp := fun vs H Q _ => ∃ a lo hi : Int, vs = [.int a, .int lo, .int hi] ∧ Q (.bl (decide (lo ≤ a) && decide (a ≤ hi))) H
theorem scWithin : FnScope ["thing", "low", "high"] ["thing", "low", "high"] (defScope sWithin) := ⟨rfl, rfl, rfl, by decide +kernel, rfl, by decide +kernel, by decide +kernel⟩
theorem okWithin {f fW : Addr} {fd fdW : FuncData} (D : Df K mg "is_within" sWithin ["thing", "low", "high"] f fd) (DW : Df K mg "is_whole" sWhole ["thing"] fW fdW) (T : Tx K mg) : FnOk P w K mg base CX0 2 f fd ["thing", "low", "high"] spWithin := by
  refine D.F.ok scWithin (fun vs H Q E h => ?_) (fun cdv A outer s H vs Q E hr h => ?_)
  · obtain ⟨a, lo, hi, rfl, _⟩ := h; rfl
  · obtain ⟨a, lo, hi, rfl, k⟩ := h
    refine ⟨_, pss_one (ps_ret (pe_and (pc DW (okWhole DW T) hr (pa_cons (pv 0) pa_nil)) (pe_one (pe_chain op_le op_le (pv 1) (pv 0) (pv 2))))), ?_⟩
    refine ⟨_, rfl, _, rfl, _, rfl, iteT ?_⟩
    refine ⟨_, rfl, _, rfl, _, _, rfl, rfl, _, rfl, ?_⟩
    by_cases h1 : lo ≤ a
    · rw [decide_eq_true h1] at k ⊢
      exact iteT ⟨_, rfl, _, _, rfl, rfl, k⟩
    · rw [decide_eq_false h1] at k ⊢
      exact iteF k
abbrev sLook : Stmt := top 30
end
end My
namespace My
open PySem L2
section
variable {P : Program} {w : World} {K : PySem.W.Frag} {mg : Str → Option Value} {base : Heap}
abbrev sTog : Stmt := top 33
abbrev sOdd : Stmt := top 34
end
end My
namespace My
open PySem L2
inductive Res where
  | good (n : Nat) | mended (n b : Nat) | spoilt
def Res.vs : Res → List V
  | .good n => [.str "good", .int n]
  | .mended n b => [.str "mended", .int n, .int b]
  | .spoilt => [.str "spoilt"]
def Res.dt : Res → PyData
  | .good n => .tuple [.str "good", .int n]
  | .mended n b => .tuple [.str "mended", .int n, .int b]
  | .spoilt => .tuple [.str "spoilt"]
def openN (x w : Nat) : Res := if FK.par x = true then (if FK.lastN w < FK.tgt x 0 then .spoilt else .mended (FK.numIn (x ^^^ 2 ^ FK.tgt x 0)) (FK.tgt x 0)) else if 0 < FK.tgt x 0 then .spoilt else .good (FK.numIn x)
theorem Res.dp {K : PySem.W.Frag} {H : Hp} {p : Addr} (r : Res) (h : SqT K H p r.vs) : Dp K H (.ref p) r.dt := by
  cases r with
  | good n => exact .tup h (.cons (.str _) (.cons (.int _) .nil))
  | mended n b => exact .tup h (.cons (.str _) (.cons (.int _) (.cons (.int _) .nil)))
  | spoilt => exact .tup h (.cons (.str _) .nil)
section
variable {P : Program} {w : World} {K : PySem.W.Frag} {mg : Str → Option Value} {base : Heap}
abbrev sLast : Stmt := top 31
abbrev sNumIn : Stmt := top 32
theorem s5 {a a' b b' c c' d d' : Int} {v : Option V} (h1 : a = a') (h2 : b = b') (h3 : c = c') (h4 : d = d') : ([some (V.int a), some (V.int b), some (V.int c), some (V.int d), v] : St) = [some (V.int a'), some (V.int b'), some (V.int c'), some (V.int d'), v] := by subst h1 h2 h3 h4; rfl
abbrev sOpen : Stmt := top 35
end
end My
namespace My
open PySem L2
/-- nothing but what stands at p may be another -/
def Oth (H H' : Hp) (p : Addr) : Prop := ∀ b, b ≠ p → H' b = H b
theorem Oth.refl (H : Hp) (p : Addr) : Oth H H p := fun _ _ => rfl
theorem Oth.upd (H : Hp) (p : Addr) (o : HO) : Oth H (upd H p o) p := fun _ h => upd_ne h
theorem Oth.trans {H H1 H2 : Hp} {p : Addr} (a : Oth H H1 p) (b : Oth H1 H2 p) : Oth H H2 p := fun c h => (b c h).trans (a c h)
theorem Oth.same {H H1 : Hp} {p : Addr} (a : Oth H H1 p) (h : H p = none) : Same H H1 := fun b o e => by rw [a b (ne_of_none e h)]; exact e
/-- a state of the draws at p -/
def StAt (H : Hp) (p : Addr) : Prop := ∃ d m z : Int, H p = some (.lst [.int d, .int m, .int z]) ∧ -(2 ^ 64) < m ∧ m < 2 ^ 64
section
variable {P : Program} {w : World} {K : PySem.W.Frag} {mg : Str → Option Value} {base : Heap}
abbrev sCell : Stmt := top 78
def spCell (K : PySem.W.Frag) : Sp := fun vs H Q _ => ∃ (a : Addr) (k : Nat) (ns : List Int), vs = [.ref a, .int k] ∧ SqL K H a (ns.map V.int) ∧ ∀ c : Int, Q (.int c) H
theorem scCell : FnScope ["_law_script", "_law_k"] ["_law_script", "_law_k"] (defScope sCell) := ⟨rfl, rfl, rfl, by decide +kernel, rfl, by decide +kernel, by decide +kernel⟩
theorem okCell {f : Addr} {fd : FuncData} (D : Df K mg "_law_cell_at" sCell ["_law_script", "_law_k"] f fd) (T : Tx K mg) : FnOk P w K mg base CX0 1 f fd ["_law_script", "_law_k"] (spCell K) := by
  refine D.F.ok scCell (fun vs H Q E h => ?_) (fun cdv A outer s H vs Q E hr h => ?_)
  · obtain ⟨i, j, l, rfl, _⟩ := h; rfl
  · obtain ⟨a, k, ns, rfl, hS, kk⟩ := h
    refine ⟨_, pss_cons (ps_if (pt_cmpR op_lt (pv 1) (pe_callB call_len_seq (by rfl) T.len PySem.boot_len (pa_cons (pv 0) pa_nil)) (nomark _)) (pss_one (ps_ret (pe_ix ix_list (pv 0) (pv 1) (fun _ _ => rfl)))) pss_nil)
      (pss_one (ps_ret pe_int)), ?_⟩
    refine ⟨_, rfl, _, rfl, a, _, rfl, .inl hS, _, _, rfl, rfl, _, rfl, ?_⟩
    refine ite2 (fun hc => ?_) (fun hc => ?_)
    · have hc : (k : Int) < (((ns.map V.int).length : Nat) : Int) := of_decide_eq_true hc
      have hk : k < ns.length := by rw [List.length_map] at hc; omega
      refine ⟨_, rfl, _, rfl, a, _, _, V.int (ns[k]'hk), rfl, rfl, hS, atI_nat ?_, kk _⟩
      rw [List.getElem?_map, List.getElem?_eq_getElem hk]; rfl
    · exact kk _
abbrev sState : Stmt := top 79
def spState (K : PySem.W.Frag) : Sp := fun vs H Q _ => ∃ (a : Addr) (k : Nat) (ns : List Int), vs = [.ref a, .int k] ∧ SqL K H a (ns.map V.int) ∧ ∀ p H', H p = none → Oth H H' p → StAt H' p → Q (.ref p) H'
theorem scState : FnScope ["_law_script", "_law_k", "_law_cell"] ["_law_script", "_law_k"] (defScope sState) := ⟨rfl, rfl, rfl, by decide +kernel, rfl, by decide +kernel, by decide +kernel⟩
theorem okState {f fC : Addr} {fd fdC : FuncData} (D : Df K mg "_law_state" sState ["_law_script", "_law_k"] f fd) (DC : Df K mg "_law_cell_at" sCell ["_law_script", "_law_k"] fC fdC) (T : Tx K mg) : FnOk P w K mg base CX0 2 f fd ["_law_script", "_law_k"] (spState K) := by
  refine D.F.ok scState (fun vs H Q E h => ?_) (fun cdv A outer s H vs Q E hr h => ?_)
  · obtain ⟨i, j, l, rfl, _⟩ := h; rfl
  · obtain ⟨a, k, ns, rfl, hS, kk⟩ := h
    refine ⟨_, pss_cons (ps_set (i := 2) scState.nd rfl (Or.inl rfl) (pc DC (okCell DC T) hr (pa_cons (pv 0) (pa_cons (pv 1) pa_nil))))
      (pss_one (ps_ret (pe_lst (pa_cons (pe_callB (call_max2 rfl) (by rfl) T.max (by decide +kernel) (pa_cons pe_int (pa_cons (pe_op op_sub (pv 2) (pe_op op_pow pe_int pe_int)) pa_nil)))
        (pa_cons (pe_op op_add (pe_op op_mod (pv 2) pe_int) pe_int) (pa_cons pe_int pa_nil)))))), ?_⟩
    refine ⟨_, rfl, _, rfl, a, k, ns, rfl, hS, fun c => ?_⟩
    refine ⟨_, rfl, _, _, rfl, rfl, ⟨by decide, by decide, by decide⟩, _, _, rfl, rfl, _, _, rfl, ?_⟩
    refine ⟨_, rfl, _, _, rfl, rfl, (by show (0 : Int) < 2147483629; decide), _, _, rfl, rfl, (by show 3 ≤ sizeLine; decide), fun p hp => ?_⟩
    have h1 := Int.emod_nonneg c (show (2147483629 : Int) ≠ 0 by decide)
    have h2 := Int.emod_lt_of_pos c (show (0 : Int) < 2147483629 by decide)
    exact kk p _ hp (Oth.upd H p _) ⟨_, _, _, upd_same, by omega, by omega⟩
abbrev sChoice : Stmt := top 80
def spChoice : Sp := fun vs H Q _ => ∃ (p : Addr) (many : Int), vs = [.ref p, .int many] ∧ (0 < many ∧ many < 2 ^ 100) ∧ StAt H p ∧ ∀ r H', 0 ≤ r → r < many → Oth H H' p → StAt H' p → Q (.int r) H'
theorem scChoice : FnScope ["_law_state_here", "_law_many", "_law_found", "_law_mixed"] ["_law_state_here", "_law_many"] (defScope sChoice) := ⟨rfl, rfl, rfl, by decide +kernel, rfl, by decide +kernel, by decide +kernel⟩
theorem okChoice {f : Addr} {fd : FuncData} (D : Df K mg "_law_choice" sChoice ["_law_state_here", "_law_many"] f fd) : FnOk P w K mg base CX0 1 f fd ["_law_state_here", "_law_many"] spChoice := by
  refine D.F.ok scChoice (fun vs H Q E h => ?_) (fun cdv A outer s H vs Q E hr h => ?_)
  · obtain ⟨i, j, rfl, _⟩ := h; rfl
  · obtain ⟨p, many, rfl, hm, ⟨d, m, z, hp, hm1, hm2⟩, kk⟩ := h
    refine ⟨_, pss_cons (ps_if (pt_cmpR op_gt (pe_ix ix_list (pv 0) pe_int (fun _ _ => rfl)) pe_int (nomark _))
        (pss_cons (ps_set (i := 2) scChoice.nd rfl (Or.inl rfl) (pe_op op_mod (pe_ix ix_list (pv 0) pe_int (fun _ _ => rfl)) (pv 1)))
        (pss_cons (ps_asg (pe_op op_fdivL (pe_ix ix_list (pv 0) pe_int (fun _ _ => rfl)) (pv 1)) (pg_sub (pv 0) pe_int set_list))
        (pss_one (ps_ret (pv 2))))) pss_nil)
      (pss_cons (ps_asg (pe_op op_add (pe_ix ix_list (pv 0) pe_int (fun _ _ => rfl)) pe_int) (pg_sub (pv 0) pe_int set_list))
      (pss_cons (ps_asg (pe_op op_mod (pe_op op_add (pe_op op_add (pe_op op_mul (pe_ix ix_list (pv 0) pe_int (fun _ _ => rfl)) pe_int) pe_int) (pe_ix ix_list (pv 0) pe_int (fun _ _ => rfl))) pe_int) (pg_sub (pv 0) pe_int set_list))
      (pss_cons (ps_set (i := 3) scChoice.nd rfl (Or.inl rfl) (pe_op op_mod (pe_op op_add (pe_op op_add (pe_op op_mul (pe_ix ix_list (pv 0) pe_int (fun _ _ => rfl)) (pe_ix ix_list (pv 0) pe_int (fun _ _ => rfl))) (pe_op op_mul pe_int (pe_ix ix_list (pv 0) pe_int (fun _ _ => rfl)))) pe_int) pe_int))
      (pss_cons (ps_set (i := 3) scChoice.nd rfl (Or.inl rfl) (pe_op op_mod (pe_op op_add (pe_op op_mul (pv 3) (pv 3)) (pe_op op_mul pe_int (pv 3))) pe_int))
      (pss_one (ps_ret (pe_op op_mod (pe_op op_fdiv (pv 3) pe_int) (pv 1)))))))), ?_⟩
    have at0 : ∀ {a b c : V}, atI [a, b, c] 0 = some a := atI_nat (j := 0) rfl
    have at1 : ∀ {a b c : V}, atI [a, b, c] 1 = some b := atI_nat (j := 1) rfl
    have at2 : ∀ {a b c : V}, atI [a, b, c] 2 = some c := atI_nat (j := 2) rfl
    refine ⟨_, rfl, p, _, _, _, rfl, rfl, .inl (.inl hp), at0, _, _, rfl, rfl, _, rfl, ?_⟩
    refine ite2 (fun hc => ?_) (fun hc => ?_)
    · refine ⟨_, rfl, p, _, _, _, rfl, rfl, .inl (.inl hp), at0, _, rfl, _, _, rfl, rfl, hm.1, ?_⟩
      refine ⟨_, rfl, p, _, _, _, rfl, rfl, .inl (.inl hp), at0, _, rfl, _, _, rfl, rfl, hm, ?_⟩
      refine ⟨_, rfl, p, _, _, 0, rfl, rfl, hp, rfl, ?_⟩
      refine ⟨_, rfl, ?_⟩
      exact kk _ _ (Int.emod_nonneg _ (by omega)) (Int.emod_lt_of_pos _ hm.1) (Oth.upd H p _) ⟨_, _, _, upd_same, hm1, hm2⟩
    · refine ⟨_, rfl, p, _, _, _, rfl, rfl, .inl (.inl hp), at2, _, _, rfl, rfl, ?_⟩
      refine ⟨_, rfl, p, _, _, 2, rfl, rfl, hp, rfl, ?_⟩
      refine ⟨_, rfl, p, _, _, _, rfl, rfl, .inl (.inl upd_same), at1, _, _, rfl, rfl, .inl ⟨hm1, hm2⟩, _, _, rfl, rfl, _, rfl, p, _, _, _, rfl, rfl, .inl (.inl upd_same), at2, _, _, rfl, rfl, _, _, rfl, rfl, (by show (0 : Int) < 2147483647; decide), ?_⟩
      refine ⟨_, rfl, p, _, _, 1, rfl, rfl, upd_same, rfl, ?_⟩
      generalize hx : (m * 48271 + 29 + (z + 1)) % 2147483647 = x
      have x0 : 0 ≤ x := by rw [← hx]; exact Int.emod_nonneg _ (by decide)
      have x1 : x < 2147483647 := by rw [← hx]; exact Int.emod_lt_of_pos _ (by decide)
      have xb : -(2 ^ 64) < x ∧ x < 2 ^ 64 := by omega
      refine ⟨_, rfl, p, _, _, V.int x, rfl, rfl, .inl (.inl upd_same), (by rw [← hx]; exact at1), _, rfl, p, _, _, V.int x, rfl, rfl, .inl (.inl upd_same), (by rw [← hx]; exact at1), _, _, rfl, rfl, .inl xb, ?_⟩
      refine ⟨_, rfl, p, _, _, V.int x, rfl, rfl, .inl (.inl upd_same), (by rw [← hx]; exact at1), _, _, rfl, rfl, .inl (by decide), _, _, rfl, rfl, _, _, rfl, rfl, _, _, rfl, rfl, (by show (0 : Int) < 2147483629; decide), ?_⟩
      generalize hy : (x * x + 39373 * x + 7) % 2147483629 = y
      have y0 : 0 ≤ y := by rw [← hy]; exact Int.emod_nonneg _ (by decide)
      have y1 : y < 2147483629 := by rw [← hy]; exact Int.emod_lt_of_pos _ (by decide)
      have yb : -(2 ^ 64) < y ∧ y < 2 ^ 64 := by omega
      refine ⟨V.int y, congrArg (fun v => some (some (V.int v))) hy, V.int y, congrArg (fun v => some (some (V.int v))) hy, _, _, rfl, rfl, .inl yb, V.int y, congrArg (fun v => some (some (V.int v))) hy, _, _, rfl, rfl, .inl (by decide), _, _, rfl, rfl, _, _, rfl, rfl, (by show (0 : Int) < 2147483587; decide), ?_⟩
      refine ⟨_, rfl, _, _, rfl, rfl, ⟨by decide, by decide⟩, _, rfl, _, _, rfl, rfl, hm.1, ?_⟩
      refine kk _ _ (Int.emod_nonneg _ (by omega)) (Int.emod_lt_of_pos _ hm.1) (fun b hb => ?_) ⟨_, _, _, upd_same, ?_, ?_⟩
      · rw [upd_ne hb, upd_ne hb]
      · rw [hx]; exact xb.1
      · rw [hx]; exact xb.2
end
end My
namespace My
open PySem L2
theorem nx {H : Hp} {a p : Addr} {o u : HO} (e : H p = none) (h : H a = some o) : upd H p u a = some o := by rw [upd_ne (ne_of_none h e)]; exact h
theorem at_new {H : Hp} {p : Addr} {o : HO} (_ : H p = none) : upd H p o p = some o := upd_same
theorem same_new {H : Hp} {l : Addr} {o : HO} (h : H l = none) : Same H (upd H l o) := fun b u e => by rw [upd_ne (ne_of_none e h)]; exact e
end My
namespace My
open PySem L2
def Ex (H H' : Hp) (p : Addr) : Prop := ∀ b o, H b = some o → b ≠ p → H' b = some o
theorem Ex.refl (H : Hp) (p : Addr) : Ex H H p := fun _ _ h _ => h
theorem Ex.trans {H H1 H2 : Hp} {p : Addr} (a : Ex H H1 p) (b : Ex H1 H2 p) : Ex H H2 p := fun c o h n => b c o (a c o h n) n
theorem Oth.ex {H H1 : Hp} {p : Addr} (a : Oth H H1 p) : Ex H H1 p := fun b o h n => by rw [a b n]; exact h
theorem Same.ex {H H1 : Hp} {p : Addr} (a : Same H H1) : Ex H H1 p := fun b o h _ => a b o h
theorem StAt.same {H H1 : Hp} {p : Addr} (h : StAt H p) (a : Same H H1) : StAt H1 p := by
  obtain ⟨d, m, z, e, h1, h2⟩ := h
  exact ⟨d, m, z, a _ _ e, h1, h2⟩
theorem StAt.ne {H : Hp} {p l : Addr} (h : StAt H p) (hl : H l = none) : l ≠ p := by
  obtain ⟨d, m, z, e, _⟩ := h
  exact (ne_of_none e hl).symm
end My
namespace My
open PySem L2
def kt : Nat → Str
  | 0 => "write"
  | 1 => "trim"
  | 2 => "member"
  | _ => "commit"
open FK (Flds)
def fvs (F : Flds) : List V := [.str (kt F.k), .int (F.pl : Nat), .int (F.nu : Nat), .int (F.gr : Nat), .int (F.da : Nat)]
theorem kt_eq (k j : Nat) (hk : k < 4) (hj : j < 4) : decide (V.str (kt k) = V.str (kt j)) = decide (k = j) := by
  have : ∀ k < 4, ∀ j < 4, decide (V.str (kt k) = V.str (kt j)) = decide (k = j) := by decide +kernel
  exact this k hk j hj
end My
namespace My
open PySem L2
open FK (Flds PRes)
def fdt (F : Flds) : PyData := .tuple [.str (kt F.k), .int (F.pl : Nat), .int (F.nu : Nat), .int (F.gr : Nat), .int (F.da : Nat)]
def ofN (m : Flds → PRes) (n : Nat) : PRes := if FK.okB (FK.decF n) = true then m (FK.decF n) else .spoilt
def finN (b : Bool) (x : Nat) : PRes := if b = true then (match openN x 40 with | .good n => ofN .good n | .mended n _ => ofN .mended n | .spoilt => .spoilt) else if x < 2 ^ 40 then ofN .good x else .spoilt
def PgAt (H : Hp) (p : Addr) : PRes → Prop
  | .good F => ∃ q, H p = some (.tup [.str "good", .ref q]) ∧ H q = some (.tup (fvs F))
  | .mended F => ∃ q, H p = some (.tup [.str "mended", .ref q]) ∧ H q = some (.tup (fvs F))
  | .spoilt => H p = some (.tup [.str "spoilt", .non])
theorem PgAt.same {H H' : Hp} {p : Addr} {r : PRes} (h : PgAt H p r) (s : Same H H') : PgAt H' p r := by
  cases r with
  | good F => obtain ⟨q, a, b⟩ := h; exact ⟨q, s _ _ a, s _ _ b⟩
  | mended F => obtain ⟨q, a, b⟩ := h; exact ⟨q, s _ _ a, s _ _ b⟩
  | spoilt => exact s _ _ h
end My
namespace My
open PySem L2
def isI : PyData → Bool | .int _ => true | .bool _ => true | _ => false
def isB : PyData → Bool | .bool _ => true | _ => false
def isT : PyData → Bool | .tuple _ => true | _ => false
def isS : PyData → Bool | .str _ => true | _ => false
theorem kitI (K : PySem.W.Frag) (d : PyData) : PySem.W.kitOne K (.type (tyD d)) (.type "int") = some (isI d) := by cases d <;> kernel_rfl
theorem kitB (K : PySem.W.Frag) (d : PyData) : PySem.W.kitOne K (.type (tyD d)) (.type "bool") = some (isB d) := by cases d <;> kernel_rfl
theorem kitT (K : PySem.W.Frag) (d : PyData) : PySem.W.kitOne K (.type (tyD d)) (.type "tuple") = some (isT d) := by cases d <;> kernel_rfl
theorem kitS (K : PySem.W.Frag) (d : PyData) : PySem.W.kitOne K (.type (tyD d)) (.type "str") = some (isS d) := by cases d <;> kernel_rfl
def wi (d : PyData) (lo hi : Int) : Bool := match d with | .int i => decide (lo ≤ i) && decide (i ≤ hi) | _ => false
def isW : PyData → Bool | .int _ => true | _ => false
section
variable {P : Program} {w : World} {K : PySem.W.Frag} {mg : Str → Option Value} {base : Heap}
def spWholeD : Sp := fun vs H Q _ => ∃ x d, vs = [x] ∧ Dh H x d ∧ Q (.bl (isW d)) H
theorem okWholeD {f : Addr} {fd : FuncData} (D : Df K mg "is_whole" sWhole ["thing"] f fd) (T : Tx K mg) : FnOk P w K mg base CX0 1 f fd ["thing"] spWholeD := by
  refine D.F.ok scWhole (fun vs H Q E h => ?_) (fun cdv A outer s H vs Q E hr h => ?_)
  · obtain ⟨_, _, rfl, _⟩ := h; rfl
  · obtain ⟨x, d, rfl, hd, k⟩ := h
    refine ⟨_, pss_one (ps_ret (pe_and (pe_callB call_isinst (by rfl) T.isi (by decide +kernel) (pa_cons (pv 0) (pa_cons (pe_bltn (v := .ty "int") (by rfl) T.int (by decide +kernel) rfl) pa_nil)))
      (pe_one (pe_not (pe_callB call_isinst (by rfl) T.isi (by decide +kernel) (pa_cons (pv 0) (pa_cons (pe_bltn (v := .ty "bool") (by rfl) T.bool (by decide +kernel) rfl) pa_nil))))))), ?_⟩
    cases d with
    | int i => exact ⟨_, rfl, _, _, _, true, rfl, hd.ty, kitI K (.int i), _, rfl, iteT ⟨_, rfl, _, _, _, false, rfl, hd.ty, kitB K (.int i), _, rfl, k⟩⟩
    | bool b => exact ⟨_, rfl, _, _, _, true, rfl, hd.ty, kitI K (.bool b), _, rfl, iteT ⟨_, rfl, _, _, _, true, rfl, hd.ty, kitB K (.bool b), _, rfl, k⟩⟩
    | none => exact ⟨_, rfl, _, _, _, false, rfl, hd.ty, kitI K .none, _, rfl, iteF k⟩
    | str x => exact ⟨_, rfl, _, _, _, false, rfl, hd.ty, kitI K (.str x), _, rfl, iteF k⟩
    | list x => exact ⟨_, rfl, _, _, _, false, rfl, hd.ty, kitI K (.list x), _, rfl, iteF k⟩
    | tuple x => exact ⟨_, rfl, _, _, _, false, rfl, hd.ty, kitI K (.tuple x), _, rfl, iteF k⟩
    | dict x => exact ⟨_, rfl, _, _, _, false, rfl, hd.ty, kitI K (.dict x), _, rfl, iteF k⟩
def spWithinD : Sp := fun vs H Q _ => ∃ (x : V) (d : PyData) (lo hi : Int), vs = [x, .int lo, .int hi] ∧ Dh H x d ∧ Q (.bl (wi d lo hi)) H
theorem okWithinD {f fW : Addr} {fd fdW : FuncData} (D : Df K mg "is_within" sWithin ["thing", "low", "high"] f fd) (DW : Df K mg "is_whole" sWhole ["thing"] fW fdW) (T : Tx K mg) : FnOk P w K mg base CX0 2 f fd ["thing", "low", "high"] spWithinD := by
  refine D.F.ok scWithin (fun vs H Q E h => ?_) (fun cdv A outer s H vs Q E hr h => ?_)
  · obtain ⟨_, _, _, _, rfl, _⟩ := h; rfl
  · obtain ⟨x, d, lo, hi, rfl, hd, k⟩ := h
    refine ⟨_, pss_one (ps_ret (pe_and (pc DW (okWholeD DW T) hr (pa_cons (pv 0) pa_nil)) (pe_one (pe_chain op_le op_le (pv 1) (pv 0) (pv 2))))), ?_⟩
    refine ⟨_, rfl, _, d, rfl, hd, _, rfl, ?_⟩
    cases hd with
    | int i =>
      refine iteT ⟨_, rfl, _, rfl, _, _, rfl, rfl, _, rfl, ?_⟩
      have k : Q (.bl (decide (lo ≤ i) && decide (i ≤ hi))) H := k
      by_cases h1 : lo ≤ i
      · rw [decide_eq_true h1] at k ⊢
        exact iteT ⟨_, rfl, _, _, rfl, rfl, k⟩
      · rw [decide_eq_false h1] at k ⊢
        exact iteF k
    | bl b => exact iteF k
    | non => exact iteF k
    | str x => exact iteF k
    | lst a b => exact iteF k
    | tup a b => exact iteF k
    | d0 a => exact iteF k
    | d1 a => exact iteF k
def KTp (K : PySem.W.Frag) (a : Addr) (xs : List V) : Prop := ∃ (o : Obj) (its : Array Value) (n : Nat), K.lookup a = some o ∧ o.cls = .type "tuple" ∧ o.data = .seq its n ∧ its.size ≤ sizeLine ∧ Vals xs its.toList ∧ o.dict = none
theorem KTp.sq {a : Addr} {xs : List V} {H : Hp} (h : KTp K a xs) : SqT K H a xs := let ⟨o, its, n, h1, h2, h3, h4, h5, _⟩ := h; .inr ⟨o, its, n, h1, h2, h3, h4, h5⟩
theorem KTp.ty {a : Addr} {xs : List V} {H : Hp} (h : KTp K a xs) : tyV K "tuple" (.ref a) H := let ⟨o, its, n, h1, h2, h3, h4, h5, h6⟩ := h; .inr (.inl ⟨rfl, o, h1, h2, h6⟩)
def grK (a0 a1 a2 a3 : Addr) : List (Key × V) := [(.inr "write", .ref a0), (.inr "trim", .ref a1), (.inr "member", .ref a2), (.inr "commit", .ref a3)]
structure Tp (P : Program) (w : World) (K : PySem.W.Frag) (mg : Str → Option Value) : Prop where
  tup : mg "tuple" = none
  str : mg "str" = none
  gnum : ∃ t, mg "GREATEST_NUMBER" = some (.int 16383 t)
  great : ∃ a a0 a1 a2 a3, mg "GREATEST" = some (.ref a) ∧ KDic P w K a (grK a0 a1 a2 a3) ∧ KTp K a0 [.int 15, .int 0, .int 63] ∧ KTp K a1 [.int 15, .int 0, .int 0] ∧ KTp K a2 [.int 15, .int 16383, .int 63] ∧ KTp K a3 [.int 0, .int 16383, .int 0]
def gtS (s : Str) : Option (Int × Int × Int) := if s = "write" then some (15, 0, 63) else if s = "trim" then some (15, 0, 0) else if s = "member" then some (15, 16383, 63) else if s = "commit" then some (0, 16383, 0) else none
def areF : PyData → Bool
  | .tuple [.str s, p, n, g, a] => match gtS s with | some (x, y, z) => wi p 0 x && (wi n 0 16383 && (wi g 0 y && wi a 0 z)) | none => false
  | _ => false
def arF4 (o : Option (Int × Int × Int)) (p n g a : PyData) : Bool := match o with | some (x, y, z) => wi p 0 x && (wi n 0 16383 && (wi g 0 y && wi a 0 z)) | none => false
theorem areF_str (s : Str) (p n g a : PyData) : areF (.tuple [.str s, p, n, g, a]) = arF4 (gtS s) p n g a := by
  show (match gtS s with | some (x, y, z) => _ | none => _) = _
  unfold arF4
  cases gtS s with
  | none => rfl
  | some t => rfl
theorem gr_at {a0 a1 a2 a3 : Addr} (h0 : KTp K a0 [.int 15, .int 0, .int 63]) (h1 : KTp K a1 [.int 15, .int 0, .int 0]) (h2 : KTp K a2 [.int 15, .int 16383, .int 63]) (h3 : KTp K a3 [.int 0, .int 16383, .int 0]) (s : Str) :
    (valV (grK a0 a1 a2 a3) (.inr s) = none ∧ gtS s = none) ∨ ∃ b x y z, valV (grK a0 a1 a2 a3) (.inr s) = some (.ref b) ∧ gtS s = some (x, y, z) ∧ KTp K b [.int x, .int y, .int z] := by
  unfold gtS
  by_cases e0 : s = "write"
  · subst e0; exact .inr ⟨a0, _, _, _, rfl, rfl, h0⟩
  rw [if_neg e0]
  by_cases e1 : s = "trim"
  · subst e1; exact .inr ⟨a1, _, _, _, rfl, rfl, h1⟩
  rw [if_neg e1]
  by_cases e2 : s = "member"
  · subst e2; exact .inr ⟨a2, _, _, _, rfl, rfl, h2⟩
  rw [if_neg e2]
  by_cases e3 : s = "commit"
  · subst e3; exact .inr ⟨a3, _, _, _, rfl, rfl, h3⟩
  rw [if_neg e3]
  refine .inl ⟨?_, rfl⟩
  unfold valV grK
  have n0 : ¬ (Sum.inr (α := Int) "write" : Key) = .inr s := fun z => e0 (Sum.inr.inj z).symm
  have n1 : ¬ (Sum.inr (α := Int) "trim" : Key) = .inr s := fun z => e1 (Sum.inr.inj z).symm
  have n2 : ¬ (Sum.inr (α := Int) "member" : Key) = .inr s := fun z => e2 (Sum.inr.inj z).symm
  have n3 : ¬ (Sum.inr (α := Int) "commit" : Key) = .inr s := fun z => e3 (Sum.inr.inj z).symm
  simp only [List.find?_cons, decide_eq_false n0, decide_eq_false n1, decide_eq_false n2, decide_eq_false n3, List.find?_nil, Option.map_none]
abbrev sIsFields : Stmt := top 42
abbrev nIsFields : List Str := ["thing", "kind", "place", "number", "group", "data", "greatest_place", "greatest_group", "greatest_data"]
theorem scIsFields : FnScope nIsFields ["thing"] (defScope sIsFields) := ⟨rfl, rfl, rfl, by decide +kernel, rfl, by decide +kernel, by decide +kernel⟩
def spIsFields : Sp := fun vs H Q _ => ∃ x d, vs = [x] ∧ Dh H x d ∧ Q (.bl (areF d)) H
set_option maxHeartbeats 4000000 in
theorem okIsFields {f fI fW : Addr} {fd fdI fdW : FuncData} (D : Df K mg "is_fields" sIsFields ["thing"] f fd) (DI : Df K mg "is_within" sWithin ["thing", "low", "high"] fI fdI) (DW : Df K mg "is_whole" sWhole ["thing"] fW fdW) (T : Tx K mg) (U : Tp P w K mg) : FnOk P w K mg base CX0 3 f fd ["thing"] spIsFields := by
  refine D.F.ok scIsFields (fun vs H Q E h => ?_) (fun cdv A outer s H vs Q E hr h => ?_)
  · obtain ⟨_, _, rfl, _⟩ := h; rfl
  · obtain ⟨x, d, rfl, hd, k⟩ := h
    obtain ⟨tn, hgn⟩ := U.gnum
    obtain ⟨ga, a0, a1, a2, a3, hga, kd, h0, h1, h2, h3⟩ := U.great
    refine ⟨_, pss_cons (ps_if (PW.pt (pw_or (pt_not (pt_val (pe_callB call_isinst (by rfl) T.isi (by decide +kernel) (pa_cons (pv 0) (pa_cons (pe_bltn (v := .ty "tuple") (by rfl) U.tup (by decide +kernel) rfl) pa_nil))))) (pw_or1 (pt_cmpR op_ne (pe_callB call_len_seq (by rfl) T.len PySem.boot_len (pa_cons (pv 0) pa_nil)) pe_int (nomark _)))))
        (pss_one (ps_ret pe_bl))
        pss_nil)
      (pss_cons (ps_asg (pv 0) (pg_tup (by rfl) (pgs_cons (pg_name (i := 1) scIsFields.nd rfl (Or.inl rfl)) (pgs_cons (pg_name (i := 2) scIsFields.nd rfl (Or.inl rfl)) (pgs_cons (pg_name (i := 3) scIsFields.nd rfl (Or.inl rfl)) (pgs_cons (pg_name (i := 4) scIsFields.nd rfl (Or.inl rfl)) (pgs_cons (pg_name (i := 5) scIsFields.nd rfl (Or.inl rfl)) pgs_nil)))))))
      (pss_cons (ps_if (PW.pt (pw_or (pt_not (pt_val (pe_callB call_isinst (by rfl) T.isi (by decide +kernel) (pa_cons (pv 1) (pa_cons (pe_bltn (v := .ty "str") (by rfl) U.str (by decide +kernel) rfl) pa_nil))))) (pw_or1 (pt_cmp (pc_dnotinK (pv 1) (pe_glob (v := .ref ga) (by rfl) hga rfl))))))
        (pss_one (ps_ret pe_bl))
        pss_nil)
      (pss_cons (ps_asg (pe_dgetK (pe_glob (v := .ref ga) (by rfl) hga rfl) (pv 1) (fun _ _ => rfl)) (pg_tup (by rfl) (pgs_cons (pg_name (i := 6) scIsFields.nd rfl (Or.inl rfl)) (pgs_cons (pg_name (i := 7) scIsFields.nd rfl (Or.inl rfl)) (pgs_cons (pg_name (i := 8) scIsFields.nd rfl (Or.inl rfl)) pgs_nil)))))
      (pss_one (ps_ret (pe_and (pc DI (okWithinD DI DW T) hr (pa_cons (pv 2) (pa_cons pe_int (pa_cons (pv 6) pa_nil)))) (pe_and (pc DI (okWithinD DI DW T) hr (pa_cons (pv 3) (pa_cons pe_int (pa_cons (pe_glob (v := .int 16383) (by rfl) hgn ⟨tn, rfl⟩) pa_nil)))) (pe_and (pc DI (okWithinD DI DW T) hr (pa_cons (pv 4) (pa_cons pe_int (pa_cons (pv 7) pa_nil)))) (pe_one (pc DI (okWithinD DI DW T) hr (pa_cons (pv 5) (pa_cons pe_int (pa_cons (pv 8) pa_nil))))))))))))), ?_⟩
    have no : ∀ b, isT d = b → b = false → Q (.bl (areF d)) H → Q (.bl false) H := by
      intro b h1 h2 q
      cases d with
      | tuple ds => rw [h2] at h1; cases h1
      | _ => exact q
    by_cases hT : isT d = false
    · exact ⟨_, rfl, _, _, _, false, rfl, hd.ty, (kitT K d).trans (congrArg some hT), _, rfl, iteT (iteT (no _ hT rfl k))⟩
    · cases hd with
      | @tup a xs ds e hh =>
        refine ⟨_, rfl, _, _, _, true, rfl, .tup e, kitT K (.tuple ds), _, rfl, iteF ?_⟩
        have hl := hh.length
        by_cases h5 : xs.length = 5
        · have e5 : (!decide (V.int (xs.length : Nat) = V.int 5)) = false := by rw [h5]; rfl
          refine ⟨_, rfl, a, xs, rfl, .inr (SqT.of e), rfl, false, congrArg V.bl e5, iteF ?_⟩
          match xs, ds, hh, h5 with
          | [x0, x1, x2, x3, x4], [d0, d1, d2, d3, d4], .cons q0 (.cons q1 (.cons q2 (.cons q3 (.cons q4 .nil)))), _ =>
          refine ⟨_, rfl, a, _, rfl, SqT.of e, rfl, _, _, rfl, _, _, rfl, _, _, rfl, _, _, rfl, _, _, rfl, rfl, ?_⟩
          have noS : isS d0 = false → Q (.bl (areF (.tuple [d0, d1, d2, d3, d4]))) H → Q (.bl false) H := by
            intro h q
            cases d0 with
            | str s => cases h
            | _ => exact q
          by_cases hS : isS d0 = false
          · exact ⟨_, rfl, _, _, _, false, rfl, q0.ty, (kitS K d0).trans (congrArg some hS), _, rfl, iteT (iteT (noS hS k))⟩
          · cases q0 with
            | str s =>
              refine ⟨_, rfl, _, _, _, true, rfl, .str s, kitS K (.str s), _, rfl, iteF ?_⟩
              rcases gr_at h0 h1 h2 h3 s with ⟨v, g⟩ | ⟨b, x, y, z, v, g, kb⟩
              · refine ⟨_, rfl, ga, _, .inr s, rfl, kd, rfl, true, ?_, iteT ?_⟩
                · rw [v]; rfl
                · have ef : areF (.tuple [.str s, d1, d2, d3, d4]) = false := by rw [areF_str, g]; rfl
                  rw [ef] at k; exact k
              · refine ⟨_, rfl, ga, _, .inr s, rfl, kd, rfl, false, ?_, iteF ?_⟩
                · rw [v]; rfl
                have ef : areF (.tuple [.str s, d1, d2, d3, d4]) = (wi d1 0 x && (wi d2 0 16383 && (wi d3 0 y && wi d4 0 z))) := by rw [areF_str, g]; rfl
                rw [ef] at k
                refine ⟨_, rfl, ga, _, .inr s, .ref b, rfl, kd, rfl, v, b, _, rfl, kb.sq, rfl, _, _, rfl, _, _, rfl, _, _, rfl, rfl, ?_⟩
                refine ⟨_, rfl, _, rfl, _, d1, 0, x, rfl, q1, wi d1 0 x, rfl, ?_⟩
                cases e1 : wi d1 0 x with
                | false => rw [e1] at k; exact iteF k
                | true =>
                  refine iteT ⟨_, rfl, _, d2, 0, 16383, rfl, q2, wi d2 0 16383, rfl, ?_⟩
                  rw [e1] at k
                  cases e2 : wi d2 0 16383 with
                  | false => rw [e2] at k; exact iteF k
                  | true =>
                    refine iteT ⟨_, rfl, _, rfl, _, d3, 0, y, rfl, q3, wi d3 0 y, rfl, ?_⟩
                    rw [e2] at k
                    cases e3 : wi d3 0 y with
                    | false => rw [e3] at k; exact iteF k
                    | true =>
                      rw [e3] at k
                      exact iteT ⟨_, rfl, _, rfl, _, d4, 0, z, rfl, q4, k⟩
            | _ => exact absurd rfl hS
        · have e5 : (!decide (V.int (xs.length : Nat) = V.int 5)) = true := by
            rw [decide_eq_false (fun z => h5 (by have := V.int.inj z; omega))]; rfl
          refine ⟨_, rfl, a, xs, rfl, .inr (SqT.of e), rfl, true, congrArg V.bl e5, iteT ?_⟩
          have ef : areF (.tuple ds) = false := by
            unfold areF
            split
            · rename_i z; cases z; exact absurd hl h5
            · rfl
          rw [ef] at k; exact k
      | _ => exact absurd rfl hT
end
end My
namespace My
open PySem L2
open FK (Flds PRes)
def ktV : List V := [.str "write", .str "trim", .str "member", .str "commit"]
structure Tqp (K : PySem.W.Frag) (mg : Str → Option Value) : Prop where
  divmod : mg "divmod" = none
  width : ∃ t, mg "WIDTH" = some (.int 40 t)
  gword : ∃ t, mg "GREATEST_WORD" = some (.int 140737488355327 t)
  kinds : ∃ a, mg "KINDS" = some (.ref a) ∧ KTp K a ktV
def niw (b : Bool) (x : Nat) : Res := if b = true then openN x 40 else if x < 2 ^ 40 then .good x else .spoilt
theorem finN_niw (b : Bool) (x : Nat) : finN b x = match niw b x with | .good n => ofN .good n | .mended n _ => ofN .mended n | .spoilt => .spoilt := by
  unfold finN niw
  cases b with
  | true => rfl
  | false =>
    by_cases h : x < 2 ^ 40
    · rw [if_neg Bool.false_ne_true, if_neg Bool.false_ne_true, if_pos h, if_pos h]
    · rw [if_neg Bool.false_ne_true, if_neg Bool.false_ne_true, if_neg h, if_neg h]
section
variable {P : Program} {w : World} {K : PySem.W.Frag} {mg : Str → Option Value} {base : Heap}
abbrev sPartsOf : Stmt := top 44
abbrev sNumberInWord : Stmt := top 45
end
end My
namespace My
open PySem L2
open FK (Flds PRes)
section
variable {P : Program} {w : World} {K : PySem.W.Frag} {mg : Str → Option Value} {base : Heap}
abbrev sIsWord : Stmt := top 43
theorem scIsWord : FnScope ["thing"] ["thing"] (defScope sIsWord) := ⟨rfl, rfl, rfl, by decide +kernel, rfl, by decide +kernel, by decide +kernel⟩
abbrev sFieldsIn : Stmt := top 46
theorem at0c {a : V} {xs : List V} : atI (a :: xs) 0 = some a := atI_nat (j := 0) rfl
theorem at1c {a b : V} {xs : List V} : atI (a :: b :: xs) 1 = some b := atI_nat (j := 1) rfl
end
end My
namespace My
open PySem L2
inductive Flt
  | cut | bad | bit (n : Nat)
def fltV : Flt → List V
  | .cut => [.str "cut"]
  | .bad => [.str "bad"]
  | .bit n => [.str "bit", .int (n : Nat)]
def fltD : Flt → List PyData
  | .cut => [.str "cut"]
  | .bad => [.str "bad"]
  | .bit n => [.str "bit", .int (n : Nat)]
def Flt.ok : Flt → Prop
  | .bit n => n ≤ 46
  | _ => True
theorem flt_dp {K : PySem.W.Frag} {H : Hp} {a : Addr} {f : Flt} (h : SqT K H a (fltV f)) : Dp K H (.ref a) (.tuple (fltD f)) := by
  cases f with
  | cut => exact .tup h (.cons (.str _) .nil)
  | bad => exact .tup h (.cons (.str _) .nil)
  | bit n => exact .tup h (.cons (.str _) (.cons (.int _) .nil))
structure WOk (ws : List (Nat × Flt)) : Prop where
  len : ws.length ≤ 40
  st : ∀ q ∈ ws, q.1 < 10000
  ok : ∀ q ∈ ws, q.2.ok
  up : ws.Pairwise fun a b => a.1 < b.1
def WAt (K : PySem.W.Frag) (H : Hp) (a : Addr) (ws : List (Nat × Flt)) (rs fs : List Addr) : Prop := rs.length = ws.length ∧ fs.length = ws.length ∧ SqT K H a (rs.map V.ref) ∧
  ∀ (i : Nat) (r f : Addr) (q : Nat × Flt), rs[i]? = some r → fs[i]? = some f → ws[i]? = some q → H r = some (.tup [.int (q.1 : Nat), .ref f]) ∧ H f = some (.tup (fltV q.2))
theorem sqt_same {K : PySem.W.Frag} {H H' : Hp} {a : Addr} {xs : List V} (g : Same H H') (h : SqT K H a xs) : SqT K H' a xs := by
  rcases h with (h | ⟨o, h⟩) | h
  · exact .inl (.inl (g _ _ h))
  · exact .inl (.inr ⟨o, g _ _ h⟩)
  · exact .inr h
theorem WAt.same {K : PySem.W.Frag} {H H' : Hp} {a : Addr} {ws : List (Nat × Flt)} {rs fs : List Addr} (h : WAt K H a ws rs fs) (s : Same H H') : WAt K H' a ws rs fs :=
  ⟨h.1, h.2.1, sqt_same s h.2.2.1, fun i r f q e1 e2 e3 => let ⟨z1, z2⟩ := h.2.2.2 i r f q e1 e2 e3; ⟨s _ _ z1, s _ _ z2⟩⟩
/-- isinstance(t, tuple) of a tuple, be it one of the program's own top -/
def rIsT (K : PySem.W.Frag) : List V → Hp → VK → Prop := fun vs H Q => ∃ a xs, vs = [.ref a, .ty "tuple"] ∧ SqT K H a xs ∧ Q (.bl true) H
theorem call_isinstT {X : Cx} : CallR X (.builtin "isinstance") (rIsT X.K) := by
  intro pins s σ H vs us Q I r h
  obtain ⟨a, xs, rfl, sq, q⟩ := h
  obtain ⟨u, v, rfl, ru, rv⟩ := Vals.two r
  cases rv
  cases (show u = Value.ref a from ru)
  obtain ⟨its, _, ⟨o, h1, h2, _⟩, _⟩ := I.tuple sq
  exact PySem.W.kia_one PySem.W.kitx_tuple I.kIn ⟨o, h1, h2⟩ (kitT X.K (.tuple [])) (fun z => nomatch z) fun tk => ⟨.bl true, H, I.kept (h' := s.heap) (t' := tk) (fun _ _ e => e), rfl, q⟩
section
variable {P : Program} {w : World} {K : PySem.W.Frag} {mg : Str → Option Value} {base : Heap}
abbrev sIsFault : Stmt := top 54
theorem scIsFault : FnScope ["thing"] ["thing"] (defScope sIsFault) := ⟨rfl, rfl, rfl, by decide +kernel, rfl, by decide +kernel, by decide +kernel⟩
def spIsFault : Sp := fun vs H Q _ => ∃ a f, vs = [.ref a] ∧ H a = some (.tup (fltV f)) ∧ f.ok ∧ ∀ H', Same H H' → Q (.bl true) H'
structure Tw (mg : Str → Option Value) : Prop where
  tup : mg "tuple" = none
  lb : ∃ t, mg "LAST_BIT" = some (.int 46 t)
  ls : ∃ t, mg "LAST_STEP" = some (.int 9999 t)
  mf : ∃ t, mg "MOST_FAULTS" = some (.int 40 t)
set_option maxHeartbeats 4000000 in
theorem okIsFault {f fI fW : Addr} {fd fdI fdW : FuncData} (D : Df K mg "is_fault" sIsFault ["thing"] f fd) (DI : Df K mg "is_within" sWithin ["thing", "low", "high"] fI fdI) (DW : Df K mg "is_whole" sWhole ["thing"] fW fdW) (T : Tx K mg) (W : Tw mg) : FnOk P w K mg base CX0 3 f fd ["thing"] spIsFault := by
  refine D.F.ok scIsFault (fun vs H Q E h => ?_) (fun cdv A outer s H vs Q E hr h => ?_)
  · obtain ⟨_, _, rfl, _⟩ := h; rfl
  · obtain ⟨a, f, rfl, ha, hf, k⟩ := h
    obtain ⟨tb, hb⟩ := W.lb
    refine ⟨_, pss_cons (ps_if (pt_not (pt_val (pe_callB call_isinst (by rfl) T.isi (by decide +kernel) (pa_cons (pv 0) (pa_cons (pe_bltn (v := .ty "tuple") (by rfl) W.tup (by decide +kernel) rfl) pa_nil))))) (pss_one (ps_ret pe_bl)) pss_nil)
      (pss_cons (ps_if (pt_cmpR op_eq (pe_callB call_len_seq (by rfl) T.len PySem.boot_len (pa_cons (pv 0) pa_nil)) pe_int (nomark _))
        (pss_one (ps_ret (pe_and (pe_cmpR op_eq (pe_ix ix_tup (pv 0) pe_int (fun _ _ => rfl)) pe_str (nomark _)) (pe_one (pc DI (okWithinD DI DW T) hr (pa_cons (pe_ix ix_tup (pv 0) pe_int (fun _ _ => rfl)) (pa_cons pe_int (pa_cons (pe_glob (v := .int 46) (by rfl) hb ⟨tb, rfl⟩) pa_nil))))))))
        pss_nil)
      (pss_one (ps_ret (pe_cmpR (op_inD hr.units) (pv 0) (pe_tup (pa_cons (pe_tup (pa_cons pe_str pa_nil)) (pa_cons (pe_tup (pa_cons pe_str pa_nil)) pa_nil))) (by rfl))))), ?_⟩
    refine ⟨_, rfl, _, _, _, true, rfl, .tup ha, kitT K (.tuple []), _, rfl, iteF ?_⟩
    cases f with
    | bit n =>
      have hn : n ≤ 46 := hf
      refine ⟨_, rfl, a, _, rfl, .inr (SqT.of ha), rfl, true, rfl, iteT ?_⟩
      refine ⟨_, rfl, a, _, _, _, rfl, rfl, SqT.of ha, atI_nat (j := 0) rfl, rfl, true, rfl, iteT ?_⟩
      have hw : wi (.int (n : Nat)) 0 46 = true := by
        show (decide ((0 : Int) ≤ (n : Nat)) && decide (((n : Nat) : Int) ≤ 46)) = true
        rw [decide_eq_true (by omega), decide_eq_true (by omega)]; rfl
      have kk := k H (Same.refl H)
      rw [← hw] at kk
      exact ⟨_, rfl, a, _, _, _, rfl, rfl, SqT.of ha, atI_nat (j := 1) rfl, _, .int (n : Nat), 0, 46, rfl, .int _, kk⟩
    | cut =>
      refine ⟨_, rfl, a, _, rfl, .inr (SqT.of ha), rfl, false, rfl, iteF ?_⟩
      refine ⟨_, rfl, (by show 1 ≤ sizeLine; decide), fun t1 h1 => ⟨(by show 1 ≤ sizeLine; decide), fun t2 h2 => ⟨(by show 2 ≤ sizeLine; decide), fun t3 h3 => ?_⟩⟩⟩
      have S1 := same_new (o := .tup [.str "cut"]) h1
      have S2 := same_new (o := .tup [.str "bad"]) h2
      have S3 := same_new (o := .tup [.ref t1, .ref t2]) h3
      exact ⟨.tuple [.str "cut"], [.tuple [.str "cut"], .tuple [.str "bad"]], _, flt_dp (f := .cut) (SqT.of ((S1.trans (S2.trans S3)) _ _ ha)), .tup (SqT.of upd_same) (.cons (.tup (SqT.of ((S2.trans S3) _ _ upd_same)) (.cons (.str _) .nil)) (.cons (.tup (SqT.of (S3 _ _ upd_same)) (.cons (.str _) .nil)) .nil)), .inl rfl, by decide +kernel, ⟨by decide +kernel, by decide⟩,
        Eq.mpr (congrArg (fun v => Q (V.bl v) _) (by decide +kernel)) (k _ (S1.trans (S2.trans S3)))⟩
    | bad =>
      refine ⟨_, rfl, a, _, rfl, .inr (SqT.of ha), rfl, false, rfl, iteF ?_⟩
      refine ⟨_, rfl, (by show 1 ≤ sizeLine; decide), fun t1 h1 => ⟨(by show 1 ≤ sizeLine; decide), fun t2 h2 => ⟨(by show 2 ≤ sizeLine; decide), fun t3 h3 => ?_⟩⟩⟩
      have S1 := same_new (o := .tup [.str "cut"]) h1
      have S2 := same_new (o := .tup [.str "bad"]) h2
      have S3 := same_new (o := .tup [.ref t1, .ref t2]) h3
      exact ⟨.tuple [.str "bad"], [.tuple [.str "cut"], .tuple [.str "bad"]], _, flt_dp (f := .bad) (SqT.of ((S1.trans (S2.trans S3)) _ _ ha)), .tup (SqT.of upd_same) (.cons (.tup (SqT.of ((S2.trans S3) _ _ upd_same)) (.cons (.str _) .nil)) (.cons (.tup (SqT.of (S3 _ _ upd_same)) (.cons (.str _) .nil)) .nil)), .inl rfl, by decide +kernel, ⟨by decide +kernel, by decide⟩,
        Eq.mpr (congrArg (fun v => Q (V.bl v) _) (by decide +kernel)) (k _ (S1.trans (S2.trans S3)))⟩
def leastAt (ws : List (Nat × Flt)) : Nat → Nat
  | 0 => 0
  | i + 1 => (ws.map (·.1)).getD i 0 + 1
theorem leastAt_le {ws : List (Nat × Flt)} (h : WOk ws) {i : Nat} {q : Nat × Flt} (e : ws[i]? = some q) : leastAt ws i ≤ q.1 := by
  cases i with
  | zero => exact Nat.zero_le _
  | succ i =>
    have hlt := (List.getElem?_eq_some_iff.mp e).1
    have p := (List.pairwise_iff_getElem.mp h.up) i (i + 1) (by omega) hlt (by omega)
    have e2 : ws[i + 1] = q := (List.getElem?_eq_some_iff.mp e).2
    rw [e2] at p
    show (ws.map (·.1)).getD i 0 + 1 ≤ q.1
    have e3 : (ws.map (·.1)).getD i 0 = (ws[i]'(by omega)).1 := by
      rw [List.getD_eq_getElem?_getD, List.getElem?_map, List.getElem?_eq_getElem (by omega)]; rfl
    rw [e3]; exact p
abbrev sIsWeather : Stmt := top 55
abbrev nIsWeather : List Str := ["thing", "least", "row", "step", "fault"]
theorem scIsWeather : FnScope nIsWeather ["thing"] (defScope sIsWeather) := ⟨rfl, rfl, rfl, by decide +kernel, rfl, by decide +kernel, by decide +kernel⟩
def spIsWeather (K : PySem.W.Frag) : Sp := fun vs H Q _ => ∃ (a : Addr) (ws : List (Nat × Flt)) (rs fs : List Addr), vs = [.ref a] ∧ WAt K H a ws rs fs ∧ WOk ws ∧ ∀ H', Same H H' → Q (.bl true) H'
set_option maxHeartbeats 4000000 in
theorem okIsWeather {f fF fI fW : Addr} {fd fdF fdI fdW : FuncData} (D : Df K mg "is_weather" sIsWeather ["thing"] f fd) (DF : Df K mg "is_fault" sIsFault ["thing"] fF fdF) (DI : Df K mg "is_within" sWithin ["thing", "low", "high"] fI fdI) (DW : Df K mg "is_whole" sWhole ["thing"] fW fdW) (T : Tx K mg) (W : Tw mg) : FnOk P w K mg base CX0 4 f fd ["thing"] (spIsWeather K) := by
  refine D.F.ok scIsWeather (fun vs H Q E h => ?_) (fun cdv A outer s H vs Q E hr h => ?_)
  · obtain ⟨_, _, _, _, rfl, _⟩ := h; rfl
  · obtain ⟨a, ws, rs, fs, rfl, ⟨l1, l2, sq, at'⟩, wok, k⟩ := h
    obtain ⟨tm, hm⟩ := W.mf
    obtain ⟨tl, hl⟩ := W.ls
    have hr2 := hr.mono (show 2 ≤ 3 by decide)
    refine ⟨_, pss_cons (ps_if (PW.pt (pw_or (pt_not (pt_val (pe_callB call_isinstT (by rfl) T.isi (by decide +kernel) (pa_cons (pv 0) (pa_cons (pe_bltn (v := .ty "tuple") (by rfl) W.tup (by decide +kernel) rfl) pa_nil))))) (pw_or1 (pt_cmpR op_gt (pe_callB call_len_seq (by rfl) T.len PySem.boot_len (pa_cons (pv 0) pa_nil)) (pe_glob (v := .int 40) (by rfl) hm ⟨tm, rfl⟩) (nomark _)))))
        (pss_one (ps_ret pe_bl)) pss_nil)
      (pss_cons (ps_set (i := 1) scIsWeather.nd rfl (Or.inl rfl) pe_int)
      (pss_cons (ps_for PassesOwn.never rfl (pi_tup (pv 0)) (pg_name (i := 2) scIsWeather.nd rfl (Or.inl rfl))
        (pss_cons (ps_if (PW.pt (pw_or (pt_not (pt_val (pe_callB call_isinst (by rfl) T.isi (by decide +kernel) (pa_cons (pv 2) (pa_cons (pe_bltn (v := .ty "tuple") (by rfl) W.tup (by decide +kernel) rfl) pa_nil))))) (pw_or1 (pt_cmpR op_ne (pe_callB call_len_seq (by rfl) T.len PySem.boot_len (pa_cons (pv 2) pa_nil)) pe_int (nomark _)))))
          (pss_one (ps_ret pe_bl)) pss_nil)
        (pss_cons (ps_asg (pv 2) (pg_tup (by rfl) (pgs_cons (pg_name (i := 3) scIsWeather.nd rfl (Or.inl rfl)) (pgs_cons (pg_name (i := 4) scIsWeather.nd rfl (Or.inl rfl)) pgs_nil))))
        (pss_cons (ps_if (PW.pt (pw_or (pt_not (pt_val (pc DI (okWithinD DI DW T) hr2 (pa_cons (pv 3) (pa_cons (pv 1) (pa_cons (pe_glob (v := .int 9999) (by rfl) hl ⟨tl, rfl⟩) pa_nil)))))) (pw_or1 (pt_not (pt_val (pc DF (okIsFault DF DI DW T W) hr (pa_cons (pv 4) pa_nil)))))))
          (pss_one (ps_ret pe_bl)) pss_nil)
        (pss_one (ps_set (i := 1) scIsWeather.nd rfl (Or.inl rfl) (pe_op op_add (pv 3) pe_int)))))))
      (pss_one (ps_ret pe_bl)))), ?_⟩
    have l40 := wok.len
    have lr : (rs.map V.ref).length = ws.length := by rw [List.length_map, l1]
    refine ⟨_, rfl, a, _, rfl, sq, _, rfl, iteF ?_⟩
    refine ⟨_, rfl, a, _, rfl, .inr sq, _, _, rfl, rfl, false, congrArg V.bl (decide_eq_false (by rw [lr]; omega)), iteF ?_⟩
    refine ⟨_, rfl, a, rfl, ⟨_, sq⟩, for_tup (K := K) (a := a) (xs := rs.map V.ref) (fun i σ H' => Same H H' ∧ ∃ v2 v3 v4 : Option V, σ = [some (.ref a), some (.int (leastAt ws i : Nat)), v2, v3, v4]) ⟨Same.refl H, _, _, _, rfl⟩ (fun i σ H' _ h => sqt_same h.1 sq) ?_ ?_⟩
    · rintro i x σ H2 hx ⟨sm, v2, v3, v4, rfl⟩
      rw [List.getElem?_map] at hx
      cases hri : rs[i]? with
      | none => rw [hri] at hx; cases hx
      | some r =>
      rw [hri] at hx
      cases hx
      have ilt : i < rs.length := (List.getElem?_eq_some_iff.mp hri).1
      have hfi : fs[i]? = some (fs[i]'(by omega)) := List.getElem?_eq_getElem (by omega)
      have hwi : ws[i]? = some (ws[i]'(by omega)) := List.getElem?_eq_getElem (by omega)
      generalize (fs[i]'(by omega)) = fa at hfi
      generalize (ws[i]'(by omega)) = q at hwi
      obtain ⟨e1, e2⟩ := at' i r fa q hri hfi hwi
      have qm := List.mem_of_getElem? hwi
      have hle := leastAt_le wok hwi
      have hst := wok.st q qm
      have e1' := sm _ _ e1
      refine ⟨_, rfl, _, _, _, true, rfl, .tup e1', kitT K (.tuple []), _, rfl, iteF ?_⟩
      refine ⟨_, rfl, r, _, rfl, .inr (SqT.of e1'), rfl, false, rfl, iteF ?_⟩
      refine ⟨_, rfl, r, _, rfl, SqT.of e1', rfl, _, _, rfl, _, _, rfl, rfl, ?_⟩
      have hw : wi (.int (q.1 : Nat)) (leastAt ws i : Nat) 9999 = true := by
        show (decide (((leastAt ws i : Nat) : Int) ≤ (q.1 : Nat)) && decide (((q.1 : Nat) : Int) ≤ 9999)) = true
        rw [decide_eq_true (by omega), decide_eq_true (by omega)]; rfl
      refine ⟨_, rfl, _, rfl, _, .int (q.1 : Nat), _, 9999, rfl, .int _, true, congrArg V.bl hw, iteF ?_⟩
      refine ⟨_, rfl, fa, q.2, rfl, sm _ _ e2, wok.ok q qm, fun H3 s3 => ⟨true, rfl, iteF ?_⟩⟩
      refine ⟨_, rfl, _, _, rfl, rfl, ?_⟩
      have el : ((q.1 : Nat) : Int) + 1 = ((leastAt ws (i + 1) : Nat) : Int) := by
        show _ = (((ws.map (·.1)).getD i 0 + 1 : Nat) : Int)
        rw [List.getD_eq_getElem?_getD, List.getElem?_map, hwi]
        show _ = ((q.1 + 1 : Nat) : Int)
        omega
      exact ⟨sm.trans s3, some (.ref r), some (.int (q.1 : Nat)), some (.ref fa), congrArg (fun v => [some (V.ref a), some (V.int v), some (V.ref r), some (V.int (q.1 : Nat)), some (V.ref fa)]) el⟩
    · rintro σ H2 ⟨sm, v2, v3, v4, rfl⟩
      exact k H2 sm
end
end My
namespace My
open PySem L2
inductive Cl
  | blank | torn | word (w : Nat) (a b : PyData)
def blankD : PyData := .tuple [.tuple [.str "blank"], .none, .none]
def tornD : PyData := .tuple [.tuple [.str "torn"], .none, .none]
def clD : Cl → PyData
  | .blank => blankD
  | .torn => tornD
  | .word w a b => .tuple [.tuple [.str "word", .int (w : Nat)], a, b]
structure Fl where
  nb : Nat
  pg : Nat
  ws : List (Nat × Flt)
  ce : List (List Cl)
  wc : List Nat
  fl : List Bool
  pw : Bool
  st : Nat
mutual
inductive Tq (K : PySem.W.Frag) (H : Hp) : V → PyData → Prop
  | non : Tq K H .non .none
  | bl (b : Bool) : Tq K H (.bl b) (.bool b)
  | int (i : Int) : Tq K H (.int i) (.int i)
  | str (x : Str) : Tq K H (.str x) (.str x)
  | tup {a : Addr} {xs : List V} {ds : List PyData} : SqT K H a xs → TqAll K H xs ds → Tq K H (.ref a) (.tuple ds)
inductive TqAll (K : PySem.W.Frag) (H : Hp) : List V → List PyData → Prop
  | nil : TqAll K H [] []
  | cons {v : V} {vs : List V} {d : PyData} {ds : List PyData} : Tq K H v d → TqAll K H vs ds → TqAll K H (v :: vs) (d :: ds)
end
/-- tuples stay -/
def TupK (H H' : Hp) : Prop := ∀ a xs, (H a = some (.tup xs) → H' a = some (.tup xs)) ∧ ∀ o, H a = some (.frz o (.tup xs)) → H' a = some (.frz o (.tup xs))
theorem TupK.sq {K : PySem.W.Frag} {H H' : Hp} {a : Addr} {xs : List V} (k : TupK H H') (h : SqT K H a xs) : SqT K H' a xs := by
  rcases h with (h | ⟨o, h⟩) | h
  · exact .inl (.inl ((k _ _).1 h))
  · exact .inl (.inr ⟨o, (k _ _).2 o h⟩)
  · exact .inr h
mutual
theorem Tq.on {K : PySem.W.Frag} {H H' : Hp} (k : TupK H H') : ∀ {x : V} {d : PyData}, Tq K H x d → Tq K H' x d
  | _, _, .non => .non
  | _, _, .bl b => .bl b
  | _, _, .int i => .int i
  | _, _, .str x => .str x
  | _, _, .tup h t => .tup (k.sq h) (TqAll.on k t)
theorem TqAll.on {K : PySem.W.Frag} {H H' : Hp} (k : TupK H H') : ∀ {x : List V} {d : List PyData}, TqAll K H x d → TqAll K H' x d
  | _, _, .nil => .nil
  | _, _, .cons h t => .cons (Tq.on k h) (TqAll.on k t)
end
mutual
theorem Tq.dp {K : PySem.W.Frag} {H : Hp} : ∀ {x : V} {d : PyData}, Tq K H x d → Dp K H x d
  | _, _, .non => .non
  | _, _, .bl b => .bl b
  | _, _, .int i => .int i
  | _, _, .str x => .str x
  | _, _, .tup h t => .tup h (TqAll.dp t)
theorem TqAll.dp {K : PySem.W.Frag} {H : Hp} : ∀ {x : List V} {d : List PyData}, TqAll K H x d → DpAll K H x d
  | _, _, .nil => .nil
  | _, _, .cons h t => .cons (Tq.dp h) (TqAll.dp t)
end
def LI : HO → Prop
  | .lst _ => True
  | .ins _ _ _ => True
  | _ => False
def AllLI (H : Hp) (Z : List Addr) : Prop := ∀ b ∈ Z, ∃ o, H b = some o ∧ LI o
theorem exz_tup {H H' : Hp} {Z : List Addr} (k : ExZ H H' Z) (z : AllLI H Z) : TupK H H' := fun a xs => by
  refine ⟨fun e => k a _ e fun hz => ?_, fun o e => k a _ e fun hz => ?_⟩
  · obtain ⟨o, e', l⟩ := z a hz
    rw [e] at e'; cases e'; exact l
  · obtain ⟨o', e', l⟩ := z a hz
    rw [e] at e'; cases e'; exact l
theorem exz_dk {H H' : Hp} {Z : List Addr} (k : ExZ H H' Z) (z : AllLI H Z) {a : Addr} {kvs : List (Key × V)} (e : H a = some (.dK kvs)) : H' a = some (.dK kvs) := k a _ e fun hz => by
  obtain ⟨o, e', l⟩ := z a hz
  rw [e] at e'; cases e'; exact l
def faK (ws : List (Nat × Flt)) (fs : List Addr) : List (Key × V) := (ws.zip fs).map fun z => (Sum.inl (z.1.1 : Int), V.ref z.2)
def FaAt (H : Hp) (da : Addr) (ws : List (Nat × Flt)) (fs : List Addr) : Prop := fs.length = ws.length ∧ H da = some (.dK (faK ws fs)) ∧ ∀ (i : Nat) (f : Addr) (q : Nat × Flt), fs[i]? = some f → ws[i]? = some q → H f = some (.tup (fltV q.2))
theorem FaAt.on {H H' : Hp} {Z : List Addr} {da : Addr} {ws : List (Nat × Flt)} {fs : List Addr} (h : FaAt H da ws fs) (k : ExZ H H' Z) (z : AllLI H Z) : FaAt H' da ws fs :=
  ⟨h.1, exz_dk k z h.2.1, fun i f q e1 e2 => ((exz_tup k z) _ _).1 (h.2.2 i f q e1 e2)⟩
def ftAt (ws : List (Nat × Flt)) (n : Nat) : Option Flt := (ws.find? fun q => q.1 == n).map (·.2)
theorem faK_get (n : Nat) : ∀ (ws : List (Nat × Flt)) (fs : List Addr), fs.length = ws.length → (ftAt ws n = none ∧ valV (faK ws fs) (Sum.inl (n : Int)) = none) ∨ ∃ (i : Nat) (f : Addr) (q : Nat × Flt), fs[i]? = some f ∧ ws[i]? = some q ∧ ftAt ws n = some q.2 ∧ valV (faK ws fs) (Sum.inl (n : Int)) = some (V.ref f)
  | [], _, _ => .inl ⟨rfl, rfl⟩
  | q :: ws, [], h => by cases h
  | q :: ws, f :: fs, h => by
    have ih := faK_get n ws fs (by simpa using h)
    have ev : valV (faK (q :: ws) (f :: fs)) (Sum.inl (n : Int)) = if (Sum.inl (q.1 : Int) : Key) = Sum.inl (n : Int) then some (V.ref f) else valV (faK ws fs) (Sum.inl (n : Int)) := by
      show ((((Sum.inl (q.1 : Int) : Key), V.ref f) :: faK ws fs).find? fun kv => decide (kv.1 = (Sum.inl (n : Int) : Key))).map (·.2) = _
      by_cases z : (Sum.inl (q.1 : Int) : Key) = Sum.inl (n : Int)
      · rw [List.find?_cons_of_pos (by exact decide_eq_true z), if_pos z]; rfl
      · rw [List.find?_cons_of_neg (by rw [decide_eq_false z]; exact Bool.false_ne_true), if_neg z]; rfl
    by_cases e : q.1 = n
    · refine .inr ⟨0, f, q, rfl, rfl, ?_, ?_⟩
      · unfold ftAt; rw [List.find?_cons_of_pos (by simpa using e)]; rfl
      · rw [ev, if_pos (by rw [e])]
    · have e1 : ftAt (q :: ws) n = ftAt ws n := by unfold ftAt; rw [List.find?_cons_of_neg (by simpa using e)]
      have e2 : valV (faK (q :: ws) (f :: fs)) (Sum.inl (n : Int)) = valV (faK ws fs) (Sum.inl (n : Int)) := by
        rw [ev, if_neg (fun z => e (by have := Sum.inl.inj z; omega))]
      rw [e1, e2]
      rcases ih with z | ⟨i, f', q', z1, z2, z3, z4⟩
      · exact .inl z
      · exact .inr ⟨i + 1, f', q', z1, z2, z3, z4⟩
def flF (nb pg st : Nat) (da ca wa fa : Addr) (pw : Bool) : List (Str × V) := [("block_count", .int (nb : Nat)), ("page_count", .int (pg : Nat)), ("faults", .ref da), ("cells", .ref ca), ("wipe_counts", .ref wa), ("failed", .ref fa), ("power", .bl pw), ("step_count", .int (st : Nat))]
structure FlH where
  da : Addr
  ca : Addr
  wa : Addr
  fa : Addr
  rs : List Addr
def FlH.zs (h : FlH) (p : Addr) : List Addr := p :: h.ca :: h.wa :: h.fa :: h.rs
structure FlAt (K : PySem.W.Frag) (C : Addr) (H : Hp) (p : Addr) (h : FlH) (F : Fl) : Prop where
  ob : ∃ dx, H p = some (.ins C dx (flF F.nb F.pg F.st h.da h.ca h.wa h.fa F.pw))
  dd : ∃ fs, FaAt H h.da F.ws fs
  cc : H h.ca = some (.lst (h.rs.map V.ref))
  lr : h.rs.length = F.ce.length
  rr : ∀ (i : Nat) (r : Addr) (cs : List Cl), h.rs[i]? = some r → F.ce[i]? = some cs → ∃ xs, H r = some (.lst xs) ∧ TqAll K H xs (cs.map clD)
  ww : H h.wa = some (.lst (F.wc.map fun n => V.int (n : Nat)))
  ff : H h.fa = some (.lst (F.fl.map V.bl))
  nd : (h.ca :: h.wa :: h.fa :: h.rs).Nodup
  lc : F.ce.length = F.nb
  lw : F.wc.length = F.nb
  lf : F.fl.length = F.nb
  nb : 1 ≤ F.nb ∧ F.nb ≤ 8
  pg : 1 ≤ F.pg ∧ F.pg ≤ 8
theorem FlAt.on {K : PySem.W.Frag} {C : Addr} {H H' : Hp} {p : Addr} {h : FlH} {F : Fl} {Z : List Addr} (A : FlAt K C H p h F) (k : ExZ H H' Z) (z : AllLI H Z) (dz : ∀ b ∈ h.zs p, b ∉ Z) : FlAt K C H' p h F := by
  have m : ∀ b, b ∈ h.zs p → ∀ o, H b = some o → H' b = some o := fun b hb o e => k b o e (dz b hb)
  have T := exz_tup k z
  refine ⟨?_, ?_, m _ (by simp [FlH.zs]) _ A.cc, A.lr, fun i r cs e1 e2 => ?_, m _ (by simp [FlH.zs]) _ A.ww, m _ (by simp [FlH.zs]) _ A.ff, A.nd, A.lc, A.lw, A.lf, A.nb, A.pg⟩
  · obtain ⟨dx, e⟩ := A.ob; exact ⟨dx, m _ (by simp [FlH.zs]) _ e⟩
  · obtain ⟨fs, e⟩ := A.dd; exact ⟨fs, e.on k z⟩
  · obtain ⟨xs, e3, t⟩ := A.rr i r cs e1 e2
    have hr : r ∈ h.zs p := by
      have := List.mem_of_getElem? e1
      simp [FlH.zs, this]
    exact ⟨xs, m r hr _ e3, t.on T⟩
theorem FlAt.same {K : PySem.W.Frag} {C : Addr} {H H' : Hp} {p : Addr} {h : FlH} {F : Fl} (A : FlAt K C H p h F) (s : Same H H') : FlAt K C H' p h F := A.on (Z := []) (fun b o e _ => s b o e) (fun _ z => nomatch z) (fun _ _ z => nomatch z)
end My
namespace My
open PySem L2
section
variable {nb pg st : Nat} {da ca wa fa : Addr} {pw : Bool}
theorem fl_nb : (flF nb pg st da ca wa fa pw).lookup ("block_count" : Str) = some (.int (nb : Nat)) := by kernel_rfl
theorem fl_pg : (flF nb pg st da ca wa fa pw).lookup ("page_count" : Str) = some (.int (pg : Nat)) := by kernel_rfl
theorem fl_ca : (flF nb pg st da ca wa fa pw).lookup ("cells" : Str) = some (.ref ca) := by kernel_rfl
theorem fl_wa : (flF nb pg st da ca wa fa pw).lookup ("wipe_counts" : Str) = some (.ref wa) := by kernel_rfl
theorem fl_fa : (flF nb pg st da ca wa fa pw).lookup ("failed" : Str) = some (.ref fa) := by kernel_rfl
end
structure Tf (K : PySem.W.Frag) (mg : Str → Option Value) (C BK TK : Addr) : Prop where
  cl : Cls K C
  nB : NoAttr K C "block_count"
  nP : NoAttr K C "page_count"
  nD : NoAttr K C "faults"
  nC : NoAttr K C "cells"
  nW : NoAttr K C "wipe_counts"
  nF : NoAttr K C "failed"
  nO : NoAttr K C "power"
  nS : NoAttr K C "step_count"
  mgC : mg "Flash" = some (.ref C)
  mgB : mg "BLANK" = some (.ref BK)
  mgT : mg "TORN" = some (.ref TK)
  bk : ∀ H, Tq K H (.ref BK) blankD
  tk : ∀ H, Tq K H (.ref TK) tornD
/-- a method of the class -/
structure Mf (K : PySem.W.Frag) (C : Addr) (m qual : Str) (st : Stmt) (ps : List Str) (f : Addr) (fd : FuncData) : Prop where
  F : Fun K m qual st f fd
  b : Binds K fd ps []
  m : Meth K C m f
section
variable {K : PySem.W.Frag} {C : Addr} {H : Hp} {p : Addr} {h : FlH} {F : Fl}
theorem FlAt.nds (A : FlAt K C H p h F) : h.ca ≠ h.wa ∧ h.ca ≠ h.fa ∧ h.wa ≠ h.fa ∧ (∀ r ∈ h.rs, r ≠ h.ca ∧ r ≠ h.wa ∧ r ≠ h.fa) ∧ h.rs.Nodup := by
  have n := A.nd
  rw [List.nodup_cons, List.nodup_cons, List.nodup_cons] at n
  obtain ⟨n1, n2, n3, n4⟩ := n
  simp only [List.mem_cons, not_or] at n1 n2
  exact ⟨n1.1, n1.2.1, n2.1, fun r hr => ⟨fun z => n1.2.2 (by rw [← z]; exact hr), fun z => n2.2 (by rw [← z]; exact hr), fun z => n3 (by rw [← z]; exact hr)⟩, n4⟩
end
end My
namespace My
open PySem L2
/-- an exception class of the text -/
structure EC (K : PySem.W.Frag) (mg : Str → Option Value) (x : Str) (C : Addr) : Prop where
  m : mg x = some (.ref C)
  e : PySem.W.excIn K C bmVE "ValueError.__new__" = true
abbrev sMeth (i : Nat) : Stmt := inClass (top 57) i
section
variable {P : Program} {w : World} {K : PySem.W.Frag} {mg : Str → Option Value} {base : Heap} {C BK TK : Addr}
theorem scPow : FnScope ["self"] ["self"] (defScope (sMeth 3)) := ⟨rfl, rfl, rfl, by decide +kernel, rfl, by decide +kernel, by decide +kernel⟩
theorem scBlk : FnScope ["self", "block"] ["self", "block"] (defScope (sMeth 1)) := ⟨rfl, rfl, rfl, by decide +kernel, rfl, by decide +kernel, by decide +kernel⟩
def spBlk (K : PySem.W.Frag) (C cB : Addr) : Sp := fun vs H Q E => ∃ p h F x d, vs = [.ref p, x] ∧ FlAt K C H p h F ∧ Dh H x d ∧ (wi d 0 ((F.nb : Int) - 1) = true → Q .non H) ∧ (wi d 0 ((F.nb : Int) - 1) = false → E (.ref cB) none H)
theorem okBlk {f cB fI fW : Addr} {fd fdI fdW : FuncData} (D : Fun K "look_at_block" "Flash.look_at_block" (sMeth 1) f fd) (T : Tf K mg C BK TK) (CB : EC K mg "NoBlock" cB) (DI : Df K mg "is_within" sWithin ["thing", "low", "high"] fI fdI) (DW : Df K mg "is_whole" sWhole ["thing"] fW fdW) (Tx' : Tx K mg) : FnOk P w K mg base (CXF P w) 3 f fd ["self", "block"] (spBlk K C cB) := by
  refine D.okE scBlk (fun vs H Q E h => ?_) (fun cdv A outer s H vs Q E hr h => ?_)
  · obtain ⟨_, _, _, _, _, rfl, _⟩ := h; rfl
  · obtain ⟨p, h, F, x, d, rfl, fa, dh, k1, k2⟩ := h
    obtain ⟨dx, ob⟩ := fa.ob
    refine ⟨_, pss_one (ps_if (pt_not (pt_val (pc DI (okWithinD DI DW Tx') hr (pa_cons (pv 1) (pa_cons pe_int (pa_cons (pe_op op_sub (pe_fld (pv 0) rfl) pe_int) pa_nil)))))) (pss_one (ps_raise rfl raises_cx CB.m CB.e (pa_cons pe_str pa_nil))) pss_nil), ?_⟩
    cases hw : wi d 0 ((F.nb : Int) - 1) with
    | true => exact ⟨_, rfl, _, rfl, p, C, dx, _, _, rfl, ob, T.cl, T.nB, fl_nb, _, _, rfl, rfl, x, d, 0, (F.nb : Int) - 1, rfl, dh, true, congrArg V.bl hw, iteF (k1 hw)⟩
    | false => exact ⟨_, rfl, _, rfl, p, C, dx, _, _, rfl, ob, T.cl, T.nB, fl_nb, _, _, rfl, rfl, x, d, 0, (F.nb : Int) - 1, rfl, dh, false, congrArg V.bl hw, iteT ⟨(by show 1 ≤ sizeLine; decide), k2 hw⟩⟩
theorem wi_lt {i n : Nat} (h : i < n) : wi (.int (i : Nat)) 0 ((n : Int) - 1) = true := by
  show (decide ((0 : Int) ≤ (i : Nat)) && decide (((i : Nat) : Int) ≤ (n : Int) - 1)) = true
  rw [decide_eq_true (by omega), decide_eq_true (by omega)]; rfl
theorem scWps : FnScope ["self", "block"] ["self", "block"] (defScope (sMeth 13)) := ⟨rfl, rfl, rfl, by decide +kernel, rfl, by decide +kernel, by decide +kernel⟩
def spWps (K : PySem.W.Frag) (C : Addr) : Sp := fun vs H Q _ => ∃ p h F i n, vs = [.ref p, .int (i : Nat)] ∧ FlAt K C H p h F ∧ F.wc[i]? = some n ∧ Q (.int (n : Nat)) H
theorem okWps {f fB cB : Addr} {fd fdB : FuncData} (D : Fun K "wipes" "Flash.wipes" (sMeth 13) f fd) (T : Tf K mg C BK TK) (MB : Mf K C "look_at_block" "Flash.look_at_block" (sMeth 1) ["self", "block"] fB fdB) (GB : FnOk P w K mg base (CXF P w) 3 fB fdB ["self", "block"] (spBlk K C cB)) : FnOk P w K mg base (CXF P w) 4 f fd ["self", "block"] (spWps K C) := by
  refine D.okE scWps (fun vs H Q E h => ?_) (fun cdv A outer s H vs Q E hr h => ?_)
  · obtain ⟨_, _, _, _, _, rfl, _⟩ := h; rfl
  · obtain ⟨p, h, F, i, n, rfl, fa, hn, k⟩ := h
    obtain ⟨dx, ob⟩ := fa.ob
    have hi : i < F.nb := by rw [← fa.lw]; exact (List.getElem?_eq_some_iff.mp hn).1
    refine ⟨_, pss_cons (ps_expr (pe_meth (pv 0) T.cl MB.m GB hr MB.b .nil passF (pa_cons (pv 1) pa_nil))) (pss_one (ps_ret (pe_ix ix_list (pe_fld (pv 0) rfl) (pv 1) (fun _ _ => rfl)))), ?_⟩
    refine ⟨_, rfl, p, dx, _, rfl, ob, (by kernel_rfl), _, rfl, p, h, F, _, .int (i : Nat), rfl, fa, .int _, fun _ => ?_, fun z => by rw [wi_lt hi] at z; cases z⟩
    exact ⟨_, rfl, p, C, dx, _, _, rfl, ob, T.cl, T.nW, fl_wa, _, rfl, h.wa, _, _, _, rfl, rfl, SqL.of fa.ww, atI_nat (by rw [List.getElem?_map, hn]; rfl), k⟩
theorem scBad : FnScope ["self", "block"] ["self", "block"] (defScope (sMeth 14)) := ⟨rfl, rfl, rfl, by decide +kernel, rfl, by decide +kernel, by decide +kernel⟩
def spBad (K : PySem.W.Frag) (C : Addr) : Sp := fun vs H Q _ => ∃ p h F i b, vs = [.ref p, .int (i : Nat)] ∧ FlAt K C H p h F ∧ F.fl[i]? = some b ∧ Q (.bl b) H
theorem okBad {f fB cB : Addr} {fd fdB : FuncData} (D : Fun K "is_bad" "Flash.is_bad" (sMeth 14) f fd) (T : Tf K mg C BK TK) (MB : Mf K C "look_at_block" "Flash.look_at_block" (sMeth 1) ["self", "block"] fB fdB) (GB : FnOk P w K mg base (CXF P w) 3 fB fdB ["self", "block"] (spBlk K C cB)) : FnOk P w K mg base (CXF P w) 4 f fd ["self", "block"] (spBad K C) := by
  refine D.okE scBad (fun vs H Q E h => ?_) (fun cdv A outer s H vs Q E hr h => ?_)
  · obtain ⟨_, _, _, _, _, rfl, _⟩ := h; rfl
  · obtain ⟨p, h, F, i, n, rfl, fa, hn, k⟩ := h
    obtain ⟨dx, ob⟩ := fa.ob
    have hi : i < F.nb := by rw [← fa.lf]; exact (List.getElem?_eq_some_iff.mp hn).1
    refine ⟨_, pss_cons (ps_expr (pe_meth (pv 0) T.cl MB.m GB hr MB.b .nil passF (pa_cons (pv 1) pa_nil))) (pss_one (ps_ret (pe_ix ix_list (pe_fld (pv 0) rfl) (pv 1) (fun _ _ => rfl)))), ?_⟩
    refine ⟨_, rfl, p, dx, _, rfl, ob, (by kernel_rfl), _, rfl, p, h, F, _, .int (i : Nat), rfl, fa, .int _, fun _ => ?_, fun z => by rw [wi_lt hi] at z; cases z⟩
    exact ⟨_, rfl, p, C, dx, _, _, rfl, ob, T.cl, T.nF, fl_fa, _, rfl, h.fa, _, _, _, rfl, rfl, SqL.of fa.ff, atI_nat (by rw [List.getElem?_map, hn]; rfl), k⟩
theorem scBls : FnScope ["self"] ["self"] (defScope (sMeth 17)) := ⟨rfl, rfl, rfl, by decide +kernel, rfl, by decide +kernel, by decide +kernel⟩
def spBls (K : PySem.W.Frag) (C : Addr) : Sp := fun vs H Q _ => ∃ p h F, vs = [.ref p] ∧ FlAt K C H p h F ∧ Q (.int (F.nb : Nat)) H
theorem okBls {f : Addr} {fd : FuncData} (D : Fun K "blocks" "Flash.blocks" (sMeth 17) f fd) (T : Tf K mg C BK TK) : FnOk P w K mg base CX0 1 f fd ["self"] (spBls K C) := by
  refine D.ok scBls (fun vs H Q E h => ?_) (fun cdv A outer s H vs Q E hr h => ?_)
  · obtain ⟨_, _, _, rfl, _⟩ := h; rfl
  · obtain ⟨p, h, F, rfl, fa, k⟩ := h
    obtain ⟨dx, ob⟩ := fa.ob
    exact ⟨_, pss_one (ps_ret (pe_fld (pv 0) rfl)), _, rfl, p, C, dx, _, _, rfl, ob, T.cl, T.nB, fl_nb, k⟩
end
end My
namespace My
open PySem L2
theorem tq_rep {K : PySem.W.Frag} {H : Hp} {a : Addr} {c : Cl} (h : Tq K H (.ref a) (clD c)) : ∀ n : Nat, TqAll K H (List.replicate n (V.ref a)) ((List.replicate n c).map clD)
  | 0 => .nil
  | n + 1 => by rw [List.replicate_succ, List.replicate_succ, List.map_cons]; exact .cons h (tq_rep h n)
theorem flat_rep (n : Nat) (x : V) : (List.replicate ((n : Nat) : Int).toNat [x]).flatten = List.replicate n x := by
  rw [Int.toNat_natCast]
  induction n with
  | zero => rfl
  | succ n ih => rw [List.replicate_succ, List.flatten_cons, ih, List.replicate_succ]; rfl
theorem ixN_nat {n i : Nat} (h : i < n) : ixN n ((i : Nat) : Int) = some i := by
  unfold ixN
  rw [if_pos (by omega), if_pos (by omega), Int.toNat_natCast]
end My
namespace My
open PySem L2
theorem okDE {P : Program} {w : World} {K : PySem.W.Frag} {mg : Str → Option Value} {base : Heap} {x qual : Str} {st : Stmt} {f : Addr} {fd : FuncData} {ds : List Value} {N ps : List Str} {k : Nat} {sp : Sp} (F : FunD K x qual st f fd ds) (S : FnScope N ps (defScope st)) (len : ∀ vs H Q E, sp vs H Q E → vs.length = ps.length)
    (hbody : ∀ (cdv : Value) (A : Around) (outer : List Env) (s : Shared) (H : Hp) (vs : List V) (Q : VK) (E : XK), Room k (A.deeper (PyProof.Rows.envOfC qual (defScope st) s.heap.objs.size f cdv)) → sp vs H Q E →
      ∃ t, PSs (cxOf (CXF P w) P w K mg base N qual (defScope st) f cdv A outer s H E) (defBody st) t ∧ t { nx := fun _ H' => Q .non H', rt := Q } (start N vs) H) : FnOk P w K mg base (CXF P w) (k + 1) f fd ps sp := by
  obtain ⟨oc, od, Td, kV, doc, pm, an, cdv, ct, osl, oT, n, rfl, lk, hcd, _⟩ := F.ex
  exact fn_of lk hcd S len fun A outer s H vs Q E hr hsp => hbody cdv A outer s H vs Q E hr hsp
def Fl.new (nb pg : Nat) (ws : List (Nat × Flt)) : Fl := ⟨nb, pg, ws, List.replicate nb (List.replicate pg .blank), List.replicate nb 0, List.replicate nb false, true, 0⟩
theorem fl_made (nb pg : Nat) (da ca wa fa : Addr) : putF "step_count" (.int 0) (putF "power" (.bl true) (putF "failed" (.ref fa) (putF "wipe_counts" (.ref wa) (putF "cells" (.ref ca) (putF "faults" (.ref da) (putF "page_count" (.int (pg : Nat)) (putF "block_count" (.int (nb : Nat)) []))))))) = flF nb pg 0 da ca wa fa true := by kernel_rfl
theorem ftAt_none {n : Nat} : ∀ {l : List (Nat × Flt)}, (∀ q ∈ l, q.1 ≠ n) → ftAt l n = none
  | [], _ => rfl
  | q :: l, h => by
    unfold ftAt
    rw [List.find?_cons_of_neg (by have := h q (List.mem_cons_self ..); simpa using this)]
    exact ftAt_none fun q' hq => h q' (List.mem_cons_of_mem _ hq)
theorem faK_put {ws : List (Nat × Flt)} {fs : List Addr} (wok : WOk ws) (hl : fs.length = ws.length) {i : Nat} {q : Nat × Flt} {f : Addr} (e1 : ws[i]? = some q) (e2 : fs[i]? = some f) : putK (faK (ws.take i) (fs.take i)) (Sum.inl (q.1 : Int)) (V.ref f) = faK (ws.take (i + 1)) (fs.take (i + 1)) := by
  have hi := (List.getElem?_eq_some_iff.mp e1).1
  have no : ftAt (ws.take i) q.1 = none := ftAt_none fun q' hq' => by
    obtain ⟨j, hj, ej⟩ := List.getElem_of_mem hq'
    rw [List.length_take] at hj
    rw [List.getElem_take] at ej
    have p := (List.pairwise_iff_getElem.mp wok.up) j i (by omega) hi (by omega)
    have eq : ws[i] = q := (List.getElem?_eq_some_iff.mp e1).2
    rw [ej, eq] at p
    omega
  have vn : valV (faK (ws.take i) (fs.take i)) (Sum.inl (q.1 : Int)) = none := by
    rcases faK_get q.1 (ws.take i) (fs.take i) (by rw [List.length_take, List.length_take, hl]) with ⟨_, z⟩ | ⟨_, _, _, _, _, z, _⟩
    · exact z
    · rw [no] at z; cases z
  rw [putK_new _ vn]
  unfold faK
  rw [List.take_succ, List.take_succ, e1, e2]
  show _ = (((ws.take i ++ [q]).zip (fs.take i ++ [f])).map fun z => ((Sum.inl (z.1.1 : Int) : Key), V.ref z.2))
  rw [List.zip_append (by rw [List.length_take, List.length_take, hl]), List.map_append]
  rfl
theorem wipe2 (a b c d e f g v w : Option V) : wipe (((wipe ([a, b, c, d, e, f, g] : St) [4, 5]).set 4 v).set 5 w) [4, 5] = wipe ([a, b, c, d, e, f, g] : St) [4, 5] := rfl
theorem wipe6 (a b c d e f g v : Option V) : wipe ((wipe ([a, b, c, d, e, f, g] : St) [6]).set 6 v) [6] = wipe ([a, b, c, d, e, f, g] : St) [6] := rfl
section
variable {P : Program} {w : World} {K : PySem.W.Frag} {mg : Str → Option Value} {base : Heap} {C BK TK : Addr}
abbrev nIni : List Str := ["self", "blocks", "pages", "weather", "step", "fault", "block"]
theorem scIni : FnScope nIni ["self", "blocks", "pages", "weather"] (defScope (sMeth 0)) := ⟨rfl, rfl, rfl, by decide +kernel, rfl, by decide +kernel, by decide +kernel⟩
def spIni (K : PySem.W.Frag) (C : Addr) : Sp := fun vs H Q _ => ∃ (p dx : Addr) (nb pg : Nat) (a : Addr) (ws : List (Nat × Flt)) (rs fs : List Addr), vs = [.ref p, .int (nb : Nat), .int (pg : Nat), .ref a] ∧ H p = some (.ins C dx []) ∧ (1 ≤ nb ∧ nb ≤ 8) ∧ (1 ≤ pg ∧ pg ≤ 8) ∧ WAt K H a ws rs fs ∧ WOk ws ∧
  ∀ H' h, FlAt K C H' p h (Fl.new nb pg ws) → (∀ b ∈ h.zs p, b = p ∨ H b = none) → ExZ H H' [p] → Q .non H'
set_option maxHeartbeats 8000000 in
theorem okIni {f fI fW fE cN cW : Addr} {fd fdI fdW fdE : FuncData} {ds : List Value} (D : FunD K "__init__" "Flash.__init__" (sMeth 0) f fd ds) (T : Tf K mg C BK TK) (CN : EC K mg "NoNumber" cN) (CW : EC K mg "NoWeather" cW) (DI : Df K mg "is_within" sWithin ["thing", "low", "high"] fI fdI) (DW : Df K mg "is_whole" sWhole ["thing"] fW fdW)
    (DE : Df K mg "is_weather" sIsWeather ["thing"] fE fdE) (GE : FnOk P w K mg base CX0 4 fE fdE ["thing"] (spIsWeather K)) (Tx' : Tx K mg) (hm8 : ∃ t, mg "MOST" = some (.int 8 t)) : FnOk P w K mg base (CXF P w) 5 f fd ["self", "blocks", "pages", "weather"] (spIni K C) := by
  refine okDE D scIni (fun vs H Q E h => ?_) (fun cdv A outer s H vs Q E hr h => ?_)
  · obtain ⟨_, _, _, _, _, _, _, _, rfl, _⟩ := h; rfl
  · obtain ⟨p, dx, nb, pg, a, ws, rs, fs, rfl, hp, hnb, hpg, wat, wok, k⟩ := h
    obtain ⟨tm, hm⟩ := hm8
    have hr2 := hr.mono (show 2 ≤ 4 by decide)
    refine ⟨_, pss_cons (ps_if (pt_not (pt_val (pc DI (okWithinD DI DW Tx') hr2 (pa_cons (pv 1) (pa_cons pe_int (pa_cons (pe_glob (v := .int 8) (by rfl) hm ⟨tm, rfl⟩) pa_nil)))))) (pss_one (ps_raise rfl raises_cx CN.m CN.e (pa_cons pe_str pa_nil))) pss_nil)
      (pss_cons (ps_if (pt_not (pt_val (pc DI (okWithinD DI DW Tx') hr2 (pa_cons (pv 2) (pa_cons pe_int (pa_cons (pe_glob (v := .int 8) (by rfl) hm ⟨tm, rfl⟩) pa_nil)))))) (pss_one (ps_raise rfl raises_cx CN.m CN.e (pa_cons pe_str pa_nil))) pss_nil)
      (pss_cons (ps_if (pt_not (pt_val (pc DE GE hr (pa_cons (pv 3) pa_nil)))) (pss_one (ps_raise rfl raises_cx CW.m CW.e (pa_cons pe_str pa_nil))) pss_nil)
      (pss_cons (ps_fld (pv 0) (pv 1) rfl)
      (pss_cons (ps_fld (pv 0) (pv 2) rfl)
      (pss_cons (ps_fld (pv 0) (pe_dc (own := [("step", 4), ("fault", 5)]) (g := gTup K 2 (gCons (gName 4) (gCons (gName 5) gNil))) (by rfl) scIni.nd (pi_tup (pv 3)) (blkOk_by (own := [("step", 4), ("fault", 5)]) (N := nIni) (sc := defScope (sMeth 0)) (by decide +kernel)) (fun _ _ _ _ _ => pg_tup (by rfl) (pgs_cons (pg_name (i := 4) scIni.nd rfl (Or.inl rfl)) (pgs_cons (pg_name (i := 5) scIni.nd rfl (Or.inl rfl)) pgs_nil))) (fun _ _ _ _ _ => pts_nil) (fun _ _ _ _ _ => pv 4) (fun _ _ _ _ _ => pv 5)) rfl)
      (pss_cons (ps_fld (pv 0) (pe_lc (own := [("block", 6)]) (g := gName 6) (by rfl) scIni.nd (pi_range1 (by rfl) Tx'.range (pa_cons (pv 1) pa_nil)) (blkOk_by (own := [("block", 6)]) (N := nIni) (sc := defScope (sMeth 0)) (by decide +kernel)) (fun _ _ _ _ _ => pg_name (i := 6) scIni.nd rfl (Or.inl rfl)) (fun _ _ _ _ _ => pts_nil) (fun _ _ _ _ _ => pe_op op_rep (pe_lst (pa_cons (pe_glob (v := .ref BK) (by rfl) T.mgB rfl) pa_nil)) (pv 2))) rfl)
      (pss_cons (ps_fld (pv 0) (pe_op op_rep (pe_lst (pa_cons pe_int pa_nil)) (pv 1)) rfl)
      (pss_cons (ps_fld (pv 0) (pe_op op_rep (pe_lst (pa_cons pe_bl pa_nil)) (pv 1)) rfl)
      (pss_cons (ps_fld (pv 0) pe_bl rfl)
      (pss_one (ps_fld (pv 0) pe_int rfl))))))))))), ?_⟩
    have w18 : ∀ n : Nat, 1 ≤ n ∧ n ≤ 8 → wi (.int (n : Nat)) 1 8 = true := fun n hn => by
      show (decide ((1 : Int) ≤ (n : Nat)) && decide (((n : Nat) : Int) ≤ 8)) = true
      rw [decide_eq_true (by omega), decide_eq_true (by omega)]; rfl
    refine ⟨_, rfl, _, .int (nb : Nat), 1, 8, rfl, .int _, true, congrArg V.bl (w18 nb hnb), iteF ?_⟩
    refine ⟨_, rfl, _, .int (pg : Nat), 1, 8, rfl, .int _, true, congrArg V.bl (w18 pg hpg), iteF ?_⟩
    refine ⟨_, rfl, a, ws, rs, fs, rfl, wat, wok, fun H1 s1 => ⟨true, rfl, iteF ?_⟩⟩
    have hp1 := s1 _ _ hp
    refine ⟨_, rfl, _, rfl, p, C, dx, _, rfl, hp1, T.cl, T.nB, (by show 0 < 1000; decide), ?_⟩
    refine ⟨_, rfl, _, rfl, p, C, dx, _, rfl, upd_same, T.cl, T.nP, (by show 1 < 1000; decide), ?_⟩
    generalize eB : putF "page_count" (V.int (pg : Nat)) (putF "block_count" (V.int (nb : Nat)) []) = B
    have lenB : B.length = 2 := by rw [← eB]; kernel_rfl
    have ex2 : ExZ H (upd (upd H1 p (.ins C dx (putF "block_count" (V.int (nb : Nat)) []))) p (.ins C dx B)) [p] := fun b o e n => by
      have nb' : b ≠ p := fun z => n (List.mem_singleton.mpr z)
      rw [upd_ne nb', upd_ne nb']; exact s1 b o e
    have hp2 : (upd (upd H1 p (.ins C dx (putF "block_count" (V.int (nb : Nat)) []))) p (.ins C dx B)) p = some (.ins C dx B) := upd_same
    generalize (upd (upd H1 p (.ins C dx (putF "block_count" (V.int (nb : Nat)) []))) p (.ins C dx B)) = H2 at ex2 hp2 ⊢
    have z2 : AllLI H [p] := fun b hb => by rw [List.mem_singleton.mp hb]; exact ⟨_, hp, trivial⟩
    have tk2 := exz_tup ex2 z2
    have sq2 : SqT K H2 a (rs.map V.ref) := tk2.sq wat.2.2.1
    obtain ⟨l1, l2, _, at'⟩ := wat
    -- faults
    refine ⟨_, rfl, a, rfl, ⟨_, sq2⟩, fun da hda => ?_⟩
    refine dc_tup (K := K) (a := a) (xs := rs.map V.ref) (fun i HH => Same H2 (Hm HH da) ∧ HH da = some (.dK (faK (ws.take i) (fs.take i)))) ⟨fun b o e => Hm.get (same_new hda b o e) (ne_of_none e hda), upd_same⟩ (fun i HH _ h => sqt_same (fun b o e => Hm.un b o (h.1 b o e)) sq2) ?_ ?_
    · rintro i x HH hx ⟨sm, hD⟩
      rw [List.getElem?_map] at hx
      cases hri : rs[i]? with
      | none => rw [hri] at hx; cases hx
      | some r =>
      rw [hri] at hx
      cases hx
      have ilt : i < rs.length := (List.getElem?_eq_some_iff.mp hri).1
      have hfi : fs[i]? = some (fs[i]'(by omega)) := List.getElem?_eq_getElem (by omega)
      have hwi : ws[i]? = some (ws[i]'(by omega)) := List.getElem?_eq_getElem (by omega)
      generalize (fs[i]'(by omega)) = fa at hfi
      generalize (ws[i]'(by omega)) = q at hwi
      obtain ⟨e1, e2⟩ := at' i r fa q hri hfi hwi
      have e1' : HH r = some (.tup [.int (q.1 : Nat), .ref fa]) := Hm.un _ _ (sm _ _ ((tk2 _ _).1 e1))
      refine ⟨r, _, rfl, SqT.of e1', rfl, _, _, rfl, _, _, rfl, rfl, wipe2 _ _ _ _ _ _ _ _ _, ?_⟩
      refine ⟨_, rfl, _, rfl, _, Sum.inl (q.1 : Int), hD, rfl, small1000 (by unfold faK; rw [List.length_map, List.length_zip, List.length_take, List.length_take]; have := wok.len; omega), ?_⟩
      refine ⟨fun b o e => ?_, ?_⟩
      · obtain ⟨e3, n3⟩ := Hm.of (sm b o e)
        exact Hm.get (by rw [upd_ne n3]; exact e3) n3
      · rw [upd_same, faK_put wok l2 hwi hfi]
    · rintro HH ⟨sm, hD⟩
      have sm' : Same H2 HH := fun b o e => Hm.un b o (sm b o e)
      have ewl : (rs.map V.ref).length = ws.length := by rw [List.length_map, l1]
      rw [ewl, List.take_of_length_le (Nat.le_refl _), List.take_of_length_le (Nat.le_of_eq l2)] at hD
      have ndp : da ≠ p := fun z => by rw [z, hp2] at hda; cases hda
      refine ⟨_, rfl, p, C, dx, _, rfl, sm' _ _ hp2, T.cl, T.nD, (by rw [lenB]; decide), ?_⟩
      generalize eB3 : putF "faults" (V.ref da) B = B3
      have lenB3 : B3.length = 3 := by rw [← eB3, ← eB]; kernel_rfl
      have ex3 : ExZ H (upd HH p (.ins C dx B3)) [p] := fun b o e n => by
        rw [upd_ne (fun z => n (List.mem_singleton.mpr z))]; exact sm' b o (ex2 b o e n)
      have hp3 : (upd HH p (.ins C dx B3)) p = some (.ins C dx B3) := upd_same
      have hD3 : (upd HH p (.ins C dx B3)) da = some (.dK (faK ws fs)) := by rw [upd_ne ndp]; exact hD
      have nda : H da = none := by
        cases e : H da with
        | none => rfl
        | some o => rw [ex2 da o e (fun z => ndp (List.mem_singleton.mp z))] at hda; cases hda
      generalize (upd HH p (.ins C dx B3)) = H3 at ex3 hp3 hD3 ⊢
      -- cells
      refine ⟨_, rfl, _, rfl, by omega, by omega, fun ca hca => ?_⟩
      have ncp : ca ≠ p := fun z => by rw [z, hp3] at hca; cases hca
      refine lc_range (lo := 0) (n := _) (fun j HH => Same H3 (Hm HH ca) ∧ ∃ rws : List Addr, HH ca = some (.lst (rws.map V.ref)) ∧ rws.length = j ∧ (rws ++ [ca]).Nodup ∧ ∀ r ∈ rws, HH r = some (.lst (List.replicate pg (.ref BK))) ∧ H3 r = none) ⟨fun b o e => Hm.get (same_new hca b o e) (ne_of_none e hca), [], upd_same, rfl, by simp, fun _ h => nomatch h⟩ ?_ ?_
      · rintro j H4 hj ⟨sm4, rws, hc4, lr4, nd4, all4⟩
        refine ⟨wipe6 _ _ _ _ _ _ _ _, (by show 1 ≤ sizeLine; decide), fun l hl => ⟨_, rfl, l, (pg : Nat), _, rfl, rfl, upd_same, by omega, by omega, (by rw [Int.toNat_natCast]; show 1 * pg ≤ sizeLine; have : sizeLine = 2 ^ 24 := rfl; omega), fun r hr' => ?_⟩⟩
        rw [flat_rep]
        have sl := same_new (o := .lst [.ref BK]) hl
        have sr := same_new (o := .lst (List.replicate pg (.ref BK))) hr'
        have rca : r ≠ ca := fun z => by rw [z, sl _ _ hc4] at hr'; cases hr'
        refine ⟨_, sr _ _ (sl _ _ hc4), small1000 (by rw [List.length_map, lr4]; have : j < ((nb : Nat) : Int).toNat := hj; rw [Int.toNat_natCast] at this; omega), ?_⟩
        refine ⟨fun b o e => ?_, rws ++ [r], ?_, by rw [List.length_append, lr4]; rfl, ?_, fun r' hr'' => ?_⟩
        · obtain ⟨e3, n3⟩ := Hm.of (sm4 b o e)
          exact Hm.get (by rw [upd_ne n3]; exact sr _ _ (sl _ _ e3)) n3
        · rw [upd_same, List.map_append]; rfl
        · have h1 : r ∉ rws := fun z => by rw [sl _ _ (all4 r z).1] at hr'; cases hr'
          rw [List.nodup_append] at nd4 ⊢
          refine ⟨?_, by simp, ?_⟩
          · rw [List.nodup_append]
            exact ⟨nd4.1, by simp, fun x hx y hy => by rw [List.mem_singleton.mp hy]; exact fun z => h1 (by rw [← z]; exact hx)⟩
          · intro x hx y hy
            rw [List.mem_singleton.mp hy]
            rcases List.mem_append.mp hx with z | z
            · exact nd4.2.2 x z ca (List.mem_singleton.mpr rfl)
            · rw [List.mem_singleton.mp z]; exact rca
        · rcases List.mem_append.mp hr'' with z | z
          · have nr : r' ≠ ca := by rw [List.nodup_append] at nd4; exact nd4.2.2 r' z ca (List.mem_singleton.mpr rfl)
            exact ⟨by rw [upd_ne nr]; exact sr _ _ (sl _ _ (all4 r' z).1), (all4 r' z).2⟩
          · rw [List.mem_singleton.mp z]
            refine ⟨by rw [upd_ne rca, upd_same], ?_⟩
            cases e : H3 r with
            | none => rfl
            | some o => rw [sl _ _ (Hm.un _ _ (sm4 r o e))] at hr'; cases hr'
      · rintro H4 ⟨sm4, rws, hc4, lr4, nd4, all4⟩
        have lr4 : rws.length = nb := by rw [lr4, Int.toNat_natCast]
        have sm4' : Same H3 H4 := fun b o e => Hm.un b o (sm4 b o e)
        have hp4 := sm4' _ _ hp3
        refine ⟨_, rfl, p, C, dx, _, rfl, hp4, T.cl, T.nC, (by rw [lenB3]; decide), ?_⟩
        generalize eB4 : putF "cells" (V.ref ca) B3 = B4
        have lenB4 : B4.length = 4 := by rw [← eB4, ← eB3, ← eB]; kernel_rfl
        have npr : ∀ r ∈ rws, r ≠ p := fun r hr z => by have := (all4 r hr).2; rw [z, hp3] at this; cases this
        have ex5 : ExZ H (upd H4 p (.ins C dx B4)) [p] := fun b o e n => by
          rw [upd_ne (fun z => n (List.mem_singleton.mpr z))]; exact sm4' b o (ex3 b o e n)
        have hp5 : (upd H4 p (.ins C dx B4)) p = some (.ins C dx B4) := upd_same
        have hD5 : (upd H4 p (.ins C dx B4)) da = some (.dK (faK ws fs)) := by rw [upd_ne ndp]; exact sm4' _ _ hD3
        have hc5 : (upd H4 p (.ins C dx B4)) ca = some (.lst (rws.map V.ref)) := by rw [upd_ne ncp]; exact hc4
        have all5 : ∀ r ∈ rws, (upd H4 p (.ins C dx B4)) r = some (.lst (List.replicate pg (.ref BK))) := fun r hr => by rw [upd_ne (npr r hr)]; exact (all4 r hr).1
        have old3 : ∀ b, H3 b = none → b ≠ p → H b = none := fun b hb nb' => by
          cases e : H b with
          | none => rfl
          | some o => rw [ex3 b o e (fun z => nb' (List.mem_singleton.mp z))] at hb; cases hb
        have nca : H ca = none := old3 ca hca ncp
        have nrw : ∀ r ∈ rws, H r = none := fun r hr => old3 r (all4 r hr).2 (npr r hr)
        generalize (upd H4 p (.ins C dx B4)) = H5 at ex5 hp5 hD5 hc5 all5 ⊢
        have old5 : ∀ b, H5 b = none → H b = none := fun b hb => by
          cases e : H b with
          | none => rfl
          | some o =>
            by_cases z : b = p
            · rw [z, hp5] at hb; cases hb
            · rw [ex5 b o e (fun y => z (List.mem_singleton.mp y))] at hb; cases hb
        -- wipe counts
        refine ⟨(by show 1 ≤ sizeLine; decide), fun l5 hl5 => ⟨_, rfl, l5, (nb : Nat), _, rfl, rfl, upd_same, by omega, by omega, (by rw [Int.toNat_natCast]; show 1 * nb ≤ sizeLine; have : sizeLine = 2 ^ 24 := rfl; omega), fun wa hwa => ?_⟩⟩
        rw [flat_rep]
        have s5 := same_new (o := .lst [.int 0]) hl5
        have s6 := same_new (o := .lst (List.replicate nb (.int 0))) hwa
        have s56 := s5.trans s6
        refine ⟨_, rfl, p, C, dx, _, rfl, s56 _ _ hp5, T.cl, T.nW, (by rw [lenB4]; decide), ?_⟩
        generalize eB5 : putF "wipe_counts" (V.ref wa) B4 = B5
        have lenB5 : B5.length = 5 := by rw [← eB5, ← eB4, ← eB3, ← eB]; kernel_rfl
        have nwp : wa ≠ p := fun z => by rw [z, s5 _ _ hp5] at hwa; cases hwa
        have n5w : H5 wa = none := by
          cases e : H5 wa with
          | none => rfl
          | some o => rw [s5 _ _ e] at hwa; cases hwa
        have keep6 : ∀ b o, H5 b = some o → b ≠ p → (upd (upd (upd H5 l5 (.lst [.int 0])) wa (.lst (List.replicate nb (.int 0)))) p (.ins C dx B5)) b = some o := fun b o e n => by rw [upd_ne n]; exact s56 b o e
        have hw6 : (upd (upd (upd H5 l5 (.lst [.int 0])) wa (.lst (List.replicate nb (.int 0)))) p (.ins C dx B5)) wa = some (.lst (List.replicate nb (.int 0))) := by rw [upd_ne nwp, upd_same]
        have hp6 : (upd (upd (upd H5 l5 (.lst [.int 0])) wa (.lst (List.replicate nb (.int 0)))) p (.ins C dx B5)) p = some (.ins C dx B5) := upd_same
        generalize (upd (upd (upd H5 l5 (.lst [.int 0])) wa (.lst (List.replicate nb (.int 0)))) p (.ins C dx B5)) = H6 at keep6 hw6 hp6 ⊢
        -- failed
        refine ⟨(by show 1 ≤ sizeLine; decide), fun l6 hl6 => ⟨_, rfl, l6, (nb : Nat), _, rfl, rfl, upd_same, by omega, by omega, (by rw [Int.toNat_natCast]; show 1 * nb ≤ sizeLine; have : sizeLine = 2 ^ 24 := rfl; omega), fun fa hfa => ?_⟩⟩
        rw [flat_rep]
        have s7 := same_new (o := .lst [.bl false]) hl6
        have s8 := same_new (o := .lst (List.replicate nb (.bl false))) hfa
        have s78 := s7.trans s8
        refine ⟨_, rfl, p, C, dx, _, rfl, s78 _ _ hp6, T.cl, T.nF, (by rw [lenB5]; decide), ?_⟩
        generalize eB6 : putF "failed" (V.ref fa) B5 = B6
        have lenB6 : B6.length = 6 := by rw [← eB6, ← eB5, ← eB4, ← eB3, ← eB]; kernel_rfl
        have nfp : fa ≠ p := fun z => by rw [z, s7 _ _ hp6] at hfa; cases hfa
        have n6f : H6 fa = none := by
          cases e : H6 fa with
          | none => rfl
          | some o => rw [s7 _ _ e] at hfa; cases hfa
        refine ⟨_, rfl, p, C, dx, _, rfl, upd_same, T.cl, T.nO, (by rw [lenB6]; decide), ?_⟩
        refine ⟨_, rfl, p, C, dx, _, rfl, upd_same, T.cl, T.nS, (by rw [← eB6, ← eB5, ← eB4, ← eB3, ← eB]; show 7 < 1000; decide), ?_⟩
        have eF : putF "step_count" (.int 0) (putF "power" (.bl true) B6) = flF nb pg 0 da ca wa fa true := by rw [← eB6, ← eB5, ← eB4, ← eB3, ← eB]; exact fl_made nb pg da ca wa fa
        rw [eF]
        have keep : ∀ b o, H6 b = some o → b ≠ p → (upd (upd (upd (upd (upd H6 l6 (.lst [.bl false])) fa (.lst (List.replicate nb (.bl false)))) p (.ins C dx B6)) p (.ins C dx (putF "power" (.bl true) B6))) p (.ins C dx (flF nb pg 0 da ca wa fa true))) b = some o := fun b o e n => by rw [upd_ne n, upd_ne n, upd_ne n]; exact s78 b o e
        have hf : (upd (upd (upd (upd (upd H6 l6 (.lst [.bl false])) fa (.lst (List.replicate nb (.bl false)))) p (.ins C dx B6)) p (.ins C dx (putF "power" (.bl true) B6))) p (.ins C dx (flF nb pg 0 da ca wa fa true))) fa = some (.lst (List.replicate nb (.bl false))) := by rw [upd_ne nfp, upd_ne nfp, upd_ne nfp, upd_same]
        have hpf : (upd (upd (upd (upd (upd H6 l6 (.lst [.bl false])) fa (.lst (List.replicate nb (.bl false)))) p (.ins C dx B6)) p (.ins C dx (putF "power" (.bl true) B6))) p (.ins C dx (flF nb pg 0 da ca wa fa true))) p = some (.ins C dx (flF nb pg 0 da ca wa fa true)) := upd_same
        generalize (upd (upd (upd (upd (upd H6 l6 (.lst [.bl false])) fa (.lst (List.replicate nb (.bl false)))) p (.ins C dx B6)) p (.ins C dx (putF "power" (.bl true) B6))) p (.ins C dx (flF nb pg 0 da ca wa fa true))) = HF at keep hf hpf ⊢
        have k5 : ∀ b o, H5 b = some o → b ≠ p → HF b = some o := fun b o e n => keep b o (keep6 b o e n) n
        have exF : ExZ H HF [p] := fun b o e n => k5 b o (ex5 b o e n) (fun z => n (List.mem_singleton.mpr z))
        have tkF := exz_tup exF z2
        have n5f : H5 fa = none := by
          cases e : H5 fa with
          | none => rfl
          | some o => rw [keep6 _ _ e nfp] at n6f; cases n6f
        refine k HF ⟨da, ca, wa, fa, rws⟩ ⟨⟨dx, hpf⟩, ⟨fs, l2, k5 _ _ hD5 ndp, fun i f q e1 e2 => ?_⟩, k5 _ _ hc5 ncp, ?_, fun i r cs e1 e2 => ?_, ?_, ?_, ?_, ?_, ?_, ?_, hnb, hpg⟩ (fun b hb => ?_) exF
        · have e2 : ws[i]? = some q := e2
          have hri : rs[i]? = some (rs[i]'(by have := (List.getElem?_eq_some_iff.mp e2).1; omega)) := List.getElem?_eq_getElem _
          exact (tkF _ _).1 (at' i _ f q hri e1 e2).2
        · show rws.length = (List.replicate nb (List.replicate pg Cl.blank)).length
          rw [List.length_replicate]; exact lr4
        · have hr := List.mem_of_getElem? e1
          have e2 : (List.replicate nb (List.replicate pg Cl.blank))[i]? = some cs := e2
          have ecs : cs = List.replicate pg Cl.blank := by
            have := List.mem_of_getElem? e2
            exact List.eq_of_mem_replicate this
          subst ecs
          exact ⟨_, k5 _ _ (all5 r hr) (npr r hr), tq_rep (c := .blank) (T.bk _) pg⟩
        · show HF wa = some (.lst ((List.replicate nb 0).map fun n => V.int (n : Nat)))
          rw [List.map_replicate]; exact keep _ _ hw6 nwp
        · show HF fa = some (.lst ((List.replicate nb false).map V.bl))
          rw [List.map_replicate]; exact hf
        · show (ca :: wa :: fa :: rws).Nodup
          have cw : ca ≠ wa := ne_of_none hc5 n5w
          have cf : ca ≠ fa := ne_of_none hc5 n5f
          have wf : wa ≠ fa := ne_of_none hw6 n6f
          have rn : ∀ r ∈ rws, r ≠ ca := fun r hr => by rw [List.nodup_append] at nd4; exact nd4.2.2 r hr ca (List.mem_singleton.mpr rfl)
          have rw' : ∀ r ∈ rws, r ≠ wa := fun r hr => ne_of_none (all5 r hr) n5w
          have rf : ∀ r ∈ rws, r ≠ fa := fun r hr => ne_of_none (all5 r hr) n5f
          rw [List.nodup_cons, List.nodup_cons, List.nodup_cons]
          refine ⟨?_, ?_, ?_, ?_⟩
          · simp only [List.mem_cons, not_or]; exact ⟨cw, cf, fun z => rn _ z rfl⟩
          · simp only [List.mem_cons, not_or]; exact ⟨wf, fun z => rw' _ z rfl⟩
          · exact fun z => rf _ z rfl
          · rw [List.nodup_append] at nd4; exact nd4.1
        · show (List.replicate nb (List.replicate pg Cl.blank)).length = nb
          exact List.length_replicate ..
        · show (List.replicate nb 0).length = nb
          exact List.length_replicate ..
        · show (List.replicate nb false).length = nb
          exact List.length_replicate ..
        · have hb : b ∈ p :: ca :: wa :: fa :: rws := hb
          simp only [List.mem_cons] at hb
          rcases hb with z | z | z | z | z
          · exact .inl z
          · exact .inr (by rw [z]; exact nca)
          · exact .inr (by rw [z]; exact old5 _ n5w)
          · exact .inr (by rw [z]; exact old5 _ n5f)
          · exact .inr (nrw b z)
end
end My
namespace My
open PySem L2
open FK (Flds PRes)
def prD : PRes → PyData
  | .good F => .tuple [.str "good", fdt F]
  | .mended F => .tuple [.str "mended", fdt F]
  | .spoilt => .tuple [.str "spoilt", .none]
def clW (x : Nat) : Cl := .word x (prD (finN true x)) (prD (finN false x))
def Cl.isBlank : Cl → Bool
  | .blank => true
  | _ => false
inductive ClOk : Cl → Prop
  | blank : ClOk .blank
  | torn : ClOk .torn
  | word (x : Nat) : x < 2 ^ 47 → ClOk (clW x)
structure Fl.Wd (F : Fl) : Prop where
  ok : ∀ (i : Nat) (cs : List Cl), F.ce[i]? = some cs → cs.length = F.pg ∧ ∀ c ∈ cs, ClOk c
  wo : ∀ n m : Nat, ftAt F.ws n = some (.bit m) → m < 47
theorem kt_lay (k : Nat) : (PyData.str (kt k)).canLay0 = true := by
  have : k = 0 ∨ k = 1 ∨ k = 2 ∨ 3 ≤ k := by omega
  rcases this with rfl | rfl | rfl | h
  · decide +kernel
  · decide +kernel
  · decide +kernel
  · have e : kt k = kt 3 := by
      match k, h with
      | k + 3, _ => rfl
    rw [e]; decide +kernel
theorem fdt_lay (F : Flds) : (fdt F).canLay0 = true := by
  show ((PyData.str (kt F.k)).canLay0 && _) = true
  rw [kt_lay]; rfl
theorem prD_lay (r : PRes) : (prD r).canLay0 = true := by
  cases r with
  | good F => show ((PyData.str "good").canLay0 && ((fdt F).canLay0 && true)) = true; rw [fdt_lay]; decide +kernel
  | mended F => show ((PyData.str "mended").canLay0 && ((fdt F).canLay0 && true)) = true; rw [fdt_lay]; decide +kernel
  | spoilt => decide +kernel
theorem clD_lay {c : Cl} (h : ClOk c) : (clD c).canLay0 = true := by
  cases h with
  | blank => decide +kernel
  | torn => decide +kernel
  | word x _ =>
    show (((PyData.str "word").canLay0 && true) && ((prD (finN true x)).canLay0 && ((prD (finN false x)).canLay0 && true))) = true
    rw [prD_lay, prD_lay]; decide +kernel
theorem cls_lay : ∀ {cs : List Cl}, (∀ c ∈ cs, ClOk c) → PyData.canLayAll0 (cs.map clD) = true
  | [], _ => rfl
  | c :: cs, h => by
    show ((clD c).canLay0 && PyData.canLayAll0 (cs.map clD)) = true
    rw [clD_lay (h c (List.mem_cons_self ..)), cls_lay fun c' hc => h c' (List.mem_cons_of_mem _ hc)]; rfl
theorem bk_lay : Lay blankD := ⟨by decide +kernel, by decide +kernel⟩
theorem cl_eqv (c : Cl) : PyData.eqv (clD c) blankD = c.isBlank := by
  cases c with
  | blank => decide +kernel
  | torn => decide +kernel
  | word x a b => kernel_rfl
theorem TqAll.get {K : PySem.W.Frag} {H : Hp} : ∀ {xs : List V} {ds : List PyData} {j : Nat} {d : PyData}, TqAll K H xs ds → ds[j]? = some d → ∃ v, xs[j]? = some v ∧ Tq K H v d
  | _, _, 0, _, .cons a t, e => by cases e; exact ⟨_, rfl, a⟩
  | _, _, j + 1, d, .cons a t, e => by
    obtain ⟨v, h1, h2⟩ := TqAll.get t (j := j) (d := d) (by simpa using e)
    exact ⟨v, by simpa using h1, h2⟩
theorem TqAll.set {K : PySem.W.Frag} {H : Hp} : ∀ {xs : List V} {ds : List PyData} {v : V} {d : PyData} (j : Nat), TqAll K H xs ds → Tq K H v d → TqAll K H (xs.set j v) (ds.set j d)
  | _, _, _, _, _, .nil, _ => by simp; exact .nil
  | _, _, _, _, 0, .cons a t, h => .cons h t
  | _, _, _, _, j + 1, .cons a t, h => .cons a (TqAll.set j t h)
theorem TqAll.len {K : PySem.W.Frag} {H : Hp} : ∀ {xs : List V} {ds : List PyData}, TqAll K H xs ds → xs.length = ds.length
  | _, _, .nil => rfl
  | _, _, .cons _ t => congrArg (· + 1) (TqAll.len t)
theorem FlAt.row {K : PySem.W.Frag} {C : Addr} {H : Hp} {p : Addr} {h : FlH} {F : Fl} (A : FlAt K C H p h F) {i : Nat} {cs : List Cl} (hc : F.ce[i]? = some cs) : ∃ r xs, h.rs[i]? = some r ∧ H r = some (.lst xs) ∧ TqAll K H xs (cs.map clD) := by
  have hi := (List.getElem?_eq_some_iff.mp hc).1
  have hr : h.rs[i]? = some (h.rs[i]'(by rw [A.lr]; exact hi)) := List.getElem?_eq_getElem _
  obtain ⟨xs, e, t⟩ := A.rr i _ cs hr hc
  exact ⟨_, xs, hr, e, t⟩
def fbN (cs : List Cl) : Nat := cs.findIdx Cl.isBlank
def Fl.put (F : Fl) (i j : Nat) (cs : List Cl) (c : Cl) : Fl := { F with ce := F.ce.set i (cs.set j c), st := F.st + 1 }
section
variable {P : Program} {w : World} {K : PySem.W.Frag} {mg : Str → Option Value} {base : Heap} {C BK TK : Addr}
theorem scFbl : FnScope ["self", "block", "cells"] ["self", "block"] (defScope (sMeth 19)) := ⟨rfl, rfl, rfl, by decide +kernel, rfl, by decide +kernel, by decide +kernel⟩
def spFbl (K : PySem.W.Frag) (C : Addr) : Sp := fun vs H Q _ => ∃ p h F i cs, vs = [.ref p, .int (i : Nat)] ∧ FlAt K C H p h F ∧ F.Wd ∧ F.ce[i]? = some cs ∧ Q (.int (fbN cs : Nat)) H
theorem okFbl {f : Addr} {fd : FuncData} (D : Fun K "first_blank" "Flash.first_blank" (sMeth 19) f fd) (T : Tf K mg C BK TK) : FnOk P w K mg base CX0 1 f fd ["self", "block"] (spFbl K C) := by
  refine D.ok scFbl (fun vs H Q E h => ?_) (fun cdv A outer s H vs Q E hr h => ?_)
  · obtain ⟨_, _, _, _, _, rfl, _⟩ := h; rfl
  · obtain ⟨p, h, F, i, cs, rfl, fa, wd, hc, k⟩ := h
    obtain ⟨dx, ob⟩ := fa.ob
    obtain ⟨r, xs, hr1, hr2, ht⟩ := fa.row hc
    have hu := hr.units
    refine ⟨_, pss_cons (ps_set (i := 2) scFbl.nd rfl (Or.inl rfl) (pe_ix ix_list (pe_fld (pv 0) rfl) (pv 1) (fun _ _ => rfl)))
      (pss_one (ps_ret (pe_ifExp (pt_cmpR (op_inD hu) (pe_glob (v := .ref BK) (by rfl) T.mgB rfl) (pv 2) (by rfl)) (pe_bm PySem.F.plainAttrs_list PySem.F.slot_list_index PySem.F.type_list_index (mt_indexD hu) (pv 2) (pa_cons (pe_glob (v := .ref BK) (by rfl) T.mgB rfl) pa_nil)) (pe_fld (pv 0) rfl)))), ?_⟩
    have lay := cls_lay (wd.ok i cs hc).2
    have an : ((cs.map clD).any fun z => PyData.eqv z blankD) = cs.any Cl.isBlank := by
      rw [List.any_map]; congr 1; funext c; exact cl_eqv c
    refine ⟨_, rfl, p, C, dx, _, _, rfl, ob, T.cl, T.nC, fl_ca, _, rfl, h.ca, _, _, _, rfl, rfl, SqL.of fa.cc, atI_nat (by rw [List.getElem?_map, hr1]; rfl), ?_⟩
    refine ⟨_, rfl, blankD, cs.map clD, _, (T.bk H).dp, .lst (SqL.of hr2) ht.dp, .inr rfl, lay, bk_lay, ?_⟩
    cases hb : cs.any Cl.isBlank with
    | true =>
      obtain ⟨c, hc1, hc2⟩ := List.any_eq_true.mp hb
      have hlt : fbN cs < cs.length := List.findIdx_lt_length_of_exists ⟨c, hc1, hc2⟩
      refine ⟨true, congrArg V.bl (an.trans hb), iteT ?_⟩
      refine ⟨_, rfl, .inl ⟨rfl, _, SqL.of hr2⟩, r, xs, .ref BK, cs.map clD, blankD, fbN cs, clD cs[fbN cs], rfl, rfl, SqL.of hr2, ht.dp, (T.bk H).dp, lay, bk_lay, ?_, ?_, fun m c' hm e => ?_, k⟩
      · rw [List.getElem?_map, List.getElem?_eq_getElem hlt]; rfl
      · rw [cl_eqv]; exact List.findIdx_getElem (w := hlt)
      · rw [List.getElem?_map, List.getElem?_eq_getElem (by omega)] at e
        cases e
        rw [cl_eqv]
        have := List.not_of_lt_findIdx (p := Cl.isBlank) (xs := cs) hm
        simpa using this
    | false =>
      have e : fbN cs = F.pg := by
        rw [← (wd.ok i cs hc).1]
        exact List.findIdx_eq_length.mpr fun x hx => by
          have := List.any_eq_false.mp hb x hx
          simpa using this
      rw [e] at k
      exact ⟨false, congrArg V.bl (an.trans hb), iteF ⟨_, rfl, p, C, dx, _, _, rfl, ob, T.cl, T.nP, fl_pg, k⟩⟩
abbrev sCelW : Stmt := top 56
end
end My
namespace My
open PySem L2
end My
namespace My
open PySem L2
end My
namespace My
open PySem L2
section
variable {P : Program} {w : World} {K : PySem.W.Frag} {mg : Str → Option Value} {base : Heap} {C BK TK : Addr}
theorem scOnn : FnScope ["self"] ["self"] (defScope (sMeth 10)) := ⟨rfl, rfl, rfl, by decide +kernel, rfl, by decide +kernel, by decide +kernel⟩
theorem scPgs : FnScope ["self"] ["self"] (defScope (sMeth 18)) := ⟨rfl, rfl, rfl, by decide +kernel, rfl, by decide +kernel, by decide +kernel⟩
def spPgs (K : PySem.W.Frag) (C : Addr) : Sp := fun vs H Q _ => ∃ p h F, vs = [.ref p] ∧ FlAt K C H p h F ∧ Q (.int (F.pg : Nat)) H
theorem okPgs {f : Addr} {fd : FuncData} (D : Fun K "pages" "Flash.pages" (sMeth 18) f fd) (T : Tf K mg C BK TK) : FnOk P w K mg base CX0 1 f fd ["self"] (spPgs K C) := by
  refine D.ok scPgs (fun vs H Q E h => ?_) (fun cdv A outer s H vs Q E hr h => ?_)
  · obtain ⟨_, _, _, rfl, _⟩ := h; rfl
  · obtain ⟨p, h, F, rfl, fa, k⟩ := h
    obtain ⟨dx, ob⟩ := fa.ob
    exact ⟨_, pss_one (ps_ret (pe_fld (pv 0) rfl)), _, rfl, p, C, dx, _, _, rfl, ob, T.cl, T.nP, fl_pg, k⟩
end
end My
namespace My
open PySem L2
open FK (Flds PRes)
def PRes.fl : PRes → Option Flds
  | .good F => some F
  | .mended F => some F
  | .spoilt => none
def Cl.rd (b : Bool) : Cl → Option Flds
  | .word x _ _ => PRes.fl (finN b x)
  | _ => none
abbrev Pr := (Nat × Nat) × Flds
def rdP (b : Bool) (i : Nat) (cs : List Cl) (j : Nat) : List Pr := (List.range j).filterMap fun m => (cs[m]?.bind (Cl.rd b)).map fun F => ((i, m), F)
def rdB (b : Bool) (ce : List (List Cl)) (g i : Nat) : List Pr := (List.range i).flatMap fun m => rdP b m (ce.getD m []) g
def spD (r : Nat × Nat) : PyData := .tuple [.int (r.1 : Nat), .int (r.2 : Nat)]
def prR (r : Pr) : PyData := .tuple [spD r.1, fdt r.2]
theorem rdP_succ (b : Bool) (i : Nat) (cs : List Cl) (j : Nat) {c : Cl} (h : cs[j]? = some c) : rdP b i cs (j + 1) = rdP b i cs j ++ ((c.rd b).map fun F => ((i, j), F)).toList := by
  unfold rdP
  rw [List.range_succ, List.filterMap_append, List.filterMap_cons, h]
  cases e : (Option.bind (some c) (Cl.rd b)).map fun F => ((i, j), F) with
  | none =>
    have e' : (c.rd b).map (fun F => ((i, j), F)) = none := e
    rw [e']; rfl
  | some v =>
    have e' : (c.rd b).map (fun F => ((i, j), F)) = some v := e
    rw [e']; rfl
theorem rdB_succ (b : Bool) (ce : List (List Cl)) (g i : Nat) {cs : List Cl} (h : ce[i]? = some cs) : rdB b ce g (i + 1) = rdB b ce g i ++ rdP b i cs g := by
  unfold rdB
  rw [List.range_succ, List.flatMap_append, List.flatMap_cons, List.flatMap_nil, List.append_nil, List.getD_eq_getElem?_getD, h]; rfl
theorem rdP_len (b : Bool) (i : Nat) (cs : List Cl) (j : Nat) : (rdP b i cs j).length ≤ j := by
  unfold rdP
  exact Nat.le_trans (List.length_filterMap_le _ _) (by rw [List.length_range]; exact Nat.le_refl _)
theorem rdB_len (b : Bool) (ce : List (List Cl)) (g : Nat) : ∀ i, (rdB b ce g i).length ≤ i * g
  | 0 => by unfold rdB; simp
  | i + 1 => by
    have e : rdB b ce g (i + 1) = rdB b ce g i ++ rdP b i (ce.getD i []) g := by
      unfold rdB
      rw [List.range_succ, List.flatMap_append, List.flatMap_cons, List.flatMap_nil, List.append_nil]
    rw [e, List.length_append, Nat.succ_mul]
    have := rdB_len b ce g i
    have := rdP_len b i (ce.getD i []) g
    omega
theorem TqAll.app {K : PySem.W.Frag} {H : Hp} : ∀ {xs ys : List V} {ds es : List PyData}, TqAll K H xs ds → TqAll K H ys es → TqAll K H (xs ++ ys) (ds ++ es)
  | _, _, _, _, .nil, h => h
  | _, _, _, _, .cons a t, h => .cons a (TqAll.app t h)
def FdV (K : PySem.W.Frag) (H : Hp) (b : Bool) (v : V) : Cl → Prop
  | .word x _ _ => ∃ a, v = .ref a ∧ Tq K H (.ref a) (prD (finN b x))
  | _ => v = .non
theorem tq3 {K : PySem.W.Frag} {H : Hp} {v : V} {d0 d1 d2 : PyData} (h : Tq K H v (.tuple [d0, d1, d2])) : ∃ a x0 x1 x2, v = .ref a ∧ SqT K H a [x0, x1, x2] ∧ Tq K H x0 d0 ∧ Tq K H x1 d1 ∧ Tq K H x2 d2 := by
  cases h with
  | tup q t => cases t with | cons t0 t => cases t with | cons t1 t => cases t with | cons t2 t => cases t; exact ⟨_, _, _, _, rfl, q, t0, t1, t2⟩
theorem tq2 {K : PySem.W.Frag} {H : Hp} {v : V} {d0 d1 : PyData} (h : Tq K H v (.tuple [d0, d1])) : ∃ a x0 x1, v = .ref a ∧ SqT K H a [x0, x1] ∧ Tq K H x0 d0 ∧ Tq K H x1 d1 := by
  cases h with
  | tup q t => cases t with | cons t0 t => cases t with | cons t1 t => cases t; exact ⟨_, _, _, rfl, q, t0, t1⟩
theorem tq_non {K : PySem.W.Frag} {H : Hp} {v : V} (h : Tq K H v .none) : v = .non := by cases h; rfl
theorem tq_int {K : PySem.W.Frag} {H : Hp} {v : V} {i : Int} (h : Tq K H v (.int i)) : v = .int i := by cases h; rfl
theorem tq_str {K : PySem.W.Frag} {H : Hp} {v : V} {i : Str} (h : Tq K H v (.str i)) : v = .str i := by cases h; rfl
theorem tq_ref {K : PySem.W.Frag} {H : Hp} {v : V} {ds : List PyData} (h : Tq K H v (.tuple ds)) : ∃ a, v = .ref a ∧ Tq K H (.ref a) (.tuple ds) := by
  cases h with
  | tup q t => exact ⟨_, rfl, .tup q t⟩
theorem tq_pr {K : PySem.W.Frag} {H : Hp} {v : V} (r : PRes) (h : Tq K H v (prD r)) : ∃ a, v = .ref a ∧ Tq K H (.ref a) (prD r) := by
  cases r with
  | good F => exact tq_ref (ds := [.str "good", fdt F]) h
  | mended F => exact tq_ref (ds := [.str "mended", fdt F]) h
  | spoilt => exact tq_ref (ds := [.str "spoilt", .none]) h
theorem cl_three {K : PySem.W.Frag} {H : Hp} {v : V} {c : Cl} (ok : ClOk c) (h : Tq K H v (clD c)) : ∃ a t x y, v = .ref a ∧ SqT K H a [t, x, y] ∧ FdV K H true x c ∧ FdV K H false y c := by
  cases ok with
  | blank =>
    obtain ⟨a, x0, x1, x2, e, q, t0, t1, t2⟩ := tq3 (d0 := .tuple [.str "blank"]) (d1 := .none) (d2 := .none) h
    exact ⟨a, x0, x1, x2, e, q, tq_non t1, tq_non t2⟩
  | torn =>
    obtain ⟨a, x0, x1, x2, e, q, t0, t1, t2⟩ := tq3 (d0 := .tuple [.str "torn"]) (d1 := .none) (d2 := .none) h
    exact ⟨a, x0, x1, x2, e, q, tq_non t1, tq_non t2⟩
  | word x hx =>
    obtain ⟨a, x0, x1, x2, e, q, t0, t1, t2⟩ := tq3 (d0 := .tuple [.str "word", .int (x : Nat)]) (d1 := prD (finN true x)) (d2 := prD (finN false x)) h
    exact ⟨a, x0, x1, x2, e, q, tq_pr _ t1, tq_pr _ t2⟩
section
variable {P : Program} {w : World} {K : PySem.W.Frag} {mg : Str → Option Value} {base : Heap} {C BK TK : Addr}
abbrev nFou : List Str := ["self", "block", "page", "sealed", "told", "with_seal", "without"]
theorem scFou : FnScope nFou ["self", "block", "page", "sealed"] (defScope (sMeth 20)) := ⟨rfl, rfl, rfl, by decide +kernel, rfl, by decide +kernel, by decide +kernel⟩
def spFou (K : PySem.W.Frag) (C : Addr) : Sp := fun vs H Q _ => ∃ p h F i j cs c b, vs = [.ref p, .int (i : Nat), .int (j : Nat), .bl b] ∧ FlAt K C H p h F ∧ F.Wd ∧ F.ce[i]? = some cs ∧ cs[j]? = some c ∧ ∀ v, FdV K H b v c → Q v H
theorem okFou {f : Addr} {fd : FuncData} (D : Fun K "found" "Flash.found" (sMeth 20) f fd) (T : Tf K mg C BK TK) : FnOk P w K mg base CX0 1 f fd ["self", "block", "page", "sealed"] (spFou K C) := by
  refine D.ok scFou (fun vs H Q E h => ?_) (fun cdv A outer s H vs Q E hr h => ?_)
  · obtain ⟨_, _, _, _, _, _, _, _, rfl, _⟩ := h; rfl
  · obtain ⟨p, h, F, i, j, cs, c, b, rfl, fa, wd, hc, hj, k⟩ := h
    obtain ⟨dx, ob⟩ := fa.ob
    obtain ⟨r, xs, hr1, hr2, ht⟩ := fa.row hc
    obtain ⟨v, hv, tv⟩ := ht.get (d := clD c) (by rw [List.getElem?_map, hj]; rfl)
    obtain ⟨a, t, x, y, rfl, q1, q2, q3⟩ := cl_three ((wd.ok i cs hc).2 c (List.mem_of_getElem? hj)) tv
    refine ⟨_, pss_cons (ps_asg (pe_ix ix_list (pe_ix ix_list (pe_fld (pv 0) rfl) (pv 1) (fun _ _ => rfl)) (pv 2) (fun _ _ => rfl)) (pg_tup (by rfl) (pgs_cons (pg_name (i := 4) scFou.nd rfl (Or.inl rfl)) (pgs_cons (pg_name (i := 5) scFou.nd rfl (Or.inl rfl)) (pgs_cons (pg_name (i := 6) scFou.nd rfl (Or.inl rfl)) pgs_nil)))))
      (pss_one (ps_ret (pe_ifExp (pt_truth (pv 3) (by intro _; rfl)) (pv 5) (pv 6)))), ?_⟩
    refine ⟨_, rfl, p, C, dx, _, _, rfl, ob, T.cl, T.nC, fl_ca, _, rfl, h.ca, _, _, _, rfl, rfl, SqL.of fa.cc, atI_nat (by rw [List.getElem?_map, hr1]; rfl), _, rfl, r, _, _, _, rfl, rfl, SqL.of hr2, atI_nat hv, a, _, rfl, q1, rfl, _, _, rfl, _, _, rfl, _, _, rfl, rfl, ?_⟩
    cases b with
    | true => exact ⟨_, rfl, true, rfl, iteT ⟨_, rfl, k x q2⟩⟩
    | false => exact ⟨_, rfl, false, rfl, iteF ⟨_, rfl, k y q3⟩⟩
end
end My
namespace My
open PySem L2
def plM (b g : Int) : Int := if (b - 2) * g - 5 < 16 then (b - 2) * g - 5 else 16
def plF : PyData → Bool
  | .tuple [d0, d1, d2, d3, d4] => match d0, d1 with
    | .int b, .int g => (wi (.int b) 3 8 && wi (.int g) 2 8) && (wi d2 1 (plM b g) && (isB d3 && isB d4))
    | _, _ => false
  | _ => false
theorem plF_0 (d0 d1 d2 d3 d4 : PyData) (h : wi d0 3 8 = false) : plF (.tuple [d0, d1, d2, d3, d4]) = false := by
  cases d0 with
  | int b =>
    cases d1 with
    | int g => show ((wi (.int b) 3 8 && wi (.int g) 2 8) && _) = false; rw [h]; rfl
    | _ => rfl
  | _ => rfl
theorem plF_1 (d0 d1 d2 d3 d4 : PyData) (h : wi d1 2 8 = false) : plF (.tuple [d0, d1, d2, d3, d4]) = false := by
  cases d0 with
  | int b =>
    cases d1 with
    | int g => show ((wi (.int b) 3 8 && wi (.int g) 2 8) && _) = false; rw [h, Bool.and_false]; rfl
    | _ => rfl
  | _ => rfl
theorem plF_in (b g : Int) (d2 d3 d4 : PyData) (h0 : wi (.int b) 3 8 = true) (h1 : wi (.int g) 2 8 = true) : plF (.tuple [.int b, .int g, d2, d3, d4]) = (wi d2 1 (plM b g) && (isB d3 && isB d4)) := by
  show ((wi (.int b) 3 8 && wi (.int g) 2 8) && _) = _; rw [h0, h1]; rfl
theorem plF_len (ds : List PyData) (h : ds.length ≠ 5) : plF (.tuple ds) = false := by
  unfold plF
  split
  · rename_i z; cases z; exact absurd rfl h
  · rfl
theorem wi_int {d : PyData} {lo hi : Int} (h : wi d lo hi = true) : ∃ i, d = .int i ∧ lo ≤ i ∧ i ≤ hi := by
  cases d with
  | int i =>
    have h' : (decide (lo ≤ i) && decide (i ≤ hi)) = true := h
    rw [Bool.and_eq_true, decide_eq_true_eq, decide_eq_true_eq] at h'
    exact ⟨i, rfl, h'⟩
  | _ => cases h
section
variable {P : Program} {w : World} {K : PySem.W.Frag} {mg : Str → Option Value} {base : Heap}
abbrev sIsPlan : Stmt := top 60
abbrev nIsPlan : List Str := ["thing", "blocks", "pages", "places", "sealed", "commits", "most"]
theorem scIsPlan : FnScope nIsPlan ["thing"] (defScope sIsPlan) := ⟨rfl, rfl, rfl, by decide +kernel, rfl, by decide +kernel, by decide +kernel⟩
def spIsPlan : Sp := fun vs H Q _ => ∃ x d, vs = [x] ∧ Dh H x d ∧ Q (.bl (plF d)) H
set_option maxHeartbeats 4000000 in
theorem okIsPlan {f fI fW : Addr} {fd fdI fdW : FuncData} (D : Df K mg "is_plan" sIsPlan ["thing"] f fd) (DI : Df K mg "is_within" sWithin ["thing", "low", "high"] fI fdI) (DW : Df K mg "is_whole" sWhole ["thing"] fW fdW) (T : Tx K mg) (htup : mg "tuple" = none) (hmp : ∃ t, mg "MOST_PLACES" = some (.int 16 t)) : FnOk P w K mg base CX0 3 f fd ["thing"] spIsPlan := by
  refine D.F.ok scIsPlan (fun vs H Q E h => ?_) (fun cdv A outer s H vs Q E hr h => ?_)
  · obtain ⟨_, _, rfl, _⟩ := h; rfl
  · obtain ⟨x, d, rfl, hd, k⟩ := h
    obtain ⟨tw, hw⟩ := hmp
    refine ⟨_, pss_cons (ps_if (PW.pt (pw_or (pt_not (pt_val (pe_callB call_isinst (by rfl) T.isi (by decide +kernel) (pa_cons (pv 0) (pa_cons (pe_bltn (v := .ty "tuple") (by rfl) htup (by decide +kernel) rfl) pa_nil))))) (pw_or1 (pt_cmpR op_ne (pe_callB call_len_seq (by rfl) T.len PySem.boot_len (pa_cons (pv 0) pa_nil)) pe_int (nomark _)))))
        (pss_one (ps_ret pe_bl))
        pss_nil)
      (pss_cons (ps_asg (pv 0) (pg_tup (by rfl) (pgs_cons (pg_name (i := 1) scIsPlan.nd rfl (Or.inl rfl)) (pgs_cons (pg_name (i := 2) scIsPlan.nd rfl (Or.inl rfl)) (pgs_cons (pg_name (i := 3) scIsPlan.nd rfl (Or.inl rfl)) (pgs_cons (pg_name (i := 4) scIsPlan.nd rfl (Or.inl rfl)) (pgs_cons (pg_name (i := 5) scIsPlan.nd rfl (Or.inl rfl)) pgs_nil)))))))
      (pss_cons (ps_if (PW.pt (pw_or (pt_not (pt_val (pc DI (okWithinD DI DW T) hr (pa_cons (pv 1) (pa_cons pe_int (pa_cons pe_int pa_nil)))))) (pw_or1 (pt_not (pt_val (pc DI (okWithinD DI DW T) hr (pa_cons (pv 2) (pa_cons pe_int (pa_cons pe_int pa_nil)))))))))
        (pss_one (ps_ret pe_bl))
        pss_nil)
      (pss_cons (ps_set (i := 6) scIsPlan.nd rfl (Or.inl rfl) (pe_callB (call_min2 rfl) (by rfl) T.min (by decide +kernel) (pa_cons (pe_glob (v := .int 16) (by rfl) hw ⟨tw, rfl⟩) (pa_cons (pe_op op_sub (pe_op op_mul (pe_op op_sub (pv 1) pe_int) (pv 2)) pe_int) pa_nil))))
      (pss_one (ps_ret (pe_and (pc DI (okWithinD DI DW T) hr (pa_cons (pv 3) (pa_cons pe_int (pa_cons (pv 6) pa_nil)))) (pe_and (pe_callB call_isinst (by rfl) T.isi (by decide +kernel) (pa_cons (pv 4) (pa_cons (pe_bltn (v := .ty "bool") (by rfl) T.bool (by decide +kernel) rfl) pa_nil))) (pe_one (pe_callB call_isinst (by rfl) T.isi (by decide +kernel) (pa_cons (pv 5) (pa_cons (pe_bltn (v := .ty "bool") (by rfl) T.bool (by decide +kernel) rfl) pa_nil))))))))))), ?_⟩
    by_cases hT : isT d = false
    · have kf : Q (.bl false) H := by
        cases d with
        | tuple ds => cases hT
        | _ => exact k
      exact ⟨_, rfl, _, _, _, false, rfl, hd.ty, (kitT K d).trans (congrArg some hT), _, rfl, iteT (iteT kf)⟩
    cases hd with
    | @tup a xs ds e hh =>
      refine ⟨_, rfl, _, _, _, true, rfl, .tup e, kitT K (.tuple ds), _, rfl, iteF ?_⟩
      have hl := hh.length
      by_cases h5 : xs.length = 5
      · have e5 : (!decide (V.int (xs.length : Nat) = V.int 5)) = false := by rw [h5]; rfl
        refine ⟨_, rfl, a, xs, rfl, .inr (SqT.of e), rfl, false, congrArg V.bl e5, iteF ?_⟩
        match xs, ds, hh, h5 with
        | [x0, x1, x2, x3, x4], [d0, d1, d2, d3, d4], .cons q0 (.cons q1 (.cons q2 (.cons q3 (.cons q4 .nil)))), _ =>
        refine ⟨_, rfl, a, _, rfl, SqT.of e, rfl, _, _, rfl, _, _, rfl, _, _, rfl, _, _, rfl, _, _, rfl, rfl, ?_⟩
        cases hA : wi d0 3 8 with
        | false =>
          rw [plF_0 _ _ _ _ _ hA] at k
          exact ⟨_, rfl, x0, d0, 3, 8, rfl, q0, false, congrArg V.bl hA, iteT (iteT k)⟩
        | true =>
          refine ⟨_, rfl, x0, d0, 3, 8, rfl, q0, true, congrArg V.bl hA, iteF ?_⟩
          cases hB : wi d1 2 8 with
          | false =>
            rw [plF_1 _ _ _ _ _ hB] at k
            exact ⟨_, rfl, x1, d1, 2, 8, rfl, q1, false, congrArg V.bl hB, iteT k⟩
          | true =>
            refine ⟨_, rfl, x1, d1, 2, 8, rfl, q1, true, congrArg V.bl hB, iteF ?_⟩
            obtain ⟨b, rfl, b0, b1⟩ := wi_int hA
            obtain ⟨g, rfl, g0, g1⟩ := wi_int hB
            rw [plF_in _ _ _ _ _ hA hB] at k
            cases q0
            cases q1
            refine ⟨_, rfl, _, _, rfl, rfl, _, rfl, _, _, rfl, rfl, .inl ⟨by omega, by omega⟩, _, _, rfl, rfl, _, _, rfl, ?_⟩
            cases hC : wi d2 1 (plM b g) with
            | false =>
              rw [hC] at k
              exact ⟨_, rfl, _, rfl, x2, d2, 1, plM b g, rfl, q2, false, congrArg V.bl hC, iteF k⟩
            | true =>
              rw [hC] at k
              refine ⟨_, rfl, _, rfl, x2, d2, 1, plM b g, rfl, q2, true, congrArg V.bl hC, iteT ?_⟩
              cases hD : isB d3 with
              | false =>
                rw [hD] at k
                exact ⟨_, rfl, _, _, _, false, rfl, q3.ty, (kitB K d3).trans (congrArg some hD), _, rfl, iteF k⟩
              | true =>
                rw [hD] at k
                exact ⟨_, rfl, _, _, _, true, rfl, q3.ty, (kitB K d3).trans (congrArg some hD), _, rfl, iteT ⟨_, rfl, _, _, _, isB d4, rfl, q4.ty, kitB K d4, k⟩⟩
      · have e5 : (!decide (V.int (xs.length : Nat) = V.int 5)) = true := by
          rw [decide_eq_false (fun z => h5 (by have := V.int.inj z; omega))]; rfl
        rw [plF_len ds (by rw [← hl]; exact h5)] at k
        exact ⟨_, rfl, a, xs, rfl, .inr (SqT.of e), rfl, true, congrArg V.bl e5, iteT k⟩
    | _ => exact absurd rfl hT
end
end My
namespace My
open PySem L2
open FK (Flds PRes)
theorem same_upd {H Hi : Hp} {L : Addr} {o : HO} (hL : H L = none) (s : Same H Hi) : Same H (upd Hi L o) := fun b u e => by
  rw [upd_ne (ne_of_none e hL)]; exact s b u e
theorem free_same {H H' : Hp} {L : Addr} (s : Same H H') (h : H' L = none) : H L = none := by
  cases e : H L with
  | none => rfl
  | some o => rw [s _ _ e] at h; cases h
def plV (b g n : Int) (s c : Bool) : List V := [.int b, .int g, .int n, .bl s, .bl c]
def plD (b g n : Int) (s c : Bool) : List PyData := [.int b, .int g, .int n, .bool s, .bool c]
theorem plDh (H : Hp) (b g n : Int) (s c : Bool) : DhAll H (plV b g n s c) (plD b g n s c) := .cons (.int _) (.cons (.int _) (.cons (.int _) (.cons (.bl _) (.cons (.bl _) .nil))))
structure To (K : PySem.W.Frag) (C : Addr) : Prop where
  ha : PySem.W.findIn K (.ref C) "__class__" = some (some (.builtin "object.__class__"))
  hn : PySem.W.specialIn K (.builtin "object.__class__") "__get__" = some (some (.builtin "getset_descriptor.__get__"))
  htk : PySem.W.takesIn K (.builtin "object.__class__") = some true
  hm : PySem.W.mroIn K C (.type "object") = some true
  self : PySem.W.kitOne K (.ref C) (.ref C) = some true
theorem for_range0 {n : Nat} {g : TG} {tb : TS} {D : Ends} {σ : St} {H : Hp} (Pv : Nat → St → Hp → Prop) (h0 : Pv 0 σ H)
    (hs : ∀ i σ H, i < n → Pv i σ H → g (.int (i : Nat)) σ H fun σ2 H2 => tb { D with nx := Pv (i + 1), ct := Pv (i + 1), bk := D.nx } σ2 H2) (hd : ∀ σ H, Pv n σ H → D.nx σ H) :
    ∃ W : Nat → Nat → St → Hp → Prop, (∃ m, W 0 m σ H) ∧ ∀ i m σ H, W i m σ H →
      ((Itr 0 n).stop i H ∧ D.nx σ H) ∨ ((Itr 0 n).go i H ∧ ∃ N : St → Hp → Prop, (∀ σ' H', N σ' H' → ∃ m', m' < m ∧ W (i + 1) m' σ' H') ∧ ∀ x H', (Itr 0 n).yld i H x H' → g x σ H' fun σ2 H2 => tb { D with nx := N, ct := N, bk := D.nx } σ2 H2) :=
  for_range (lo := 0) Pv h0 (fun i σ H hi p => by rw [Int.zero_add]; exact hs i σ H hi p) hd
theorem same_tk {H H' : Hp} (s : Same H H') : TupK H H' := fun a xs => ⟨fun e => s _ _ e, fun o e => s _ _ e⟩
theorem lst_tk {H : Hp} {p : Addr} {ys zs : List V} (hp : H p = some (.lst ys)) : TupK H (upd H p (.lst zs)) := fun a xs => ⟨fun e => by
  rw [upd_ne (fun z => by rw [z, hp] at e; cases e)]; exact e, fun o e => by
  rw [upd_ne (fun z => by rw [z, hp] at e; cases e)]; exact e⟩
theorem TupK.trans {H H1 H2 : Hp} (a : TupK H H1) (b : TupK H1 H2) : TupK H H2 := fun c xs => ⟨fun e => (b c xs).1 ((a c xs).1 e), fun o e => (b c xs).2 o ((a c xs).2 o e)⟩
theorem fd_cases {K : PySem.W.Frag} {H : Hp} {b : Bool} {v : V} {c : Cl} (h : FdV K H b v c) : (v = .non ∧ c.rd b = none) ∨ (∃ a x1, v = .ref a ∧ SqT K H a [.str "spoilt", x1] ∧ c.rd b = none) ∨ ∃ F' a wd x1, c.rd b = some F' ∧ v = .ref a ∧ SqT K H a [.str wd, x1] ∧ Tq K H x1 (fdt F') ∧ decide (V.str wd = V.str "spoilt") = false := by
  cases c with
  | blank => exact .inl ⟨h, rfl⟩
  | torn => exact .inl ⟨h, rfl⟩
  | word x d1 d2 =>
    obtain ⟨a, ev, tv⟩ : ∃ a, v = .ref a ∧ Tq K H (.ref a) (prD (finN b x)) := h
    cases er : finN b x with
    | good F' =>
      rw [er] at tv
      obtain ⟨a', x0, x1, e', sq, t0, tx⟩ := tq2 (d0 := .str "good") (d1 := fdt F') tv
      cases e'
      rw [tq_str t0] at sq
      exact .inr (.inr ⟨F', a, "good", x1, by show PRes.fl (finN b x) = _; rw [er]; rfl, ev, sq, tx, by decide +kernel⟩)
    | mended F' =>
      rw [er] at tv
      obtain ⟨a', x0, x1, e', sq, t0, tx⟩ := tq2 (d0 := .str "mended") (d1 := fdt F') tv
      cases e'
      rw [tq_str t0] at sq
      exact .inr (.inr ⟨F', a, "mended", x1, by show PRes.fl (finN b x) = _; rw [er]; rfl, ev, sq, tx, by decide +kernel⟩)
    | spoilt =>
      rw [er] at tv
      obtain ⟨a', x0, x1, e', sq, t0, tx⟩ := tq2 (d0 := .str "spoilt") (d1 := .none) tv
      cases e'
      rw [tq_str t0] at sq
      exact .inr (.inl ⟨a, x1, ev, sq, by show PRes.fl (finN b x) = _; rw [er]; rfl⟩)
section
variable {P : Program} {w : World} {K : PySem.W.Frag} {mg : Str → Option Value} {base : Heap} {C BK TK : Addr}
abbrev sLookPlan : Stmt := top 61
abbrev nLookPlan : List Str := ["plan"]
theorem scLookPlan : FnScope nLookPlan ["plan"] (defScope sLookPlan) := ⟨rfl, rfl, rfl, by decide +kernel, rfl, by decide +kernel, by decide +kernel⟩
def spLookPlan : Sp := fun vs H Q _ => ∃ (x : V) (d : PyData), vs = [x] ∧ Dh H x d ∧ plF d = true ∧ Q .non H
theorem okLookPlan {f fP : Addr} {fd fdP : FuncData} (D : Df K mg "look_at_plan" sLookPlan ["plan"] f fd) (DP : Df K mg "is_plan" sIsPlan ["thing"] fP fdP) (GP : FnOk P w K mg base CX0 3 fP fdP ["thing"] spIsPlan) : FnOk P w K mg base CX0 4 f fd ["plan"] spLookPlan := by
  refine D.F.ok scLookPlan (fun vs H Q E h => ?_) (fun cdv A outer s H vs Q E hr h => ?_)
  · obtain ⟨_, _, rfl, _⟩ := h; rfl
  · obtain ⟨x, d, rfl, hd, hp, k⟩ := h
    refine ⟨_, pss_one (ps_if (pt_not (pt_val (pc DP GP hr (pa_cons (pv 0) pa_nil))))
        pss_never
        pss_nil), ?_⟩
    exact ⟨_, rfl, x, d, rfl, hd, true, congrArg V.bl hp, iteF k⟩
abbrev sLookFlash : Stmt := top 62
abbrev nLookFlash : List Str := ["plan", "flash"]
theorem scLookFlash : FnScope nLookFlash ["plan", "flash"] (defScope sLookFlash) := ⟨rfl, rfl, rfl, by decide +kernel, rfl, by decide +kernel, by decide +kernel⟩
/-- a plan and a flash of it -/
structure PF (K : PySem.W.Frag) (C : Addr) (H : Hp) (pa p : Addr) (h : FlH) (F : Fl) (n : Nat) (sl cm : Bool) : Prop where
  e : H pa = some (.tup (plV F.nb F.pg n sl cm))
  pl : plF (.tuple (plD F.nb F.pg n sl cm)) = true
  n1 : 1 ≤ n ∧ n ≤ 16
  fa : FlAt K C H p h F
  wd : F.Wd
theorem PF.same {H H' : Hp} {pa p : Addr} {h : FlH} {F : Fl} {n : Nat} {sl cm : Bool} (f : PF K C H pa p h F n sl cm) (s : Same H H') : PF K C H' pa p h F n sl cm := ⟨s _ _ f.e, f.pl, f.n1, f.fa.same s, f.wd⟩
def spLookFlash (K : PySem.W.Frag) (C : Addr) : Sp := fun vs H Q _ => ∃ pa p h F n sl cm, vs = [.ref pa, .ref p] ∧ PF K C H pa p h F n sl cm ∧ ∀ H', Same H H' → Q .non H'
set_option maxHeartbeats 4000000 in
theorem okLookFlash {f fL fB fG : Addr} {fd fdL fdB fdG : FuncData} (D : Df K mg "look_at_flash" sLookFlash ["plan", "flash"] f fd) (DL : Df K mg "look_at_plan" sLookPlan ["plan"] fL fdL) (GL : FnOk P w K mg base CX0 4 fL fdL ["plan"] spLookPlan) (Tx' : Tx K mg) (T : Tf K mg C BK TK) (O : To K C)
    (MB : Mf K C "blocks" "Flash.blocks" (sMeth 17) ["self"] fB fdB) (MG : Mf K C "pages" "Flash.pages" (sMeth 18) ["self"] fG fdG) : FnOk P w K mg base CX0 5 f fd ["plan", "flash"] (spLookFlash K C) := by
  refine D.F.ok scLookFlash (fun vs H Q E h => ?_) (fun cdv A outer s H vs Q E hr h => ?_)
  · obtain ⟨_, _, _, _, _, _, _, rfl, _⟩ := h; rfl
  · obtain ⟨pa, p, h, F, n, sl, cm, rfl, pf, k⟩ := h
    obtain ⟨dx, ob⟩ := pf.fa.ob
    have hr1 := hr.mono (show 1 ≤ 4 by decide)
    refine ⟨_, pss_cons (ps_expr (pc DL GL hr (pa_cons (pv 0) pa_nil)))
      (pss_one (ps_if (PW.pt (pw_or (pt_not (pt_val (pe_callB call_isinstO (by rfl) Tx'.isi (by decide +kernel) (pa_cons (pv 1) (pa_cons (pe_glob (v := .ref C) (by rfl) T.mgC rfl) pa_nil))))) (pw_or1 (pt_cmpR (op_neD hr.units) (pe_tup (pa_cons (pe_meth0 (pv 1) T.cl MB.m (okBls MB.F T) hr1 MB.b .nil pass0) (pa_cons (pe_meth0 (pv 1) T.cl MG.m (okPgs MG.F T) hr1 MG.b .nil pass0) pa_nil))) (pe_tup (pa_cons (pe_ix ix_tup (pv 0) pe_int (fun _ _ => rfl)) (pa_cons (pe_ix ix_tup (pv 0) pe_int (fun _ _ => rfl)) pa_nil))) (nomark _)))))
        pss_never
        pss_nil)), ?_⟩
    refine ⟨_, rfl, .ref pa, _, rfl, .tup pf.e (plDh H _ _ _ sl cm), pf.pl, ?_⟩
    refine ⟨_, rfl, _, C, _, true, rfl, .ins ob T.cl O.ha O.hn O.htk O.hm, O.self, _, rfl, iteF ?_⟩
    refine ⟨_, rfl, p, dx, _, rfl, ob, (by kernel_rfl), p, h, F, rfl, pf.fa, _, rfl, p, dx, _, rfl, ob, (by kernel_rfl), p, h, F, rfl, pf.fa, (by show 2 ≤ sizeLine; decide), fun t1 h1 => ?_⟩
    have S1 := same_new (o := .tup [.int (F.nb : Nat), .int (F.pg : Nat)]) h1
    refine ⟨_, rfl, pa, _, _, _, rfl, rfl, SqT.of (S1 _ _ pf.e), atI_nat (j := 0) rfl, _, rfl, pa, _, _, _, rfl, rfl, SqT.of (S1 _ _ pf.e), atI_nat (j := 1) rfl, (by show 2 ≤ sizeLine; decide), fun t2 h2 => ?_⟩
    have S2 := same_new (o := .tup [.int (F.nb : Nat), .int (F.pg : Nat)]) h2
    have sh : SeqAt.shaped (.tuple [.int (F.nb : Nat), .int (F.pg : Nat)]) = true := rfl
    refine ⟨.tuple [.int (F.nb : Nat), .int (F.pg : Nat)], .tuple [.int (F.nb : Nat), .int (F.pg : Nat)], .tup (SqT.of (S2 _ _ upd_same)) (.cons (.int _) (.cons (.int _) .nil)), .tup (SqT.of upd_same) (.cons (.int _) (.cons (.int _) .nil)), sh, sh, false, congrArg V.bl (by rw [PySem.SeqAt.eqv_refl _ (SeqAt.canLay_of_shaped sh)]; rfl), iteF (k _ (S1.trans S2))⟩
abbrev sPagesRead : Stmt := top 63
abbrev nPagesRead : List Str := ["plan", "flash", "blocks", "pages", "places", "sealed", "commits", "told", "block", "page", "found"]
theorem scPagesRead : FnScope nPagesRead ["plan", "flash"] (defScope sPagesRead) := ⟨rfl, rfl, rfl, by decide +kernel, rfl, by decide +kernel, by decide +kernel⟩
def spPgR (K : PySem.W.Frag) (C : Addr) : Sp := fun vs H Q _ => ∃ pa p h F n sl cm, vs = [.ref pa, .ref p] ∧ PF K C H pa p h F n sl cm ∧ ∀ L xs H', H' L = some (.lst xs) → TqAll K H' xs ((rdB sl F.ce F.pg F.nb).map prR) → Same H H' → H L = none → Q (.ref L) H'
set_option maxHeartbeats 8000000 in
theorem okPgR {f fO : Addr} {fd fdO : FuncData} (D : Df K mg "pages_read" sPagesRead ["plan", "flash"] f fd) (Tx' : Tx K mg) (T : Tf K mg C BK TK) (MO : Mf K C "found" "Flash.found" (sMeth 20) ["self", "block", "page", "sealed"] fO fdO) : FnOk P w K mg base CX0 2 f fd ["plan", "flash"] (spPgR K C) := by
  refine D.F.ok scPagesRead (fun vs H Q E h => ?_) (fun cdv A outer s H vs Q E hr h => ?_)
  · obtain ⟨_, _, _, _, _, _, _, rfl, _⟩ := h; rfl
  · obtain ⟨pa, p, h, F, n, sl, cm, rfl, pf, k⟩ := h
    obtain ⟨dx, ob⟩ := pf.fa.ob
    have nb8 := pf.fa.nb
    have pg8 := pf.fa.pg
    refine ⟨_, pss_cons (ps_asg (pv 0) (pg_tup (by rfl) (pgs_cons (pg_name (i := 2) scPagesRead.nd rfl (Or.inl rfl)) (pgs_cons (pg_name (i := 3) scPagesRead.nd rfl (Or.inl rfl)) (pgs_cons (pg_name (i := 4) scPagesRead.nd rfl (Or.inl rfl)) (pgs_cons (pg_name (i := 5) scPagesRead.nd rfl (Or.inl rfl)) (pgs_cons (pg_name (i := 6) scPagesRead.nd rfl (Or.inl rfl)) pgs_nil)))))))
      (pss_cons (ps_set (i := 7) scPagesRead.nd rfl (Or.inl rfl) (pe_lst pa_nil))
      (pss_cons (ps_for PassesOwn.never rfl (pi_range1 (by rfl) Tx'.range (pa_cons (pv 2) pa_nil)) (pg_name (i := 8) scPagesRead.nd rfl (Or.inl rfl))
        (pss_one (ps_for PassesOwn.never rfl (pi_range1 (by rfl) Tx'.range (pa_cons (pv 3) pa_nil)) (pg_name (i := 9) scPagesRead.nd rfl (Or.inl rfl))
          (pss_cons (ps_set (i := 10) scPagesRead.nd rfl (Or.inl rfl) (pe_meth (pv 1) T.cl MO.m (okFou MO.F T) hr MO.b .nil pass0 (pa_cons (pv 8) (pa_cons (pv 9) (pa_cons (pv 5) pa_nil)))))
          (pss_one (ps_if (PW.pt (pw_and (pt_cmpR op_notN (pv 10) pe_non (nomark _)) (pw_and1 (pt_cmpR op_ne (pe_ix ix_tup (pv 10) pe_int (fun _ _ => rfl)) pe_str (nomark _)))))
            (pss_one (ps_expr (pe_bm PySem.F.plainAttrs_list PySem.F.slot_list_append PySem.F.type_list_append mt_append (pv 7) (pa_cons (pe_tup (pa_cons (pe_tup (pa_cons (pv 8) (pa_cons (pv 9) pa_nil))) (pa_cons (pe_ix ix_tup (pv 10) pe_int (fun _ _ => rfl)) pa_nil))) pa_nil))))
            pss_nil))))))
      (pss_one (ps_ret (pv 7))))), ?_⟩
    refine ⟨_, rfl, pa, _, rfl, SqT.of pf.e, rfl, _, _, rfl, _, _, rfl, _, _, rfl, _, _, rfl, _, _, rfl, rfl, (by show 0 ≤ sizeLine; decide), fun L hL => ?_⟩
    refine ⟨_, rfl, (F.nb : Int), rfl, by omega, by omega, ?_⟩
    refine for_range0 (n := F.nb) (fun i σ H' => Same H H' ∧ (∃ xs, H' L = some (.lst xs) ∧ TqAll K H' xs ((rdB sl F.ce F.pg i).map prR)) ∧ ∃ v8 v9 v10 : Option V, σ = [some (.ref pa), some (.ref p), some (.int (F.nb : Nat)), some (.int (F.pg : Nat)), some (.int (n : Nat)), some (.bl sl), some (.bl cm), some (.ref L), v8, v9, v10]) ⟨same_new hL, ⟨[], upd_same, .nil⟩, _, _, _, rfl⟩ ?_ ?_
    · rintro i σ H1 hi ⟨s1, ⟨xs, e1, t1⟩, v8, v9, v10, rfl⟩
      have hc : F.ce[i]? = some (F.ce[i]'(by rw [pf.fa.lc]; exact hi)) := List.getElem?_eq_getElem _
      generalize F.ce[i]'(by rw [pf.fa.lc]; exact hi) = cs at hc
      have cl := (pf.wd.ok i cs hc).1
      refine ⟨_, rfl, (F.pg : Int), rfl, by omega, by omega, ?_⟩
      refine for_range0 (n := F.pg) (fun j σ H' => Same H H' ∧ (∃ xs, H' L = some (.lst xs) ∧ TqAll K H' xs ((rdB sl F.ce F.pg i ++ rdP sl i cs j).map prR)) ∧ ∃ v9 v10 : Option V, σ = [some (.ref pa), some (.ref p), some (.int (F.nb : Nat)), some (.int (F.pg : Nat)), some (.int (n : Nat)), some (.bl sl), some (.bl cm), some (.ref L), some (.int (i : Nat)), v9, v10]) ⟨s1, ⟨xs, e1, by show TqAll K H1 xs ((_ ++ []).map prR); rw [List.append_nil]; exact t1⟩, _, _, rfl⟩ ?_ ?_
      · rintro j σ H2 hj ⟨s2, ⟨ys, e2, t2⟩, v9, v10, rfl⟩
        have hjc : cs[j]? = some (cs[j]'(by rw [cl]; exact hj)) := List.getElem?_eq_getElem _
        generalize cs[j]'(by rw [cl]; exact hj) = c at hjc
        have hst := rdP_succ sl i cs j hjc
        refine ⟨_, rfl, p, dx, _, rfl, s2 _ _ ob, (by kernel_rfl), _, rfl, _, rfl, _, rfl, p, h, F, i, j, cs, c, sl, rfl, pf.fa.same s2, pf.wd, hc, hjc, fun v hv => ?_⟩
        have none : c.rd sl = none → Same H H2 ∧ (∃ xs, H2 L = some (.lst xs) ∧ TqAll K H2 xs ((rdB sl F.ce F.pg i ++ rdP sl i cs (j + 1)).map prR)) := fun z => ⟨s2, ys, e2, by rw [hst, z]; show TqAll K H2 ys ((_ ++ (_ ++ [])).map prR); rw [List.append_nil]; exact t2⟩
        have key := fd_cases hv
        rcases key with ⟨rfl, z⟩ | ⟨a, x1, rfl, sq, z⟩ | ⟨F', a, wd, x1, z, rfl, sq, tx, ne⟩
        · exact ⟨_, rfl, rfl, false, rfl, iteF (iteF ⟨(none z).1, (none z).2, _, _, rfl⟩)⟩
        · exact ⟨_, rfl, rfl, true, rfl, iteT ⟨_, rfl, a, _, _, _, rfl, rfl, sq, at0c, rfl, false, congrArg V.bl (by decide +kernel), iteF ⟨(none z).1, (none z).2, _, _, rfl⟩⟩⟩
        · refine ⟨_, rfl, rfl, true, rfl, iteT ⟨_, rfl, a, _, _, _, rfl, rfl, sq, at0c, rfl, true, congrArg V.bl (by rw [ne]; rfl), iteT ?_⟩⟩
          refine ⟨_, rfl, .inl ⟨rfl, ys, SqL.of e2⟩, _, rfl, _, rfl, (by show 2 ≤ sizeLine; decide), fun ta hta => ?_⟩
          have Sa := same_new (o := .tup [.int (i : Nat), .int (j : Nat)]) hta
          refine ⟨_, rfl, a, _, _, _, rfl, rfl, (same_tk Sa).sq sq, at1c, (by show 2 ≤ sizeLine; decide), fun tb htb => ?_⟩
          have Sb := same_new (o := .tup [.ref ta, x1]) htb
          have Sab := Sa.trans Sb
          have yl : ys.length ≤ 200 := by
            rw [t2.len, List.length_map, List.length_append]
            have h1 := rdB_len sl F.ce F.pg i
            have h2 := rdP_len sl i cs j
            have h3 : i * F.pg ≤ 8 * 8 := Nat.mul_le_mul (by omega) (by omega)
            omega
          have e2' := Sab _ _ e2
          refine ⟨L, ys, _, rfl, rfl, e2', small1000 (by omega), same_upd hL (s2.trans Sab), ⟨ys ++ [.ref tb], upd_same, ?_⟩, _, _, rfl⟩
          have tk := (same_tk Sab).trans (lst_tk (zs := ys ++ [.ref tb]) e2')
          have tkl := lst_tk (zs := ys ++ [.ref tb]) e2'
          rw [hst, z]
          show TqAll K _ _ ((_ ++ (_ ++ [((i, j), F')])).map prR)
          rw [← List.append_assoc, List.map_append]
          exact (t2.on tk).app (.cons (.tup (tkl.sq (SqT.of upd_same)) (.cons (.tup (tkl.sq (SqT.of (Sb _ _ upd_same))) (.cons (.int _) (.cons (.int _) .nil))) (.cons (tx.on tk) .nil))) .nil)
      · rintro σ H2 ⟨s2, ⟨ys, e2, t2⟩, v9, v10, rfl⟩
        exact ⟨s2, ⟨ys, e2, by rw [rdB_succ sl F.ce F.pg i hc]; exact t2⟩, _, _, _, rfl⟩
    · rintro σ H1 ⟨s1, ⟨xs, e1, t1⟩, v8, v9, v10, rfl⟩
      exact ⟨_, rfl, k L xs H1 e1 t1 s1 hL⟩
end
end My
namespace My
open PySem L2
open FK (Flds PRes)
def cmt (rs : List Pr) (g : Nat) : Bool := rs.any fun r => r.2.k == 3 && r.2.gr == g
def cnt (all : List Pr) (F : Flds) : Bool := decide (F.k < 2) || (decide (F.k = 2) && cmt all F.gr)
abbrev Nw := List (Option (Nat × Nat)) × List Int
def nwS (n : Nat) (all : List Pr) (st : Nw) (r : Pr) : Nw := if cnt all r.2 = true ∧ r.2.pl < n ∧ st.2.getD r.2.pl 0 < (r.2.nu : Int) then (st.1.set r.2.pl (some r.1), st.2.set r.2.pl (r.2.nu : Nat)) else st
def nw0 (n : Nat) : Nw := (List.replicate n none, List.replicate n (-1))
def nwF (n : Nat) (all : List Pr) : Nw := all.foldl (nwS n all) (nw0 n)
theorem nwS_len (n : Nat) (all : List Pr) (st : Nw) (r : Pr) : (nwS n all st r).1.length = st.1.length ∧ (nwS n all st r).2.length = st.2.length := by
  unfold nwS
  split
  · exact ⟨List.length_set, List.length_set⟩
  · exact ⟨rfl, rfl⟩
theorem fold_len (n : Nat) (all : List Pr) : ∀ (rs : List Pr) (st : Nw), (rs.foldl (nwS n all) st).1.length = st.1.length ∧ (rs.foldl (nwS n all) st).2.length = st.2.length
  | [], _ => ⟨rfl, rfl⟩
  | r :: rs, st => by
    rw [List.foldl_cons]
    have h := fold_len n all rs (nwS n all st r)
    have h' := nwS_len n all st r
    exact ⟨h.1.trans h'.1, h.2.trans h'.2⟩
theorem take_fold {α β : Type} (f : β → α → β) (st : β) {rs : List α} {i : Nat} {r : α} (h : rs[i]? = some r) : (rs.take (i + 1)).foldl f st = f ((rs.take i).foldl f st) r := by
  rw [List.take_succ, h, List.foldl_append]; rfl
def oS : Option (Nat × Nat) → PyData
  | none => .none
  | some r => spD r
def gK (g : Nat) : Key := Sum.inl (g : Int)
/-- the groups that have a commit -/
def Cmd (kvs : List (Key × V)) (rs : List Pr) : Prop := ∀ g : Nat, (valV kvs (gK g)).isSome = cmt rs g
theorem cmt_app (rs : List Pr) (r : Pr) (g : Nat) : cmt (rs ++ [r]) g = (cmt rs g || (r.2.k == 3 && r.2.gr == g)) := by
  unfold cmt; rw [List.any_append]; simp
theorem gK_ne {a b : Nat} (h : a ≠ b) : gK a ≠ gK b := fun z => h (by have := Sum.inl.inj z; omega)
theorem Cmd.put {kvs : List (Key × V)} {rs : List Pr} (h : Cmd kvs rs) {r : Pr} (hr : r.2.k = 3) (v : V) : Cmd (putK kvs (gK r.2.gr) v) (rs ++ [r]) := fun g => by
  rw [valV_put, cmt_app, ← h g]
  by_cases e : g = r.2.gr
  · subst e
    rw [if_pos rfl]
    have : (r.2.k == 3 && r.2.gr == r.2.gr) = true := by rw [hr]; simp
    rw [this, Bool.or_true]; rfl
  · rw [if_neg (gK_ne e)]
    have : (r.2.k == 3 && r.2.gr == g) = false := by
      have : (r.2.gr == g) = false := by rw [beq_eq_false_iff_ne]; exact fun z => e z.symm
      rw [this, Bool.and_false]
    rw [this, Bool.or_false]
theorem Cmd.skip {kvs : List (Key × V)} {rs : List Pr} (h : Cmd kvs rs) {r : Pr} (hr : r.2.k ≠ 3) : Cmd kvs (rs ++ [r]) := fun g => by
  rw [cmt_app, ← h g]
  have : (r.2.k == 3) = false := by rw [beq_eq_false_iff_ne]; exact hr
  rw [this, Bool.false_and, Bool.or_false]
theorem Cmd.nil : Cmd [] [] := fun g => rfl
theorem prAt {K : PySem.W.Frag} {H : Hp} {xs : List V} {rs : List Pr} {i : Nat} {x : V} (t : TqAll K H xs (rs.map prR)) (hx : xs[i]? = some x) : ∃ r a t1 f, rs[i]? = some r ∧ x = .ref a ∧ SqT K H a [t1, .ref f] ∧ Tq K H t1 (spD r.1) ∧ SqT K H f (fvs r.2) ∧ Tq K H (.ref f) (fdt r.2) := by
  have hl := t.len
  rw [List.length_map] at hl
  have lt : i < rs.length := by rw [← hl]; exact (List.getElem?_eq_some_iff.mp hx).1
  have er : rs[i]? = some rs[i] := List.getElem?_eq_getElem lt
  obtain ⟨v, hv, tv⟩ := t.get (j := i) (d := prR rs[i]) (by rw [List.getElem?_map, er]; rfl)
  rw [hx] at hv
  cases hv
  obtain ⟨a, x0, x1, e, sq, t0, t1⟩ := tq2 (d0 := spD rs[i].1) (d1 := fdt rs[i].2) tv
  cases t1 with
  | tup q u =>
    cases u with | cons u0 u => cases u with | cons u1 u => cases u with | cons u2 u => cases u with | cons u3 u => cases u with | cons u4 u => cases u; exact (by
      cases u0; cases u1; cases u2; cases u3; cases u4
      exact ⟨rs[i], a, x0, _, er, e, sq, t0, q, .tup q (.cons (.str _) (.cons (.int _) (.cons (.int _) (.cons (.int _) (.cons (.int _) .nil)))))⟩)
theorem in_kt : ∀ k < 4, inV (.str (kt k)) [.str "write", .str "trim"] = decide (k < 2) := by decide +kernel
theorem wipeN (a b c d e f g i j k l m n o v u : Option V) : wipe (((wipe ([a, b, c, d, e, f, g, i, j, k, l, m, n, o] : St) [6, 13]).set 6 v).set 13 u) [6, 13] = wipe ([a, b, c, d, e, f, g, i, j, k, l, m, n, o] : St) [6, 13] := rfl
theorem rep_v {α : Type} (n : Nat) (x : α) : (List.replicate n [x]).flatten = List.replicate n x := by
  induction n with
  | zero => rfl
  | succ n ih => rw [List.replicate_succ, List.flatten_cons, ih, List.replicate_succ]; rfl
theorem rep_tq {K : PySem.W.Frag} {H : Hp} (n : Nat) : TqAll K H (List.replicate n V.non) ((nw0 n).1.map oS) := by
  show TqAll K H _ ((List.replicate n none).map oS)
  rw [List.map_replicate]
  induction n with
  | zero => exact .nil
  | succ m ih => exact .cons .non ih
section
variable {P : Program} {w : World} {K : PySem.W.Frag} {mg : Str → Option Value} {base : Heap} {C BK TK : Addr}
abbrev sNewestOf : Stmt := top 64
abbrev nNewestOf : List Str := ["plan", "rows", "places", "committed", "newest", "numbers", "at", "kind", "place", "number", "group", "data", "counts", "fields"]
theorem scNewestOf : FnScope nNewestOf ["plan", "rows"] (defScope sNewestOf) := ⟨rfl, rfl, rfl, by decide +kernel, rfl, by decide +kernel, by decide +kernel⟩
def spNwO (K : PySem.W.Frag) : Sp := fun vs H Q _ => ∃ (pa L : Addr) (b g : Int) (n : Nat) (sl cm : Bool) (xs : List V) (rs : List Pr), vs = [.ref pa, .ref L] ∧ H pa = some (.tup (plV b g n sl cm)) ∧ n ≤ 16 ∧ H L = some (.lst xs) ∧ TqAll K H xs (rs.map prR) ∧ rs.length ≤ 200 ∧ (∀ r ∈ rs, r.2.Ok) ∧
  ∀ q ys H', H' q = some (.tup ys) → TqAll K H' ys ((nwF n rs).1.map oS) → Same H H' → Q (.ref q) H'
set_option maxHeartbeats 8000000 in
theorem okNwO {f : Addr} {fd : FuncData} (D : Df K mg "newest_of" sNewestOf ["plan", "rows"] f fd) (htup : mg "tuple" = none) : FnOk P w K mg base CX0 1 f fd ["plan", "rows"] (spNwO K) := by
  refine D.F.ok scNewestOf (fun vs H Q E h => ?_) (fun cdv A outer s H vs Q E hr h => ?_)
  · obtain ⟨_, _, _, _, _, _, _, _, _, rfl, _⟩ := h; rfl
  · obtain ⟨pa, L, b, g, n, sl, cm, xs, rs, rfl, hp, hn, hL, tx, rl, rok, k⟩ := h
    refine ⟨_, pss_cons (ps_set (i := 2) scNewestOf.nd rfl (Or.inl rfl) (pe_ix ix_tup (pv 0) pe_int (fun _ _ => rfl)))
      (pss_cons (ps_setDc (i := 3) (own := [("at", 6), ("fields", 13)]) (g := gTup K 2 (gCons (gName 6) (gCons (gName 13) gNil))) (by rfl) scNewestOf.nd rfl rfl (sw_trueD rfl rfl rfl (by decide +kernel)) (pi_list (pv 1)) (blkOk_by (own := [("at", 6), ("fields", 13)]) (N := nNewestOf) (sc := defScope sNewestOf) (by decide +kernel)) (fun _ _ _ _ _ => pg_tup (by rfl) (pgs_cons (pg_name (i := 6) scNewestOf.nd rfl (Or.inl rfl)) (pgs_cons (pg_name (i := 13) scNewestOf.nd rfl (Or.inl rfl)) pgs_nil))) (fun _ _ _ _ _ => pts_one (pt_cmpR op_eq (pe_ix (show IxR _ (rIxT K) from ix_tup) (pv 13) pe_int (fun _ _ => rfl)) pe_str (nomark _))) (fun _ _ _ _ _ => pe_ix (show IxR _ (rIxT K) from ix_tup) (pv 13) pe_int (fun _ _ => rfl)) (fun _ _ _ _ _ => pe_bl))
      (pss_cons (ps_set (i := 4) scNewestOf.nd rfl (Or.inl rfl) (pe_op op_rep (pe_lst (pa_cons pe_non pa_nil)) (pv 2)))
      (pss_cons (ps_set (i := 5) scNewestOf.nd rfl (Or.inl rfl) (pe_op op_rep (pe_lst (pa_cons (pe_un un_neg pe_int) pa_nil)) (pv 2)))
      (pss_cons (ps_for PassesOwn.never rfl (pi_list (pv 1)) (pg_tup (by rfl) (pgs_cons (pg_name (i := 6) scNewestOf.nd rfl (Or.inl rfl)) (pgs_cons (pg_tup (by rfl) (pgs_cons (pg_name (i := 7) scNewestOf.nd rfl (Or.inl rfl)) (pgs_cons (pg_name (i := 8) scNewestOf.nd rfl (Or.inl rfl)) (pgs_cons (pg_name (i := 9) scNewestOf.nd rfl (Or.inl rfl)) (pgs_cons (pg_name (i := 10) scNewestOf.nd rfl (Or.inl rfl)) (pgs_cons (pg_name (i := 11) scNewestOf.nd rfl (Or.inl rfl)) pgs_nil)))))) pgs_nil)))
        (pss_cons (ps_set (i := 12) scNewestOf.nd rfl (Or.inl rfl) (pe_or (pe_cmpR op_in_seq (pv 7) (pe_tup (pa_cons pe_str (pa_cons pe_str pa_nil))) (by rfl)) (pe_one (pe_and (pe_cmpR op_eq (pv 7) pe_str (nomark _)) (pe_one (pe_cmp (pc_din (Nat.lt_trans (Nat.add_lt_add_left (show 1 < 64 by decide) _) hr.units) (pv 10) (pv 3)) (by rfl)))))))
        (pss_one (ps_if (PW.pt (pw_and (pt_truth (pv 12) (by intro _; rfl)) (pw_and (pt_cmpR op_lt (pv 8) (pv 2) (nomark _)) (pw_and1 (pt_cmpR op_gt (pv 9) (pe_ix ix_list (pv 5) (pv 8) (fun _ _ => rfl)) (nomark _))))))
          (pss_cons (ps_asg (pv 6) (pg_sub (pv 4) (pv 8) set_list))
          (pss_one (ps_asg (pv 9) (pg_sub (pv 5) (pv 8) set_list))))
          pss_nil))))
      (pss_one (ps_ret (pe_callTy call_tuple_of (by rfl) htup (by decide +kernel) (pa_cons (pv 4) pa_nil)))))))), ?_⟩
    refine ⟨_, rfl, pa, _, _, _, rfl, rfl, SqT.of hp, atI_nat (j := 2) rfl, ?_⟩
    refine ⟨_, rfl, L, rfl, ⟨xs, SqL.of hL⟩, fun DD hDD => ?_⟩
    refine dc_list (K := K) (a := L) (xs := xs) (fun i HH => Same H HH ∧ ∃ kvs, HH DD = some (.dK kvs) ∧ kvs.length ≤ i ∧ Cmd kvs (rs.take i)) ⟨same_new hDD, [], upd_same, Nat.le_refl _, Cmd.nil⟩ (fun i HH _ h => SqL.of (h.1 _ _ hL)) ?_ ?_
    · rintro i x HH hx ⟨sm, kvs, eD, kl, cd⟩
      obtain ⟨r, a, t1, fa, er, rfl, sq, tr, sqf, tf⟩ := prAt tx hx
      have lt := (List.getElem?_eq_some_iff.mp hx).1
      have hxl := tx.len
      rw [List.length_map] at hxl
      have et : rs.take (i + 1) = rs.take i ++ [r] := by rw [List.take_succ, er]; rfl
      have ok := rok r (List.mem_of_getElem? er)
      refine ⟨a, _, rfl, (same_tk sm).sq sq, rfl, _, _, rfl, _, _, rfl, rfl, wipeN _ _ _ _ _ _ _ _ _ _ _ _ _ _ _ _, ?_⟩
      have ek : decide (V.str (kt r.2.k) = V.str "commit") = decide (r.2.k = 3) := kt_eq r.2.k 3 ok.k (by decide)
      by_cases h3 : r.2.k = 3
      · refine ⟨_, rfl, fa, _, _, _, rfl, rfl, (same_tk sm).sq sqf, at0c, rfl, true, congrArg V.bl (ek.trans (decide_eq_true h3)), iteT ?_⟩
        refine ⟨_, rfl, fa, _, _, _, rfl, rfl, (same_tk sm).sq sqf, atI_nat (j := 3) rfl, kvs, gK r.2.gr, eD, rfl, small1000 (by omega), same_upd hDD sm, _, upd_same, ?_, ?_⟩
        · have := length_putK kvs (gK r.2.gr) (.bl true); omega
        · rw [et]; exact cd.put h3 _
      · refine ⟨_, rfl, fa, _, _, _, rfl, rfl, (same_tk sm).sq sqf, at0c, rfl, false, congrArg V.bl (ek.trans (decide_eq_false h3)), iteF ?_⟩
        exact ⟨sm, kvs, eD, by omega, by rw [et]; exact cd.skip h3⟩
    rintro HH ⟨sm, kvs, eD, kl, cd⟩
    have hxl := tx.len
    rw [List.length_map] at hxl
    rw [hxl, List.take_length] at cd
    refine ⟨(by show 1 ≤ sizeLine; decide), fun t0 ht0 => ?_⟩
    have S0 := same_new (o := .lst [V.non]) ht0
    have hs : sizeLine = 16777216 := sizeLine_eq
    refine ⟨_, rfl, t0, n, _, rfl, rfl, upd_same, by omega, by omega, (by show 1 * n ≤ sizeLine; omega), fun L4 h4 => ?_⟩
    have S4 := same_new (o := .lst (List.replicate ((n : Nat) : Int).toNat [V.non]).flatten) h4
    refine ⟨_, rfl, (by show 1 ≤ sizeLine; decide), fun t2 ht2 => ?_⟩
    have S2 := same_new (o := .lst [V.int (-1)]) ht2
    refine ⟨_, rfl, t2, n, _, rfl, rfl, upd_same, by omega, by omega, (by show 1 * n ≤ sizeLine; omega), fun L5 h5 => ?_⟩
    have S5 := same_new (o := .lst (List.replicate ((n : Nat) : Int).toNat [V.int (-1)]).flatten) h5
    have n45 : L4 ≠ L5 := ne_of_none (S2 _ _ (at_new h4 (o := .lst (List.replicate ((n : Nat) : Int).toNat [V.non]).flatten))) h5
    have f4 : HH L4 = none := free_same S0 h4
    have f5 : HH L5 = none := free_same ((S0.trans S4).trans S2) h5
    have e4 := (S2.trans S5) _ _ (at_new h4 (o := .lst (List.replicate ((n : Nat) : Int).toNat [V.non]).flatten))
    have e5 := at_new h5 (o := .lst (List.replicate ((n : Nat) : Int).toNat [V.int (-1)]).flatten)
    have SS := ((S0.trans S4).trans S2).trans S5
    generalize (upd (upd (upd (upd HH t0 (.lst [V.non])) L4 (.lst (List.replicate ((n : Nat) : Int).toNat [V.non]).flatten)) t2 (.lst [V.int (-1)])) L5 (.lst (List.replicate ((n : Nat) : Int).toNat [V.int (-1)]).flatten)) = H5 at e4 e5 SS ⊢
    rw [Int.toNat_natCast, rep_v] at e4 e5
    have ty0 : TqAll K H5 (List.replicate n V.non) ((nw0 n).1.map oS) := rep_tq n
    refine ⟨_, rfl, L, rfl, ⟨xs, SqL.of (SS _ _ (sm _ _ hL))⟩, for_list (K := K) (a := L) (xs := xs) (fun i σ H1 => Same HH H1 ∧ (∃ ys, H1 L4 = some (.lst ys) ∧ TqAll K H1 ys (((rs.take i).foldl (nwS n rs) (nw0 n)).1.map oS)) ∧ H1 L5 = some (.lst (((rs.take i).foldl (nwS n rs) (nw0 n)).2.map V.int)) ∧ ∃ v6 v7 v8 v9 v10 v11 v12 : Option V, σ = [some (.ref pa), some (.ref L), some (.int (n : Nat)), some (.ref DD), some (.ref L4), some (.ref L5), v6, v7, v8, v9, v10, v11, v12, none]) ⟨SS, ⟨_, e4, ty0⟩, by rw [e5]; show some (HO.lst _) = some (HO.lst ((List.replicate n (-1)).map V.int)); rw [List.map_replicate], _, _, _, _, _, _, _, rfl⟩ (fun i σ H1 _ h => SqL.of (h.1 _ _ (sm _ _ hL))) ?_ ?_⟩
    · rintro i x σ H1 hx ⟨s1, ⟨ys, e4, ty⟩, e5, v6, v7, v8, v9, v10, v11, v12, rfl⟩
      obtain ⟨r, a, t1, fa, er, rfl, sq, tr, sqf, tfd⟩ := prAt tx hx
      have ok := rok r (List.mem_of_getElem? er)
      have tf : (rs.take (i + 1)).foldl (nwS n rs) (nw0 n) = nwS n rs ((rs.take i).foldl (nwS n rs) (nw0 n)) r := take_fold _ _ er
      have ln1 : ((rs.take i).foldl (nwS n rs) (nw0 n)).1.length = n := ((fold_len n rs _ _).1).trans List.length_replicate
      have ln2 : ((rs.take i).foldl (nwS n rs) (nw0 n)).2.length = n := ((fold_len n rs _ _).2).trans List.length_replicate
      generalize (rs.take i).foldl (nwS n rs) (nw0 n) = st at ty e5 tf ln1 ln2
      have k1 := (same_tk (sm.trans s1))
      refine ⟨a, _, rfl, k1.sq sq, rfl, _, _, rfl, _, _, rfl, fa, _, rfl, k1.sq sqf, rfl, _, _, rfl, _, _, rfl, _, _, rfl, _, _, rfl, _, _, rfl, rfl, rfl, ?_⟩
      refine ⟨_, rfl, (by show 2 ≤ sizeLine; decide), fun tt htt => ?_⟩
      have ST := same_new (o := .tup [.str "write", .str "trim"]) htt
      have tr := tr.on k1
      have stay : ∀ {H2 : Hp}, Same H1 H2 → ¬ (cnt rs r.2 = true ∧ r.2.pl < n ∧ st.2.getD r.2.pl 0 < (r.2.nu : Int)) → (∃ ys, H2 L4 = some (.lst ys) ∧ TqAll K H2 ys (((rs.take (i + 1)).foldl (nwS n rs) (nw0 n)).1.map oS)) ∧ H2 L5 = some (.lst (((rs.take (i + 1)).foldl (nwS n rs) (nw0 n)).2.map V.int)) := fun S z => by
        have eS : nwS n rs st r = st := by unfold nwS; rw [if_neg z]
        rw [tf, eS]
        exact ⟨⟨ys, S _ _ e4, ty.on (same_tk S)⟩, S _ _ e5⟩
      have ein : inV (.str (kt r.2.k)) [.str "write", .str "trim"] = decide (r.2.k < 2) := in_kt _ ok.k
      refine ⟨tt, _, rfl, .inr (SqT.of upd_same), rfl, rfl, ?_⟩
      by_cases h2 : r.2.k < 2
      · refine ⟨true, congrArg V.bl (ein.trans (decide_eq_true h2)), iteT ?_⟩
        have hct : cnt rs r.2 = true := by unfold cnt; rw [decide_eq_true h2]; rfl
        generalize upd H1 tt (.tup [.str "write", .str "trim"]) = H2 at ST ⊢
        refine ⟨_, rfl, true, rfl, iteT ?_⟩
        by_cases hpl : r.2.pl < n
        rotate_left
        · refine ⟨_, rfl, _, rfl, _, _, rfl, rfl, false, congrArg V.bl (decide_eq_false (by omega)), iteF (iteF ⟨s1.trans ST, (stay ST (fun z => hpl z.2.1)).1, (stay ST (fun z => hpl z.2.1)).2, _, _, _, _, _, _, _, rfl⟩)⟩
        obtain ⟨m, hm⟩ : ∃ m, st.2[r.2.pl]? = some m := ⟨_, List.getElem?_eq_getElem (by rw [ln2]; exact hpl)⟩
        have gm : st.2.getD r.2.pl 0 = m := by rw [List.getD_eq_getElem?_getD, hm]; rfl
        refine ⟨_, rfl, _, rfl, _, _, rfl, rfl, true, congrArg V.bl (decide_eq_true (by omega)), iteT ?_⟩
        by_cases hnu : m < (r.2.nu : Int)
        rotate_left
        · refine ⟨_, rfl, _, rfl, _, rfl, L5, _, _, _, rfl, rfl, SqL.of (ST _ _ e5), atI_nat (by rw [List.getElem?_map, hm]; rfl), _, _, rfl, rfl, false, congrArg V.bl (decide_eq_false hnu), iteF ⟨s1.trans ST, (stay ST (fun z => hnu (by rw [← gm]; exact z.2.2))).1, (stay ST (fun z => hnu (by rw [← gm]; exact z.2.2))).2, _, _, _, _, _, _, _, rfl⟩⟩
        refine ⟨_, rfl, _, rfl, _, rfl, L5, _, _, _, rfl, rfl, SqL.of (ST _ _ e5), atI_nat (by rw [List.getElem?_map, hm]; rfl), _, _, rfl, rfl, true, congrArg V.bl (decide_eq_true hnu), iteT ?_⟩
        have e4' := ST _ _ e4
        refine ⟨_, rfl, _, rfl, _, rfl, L4, _, _, r.2.pl, rfl, rfl, e4', ixN_nat (by rw [ty.len, List.length_map, ln1]; exact hpl), ?_⟩
        have e5' : upd H2 L4 (.lst (ys.set r.2.pl t1)) L5 = some (.lst (st.2.map V.int)) := by rw [upd_ne n45.symm]; exact ST _ _ e5
        refine ⟨_, rfl, _, rfl, _, rfl, L5, _, _, r.2.pl, rfl, rfl, e5', ixN_nat (by rw [List.length_map, ln2]; exact hpl), ?_⟩
        have tk1 := lst_tk (zs := ys.set r.2.pl t1) e4'
        have tk2 := lst_tk (zs := (st.2.map V.int).set r.2.pl (.int (r.2.nu : Nat))) e5'
        have eS : nwS n rs st r = (st.1.set r.2.pl (some r.1), st.2.set r.2.pl (r.2.nu : Nat)) := by unfold nwS; rw [if_pos ⟨hct, hpl, by rw [gm]; exact hnu⟩]
        refine ⟨same_upd f5 (same_upd f4 (s1.trans ST)), ⟨ys.set r.2.pl t1, by rw [upd_ne n45]; exact upd_same, ?_⟩, ?_, _, _, _, _, _, _, _, rfl⟩
        · rw [tf, eS]
          show TqAll K _ _ ((st.1.set r.2.pl (some r.1)).map oS)
          rw [List.map_set]
          exact ((ty.on (same_tk ST)).on (tk1.trans tk2)).set r.2.pl ((tr.on (same_tk ST)).on (tk1.trans tk2))
        · rw [upd_same, tf, eS]
          show some (HO.lst ((List.map V.int st.2).set r.2.pl (.int (r.2.nu : Nat)))) = some (HO.lst (List.map V.int (st.2.set r.2.pl (r.2.nu : Nat))))
          rw [List.map_set]
      · refine ⟨false, congrArg V.bl (ein.trans (decide_eq_false h2)), iteF ?_⟩
        have em : decide (V.str (kt r.2.k) = V.str "member") = decide (r.2.k = 2) := kt_eq r.2.k 2 ok.k (by decide)
        generalize upd H1 tt (.tup [.str "write", .str "trim"]) = H2 at ST ⊢
        by_cases h3 : r.2.k = 2
        rotate_left
        · have hcf : ¬ cnt rs r.2 = true := by unfold cnt; rw [decide_eq_false h2, decide_eq_false h3]; exact Bool.false_ne_true
          refine ⟨_, rfl, rfl, false, congrArg V.bl (em.trans (decide_eq_false h3)), iteF ?_⟩
          exact ⟨_, rfl, false, rfl, iteF (iteF ⟨s1.trans ST, (stay ST fun z => hcf z.1).1, (stay ST fun z => hcf z.1).2, _, _, _, _, _, _, _, rfl⟩)⟩
        refine ⟨_, rfl, rfl, true, congrArg V.bl (em.trans (decide_eq_true h3)), iteT ?_⟩
        have eDD : H2 DD = some (.dK kvs) := ST _ _ (s1 _ _ eD)
        have cg := cd r.2.gr
        cases hv : valV kvs (gK r.2.gr) with
        | none =>
          have hcf : ¬ cnt rs r.2 = true := by unfold cnt; rw [decide_eq_false h2, ← cg, hv]; simp
          refine ⟨_, rfl, _, rfl, DD, none, rfl, (hv ▸ DGet.k eDD : DGet H2 DD (kV (gK r.2.gr)) none), ?_⟩
          exact ⟨_, rfl, false, rfl, iteF (iteF ⟨s1.trans ST, (stay ST fun z => hcf z.1).1, (stay ST fun z => hcf z.1).2, _, _, _, _, _, _, _, rfl⟩)⟩
        | some v0 =>
          have hct : cnt rs r.2 = true := by unfold cnt; rw [decide_eq_true h3, ← cg, hv]; simp
          refine ⟨_, rfl, _, rfl, DD, some v0, rfl, (hv ▸ DGet.k eDD : DGet H2 DD (kV (gK r.2.gr)) (some v0)), ?_⟩
          refine ⟨_, rfl, true, rfl, iteT ?_⟩
          by_cases hpl : r.2.pl < n
          rotate_left
          · refine ⟨_, rfl, _, rfl, _, _, rfl, rfl, false, congrArg V.bl (decide_eq_false (by omega)), iteF (iteF ⟨s1.trans ST, (stay ST (fun z => hpl z.2.1)).1, (stay ST (fun z => hpl z.2.1)).2, _, _, _, _, _, _, _, rfl⟩)⟩
          obtain ⟨m, hm⟩ : ∃ m, st.2[r.2.pl]? = some m := ⟨_, List.getElem?_eq_getElem (by rw [ln2]; exact hpl)⟩
          have gm : st.2.getD r.2.pl 0 = m := by rw [List.getD_eq_getElem?_getD, hm]; rfl
          refine ⟨_, rfl, _, rfl, _, _, rfl, rfl, true, congrArg V.bl (decide_eq_true (by omega)), iteT ?_⟩
          by_cases hnu : m < (r.2.nu : Int)
          rotate_left
          · refine ⟨_, rfl, _, rfl, _, rfl, L5, _, _, _, rfl, rfl, SqL.of (ST _ _ e5), atI_nat (by rw [List.getElem?_map, hm]; rfl), _, _, rfl, rfl, false, congrArg V.bl (decide_eq_false hnu), iteF ⟨s1.trans ST, (stay ST (fun z => hnu (by rw [← gm]; exact z.2.2))).1, (stay ST (fun z => hnu (by rw [← gm]; exact z.2.2))).2, _, _, _, _, _, _, _, rfl⟩⟩
          refine ⟨_, rfl, _, rfl, _, rfl, L5, _, _, _, rfl, rfl, SqL.of (ST _ _ e5), atI_nat (by rw [List.getElem?_map, hm]; rfl), _, _, rfl, rfl, true, congrArg V.bl (decide_eq_true hnu), iteT ?_⟩
          have e4' := ST _ _ e4
          refine ⟨_, rfl, _, rfl, _, rfl, L4, _, _, r.2.pl, rfl, rfl, e4', ixN_nat (by rw [ty.len, List.length_map, ln1]; exact hpl), ?_⟩
          have e5' : upd H2 L4 (.lst (ys.set r.2.pl t1)) L5 = some (.lst (st.2.map V.int)) := by rw [upd_ne n45.symm]; exact ST _ _ e5
          refine ⟨_, rfl, _, rfl, _, rfl, L5, _, _, r.2.pl, rfl, rfl, e5', ixN_nat (by rw [List.length_map, ln2]; exact hpl), ?_⟩
          have tk1 := lst_tk (zs := ys.set r.2.pl t1) e4'
          have tk2 := lst_tk (zs := (st.2.map V.int).set r.2.pl (.int (r.2.nu : Nat))) e5'
          have eS : nwS n rs st r = (st.1.set r.2.pl (some r.1), st.2.set r.2.pl (r.2.nu : Nat)) := by unfold nwS; rw [if_pos ⟨hct, hpl, by rw [gm]; exact hnu⟩]
          refine ⟨same_upd f5 (same_upd f4 (s1.trans ST)), ⟨ys.set r.2.pl t1, by rw [upd_ne n45]; exact upd_same, ?_⟩, ?_, _, _, _, _, _, _, _, rfl⟩
          · rw [tf, eS]
            show TqAll K _ _ ((st.1.set r.2.pl (some r.1)).map oS)
            rw [List.map_set]
            exact ((ty.on (same_tk ST)).on (tk1.trans tk2)).set r.2.pl ((tr.on (same_tk ST)).on (tk1.trans tk2))
          · rw [upd_same, tf, eS]
            show some (HO.lst ((List.map V.int st.2).set r.2.pl (.int (r.2.nu : Nat)))) = some (HO.lst (List.map V.int (st.2.set r.2.pl (r.2.nu : Nat))))
            rw [List.map_set]
    · rintro σ H1 ⟨s1, ⟨ys, e4, ty⟩, e5, v6, v7, v8, v9, v10, v11, v12, rfl⟩
      rw [hxl, List.take_length] at ty
      refine ⟨_, rfl, L4, ys, rfl, .inl ⟨SqL.of e4, fun q hq => ?_⟩⟩
      have Sq := same_new (o := .tup ys) hq
      exact k q ys _ upd_same (ty.on (same_tk Sq)) ((sm.trans s1).trans Sq)
end
end My
namespace My
open PySem L2
open FK (Flds PRes)
theorem finN_ok {b : Bool} {x : Nat} {F : Flds} (h : PRes.fl (finN b x) = some F) : F.Ok := by
  have of : ∀ (m : Flds → PRes) (n : Nat), (m = .good ∨ m = .mended) → PRes.fl (ofN m n) = some F → F.Ok := fun m n hm h => by
    unfold ofN at h
    by_cases ho : FK.okB (FK.decF n) = true
    · rw [if_pos ho] at h
      rcases hm with rfl | rfl
      · cases h; exact (FK.okB_iff _).mp ho
      · cases h; exact (FK.okB_iff _).mp ho
    · rw [if_neg ho] at h; cases h
  rw [finN_niw] at h
  cases e : niw b x with
  | good n => rw [e] at h; exact of .good n (.inl rfl) h
  | mended n m => rw [e] at h; exact of .mended n (.inr rfl) h
  | spoilt => rw [e] at h; cases h
theorem rd_ok {b : Bool} {c : Cl} {F : Flds} (h : c.rd b = some F) : F.Ok := by
  cases c with
  | word x d1 d2 => exact finN_ok h
  | blank => cases h
  | torn => cases h
theorem rdB_mem {b : Bool} {ce : List (List Cl)} {g i : Nat} {r : Pr} (h : r ∈ rdB b ce g i) : r.1.1 < i ∧ r.1.2 < g ∧ r.2.Ok := by
  unfold rdB at h
  obtain ⟨m, hm, h⟩ := List.mem_flatMap.mp h
  unfold rdP at h
  obtain ⟨j, hj, h⟩ := List.mem_filterMap.mp h
  cases e : (ce.getD m [])[j]? with
  | none => rw [e] at h; cases h
  | some c =>
    rw [e] at h
    have h : (c.rd b).map (fun F => ((m, j), F)) = some r := h
    cases e2 : c.rd b with
    | none => rw [e2] at h; cases h
    | some F =>
      rw [e2] at h
      cases h
      exact ⟨List.mem_range.mp hm, List.mem_range.mp hj, rd_ok e2⟩
theorem nwS_mem {n : Nat} {all : List Pr} {st : Nw} {r : Pr} {q : Nat × Nat} (h : some q ∈ (nwS n all st r).1) : some q ∈ st.1 ∨ q = r.1 := by
  unfold nwS at h
  split at h
  · rcases List.mem_or_eq_of_mem_set h with z | z
    · exact .inl z
    · exact .inr (Option.some.inj z)
  · exact .inl h
theorem nwF_mem {n : Nat} {all : List Pr} {q : Nat × Nat} : ∀ (rs : List Pr) (st : Nw), some q ∈ (rs.foldl (nwS n all) st).1 → some q ∈ st.1 ∨ ∃ r ∈ rs, q = r.1
  | [], _, h => .inl h
  | r :: rs, st, h => by
    rw [List.foldl_cons] at h
    rcases nwF_mem rs _ h with z | ⟨r', hr, e⟩
    · rcases nwS_mem z with z | z
      · exact .inl z
      · exact .inr ⟨r, .head _, z⟩
    · exact .inr ⟨r', .tail _ hr, e⟩
theorem newest_lt {b : Bool} {ce : List (List Cl)} {g i n : Nat} {q : Nat × Nat} (h : some q ∈ (nwF n (rdB b ce g i)).1) : q.1 < i ∧ q.2 < g := by
  rcases nwF_mem _ _ h with z | ⟨r, hr, rfl⟩
  · have : some q = none := List.eq_of_mem_replicate z
    cases this
  · have := rdB_mem hr
    exact ⟨this.1, this.2.1⟩
def lvS (m : List Nat) : Option (Nat × Nat) → List Nat
  | none => m
  | some r => m.set r.1 (m.getD r.1 0 + 1)
def lvF (nb : Nat) (nw : List (Option (Nat × Nat))) : List Nat := nw.foldl lvS (List.replicate nb 0)
theorem lv_len : ∀ (nw : List (Option (Nat × Nat))) (m : List Nat), (nw.foldl lvS m).length = m.length
  | [], _ => rfl
  | o :: nw, m => by
    rw [List.foldl_cons, lv_len nw]
    cases o with
    | none => rfl
    | some r => exact List.length_set
theorem nwAt {K : PySem.W.Frag} {H : Hp} {ys : List V} {nw : List (Option (Nat × Nat))} {i : Nat} {x : V} (t : TqAll K H ys (nw.map oS)) (hx : ys[i]? = some x) : (nw[i]? = some none ∧ x = .non) ∨ ∃ r a, nw[i]? = some (some r) ∧ x = .ref a ∧ SqT K H a [.int (r.1 : Nat), .int (r.2 : Nat)] := by
  have hl := t.len
  rw [List.length_map] at hl
  have lt : i < nw.length := by rw [← hl]; exact (List.getElem?_eq_some_iff.mp hx).1
  have er : nw[i]? = some nw[i] := List.getElem?_eq_getElem lt
  obtain ⟨v, hv, tv⟩ := t.get (j := i) (d := oS nw[i]) (by rw [List.getElem?_map, er]; rfl)
  rw [hx] at hv
  cases hv
  cases e : nw[i] with
  | none =>
    rw [e] at tv er
    exact .inl ⟨er, tq_non tv⟩
  | some r =>
    rw [e] at tv er
    obtain ⟨a, x0, x1, e', sq, t0, t1⟩ := tq2 (d0 := .int (r.1 : Nat)) (d1 := .int (r.2 : Nat)) tv
    rw [tq_int t0, tq_int t1] at sq
    exact .inr ⟨r, a, er, e', sq⟩
section
variable {P : Program} {w : World} {K : PySem.W.Frag} {mg : Str → Option Value} {base : Heap} {C BK TK : Addr}
abbrev sLivingPages : Stmt := top 69
abbrev nLivingPages : List Str := ["plan", "flash", "many", "at"]
theorem scLivingPages : FnScope nLivingPages ["plan", "flash"] (defScope sLivingPages) := ⟨rfl, rfl, rfl, by decide +kernel, rfl, by decide +kernel, by decide +kernel⟩
def lvOf (F : Fl) (n : Nat) (sl : Bool) : List Nat := lvF F.nb (nwF n (rdB sl F.ce F.pg F.nb)).1
def spLvP (K : PySem.W.Frag) (C : Addr) : Sp := fun vs H Q _ => ∃ pa p h F n sl cm, vs = [.ref pa, .ref p] ∧ PF K C H pa p h F n sl cm ∧ ∀ q H', H' q = some (.tup ((lvOf F n sl).map fun m => V.int (m : Nat))) → Same H H' → Q (.ref q) H'
set_option maxHeartbeats 8000000 in
theorem okLvP {f fN fR : Addr} {fd fdN fdR : FuncData} (D : Df K mg "living_pages" sLivingPages ["plan", "flash"] f fd) (DN : Df K mg "newest_of" sNewestOf ["plan", "rows"] fN fdN) (GN : FnOk P w K mg base CX0 1 fN fdN ["plan", "rows"] (spNwO K)) (DR : Df K mg "pages_read" sPagesRead ["plan", "flash"] fR fdR) (GR : FnOk P w K mg base CX0 2 fR fdR ["plan", "flash"] (spPgR K C)) (htup : mg "tuple" = none) : FnOk P w K mg base CX0 3 f fd ["plan", "flash"] (spLvP K C) := by
  refine D.F.ok scLivingPages (fun vs H Q E h => ?_) (fun cdv A outer s H vs Q E hr h => ?_)
  · obtain ⟨_, _, _, _, _, _, _, rfl, _⟩ := h; rfl
  · obtain ⟨pa, p, h, F, n, sl, cm, rfl, pf, k⟩ := h
    have hr1 := hr.mono (show 1 ≤ 2 by decide)
    have nb8 := pf.fa.nb
    have pg8 := pf.fa.pg
    refine ⟨_, pss_cons (ps_set (i := 2) scLivingPages.nd rfl (Or.inl rfl) (pe_op op_rep (pe_lst (pa_cons pe_int pa_nil)) (pe_ix ix_tup (pv 0) pe_int (fun _ _ => rfl))))
      (pss_cons (ps_for PassesOwn.never rfl (pi_tup (pc DN GN hr1 (pa_cons (pv 0) (pa_cons (pc DR GR hr (pa_cons (pv 0) (pa_cons (pv 1) pa_nil))) pa_nil)))) (pg_name (i := 3) scLivingPages.nd rfl (Or.inl rfl))
        (pss_one (ps_if (pt_cmpR op_notN (pv 3) pe_non (nomark _))
          (pss_one (ps_augS (pv 2) (pe_ix ix_tup (pv 3) pe_int (fun _ _ => rfl)) get_listN pe_int ip_add set_list))
          pss_nil)))
      (pss_one (ps_ret (pe_callTy call_tuple_of (by rfl) htup (by decide +kernel) (pa_cons (pv 2) pa_nil))))), ?_⟩
    refine ⟨(by show 1 ≤ sizeLine; decide), fun t0 ht0 => ?_⟩
    have S0 := same_new (o := .lst [V.int 0]) ht0
    have hs : sizeLine = 16777216 := sizeLine_eq
    refine ⟨_, rfl, pa, _, _, _, rfl, rfl, SqT.of (S0 _ _ pf.e), atI_nat (j := 0) rfl, t0, F.nb, _, rfl, rfl, upd_same, by omega, by omega, (by show 1 * F.nb ≤ sizeLine; omega), fun L hL => ?_⟩
    have S1 := same_new (o := .lst (List.replicate ((F.nb : Nat) : Int).toNat [V.int 0]).flatten) hL
    have fL : H L = none := free_same S0 hL
    have SS := S0.trans S1
    have eL := at_new hL (o := .lst (List.replicate ((F.nb : Nat) : Int).toNat [V.int 0]).flatten)
    generalize upd (upd H t0 (.lst [V.int 0])) L (.lst (List.replicate ((F.nb : Nat) : Int).toNat [V.int 0]).flatten) = H1 at SS eL ⊢
    rw [Int.toNat_natCast, rep_v] at eL
    refine ⟨_, rfl, _, rfl, _, rfl, pa, p, h, F, n, sl, cm, rfl, pf.same SS, fun L2 xs H2 e2 t2 S2 f2 => ?_⟩
    refine ⟨pa, L2, F.nb, F.pg, n, sl, cm, xs, rdB sl F.ce F.pg F.nb, rfl, S2 _ _ (SS _ _ pf.e), pf.n1.2, e2, t2, ?_, fun r hr => (rdB_mem hr).2.2, fun q ys H3 e3 t3 S3 => ?_⟩
    · have h1 := rdB_len sl F.ce F.pg F.nb
      have h3 : F.nb * F.pg ≤ 8 * 8 := Nat.mul_le_mul (by omega) (by omega)
      omega
    have S13 := S2.trans S3
    have hl := t3.len
    rw [List.length_map] at hl
    generalize hnw : (nwF n (rdB sl F.ce F.pg F.nb)).1 = nw at t3 hl
    have k : ∀ q H', H' q = some (.tup ((lvF F.nb nw).map fun m => V.int (m : Nat))) → Same H H' → Q (.ref q) H' := by rw [← hnw]; exact k
    have lt : ∀ r, some r ∈ nw → r.1 < F.nb := fun r hr => by rw [← hnw] at hr; exact (newest_lt hr).1
    refine ⟨q, rfl, ⟨ys, SqT.of e3⟩, for_tup (K := K) (a := q) (xs := ys) (fun i σ H' => Same H H' ∧ TupK H3 H' ∧ H' q = some (.tup ys) ∧ H' L = some (.lst (((nw.take i).foldl lvS (List.replicate F.nb 0)).map fun m => V.int (m : Nat))) ∧ ∃ v3 : Option V, σ = [some (.ref pa), some (.ref p), some (.ref L), v3]) ⟨SS.trans S13, same_tk (Same.refl _), e3, by rw [S13 _ _ eL]; show some (HO.lst _) = some (HO.lst ((List.replicate F.nb 0).map fun m => V.int ((m : Nat) : Int))); rw [List.map_replicate]; rfl, _, rfl⟩ (fun i σ H' _ h => SqT.of h.2.2.1) ?_ ?_⟩
    · rintro i x σ H' hx ⟨s', k', e', eL', v3, rfl⟩
      rcases nwAt t3 hx with ⟨eo, rfl⟩ | ⟨r, a, eo, rfl, sq⟩
      · refine ⟨_, rfl, rfl, false, rfl, iteF ?_⟩
        exact ⟨s', k', e', by rw [take_fold lvS _ eo]; exact eL', _, rfl⟩
      · refine ⟨_, rfl, rfl, true, rfl, iteT ?_⟩
        have hlt := lt r (List.mem_of_getElem? eo)
        have ll : ((nw.take i).foldl lvS (List.replicate F.nb 0)).length = F.nb := (lv_len _ _).trans List.length_replicate
        generalize hm : (nw.take i).foldl lvS (List.replicate F.nb 0) = m at eL' ll
        obtain ⟨c, hc⟩ : ∃ c, m[r.1]? = some c := ⟨_, List.getElem?_eq_getElem (by rw [ll]; exact hlt)⟩
        refine ⟨_, rfl, _, rfl, a, _, _, _, rfl, rfl, k'.sq sq, at0c, L, _, r.1, .int (c : Nat), rfl, rfl, SqL.of eL', by rw [List.getElem?_map, hc]; rfl, _, _, rfl, rfl, L, _, _, r.1, rfl, rfl, eL', ixN_nat (by rw [List.length_map, ll]; exact hlt), ?_⟩
        have nq : q ≠ L := fun z => by rw [z, eL'] at e'; cases e'
        refine ⟨same_upd fL s', k'.trans (lst_tk eL'), by rw [upd_ne nq]; exact e', ?_, _, rfl⟩
        rw [upd_same, take_fold lvS _ eo, hm]
        show some (HO.lst ((List.map (fun m => V.int ((m : Nat) : Int)) m).set r.1 (.int ((c : Nat) + 1)))) = some (HO.lst (List.map (fun m => V.int ((m : Nat) : Int)) (m.set r.1 (m.getD r.1 0 + 1))))
        rw [List.map_set, List.getD_eq_getElem?_getD, hc]
        rfl
    · rintro σ H' ⟨s', k', e', eL', v3, rfl⟩
      rw [hl, List.take_length] at eL'
      exact ⟨_, rfl, L, _, rfl, .inl ⟨SqL.of eL', fun q' hq' => k q' _ upd_same (s'.trans (same_new hq'))⟩⟩
abbrev sLiving : Stmt := top 74
abbrev nLiving : List Str := ["plan", "flash"]
theorem scLiving : FnScope nLiving ["plan", "flash"] (defScope sLiving) := ⟨rfl, rfl, rfl, by decide +kernel, rfl, by decide +kernel, by decide +kernel⟩
theorem okLiv {f fF fL : Addr} {fd fdF fdL : FuncData} (D : Df K mg "living" sLiving ["plan", "flash"] f fd) (DF : Df K mg "look_at_flash" sLookFlash ["plan", "flash"] fF fdF) (GF : FnOk P w K mg base CX0 5 fF fdF ["plan", "flash"] (spLookFlash K C)) (DL : Df K mg "living_pages" sLivingPages ["plan", "flash"] fL fdL) (GL : FnOk P w K mg base CX0 3 fL fdL ["plan", "flash"] (spLvP K C)) : FnOk P w K mg base CX0 6 f fd ["plan", "flash"] (spLvP K C) := by
  refine D.F.ok scLiving (fun vs H Q E h => ?_) (fun cdv A outer s H vs Q E hr h => ?_)
  · obtain ⟨_, _, _, _, _, _, _, rfl, _⟩ := h; rfl
  · obtain ⟨pa, p, h, F, n, sl, cm, rfl, pf, k⟩ := h
    refine ⟨_, pss_cons (ps_expr (pc DF GF hr (pa_cons (pv 0) (pa_cons (pv 1) pa_nil))))
      (pss_one (ps_ret (pc DL GL (hr.mono (show 3 ≤ 5 by decide)) (pa_cons (pv 0) (pa_cons (pv 1) pa_nil))))), ?_⟩
    exact ⟨_, rfl, _, rfl, pa, p, h, F, n, sl, cm, rfl, pf, fun H1 S1 => ⟨_, rfl, _, rfl, pa, p, h, F, n, sl, cm, rfl, pf.same S1, fun q H' e S => k q H' e (S1.trans S)⟩⟩
end
end My
namespace My
open PySem L2
abbrev names22 : List Str := ["NoWidth", "NoNumber", "NoWord", "NoFields", "NoWeather", "NoBlock", "NoPage", "NoPlan", "NoFlash", "NoOrder", "NoOrders", "NoPlace", "NoPaper", "NoText", "NoLine", "Off", "Written", "Bad", "Spoilt", "NoRoom", "Worn", "Over"]
structure Mk22 (K : PySem.W.Frag) (mg : Str → Option Value) (ca : Nat → Addr) : Prop where
  m : ∀ i x, names22[i]? = some x → mg x = some (.ref (ca i))
  k : ∀ j i, j < 22 → i < 22 → PySem.W.kitOne K (.ref (ca j)) (.ref (ca i)) = some (decide (i = j))
  x : ∀ j, j < 22 → PySem.W.XC K (ca j)
  v : ∀ j, j < 22 → PySem.W.kitOne K (.ref (ca j)) (.type "ValueError") = some true
section
variable {P : Program} {w : World} {K : PySem.W.Frag} {mg : Str → Option Value} {base : Heap}
abbrev sMarks : Stmt := top 83
abbrev nMarks : List Str := ["_law_e", "_law_marks_here"]
abbrev marksL (b : Nat → Bool) : List V := [.bl (b 0), .bl (b 1), .bl (b 2), .bl (b 3), .bl (b 4), .bl (b 5), .bl (b 6), .bl (b 7), .bl (b 8), .bl (b 9), .bl (b 10), .bl (b 11), .bl (b 12), .bl (b 13), .bl (b 14), .bl (b 15), .bl (b 16), .bl (b 17), .bl (b 18), .bl (b 19), .bl (b 20), .bl (b 21)]
def spMarks (K : PySem.W.Frag) (ca : Nat → Addr) : Sp := fun vs H Q _ => ∃ (ea D : Addr) (b : Nat → Bool), vs = [.ref ea] ∧ H ea = some (XO ea (.ref D)) ∧ PySem.W.XC K D ∧ (∀ i, i < 22 → PySem.W.kitOne K (.ref D) (.ref (ca i)) = some (b i)) ∧
  ∀ H' p, Same H H' → H' p = some (.lst (marksL b)) → Q (.ref p) H'
theorem scMarks : FnScope nMarks ["_law_e"] (defScope sMarks) := ⟨rfl, rfl, rfl, by decide +kernel, rfl, by decide +kernel, by decide +kernel⟩
set_option maxHeartbeats 4000000 in
theorem okMarks {f : Addr} {fd : FuncData} {ca : Nat → Addr} (D : Df K mg "_law_marks" sMarks ["_law_e"] f fd) (T : Tx K mg) (M : Mk22 K mg ca) : FnOkH P w K mg base 1 f fd ["_law_e"] (spMarks K ca) := by
  refine D.F.okH scMarks (fun vs H Q E h => ?_) (fun cdv A outer s H vs Q hr h => ?_)
  · obtain ⟨_, _, _, rfl, _⟩ := h; rfl
  · obtain ⟨ea, Dc, b, rfl, hx, xc, hk, k⟩ := h
    refine ⟨_, (pss_cons (ps_set (i := 1) scMarks.nd rfl (Or.inl rfl) (pe_lst (pa_cons (pe_callB call_isinstX (by rfl) T.isi (by decide +kernel) (pa_cons (pv 0) (pa_cons (pe_glob (v := .ref (ca 0)) (by rfl) (M.m 0 _ rfl) rfl) pa_nil))) (pa_cons (pe_callB call_isinstX (by rfl) T.isi (by decide +kernel) (pa_cons (pv 0) (pa_cons (pe_glob (v := .ref (ca 1)) (by rfl) (M.m 1 _ rfl) rfl) pa_nil))) (pa_cons (pe_callB call_isinstX (by rfl) T.isi (by decide +kernel) (pa_cons (pv 0) (pa_cons (pe_glob (v := .ref (ca 2)) (by rfl) (M.m 2 _ rfl) rfl) pa_nil))) (pa_cons (pe_callB call_isinstX (by rfl) T.isi (by decide +kernel) (pa_cons (pv 0) (pa_cons (pe_glob (v := .ref (ca 3)) (by rfl) (M.m 3 _ rfl) rfl) pa_nil))) pa_nil))))))
      (pss_cons (ps_set (i := 1) scMarks.nd rfl (Or.inl rfl) (pe_op op_cat (pv 1) (pe_lst (pa_cons (pe_callB call_isinstX (by rfl) T.isi (by decide +kernel) (pa_cons (pv 0) (pa_cons (pe_glob (v := .ref (ca 4)) (by rfl) (M.m 4 _ rfl) rfl) pa_nil))) (pa_cons (pe_callB call_isinstX (by rfl) T.isi (by decide +kernel) (pa_cons (pv 0) (pa_cons (pe_glob (v := .ref (ca 5)) (by rfl) (M.m 5 _ rfl) rfl) pa_nil))) (pa_cons (pe_callB call_isinstX (by rfl) T.isi (by decide +kernel) (pa_cons (pv 0) (pa_cons (pe_glob (v := .ref (ca 6)) (by rfl) (M.m 6 _ rfl) rfl) pa_nil))) (pa_cons (pe_callB call_isinstX (by rfl) T.isi (by decide +kernel) (pa_cons (pv 0) (pa_cons (pe_glob (v := .ref (ca 7)) (by rfl) (M.m 7 _ rfl) rfl) pa_nil))) pa_nil)))))))
      (pss_cons (ps_set (i := 1) scMarks.nd rfl (Or.inl rfl) (pe_op op_cat (pv 1) (pe_lst (pa_cons (pe_callB call_isinstX (by rfl) T.isi (by decide +kernel) (pa_cons (pv 0) (pa_cons (pe_glob (v := .ref (ca 8)) (by rfl) (M.m 8 _ rfl) rfl) pa_nil))) (pa_cons (pe_callB call_isinstX (by rfl) T.isi (by decide +kernel) (pa_cons (pv 0) (pa_cons (pe_glob (v := .ref (ca 9)) (by rfl) (M.m 9 _ rfl) rfl) pa_nil))) (pa_cons (pe_callB call_isinstX (by rfl) T.isi (by decide +kernel) (pa_cons (pv 0) (pa_cons (pe_glob (v := .ref (ca 10)) (by rfl) (M.m 10 _ rfl) rfl) pa_nil))) (pa_cons (pe_callB call_isinstX (by rfl) T.isi (by decide +kernel) (pa_cons (pv 0) (pa_cons (pe_glob (v := .ref (ca 11)) (by rfl) (M.m 11 _ rfl) rfl) pa_nil))) pa_nil)))))))
      (pss_cons (ps_set (i := 1) scMarks.nd rfl (Or.inl rfl) (pe_op op_cat (pv 1) (pe_lst (pa_cons (pe_callB call_isinstX (by rfl) T.isi (by decide +kernel) (pa_cons (pv 0) (pa_cons (pe_glob (v := .ref (ca 12)) (by rfl) (M.m 12 _ rfl) rfl) pa_nil))) (pa_cons (pe_callB call_isinstX (by rfl) T.isi (by decide +kernel) (pa_cons (pv 0) (pa_cons (pe_glob (v := .ref (ca 13)) (by rfl) (M.m 13 _ rfl) rfl) pa_nil))) (pa_cons (pe_callB call_isinstX (by rfl) T.isi (by decide +kernel) (pa_cons (pv 0) (pa_cons (pe_glob (v := .ref (ca 14)) (by rfl) (M.m 14 _ rfl) rfl) pa_nil))) (pa_cons (pe_callB call_isinstX (by rfl) T.isi (by decide +kernel) (pa_cons (pv 0) (pa_cons (pe_glob (v := .ref (ca 15)) (by rfl) (M.m 15 _ rfl) rfl) pa_nil))) pa_nil)))))))
      (pss_cons (ps_set (i := 1) scMarks.nd rfl (Or.inl rfl) (pe_op op_cat (pv 1) (pe_lst (pa_cons (pe_callB call_isinstX (by rfl) T.isi (by decide +kernel) (pa_cons (pv 0) (pa_cons (pe_glob (v := .ref (ca 16)) (by rfl) (M.m 16 _ rfl) rfl) pa_nil))) (pa_cons (pe_callB call_isinstX (by rfl) T.isi (by decide +kernel) (pa_cons (pv 0) (pa_cons (pe_glob (v := .ref (ca 17)) (by rfl) (M.m 17 _ rfl) rfl) pa_nil))) (pa_cons (pe_callB call_isinstX (by rfl) T.isi (by decide +kernel) (pa_cons (pv 0) (pa_cons (pe_glob (v := .ref (ca 18)) (by rfl) (M.m 18 _ rfl) rfl) pa_nil))) (pa_cons (pe_callB call_isinstX (by rfl) T.isi (by decide +kernel) (pa_cons (pv 0) (pa_cons (pe_glob (v := .ref (ca 19)) (by rfl) (M.m 19 _ rfl) rfl) pa_nil))) pa_nil)))))))
      (pss_one (ps_ret (pe_op op_cat (pv 1) (pe_lst (pa_cons (pe_callB call_isinstX (by rfl) T.isi (by decide +kernel) (pa_cons (pv 0) (pa_cons (pe_glob (v := .ref (ca 20)) (by rfl) (M.m 20 _ rfl) rfl) pa_nil))) (pa_cons (pe_callB call_isinstX (by rfl) T.isi (by decide +kernel) (pa_cons (pv 0) (pa_cons (pe_glob (v := .ref (ca 21)) (by rfl) (M.m 21 _ rfl) rfl) pa_nil))) pa_nil))))))))))), ?_⟩
    have s0 : Same H H := fun _ _ e => e
    refine ⟨_, rfl, ea, Dc, _, ⟨_, _, rfl, rfl, hk 0 (by decide)⟩, (s0 _ _ hx), xc, _, rfl, ea, Dc, _, ⟨_, _, rfl, rfl, hk 1 (by decide)⟩, (s0 _ _ hx), xc, _, rfl, ea, Dc, _, ⟨_, _, rfl, rfl, hk 2 (by decide)⟩, (s0 _ _ hx), xc, _, rfl, ea, Dc, _, ⟨_, _, rfl, rfl, hk 3 (by decide)⟩, (s0 _ _ hx), xc, (by show 4 ≤ sizeLine; decide), fun p1 e1 => ?_⟩
    have s1 := s0.trans (same_new (o := .lst [.bl (b 0), .bl (b 1), .bl (b 2), .bl (b 3)]) e1)
    have l1 := at_new e1 (o := .lst [.bl (b 0), .bl (b 1), .bl (b 2), .bl (b 3)])
    have f1 := free_same s0 e1
    generalize upd H p1 (.lst [.bl (b 0), .bl (b 1), .bl (b 2), .bl (b 3)]) = H1 at s1 l1 ⊢
    refine ⟨_, rfl, _, rfl, ea, Dc, _, ⟨_, _, rfl, rfl, hk 4 (by decide)⟩, (s1 _ _ hx), xc, _, rfl, ea, Dc, _, ⟨_, _, rfl, rfl, hk 5 (by decide)⟩, (s1 _ _ hx), xc, _, rfl, ea, Dc, _, ⟨_, _, rfl, rfl, hk 6 (by decide)⟩, (s1 _ _ hx), xc, _, rfl, ea, Dc, _, ⟨_, _, rfl, rfl, hk 7 (by decide)⟩, (s1 _ _ hx), xc, (by show 4 ≤ sizeLine; decide), fun q2 d2 => ?_⟩
    refine ⟨_, _, _, _, rfl, rfl, nx d2 l1, upd_same, (by show 8 ≤ sizeLine; decide), fun p2 e2 => ?_⟩
    have t2 := s1.trans (same_new (o := .lst [.bl (b 4), .bl (b 5), .bl (b 6), .bl (b 7)]) d2)
    have s2 := t2.trans (same_new (o := .lst ([.bl (b 0), .bl (b 1), .bl (b 2), .bl (b 3)] ++ [.bl (b 4), .bl (b 5), .bl (b 6), .bl (b 7)])) e2)
    have l2 := at_new e2 (o := .lst ([.bl (b 0), .bl (b 1), .bl (b 2), .bl (b 3)] ++ [.bl (b 4), .bl (b 5), .bl (b 6), .bl (b 7)]))
    have f2 := free_same t2 e2
    generalize upd (upd H1 q2 (.lst [.bl (b 4), .bl (b 5), .bl (b 6), .bl (b 7)])) p2 (.lst ([.bl (b 0), .bl (b 1), .bl (b 2), .bl (b 3)] ++ [.bl (b 4), .bl (b 5), .bl (b 6), .bl (b 7)])) = H2 at s2 l2 ⊢
    have l2 : H2 p2 = some (.lst [.bl (b 0), .bl (b 1), .bl (b 2), .bl (b 3), .bl (b 4), .bl (b 5), .bl (b 6), .bl (b 7)]) := l2
    refine ⟨_, rfl, _, rfl, ea, Dc, _, ⟨_, _, rfl, rfl, hk 8 (by decide)⟩, (s2 _ _ hx), xc, _, rfl, ea, Dc, _, ⟨_, _, rfl, rfl, hk 9 (by decide)⟩, (s2 _ _ hx), xc, _, rfl, ea, Dc, _, ⟨_, _, rfl, rfl, hk 10 (by decide)⟩, (s2 _ _ hx), xc, _, rfl, ea, Dc, _, ⟨_, _, rfl, rfl, hk 11 (by decide)⟩, (s2 _ _ hx), xc, (by show 4 ≤ sizeLine; decide), fun q3 d3 => ?_⟩
    refine ⟨_, _, _, _, rfl, rfl, nx d3 l2, upd_same, (by show 12 ≤ sizeLine; decide), fun p3 e3 => ?_⟩
    have t3 := s2.trans (same_new (o := .lst [.bl (b 8), .bl (b 9), .bl (b 10), .bl (b 11)]) d3)
    have s3 := t3.trans (same_new (o := .lst ([.bl (b 0), .bl (b 1), .bl (b 2), .bl (b 3), .bl (b 4), .bl (b 5), .bl (b 6), .bl (b 7)] ++ [.bl (b 8), .bl (b 9), .bl (b 10), .bl (b 11)])) e3)
    have l3 := at_new e3 (o := .lst ([.bl (b 0), .bl (b 1), .bl (b 2), .bl (b 3), .bl (b 4), .bl (b 5), .bl (b 6), .bl (b 7)] ++ [.bl (b 8), .bl (b 9), .bl (b 10), .bl (b 11)]))
    have f3 := free_same t3 e3
    generalize upd (upd H2 q3 (.lst [.bl (b 8), .bl (b 9), .bl (b 10), .bl (b 11)])) p3 (.lst ([.bl (b 0), .bl (b 1), .bl (b 2), .bl (b 3), .bl (b 4), .bl (b 5), .bl (b 6), .bl (b 7)] ++ [.bl (b 8), .bl (b 9), .bl (b 10), .bl (b 11)])) = H3 at s3 l3 ⊢
    have l3 : H3 p3 = some (.lst [.bl (b 0), .bl (b 1), .bl (b 2), .bl (b 3), .bl (b 4), .bl (b 5), .bl (b 6), .bl (b 7), .bl (b 8), .bl (b 9), .bl (b 10), .bl (b 11)]) := l3
    refine ⟨_, rfl, _, rfl, ea, Dc, _, ⟨_, _, rfl, rfl, hk 12 (by decide)⟩, (s3 _ _ hx), xc, _, rfl, ea, Dc, _, ⟨_, _, rfl, rfl, hk 13 (by decide)⟩, (s3 _ _ hx), xc, _, rfl, ea, Dc, _, ⟨_, _, rfl, rfl, hk 14 (by decide)⟩, (s3 _ _ hx), xc, _, rfl, ea, Dc, _, ⟨_, _, rfl, rfl, hk 15 (by decide)⟩, (s3 _ _ hx), xc, (by show 4 ≤ sizeLine; decide), fun q4 d4 => ?_⟩
    refine ⟨_, _, _, _, rfl, rfl, nx d4 l3, upd_same, (by show 16 ≤ sizeLine; decide), fun p4 e4 => ?_⟩
    have t4 := s3.trans (same_new (o := .lst [.bl (b 12), .bl (b 13), .bl (b 14), .bl (b 15)]) d4)
    have s4 := t4.trans (same_new (o := .lst ([.bl (b 0), .bl (b 1), .bl (b 2), .bl (b 3), .bl (b 4), .bl (b 5), .bl (b 6), .bl (b 7), .bl (b 8), .bl (b 9), .bl (b 10), .bl (b 11)] ++ [.bl (b 12), .bl (b 13), .bl (b 14), .bl (b 15)])) e4)
    have l4 := at_new e4 (o := .lst ([.bl (b 0), .bl (b 1), .bl (b 2), .bl (b 3), .bl (b 4), .bl (b 5), .bl (b 6), .bl (b 7), .bl (b 8), .bl (b 9), .bl (b 10), .bl (b 11)] ++ [.bl (b 12), .bl (b 13), .bl (b 14), .bl (b 15)]))
    have f4 := free_same t4 e4
    generalize upd (upd H3 q4 (.lst [.bl (b 12), .bl (b 13), .bl (b 14), .bl (b 15)])) p4 (.lst ([.bl (b 0), .bl (b 1), .bl (b 2), .bl (b 3), .bl (b 4), .bl (b 5), .bl (b 6), .bl (b 7), .bl (b 8), .bl (b 9), .bl (b 10), .bl (b 11)] ++ [.bl (b 12), .bl (b 13), .bl (b 14), .bl (b 15)])) = H4 at s4 l4 ⊢
    have l4 : H4 p4 = some (.lst [.bl (b 0), .bl (b 1), .bl (b 2), .bl (b 3), .bl (b 4), .bl (b 5), .bl (b 6), .bl (b 7), .bl (b 8), .bl (b 9), .bl (b 10), .bl (b 11), .bl (b 12), .bl (b 13), .bl (b 14), .bl (b 15)]) := l4
    refine ⟨_, rfl, _, rfl, ea, Dc, _, ⟨_, _, rfl, rfl, hk 16 (by decide)⟩, (s4 _ _ hx), xc, _, rfl, ea, Dc, _, ⟨_, _, rfl, rfl, hk 17 (by decide)⟩, (s4 _ _ hx), xc, _, rfl, ea, Dc, _, ⟨_, _, rfl, rfl, hk 18 (by decide)⟩, (s4 _ _ hx), xc, _, rfl, ea, Dc, _, ⟨_, _, rfl, rfl, hk 19 (by decide)⟩, (s4 _ _ hx), xc, (by show 4 ≤ sizeLine; decide), fun q5 d5 => ?_⟩
    refine ⟨_, _, _, _, rfl, rfl, nx d5 l4, upd_same, (by show 20 ≤ sizeLine; decide), fun p5 e5 => ?_⟩
    have t5 := s4.trans (same_new (o := .lst [.bl (b 16), .bl (b 17), .bl (b 18), .bl (b 19)]) d5)
    have s5 := t5.trans (same_new (o := .lst ([.bl (b 0), .bl (b 1), .bl (b 2), .bl (b 3), .bl (b 4), .bl (b 5), .bl (b 6), .bl (b 7), .bl (b 8), .bl (b 9), .bl (b 10), .bl (b 11), .bl (b 12), .bl (b 13), .bl (b 14), .bl (b 15)] ++ [.bl (b 16), .bl (b 17), .bl (b 18), .bl (b 19)])) e5)
    have l5 := at_new e5 (o := .lst ([.bl (b 0), .bl (b 1), .bl (b 2), .bl (b 3), .bl (b 4), .bl (b 5), .bl (b 6), .bl (b 7), .bl (b 8), .bl (b 9), .bl (b 10), .bl (b 11), .bl (b 12), .bl (b 13), .bl (b 14), .bl (b 15)] ++ [.bl (b 16), .bl (b 17), .bl (b 18), .bl (b 19)]))
    have f5 := free_same t5 e5
    generalize upd (upd H4 q5 (.lst [.bl (b 16), .bl (b 17), .bl (b 18), .bl (b 19)])) p5 (.lst ([.bl (b 0), .bl (b 1), .bl (b 2), .bl (b 3), .bl (b 4), .bl (b 5), .bl (b 6), .bl (b 7), .bl (b 8), .bl (b 9), .bl (b 10), .bl (b 11), .bl (b 12), .bl (b 13), .bl (b 14), .bl (b 15)] ++ [.bl (b 16), .bl (b 17), .bl (b 18), .bl (b 19)])) = H5 at s5 l5 ⊢
    have l5 : H5 p5 = some (.lst [.bl (b 0), .bl (b 1), .bl (b 2), .bl (b 3), .bl (b 4), .bl (b 5), .bl (b 6), .bl (b 7), .bl (b 8), .bl (b 9), .bl (b 10), .bl (b 11), .bl (b 12), .bl (b 13), .bl (b 14), .bl (b 15), .bl (b 16), .bl (b 17), .bl (b 18), .bl (b 19)]) := l5
    refine ⟨_, rfl, _, rfl, ea, Dc, _, ⟨_, _, rfl, rfl, hk 20 (by decide)⟩, (s5 _ _ hx), xc, _, rfl, ea, Dc, _, ⟨_, _, rfl, rfl, hk 21 (by decide)⟩, (s5 _ _ hx), xc, (by show 2 ≤ sizeLine; decide), fun q6 d6 => ?_⟩
    refine ⟨_, _, _, _, rfl, rfl, nx d6 l5, upd_same, (by show 22 ≤ sizeLine; decide), fun p6 e6 => ?_⟩
    have t6 := s5.trans (same_new (o := .lst [.bl (b 20), .bl (b 21)]) d6)
    have s6 := t6.trans (same_new (o := .lst ([.bl (b 0), .bl (b 1), .bl (b 2), .bl (b 3), .bl (b 4), .bl (b 5), .bl (b 6), .bl (b 7), .bl (b 8), .bl (b 9), .bl (b 10), .bl (b 11), .bl (b 12), .bl (b 13), .bl (b 14), .bl (b 15), .bl (b 16), .bl (b 17), .bl (b 18), .bl (b 19)] ++ [.bl (b 20), .bl (b 21)])) e6)
    have l6 := at_new e6 (o := .lst ([.bl (b 0), .bl (b 1), .bl (b 2), .bl (b 3), .bl (b 4), .bl (b 5), .bl (b 6), .bl (b 7), .bl (b 8), .bl (b 9), .bl (b 10), .bl (b 11), .bl (b 12), .bl (b 13), .bl (b 14), .bl (b 15), .bl (b 16), .bl (b 17), .bl (b 18), .bl (b 19)] ++ [.bl (b 20), .bl (b 21)]))
    have f6 := free_same t6 e6
    generalize upd (upd H5 q6 (.lst [.bl (b 20), .bl (b 21)])) p6 (.lst ([.bl (b 0), .bl (b 1), .bl (b 2), .bl (b 3), .bl (b 4), .bl (b 5), .bl (b 6), .bl (b 7), .bl (b 8), .bl (b 9), .bl (b 10), .bl (b 11), .bl (b 12), .bl (b 13), .bl (b 14), .bl (b 15), .bl (b 16), .bl (b 17), .bl (b 18), .bl (b 19)] ++ [.bl (b 20), .bl (b 21)])) = H6 at s6 l6 ⊢
    have l6 : H6 p6 = some (.lst [.bl (b 0), .bl (b 1), .bl (b 2), .bl (b 3), .bl (b 4), .bl (b 5), .bl (b 6), .bl (b 7), .bl (b 8), .bl (b 9), .bl (b 10), .bl (b 11), .bl (b 12), .bl (b 13), .bl (b 14), .bl (b 15), .bl (b 16), .bl (b 17), .bl (b 18), .bl (b 19), .bl (b 20), .bl (b 21)]) := l6
    exact k _ p6 s6 l6
end
end My
namespace My
open PySem L2
abbrev wordsL : List V := [.str "width", .str "number", .str "word", .str "fields", .str "weather", .str "block", .str "page", .str "plan", .str "flash", .str "order", .str "orders", .str "place", .str "paper", .str "text", .str "line", .str "off", .str "written", .str "bad", .str "spoilt", .str "room", .str "worn", .str "over"]
def wordS (j : Nat) : Str := (["width", "number", "word", "fields", "weather", "block", "page", "plan", "flash", "order", "orders", "place", "paper", "text", "line", "off", "written", "bad", "spoilt", "room", "worn", "over"] : List Str).getD j "over"
def sayW (j : Nat) : Str := ("! " : Str) ++ wordS j
theorem cnt22 : ∀ j, j < 22 → ((marksL fun i => decide (i = j)).countP fun z => eqV z (.bl true)) = 1 := by decide +kernel
theorem at22 : ∀ j, j < 22 → (marksL fun i => decide (i = j))[j]? = some (.bl true) := by decide +kernel
theorem no22' : ∀ j, j < 22 → ∀ m, m < j → ((marksL fun i => decide (i = j))[m]?.all fun z => !eqV z (.bl true)) = true := by decide +kernel
theorem no22 (j : Nat) (h : j < 22) (m : Nat) (z : V) (hm : m < j) (e : (marksL fun i => decide (i = j))[m]? = some z) : eqV z (.bl true) = false := by
  have q := no22' j h m hm
  rw [e] at q
  simpa using q
theorem word22 : ∀ j, j < 22 → atI wordsL ((j : Nat) : Int) = some (.str (wordS j)) := by decide +kernel
theorem len22 : ∀ j, j < 22 → ("! " : Str).length + (wordS j).length ≤ sizeLine := by decide +kernel
/-- repr of data, in the fragment or in the heap -/
def rRepB (K : PySem.W.Frag) : List V → Hp → VK → Prop := fun xs H Q => rRepr K xs H Q ∨ rReprH xs H Q
theorem call_reprB {X : Cx} {k : Nat} (hr : Room k X.A) : CallR X (.builtin "repr") (rRepB X.K) := by
  intro pins s σ H xs us Q I r h
  rcases h with h | h
  · exact call_reprA hr pins s σ H xs us Q I r h
  · exact call_reprH hr pins s σ H xs us Q I r h
def RSaid (K : PySem.W.Frag) (ca : Nat → Addr) : RC := fun spc H Q => ∀ (Q' : VK) (E' : XK), (∀ v H', rRepB K [v] H' Q → Q' v H') → (∀ j H', j < 22 → (∀ H2, Same H' H2 → Q (.str (sayW j)) H2) → E' (.ref (ca j)) none H') → spc H Q' E'
section
variable {P : Program} {w : World} {K : PySem.W.Frag} {mg : Str → Option Value} {base : Heap}
abbrev sSaid : Stmt := top 84
abbrev nSaid : List Str := ["_law_call", "_law_found", "_law_e", "_law_words", "_law_marks_here"]
theorem scSaid : FnScope nSaid ["_law_call"] (defScope sSaid) := ⟨rfl, rfl, rfl, by decide +kernel, rfl, by decide +kernel, by decide +kernel⟩
set_option maxHeartbeats 4000000 in
theorem okSaid {f fM cF : Addr} {fd fdM : FuncData} {ca : Nat → Addr} {j : Nat} (D : Df K mg "_law_said" sSaid ["_law_call"] f fd) (T : Tx K mg) (hve : mg "ValueError" = none) (hF : mg "FlashError" = some (.ref cF)) (hex : ∀ i, i < 22 → PySem.W.exmOne K (.ref (ca i)) (.ref cF) = some true)
    (M : Mk22 K mg ca) (DM : Df K mg "_law_marks" sMarks ["_law_e"] fM fdM) : FnOkS P w K mg base CX0 (j + 2) f fd ["_law_call"] (spCl P w K mg base (j + 1) (RSaid K ca)) := by
  refine D.F.okS scSaid (fun s vs H Q E h => ?_) (fun cdv A outer s H vs Q E hr h => ?_)
  · obtain ⟨_, _, rfl, _⟩ := h; rfl
  · obtain ⟨g, spc, rfl, C, h⟩ := h
    have hr1 : Room 1 _ := hr.mono (by omega)
    refine ⟨_, pss_cons (ps_try (i := 2) rfl rfl rfl scSaid.nd rfl rfl hF (fun pn Ex E hp => pss_one (ps_set (i := 1) scSaid.nd rfl (Or.inl rfl) (pe_clo (i := 0) C rfl hr hp)))
        (fun ea => @pss_setS _ 3 _ _ _ _ _ _ _ _ scSaid.nd rfl (Or.inl rfl) (Or.inl rfl) rfl
          (pss_cons (ps_set (i := 3) scSaid.nd rfl (Or.inl rfl) (pe_op op_cat (pv 3) (@pe_lstS _ _ _ _ rfl)))
          (pss_cons (ps_set (i := 4) scSaid.nd rfl (Or.inl rfl) (pe_callH (okMarks DM T M) (hr1.toH _) rfl DM.m DM.F.kp DM.b (pa_cons (pv 2) pa_nil)))
          (pss_cons (ps_if (PW.pt (pw_or (pt_cmpR op_ne (pe_bm PySem.F.plainAttrs_list PySem.F.slot_list_count PySem.F.type_list_count mt_lcount (pv 4) (pa_cons pe_bl pa_nil)) pe_int (nomark _))
            (pw_or1 (pt_not (pt_val (pe_callB call_isinstXT (by rfl) T.isi (by decide +kernel) (pa_cons (pv 2) (pa_cons (pe_bltn (v := .ty "ValueError") (by rfl) hve (by decide +kernel) rfl) pa_nil))))))))
            (pss_one (ps_ret pe_str)) pss_nil)
          (pss_one (ps_ret (pe_op op_add_str pe_str (pe_ix ix_list (pv 3) (pe_bm PySem.F.plainAttrs_list PySem.F.slot_list_index PySem.F.type_list_index mt_index (pv 4) (pa_cons pe_bl pa_nil)) (fun _ _ => rfl))))))))))
      (pss_one (ps_ret (pe_callB (call_reprB hr) (by rfl) T.repr (by decide +kernel) (pa_cons (pv 1) pa_nil)))), ?_⟩
    refine ⟨rfl, h _ _ (fun v H' q => ⟨_, rfl, q⟩) (fun i H' hi q => ⟨hex i hi, fun ea ex => ?_⟩)⟩
    have hx := at_new ex (o := XO ea (.ref (ca i)))
    have sx := same_new ex (o := XO ea (.ref (ca i)))
    refine ⟨(by show 11 ≤ sizeLine; decide), fun p0 e0 => ?_⟩
    have s0 := same_new e0 (o := .lst [.str "width", .str "number", .str "word", .str "fields", .str "weather", .str "block", .str "page", .str "plan", .str "flash", .str "order", .str "orders"])
    have l0 := at_new e0 (o := .lst [.str "width", .str "number", .str "word", .str "fields", .str "weather", .str "block", .str "page", .str "plan", .str "flash", .str "order", .str "orders"])
    refine ⟨_, rfl, (by show 11 ≤ sizeLine; decide), fun q1 d1 => ?_⟩
    refine ⟨_, _, _, _, rfl, rfl, nx d1 l0, upd_same, (by show 22 ≤ sizeLine; decide), fun p1 e1 => ?_⟩
    have s1 := (s0.trans (same_new d1 (o := .lst [.str "place", .str "paper", .str "text", .str "line", .str "off", .str "written", .str "bad", .str "spoilt", .str "room", .str "worn", .str "over"]))).trans (same_new e1 (o := .lst [.str "width", .str "number", .str "word", .str "fields", .str "weather", .str "block", .str "page", .str "plan", .str "flash", .str "order", .str "orders", .str "place", .str "paper", .str "text", .str "line", .str "off", .str "written", .str "bad", .str "spoilt", .str "room", .str "worn", .str "over"]))
    have l1 := at_new e1 (o := .lst [.str "width", .str "number", .str "word", .str "fields", .str "weather", .str "block", .str "page", .str "plan", .str "flash", .str "order", .str "orders", .str "place", .str "paper", .str "text", .str "line", .str "off", .str "written", .str "bad", .str "spoilt", .str "room", .str "worn", .str "over"])
    refine ⟨_, rfl, ea, ca i, fun n => decide (n = i), rfl, s1 _ _ hx, M.x i hi, fun n hn => M.k i n hi hn, fun H4 p4 s4 l4 => ?_⟩
    have x4 := s4 _ _ (s1 _ _ hx)
    have l1' := s4 _ _ l1
    refine ⟨_, rfl, .inl ⟨rfl, _, SqL.of l4⟩, p4, _, _, rfl, rfl, SqL.of l4, rfl, rfl, ?_⟩
    refine ⟨rfl, false, ?_, ?_⟩
    · show V.bl (!decide (V.int _ = V.int 1)) = V.bl false
      rw [cnt22 i hi]; rfl
    refine iteF ⟨_, rfl, ea, ca i, true, "ValueError", rfl, M.v i hi, x4, M.x i hi, _, rfl, iteF ?_⟩
    refine ⟨_, rfl, _, rfl, .inl ⟨rfl, _, SqL.of l4⟩, p4, _, _, i, .bl true, rfl, rfl, SqL.of l4, rfl, rfl, at22 i hi, rfl, no22 i hi, ?_⟩
    refine ⟨_, wordsL, _, _, rfl, rfl, SqL.of l1', word22 i hi, _, _, rfl, rfl, len22 i hi, ?_⟩
    exact q _ (sx.trans (s1.trans s4))
end
end My
namespace My
open PySem L2
theorem Ex.fre {H H1 : Hp} {p q : Addr} (h : Ex H H1 p) (hp : H1 q = none) (hq : q ≠ p) : H q = none := by
  cases e : H q with
  | none => rfl
  | some o => rw [h q o e hq] at hp; cases hp
structure PlG (b g : Int) (n : Nat) : Prop where
  b0 : 3 ≤ b
  b1 : b ≤ 8
  g0 : 2 ≤ g
  g1 : g ≤ 8
  n0 : 1 ≤ n
  n1 : (n : Int) ≤ (b - 2) * g - 5
  n2 : n ≤ 7
theorem PlG.pl {b g : Int} {n : Nat} (h : PlG b g n) (s c : Bool) : plF (.tuple (plD b g n s c)) = true := by
  have := h.b0; have := h.b1; have := h.g0; have := h.g1; have := h.n0; have := h.n2; have := h.n1
  have w : ∀ (i lo hi : Int), lo ≤ i → i ≤ hi → wi (.int i) lo hi = true := fun i lo hi h1 h2 => by
    show (decide (lo ≤ i) && decide (i ≤ hi)) = true
    rw [decide_eq_true h1, decide_eq_true h2]; rfl
  show plF (.tuple [.int b, .int g, .int (n : Nat), .bool s, .bool c]) = true
  rw [plF_in b g _ _ _ (w b 3 8 h.b0 h.b1) (w g 2 8 h.g0 h.g1), w n 1 (plM b g) (by omega) (by unfold plM; split <;> omega)]
  rfl
section
variable {P : Program} {w : World} {K : PySem.W.Frag} {mg : Str → Option Value} {base : Heap}
abbrev sPlan : Stmt := top 82
abbrev nPlan : List Str := ["_law_state_here", "_law_blocks", "_law_pages", "_law_places"]
theorem scPlan : FnScope nPlan ["_law_state_here"] (defScope sPlan) := ⟨rfl, rfl, rfl, by decide +kernel, rfl, by decide +kernel, by decide +kernel⟩
def spPlan : Sp := fun vs H Q _ => ∃ (p : Addr), vs = [.ref p] ∧ StAt H p ∧ ∀ (b g : Int) (n : Nat) (s c : Bool) (q : Addr) (H' : Hp), PlG b g n → H' q = some (.tup (plV b g n s c)) → H q = none → StAt H' p → Ex H H' p → Q (.ref q) H'
set_option maxHeartbeats 4000000 in
theorem okPlan {f fC : Addr} {fd fdC : FuncData} (D : Df K mg "_law_plan" sPlan ["_law_state_here"] f fd) (DC : Df K mg "_law_choice" sChoice ["_law_state_here", "_law_many"] fC fdC) : FnOk P w K mg base CX0 2 f fd ["_law_state_here"] spPlan := by
  refine D.F.ok scPlan (fun vs H Q E h => ?_) (fun cdv A outer s H vs Q E hr h => ?_)
  · obtain ⟨_, rfl, _⟩ := h; rfl
  · obtain ⟨p, rfl, st0, k⟩ := h
    refine ⟨_, @pss_cons _ _ _ _ _ (@ps_asg _ _ _ _ _ _ (@pe_ix _ _ _ _ _ _ _ ix_list (@pe_lst _ _ _ _ (@pa_tpl _ _ _ _ _ _ _ (pe_tup (pa_cons pe_int (pa_cons pe_int pa_nil))) (@pa_tpl _ _ _ _ _ _ _ (pe_tup (pa_cons pe_int (pa_cons pe_int pa_nil))) (@pa_tpl _ _ _ _ _ _ _ (pe_tup (pa_cons pe_int (pa_cons pe_int pa_nil))) (@pa_tpl _ _ _ _ _ _ _ (pe_tup (pa_cons pe_int (pa_cons pe_int pa_nil))) (@pa_tpl _ _ _ _ _ _ _ (pe_tup (pa_cons pe_int (pa_cons pe_int pa_nil))) (@pa_tpl _ _ _ _ _ _ _ (pe_tup (pa_cons pe_int (pa_cons pe_int pa_nil))) pa_nil))))))) (pc DC (okChoice DC) hr (pa_cons (pv 0) (pa_cons pe_int pa_nil))) (fun _ _ => rfl)) (pg_tup (by rfl) (pgs_cons (pg_name (i := 1) scPlan.nd rfl (Or.inl rfl)) (pgs_cons (pg_name (i := 2) scPlan.nd rfl (Or.inl rfl)) pgs_nil))) rfl rfl rfl)
      (pss_cons (ps_set (i := 3) scPlan.nd rfl (Or.inl rfl) (pe_op op_add pe_int (pc DC (okChoice DC) hr (pa_cons (pv 0) (pa_cons (pe_op op_sub (pe_op op_mul (pe_op op_sub (pv 1) pe_int) (pv 2)) pe_int) pa_nil)))))
      (pss_one (ps_ret (pe_tup (pa_cons (pv 1) (pa_cons (pv 2) (pa_cons (pv 3) (pa_cons (pe_cmpR op_gt (pc DC (okChoice DC) hr (pa_cons (pv 0) (pa_cons pe_int pa_nil))) pe_int (nomark _)) (pa_cons (pe_cmpR op_gt (pc DC (okChoice DC) hr (pa_cons (pv 0) (pa_cons pe_int pa_nil))) pe_int (nomark _)) pa_nil))))))))), ?_⟩
    refine ⟨(by show 2 ≤ sizeLine; decide), fun a1 h1 => ⟨(by show 2 ≤ sizeLine; decide), fun a2 h2 => ⟨(by show 2 ≤ sizeLine; decide), fun a3 h3 => ⟨(by show 2 ≤ sizeLine; decide), fun a4 h4 => ⟨(by show 2 ≤ sizeLine; decide), fun a5 h5 => ⟨(by show 2 ≤ sizeLine; decide), fun a6 h6 => ⟨(by show 6 ≤ sizeLine; decide), fun L hL => ?_⟩⟩⟩⟩⟩⟩⟩
    have S1 := same_new (o := .tup [.int 3, .int 6]) h1
    have S2 := same_new (o := .tup [.int 4, .int 4]) h2
    have S3 := same_new (o := .tup [.int 5, .int 3]) h3
    have S4 := same_new (o := .tup [.int 6, .int 2]) h4
    have S5 := same_new (o := .tup [.int 3, .int 8]) h5
    have S6 := same_new (o := .tup [.int 4, .int 5]) h6
    have S8 := same_new (o := .lst [.ref a1, .ref a2, .ref a3, .ref a4, .ref a5, .ref a6]) hL
    have SS := S1.trans (S2.trans (S3.trans (S4.trans (S5.trans (S6.trans S8)))))
    have st8 := st0.same SS
    have nL := (st0.same (S1.trans (S2.trans (S3.trans (S4.trans (S5.trans S6)))))).ne hL
    have e1 := (S2.trans (S3.trans (S4.trans (S5.trans (S6.trans S8))))) _ _ (upd_same (H := H) (a := a1) (o := .tup [.int 3, .int 6]))
    have e2 := (S3.trans (S4.trans (S5.trans (S6.trans S8)))) _ _ (at_new h2 (o := .tup [.int 4, .int 4]))
    have e3 := (S4.trans (S5.trans (S6.trans S8))) _ _ (at_new h3 (o := .tup [.int 5, .int 3]))
    have e4 := (S5.trans (S6.trans S8)) _ _ (at_new h4 (o := .tup [.int 6, .int 2]))
    have e5 := (S6.trans S8) _ _ (at_new h5 (o := .tup [.int 3, .int 8]))
    have e6 := S8 _ _ (at_new h6 (o := .tup [.int 4, .int 5]))
    have eL := at_new hL (o := .lst [.ref a1, .ref a2, .ref a3, .ref a4, .ref a5, .ref a6])
    clear S1 S2 S3 S4 S5 S6 S8
    generalize (upd (upd (upd (upd (upd (upd (upd H a1 (.tup [.int 3, .int 6])) a2 (.tup [.int 4, .int 4])) a3 (.tup [.int 5, .int 3])) a4 (.tup [.int 6, .int 2])) a5 (.tup [.int 3, .int 8])) a6 (.tup [.int 4, .int 5])) L (.lst [.ref a1, .ref a2, .ref a3, .ref a4, .ref a5, .ref a6])) = H8 at st8 SS e1 e2 e3 e4 e5 e6 eL ⊢
    refine ⟨_, rfl, p, 6, rfl, ⟨by decide, by decide⟩, st8, fun r H9 r0 r1 ho9 st9 => ?_⟩
    have key : ∃ (a : Addr) (b g : Int), atI ([.ref a1, .ref a2, .ref a3, .ref a4, .ref a5, .ref a6] : List V) r = some (.ref a) ∧ H8 a = some (.tup [.int b, .int g]) ∧ (3 ≤ b ∧ b ≤ 8) ∧ (2 ≤ g ∧ g ≤ 8) ∧ 1 ≤ (b - 2) * g - 5 ∧ (b - 2) * g - 5 ≤ 7 := by
      have h : r = 0 ∨ r = 1 ∨ r = 2 ∨ r = 3 ∨ r = 4 ∨ r = 5 := by omega
      rcases h with rfl | rfl | rfl | rfl | rfl | rfl
      · exact ⟨a1, 3, 6, atI_nat (j := 0) rfl, e1, by decide⟩
      · exact ⟨a2, 4, 4, atI_nat (j := 1) rfl, e2, by decide⟩
      · exact ⟨a3, 5, 3, atI_nat (j := 2) rfl, e3, by decide⟩
      · exact ⟨a4, 6, 2, atI_nat (j := 3) rfl, e4, by decide⟩
      · exact ⟨a5, 3, 8, atI_nat (j := 4) rfl, e5, by decide⟩
      · exact ⟨a6, 4, 5, atI_nat (j := 5) rfl, e6, by decide⟩
    obtain ⟨a, b, g, ea, eh, ⟨b0, b1⟩, ⟨g0, g1⟩, m0, m1⟩ := key
    have na : a ≠ p := fun z => by
      obtain ⟨_, _, _, e', _⟩ := st8
      rw [← z, eh] at e'
      cases e'
    have eh9 : H9 a = some (.tup [.int b, .int g]) := by rw [ho9 a na]; exact eh
    have eL9 : H9 L = some (.lst [.ref a1, .ref a2, .ref a3, .ref a4, .ref a5, .ref a6]) := by rw [ho9 L nL]; exact eL
    refine ⟨L, _, _, _, rfl, rfl, SqL.of eL9, ea, a, _, rfl, SqT.of eh9, rfl, _, _, rfl, _, _, rfl, rfl, ?_⟩
    refine ⟨_, rfl, _, rfl, _, _, rfl, rfl, _, rfl, _, _, rfl, rfl, .inl ⟨by omega, by omega⟩, _, _, rfl, rfl, p, _, rfl, ⟨by omega, by omega⟩, st9, fun r2 H10 s0 s1 ho10 st10 => ?_⟩
    refine ⟨_, _, rfl, rfl, ?_⟩
    refine ⟨_, rfl, _, rfl, _, rfl, _, rfl, p, 5, rfl, ⟨by decide, by decide⟩, st10, fun r3 H11 _ _ ho11 st11 => ?_⟩
    refine ⟨_, _, rfl, rfl, _, rfl, p, 5, rfl, ⟨by decide, by decide⟩, st11, fun r4 H12 _ _ ho12 st12 => ?_⟩
    refine ⟨_, _, rfl, rfl, (by show 5 ≤ sizeLine; decide), fun q hq => ?_⟩
    obtain ⟨m, rfl⟩ := Int.eq_ofNat_of_zero_le s0
    have ex : Ex H H12 p := ((((Same.ex SS).trans ho9.ex).trans ho10.ex).trans ho11.ex).trans ho12.ex
    have e1m : (1 : Int) + (m : Nat) = ((1 + m : Nat) : Int) := by omega
    have Sq := same_new (o := .tup (plV b g ((1 + m : Nat) : Int) (decide (0 < r3)) (decide (0 < r4)))) hq
    refine Eq.mpr (congrArg (fun z => Q (.ref q) (upd H12 q (.tup (plV b g z (decide (0 < r3)) (decide (0 < r4)))))) e1m) ?_
    exact k b g (1 + m) _ _ q _ ⟨b0, b1, g0, g1, by omega, by omega, by omega⟩ upd_same (ex.fre hq (st12.ne hq)) (st12.same Sq) (ex.trans (Same.ex Sq))
end
end My
namespace My
open PySem L2
def Gd (d : PyData) : Prop := OkD 100 4 d ∨ d = .dict [] ∨ d = .dict [(.int 0, .int 1)]
def Tg (H : Hp) (p : Addr) (x : V) : Prop := ∃ d, Dh (Hm H p) x d ∧ Gd d
theorem Tg.on {H H' : Hp} {p : Addr} {x : V} (h : Tg H p x) (k : Ex H H' p) : Tg H' p x := let ⟨d, a, b⟩ := h; ⟨d, a.on k, b⟩
theorem Tg.same {H H' : Hp} {p : Addr} {x : V} (h : Tg H p x) (k : Same H H') : Tg H' p x := h.on (Same.ex k)
theorem hm_new {H : Hp} {p q : Addr} {o : HO} (st : StAt H p) (hq : H q = none) : Hm (upd H q o) p q = some o := Hm.get upd_same (st.ne hq)
theorem gd_int (i : Int) (h : i.natAbs < 2 ^ 100) : Gd (.int i) := .inl (OkD.int i h)
theorem gd_str (x : Str) (h : (x.cps.toList.all fun c => decide (c < 16 ^ 8)) = true) (hb : x.cps.size ≤ 100) (hs : (PyData.str x).canLay0 = true) : Gd (.str x) := .inl (OkD.str x h hb hs)
theorem tg_non {H : Hp} {p : Addr} : Tg H p .non := ⟨_, .non, .inl OkD.non⟩
theorem tg_bl {H : Hp} {p : Addr} (b : Bool) : Tg H p (.bl b) := ⟨_, .bl b, .inl (OkD.bl b)⟩
theorem tg_int {H : Hp} {p : Addr} (i : Int) (h : i.natAbs < 2 ^ 100) : Tg H p (.int i) := ⟨_, .int i, gd_int i h⟩
theorem tg_str {H : Hp} {p : Addr} (x : Str) (h : (x.cps.toList.all fun c => decide (c < 16 ^ 8)) = true) (hb : x.cps.size ≤ 100) (hs : (PyData.str x).canLay0 = true) : Tg H p (.str x) := ⟨_, .str x, gd_str x h hb hs⟩
section
variable {P : Program} {w : World} {K : PySem.W.Frag} {mg : Str → Option Value} {base : Heap}
theorem pow29 : (10 : Int) ^ (29 : Int).toNat = 100000000000000000000000000000 := by decide +kernel
abbrev sOddL : Stmt := top 81
abbrev nOddL : List Str := ["_law_state_here", "_law_some"]
theorem scOddL : FnScope nOddL ["_law_state_here"] (defScope sOddL) := ⟨rfl, rfl, rfl, by decide +kernel, rfl, by decide +kernel, by decide +kernel⟩
def spThing : Sp := fun vs H Q _ => ∃ p : Addr, vs = [.ref p] ∧ StAt H p ∧ ∀ x H', Tg H' p x → StAt H' p → Ex H H' p → Q x H'
set_option maxHeartbeats 4000000 in
theorem okOddL {f fC : Addr} {fd fdC : FuncData} (D : Df K mg "_law_odd" sOddL ["_law_state_here"] f fd) (DC : Df K mg "_law_choice" sChoice ["_law_state_here", "_law_many"] fC fdC) : FnOk P w K mg base CX0 2 f fd ["_law_state_here"] spThing := by
  refine D.F.ok scOddL (fun vs H Q E h => ?_) (fun cdv A outer s H vs Q E hr h => ?_)
  · obtain ⟨_, rfl, _⟩ := h; rfl
  · obtain ⟨p, rfl, st0, k⟩ := h
    refine ⟨_, pss_cons (ps_set (i := 1) scOddL.nd rfl (Or.inl rfl) (@pe_lst _ _ _ _ (@pa_con _ _ _ _ _ _ _ pe_non (@pa_con _ _ _ _ _ _ _ pe_bl (@pa_con _ _ _ _ _ _ _ pe_bl (@pa_una _ _ _ _ _ _ _ (pe_un un_neg pe_int) (@pa_bin _ _ _ _ _ _ _ _ (pe_op op_pow pe_int pe_int) (@pa_con _ _ _ _ _ _ _ pe_str (@pa_con _ _ _ _ _ _ _ pe_str (@pa_con _ _ _ _ _ _ _ pe_str (@pa_con _ _ _ _ _ _ _ pe_str (@pa_tpl _ _ _ _ _ _ _ (pe_tup pa_nil) (@pa_lst _ _ _ _ _ _ (pe_lst pa_nil) (@pa_dic _ _ _ _ _ _ _ pe_dnewK (@pa_tpl _ _ _ _ _ _ _ (pe_tup (pa_cons pe_int pa_nil)) (@pa_lst _ _ _ _ _ _ (pe_lst (pa_cons pe_int pa_nil)) (@pa_tpl _ _ _ _ _ _ _ (pe_tup (pa_cons pe_non pa_nil)) (@pa_dic _ _ _ _ _ _ _ (pe_disp (pps_cons pe_int pe_int pps_nil) (by rfl) (by rfl) (fun z => by cases z) (by decide)) pa_nil))))))))))))))))))
      (pss_one (ps_ret (pe_ix ix_list (pe_op op_cat (pv 1) (pe_lst (pa_cons (pe_tup (pa_cons pe_str pa_nil)) (pa_cons (pe_tup (pa_cons pe_str pa_nil)) (pa_cons (pe_tup (pa_cons (pe_tup (pa_cons pe_int (pa_cons pe_int pa_nil))) pa_nil)) (pa_cons pe_int pa_nil)))))) (pc DC (okChoice DC) hr (pa_cons (pv 0) (pa_cons pe_int pa_nil))) (fun _ _ => rfl)))), ?_⟩
    have S : ∀ {H : Hp} {l : Addr} {o : HO}, H l = none → Same H (upd H l o) := same_new
    refine ⟨_, rfl, _, _, rfl, rfl, ⟨by decide, by decide, by decide⟩, (by show 0 ≤ sizeLine; decide), fun a1 h1 => ⟨(by show 0 ≤ sizeLine; decide), fun a2 h2 => fun a3 h3 => ⟨(by show 1 ≤ sizeLine; decide), fun a4 h4 => ⟨(by show 1 ≤ sizeLine; decide), fun a5 h5 => ⟨(by show 1 ≤ sizeLine; decide), fun a6 h6 => fun a7 h7 => ⟨upd_same, [(.inl 0, .int 1)], rfl, (by decide), (by show 16 ≤ sizeLine; decide), fun a8 h8 => ?_⟩⟩⟩⟩⟩⟩
    have st1 := st0.same (S (o := .tup []) h1)
    have t1 : Tg _ p (.ref a1) := ⟨.tuple [], .tup (hm_new st0 h1) .nil, .inl (OkL.tup OkL.nil)⟩
    have st2 := st1.same (S (o := .lst []) h2)
    have t2 : Tg _ p (.ref a2) := ⟨.list [], .lst (hm_new st1 h2) .nil, .inl (OkL.lst OkL.nil)⟩
    have st3 := st2.same (S (o := .dK []) h3)
    have t3 : Tg _ p (.ref a3) := ⟨.dict [], .d0 (hm_new st2 h3), .inr (.inl rfl)⟩
    have oi : ∀ i : Int, i.natAbs < 2 ^ 100 → OkL 1 3 [.int i] := fun i h => OkL.cons (b := 0) (c := 0) (OkD.int i h) OkL.nil
    have st4 := st3.same (S (o := .tup [.int 0]) h4)
    have t4 : Tg _ p (.ref a4) := ⟨.tuple [.int 0], .tup (hm_new st3 h4) (.cons (.int _) .nil), .inl (OkD.mono (OkL.tup (oi 0 (by decide))) (by decide) (by decide))⟩
    have st5 := st4.same (S (o := .lst [.int 0]) h5)
    have t5 : Tg _ p (.ref a5) := ⟨.list [.int 0], .lst (hm_new st4 h5) (.cons (.int _) .nil), .inl (OkD.mono (OkL.lst (oi 0 (by decide))) (by decide) (by decide))⟩
    have st6 := st5.same (S (o := .tup [.non]) h6)
    have on : OkL 1 3 [.none] := OkL.cons (b := 0) (c := 0) OkD.non OkL.nil
    have t6 : Tg _ p (.ref a6) := ⟨.tuple [.none], .tup (hm_new st5 h6) (.cons .non .nil), .inl (OkD.mono (OkL.tup on) (by decide) (by decide))⟩
    have S7 : Same _ (upd (upd (upd (upd (upd (upd (upd (upd H a1 (.tup [])) a2 (.lst [])) a3 (.dK [])) a4 (.tup [.int 0])) a5 (.lst [.int 0])) a6 (.tup [.non])) a7 (.dK [])) a7 (.dK (mergeK [] [(.inl 0, .int 1)]))) := fun b u e => by
      rw [upd_ne (ne_of_none e h7), upd_ne (ne_of_none e h7)]; exact e
    have st7 := st6.same S7
    have t7 : Tg _ p (.ref a7) := ⟨.dict [(.int 0, .int 1)], .d1 (Hm.get (H := upd (upd (upd (upd (upd (upd (upd (upd H a1 (.tup [])) a2 (.lst [])) a3 (.dK [])) a4 (.tup [.int 0])) a5 (.lst [.int 0])) a6 (.tup [.non])) a7 (.dK [])) a7 (.dK (mergeK [] [(.inl 0, .int 1)]))) upd_same (st6.ne h7)), .inr (.inr rfl)⟩
    have S8 := S (o := .lst [.non, .bl true, .bl false, .int (-1), .int (10 ^ (29 : Int).toNat), .str "", .str "read", .str "write", .str "bit", .ref a1, .ref a2, .ref a3, .ref a4, .ref a5, .ref a6, .ref a7]) h8
    have st8 := st7.same S8
    have u1 := t1.same ((S h2).trans ((S h3).trans ((S h4).trans ((S h5).trans ((S h6).trans (S7.trans S8))))))
    have u2 := t2.same ((S h3).trans ((S h4).trans ((S h5).trans ((S h6).trans (S7.trans S8)))))
    have u3 := t3.same ((S h4).trans ((S h5).trans ((S h6).trans (S7.trans S8))))
    have u4 := t4.same ((S h5).trans ((S h6).trans (S7.trans S8)))
    have u5 := t5.same ((S h6).trans (S7.trans S8))
    have u6 := t6.same (S7.trans S8)
    have u7 := t7.same S8
    have SS : Same H _ := (S (o := .tup []) h1).trans ((S (o := .lst []) h2).trans ((S (o := .dK []) h3).trans ((S (o := .tup [.int 0]) h4).trans ((S (o := .lst [.int 0]) h5).trans ((S (o := .tup [.non]) h6).trans (S7.trans S8))))))
    have hb29 : ((10 : Int) ^ (29 : Int).toNat).natAbs < 2 ^ 100 := by rw [pow29]; decide
    have all16 : ∀ x ∈ ([.non, .bl true, .bl false, .int (-1), .int (10 ^ (29 : Int).toNat), .str "", .str "read", .str "write", .str "bit", .ref a1, .ref a2, .ref a3, .ref a4, .ref a5, .ref a6, .ref a7] : List V), Tg _ p x := fun x hx => by
      refine (?_ : Tg _ p x)
      simp only [or_false, List.mem_cons, List.not_mem_nil] at hx
      rcases hx with rfl | rfl | rfl | rfl | rfl | rfl | rfl | rfl | rfl | rfl | rfl | rfl | rfl | rfl | rfl | rfl
      rotate_right
      · exact u7
      · exact tg_non
      · exact tg_bl _
      · exact tg_bl _
      · exact tg_int _ (by decide)
      · exact tg_int _ hb29
      · exact tg_str _ (by decide +kernel) (by decide +kernel) (by decide +kernel)
      · exact tg_str _ (by decide +kernel) (by decide +kernel) (by decide +kernel)
      · exact tg_str _ (by decide +kernel) (by decide +kernel) (by decide +kernel)
      · exact tg_str _ (by decide +kernel) (by decide +kernel) (by decide +kernel)
      · exact u1
      · exact u2
      · exact u3
      · exact u4
      · exact u5
      · exact u6
    have at8 := (upd_same : (upd (upd (upd (upd (upd (upd (upd (upd (upd H a1 (.tup [])) a2 (.lst [])) a3 (.dK [])) a4 (.tup [.int 0])) a5 (.lst [.int 0])) a6 (.tup [.non])) a7 (.dK [])) a7 (.dK (mergeK [] [(.inl 0, .int 1)]))) a8 (.lst [.non, .bl true, .bl false, .int (-1), .int (10 ^ (29 : Int).toNat), .str "", .str "read", .str "write", .str "bit", .ref a1, .ref a2, .ref a3, .ref a4, .ref a5, .ref a6, .ref a7])) a8 = some (.lst [.non, .bl true, .bl false, .int (-1), .int (10 ^ (29 : Int).toNat), .str "", .str "read", .str "write", .str "bit", .ref a1, .ref a2, .ref a3, .ref a4, .ref a5, .ref a6, .ref a7]))
    generalize (upd (upd (upd (upd (upd (upd (upd (upd (upd H a1 (.tup [])) a2 (.lst [])) a3 (.dK [])) a4 (.tup [.int 0])) a5 (.lst [.int 0])) a6 (.tup [.non])) a7 (.dK [])) a7 (.dK (mergeK [] [(.inl 0, .int 1)]))) a8 (.lst [.non, .bl true, .bl false, .int (-1), .int (10 ^ (29 : Int).toNat), .str "", .str "read", .str "write", .str "bit", .ref a1, .ref a2, .ref a3, .ref a4, .ref a5, .ref a6, .ref a7])) = H8 at st8 SS all16 at8 ⊢
    clear u1 u2 u3 u4 u5 u6 u7 t1 t2 t3 t4 t5 t6 t7 S7 S8 st1 st2 st3 st4 st5 st6 st7 h8 h7 h6 h5 h4 h3 h2 h1
    have os : ∀ x : Str, (x.cps.toList.all fun c => decide (c < 16 ^ 8)) = true → x.cps.size ≤ 10 → (PyData.str x).canLay0 = true → OkL 11 3 [.str x] := fun x h hb hs => OkL.cons (b := 10) (c := 0) (OkD.str x h hb hs) OkL.nil
    refine ⟨_, rfl, (by show 1 ≤ sizeLine; decide), fun a9 h9 => ⟨(by show 1 ≤ sizeLine; decide), fun b0 h10 => ⟨(by show 2 ≤ sizeLine; decide), fun b1 h11 => ⟨(by show 1 ≤ sizeLine; decide), fun b2 h12 => ⟨(by show 4 ≤ sizeLine; decide), fun b3 h13 => ?_⟩⟩⟩⟩⟩
    have S9 := S (o := .tup [.str "read"]) h9
    have st9 := st8.same S9
    have t9 : Tg _ p (.ref a9) := ⟨.tuple [.str "read"], .tup (hm_new st8 h9) (.cons (.str _) .nil), .inl (OkD.mono (OkL.tup (os "read" (by decide +kernel) (by decide +kernel) (by decide +kernel))) (by decide) (by decide))⟩
    have S10 := S (o := .tup [.str "cut"]) h10
    have st10 := st9.same S10
    have t10 : Tg _ p (.ref b0) := ⟨.tuple [.str "cut"], .tup (hm_new st9 h10) (.cons (.str _) .nil), .inl (OkD.mono (OkL.tup (os "cut" (by decide +kernel) (by decide +kernel) (by decide +kernel))) (by decide) (by decide))⟩
    have S11 := S (o := .tup [.int 0, .int 1]) h11
    have st11 := st10.same S11
    have S12 := S (o := .tup [.ref b1]) h12
    have st12 := st11.same S12
    have o2 : OkL 2 1 [.int 0, .int 1] := OkL.cons (b := 0) (c := 1) (OkD.int 0 (by decide)) (OkL.cons (b := 0) (c := 0) (OkD.int 1 (by decide)) OkL.nil)
    have t12 : Tg _ p (.ref b2) := ⟨.tuple [.tuple [.int 0, .int 1]], .tup (hm_new st11 h12) (.cons (.tup (Hm.step (p := p) (fun b o e _ => S12 b o e) _ _ (hm_new st10 h11)) (.cons (.int _) (.cons (.int _) .nil))) .nil), .inl (OkD.mono (OkL.tup (OkL.cons (c := 0) (OkL.tup o2) OkL.nil)) (by decide) (by decide))⟩
    have S13 := S (o := .lst [.ref a9, .ref b0, .ref b2, .int 16384]) h13
    have st13 := st12.same S13
    have SS' := SS.trans (S9.trans (S10.trans (S11.trans (S12.trans S13))))
    have v9 := t9.same (S10.trans (S11.trans (S12.trans S13)))
    have v10 := t10.same (S11.trans (S12.trans S13))
    have v12 := t12.same S13
    refine ⟨a8, b3, _, _, rfl, rfl, (S9.trans (S10.trans (S11.trans (S12.trans S13)))) _ _ at8, upd_same, (by show 16 + 4 ≤ sizeLine; decide), fun b4 h14 => ?_⟩
    have S14 := S (o := .lst ([.non, .bl true, .bl false, .int (-1), .int (10 ^ (29 : Int).toNat), .str "", .str "read", .str "write", .str "bit", .ref a1, .ref a2, .ref a3, .ref a4, .ref a5, .ref a6, .ref a7] ++ [.ref a9, .ref b0, .ref b2, .int 16384])) h14
    have SZ := (S9.trans (S10.trans (S11.trans (S12.trans (S13.trans S14)))))
    have all20 : ∀ x ∈ ([.non, .bl true, .bl false, .int (-1), .int (10 ^ (29 : Int).toNat), .str "", .str "read", .str "write", .str "bit", .ref a1, .ref a2, .ref a3, .ref a4, .ref a5, .ref a6, .ref a7] ++ [.ref a9, .ref b0, .ref b2, .int 16384] : List V), Tg _ p x := fun x hx => by
      refine (?_ : Tg _ p x)
      rcases List.mem_append.mp hx with h | h
      · exact (all16 x h).same SZ
      · simp only [or_false, List.mem_cons, List.not_mem_nil] at h
        rcases h with rfl | rfl | rfl | rfl
        · exact v9.same S14
        · exact v10.same S14
        · exact v12.same S14
        · exact tg_int _ (by decide)
    refine ⟨_, rfl, p, 20, rfl, ⟨by decide, by decide⟩, st13.same S14, fun r HF r0 r1 ho stF => ?_⟩
    obtain ⟨r, rfl⟩ := Int.eq_ofNat_of_zero_le r0
    have lt : r < ([.non, .bl true, .bl false, .int (-1), .int (10 ^ (29 : Int).toNat), .str "", .str "read", .str "write", .str "bit", .ref a1, .ref a2, .ref a3, .ref a4, .ref a5, .ref a6, .ref a7] ++ [.ref a9, .ref b0, .ref b2, .int 16384] : List V).length := by show r < 20; omega
    have ge := List.getElem?_eq_getElem lt
    have n14 : b4 ≠ p := (st13.ne h14)
    refine ⟨b4, _, _, _, rfl, rfl, SqL.of ((ho b4 n14).trans upd_same), atI_nat ge, ?_⟩
    exact k _ _ ((all20 _ (List.getElem_mem lt)).on ho.ex) stF ((Same.ex (SS'.trans S14)).trans ho.ex)
end
end My
namespace My
open PySem L2
open FK (Flds PRes)
def fbI (F : Fl) (i : Nat) : Nat := fbN (F.ce[i]?.getD [])
def badI (F : Fl) (i : Nat) : Bool := F.fl[i]?.getD false
def wcI (F : Fl) (i : Nat) : Nat := F.wc[i]?.getD 0
def hdP (F : Fl) (i : Nat) : Bool := decide (0 < fbI F i) && decide (fbI F i < F.pg) && !badI F i
def hdF (F : Fl) : Option Nat := (List.range F.nb).find? (hdP F)
def bkP (F : Fl) (i : Nat) : Bool := decide (fbI F i = 0) && !badI F i
def tnP (F : Fl) (i : Nat) : Bool := decide (0 < fbI F i) && !badI F i && !(hdF F == some i)
def bkL (F : Fl) : List Nat := (List.range F.nb).filter (bkP F)
def tnL (F : Fl) : List Nat := (List.range F.nb).filter (tnP F)
def hdR (F : Fl) : Nat := match hdF F with
  | none => 0
  | some i => F.pg - fbI F i
def freF (F : Fl) : Nat := hdR F + (bkL F).length * F.pg
def fwL (F : Fl) (ns : List Nat) : List Nat := (List.range F.nb).filter fun i => badI F i && decide (0 < ns[i]?.getD 0)
theorem fbI_at {F : Fl} {i : Nat} {cs : List Cl} (h : F.ce[i]? = some cs) : fbI F i = fbN cs := by unfold fbI; rw [h]; rfl
theorem badI_at {F : Fl} {i : Nat} {b : Bool} (h : F.fl[i]? = some b) : badI F i = b := by unfold badI; rw [h]; rfl
theorem FlAt.ceI {K : PySem.W.Frag} {C : Addr} {H : Hp} {p : Addr} {h : FlH} {F : Fl} (A : FlAt K C H p h F) {i : Nat} (hi : i < F.nb) : ∃ cs, F.ce[i]? = some cs ∧ fbI F i = fbN cs := by
  have e : F.ce[i]? = some (F.ce[i]'(by rw [A.lc]; exact hi)) := List.getElem?_eq_getElem _
  exact ⟨_, e, fbI_at e⟩
theorem FlAt.flI {K : PySem.W.Frag} {C : Addr} {H : Hp} {p : Addr} {h : FlH} {F : Fl} (A : FlAt K C H p h F) {i : Nat} (hi : i < F.nb) : F.fl[i]? = some (badI F i) := by
  have e : F.fl[i]? = some (F.fl[i]'(by rw [A.lf]; exact hi)) := List.getElem?_eq_getElem _
  rw [e, badI_at e]
theorem FlAt.wcI {K : PySem.W.Frag} {C : Addr} {H : Hp} {p : Addr} {h : FlH} {F : Fl} (A : FlAt K C H p h F) {i : Nat} (hi : i < F.nb) : F.wc[i]? = some (wcI F i) := by
  have e : F.wc[i]? = some (F.wc[i]'(by rw [A.lw]; exact hi)) := List.getElem?_eq_getElem _
  rw [e]; unfold My.wcI; rw [e]; rfl
/-- how a head lies -/
def HdAt (H : Hp) (v : V) (F : Fl) : Prop := (hdF F = none ∧ v = .non) ∨ ∃ (i : Nat) (a : Addr), hdF F = some i ∧ i < F.nb ∧ v = .ref a ∧ H a = some (.tup [.int (i : Nat), .int (fbI F i : Nat)])
theorem HdAt.same {H H' : Hp} {v : V} {F : Fl} (h : HdAt H v F) (s : Same H H') : HdAt H' v F := h.elim .inl fun ⟨i, a, e1, e2, e3, e4⟩ => .inr ⟨i, a, e1, e2, e3, s _ _ e4⟩
section
variable {P : Program} {w : World} {K : PySem.W.Frag} {mg : Str → Option Value} {base : Heap} {C BK TK : Addr}
abbrev sHeadOf : Stmt := top 65
abbrev nHeadOf : List Str := ["flash", "block", "page"]
theorem scHeadOf : FnScope nHeadOf ["flash"] (defScope sHeadOf) := ⟨rfl, rfl, rfl, by decide +kernel, rfl, by decide +kernel, by decide +kernel⟩
def spHead (K : PySem.W.Frag) (C : Addr) : Sp := fun vs H Q _ => ∃ p h F, vs = [.ref p] ∧ FlAt K C H p h F ∧ F.Wd ∧ ∀ (v : V) (H' : Hp), HdAt H' v F → Same H H' → Q v H'
set_option maxHeartbeats 8000000 in
theorem okHead {f fB fG fF fX : Addr} {fd fdB fdG fdF fdX : FuncData} (D : Df K mg "head_of" sHeadOf ["flash"] f fd) (Tx' : Tx K mg) (T : Tf K mg C BK TK) (MB : Mf K C "blocks" "Flash.blocks" (sMeth 17) ["self"] fB fdB) (MG : Mf K C "pages" "Flash.pages" (sMeth 18) ["self"] fG fdG)
    (MF : Mf K C "first_blank" "Flash.first_blank" (sMeth 19) ["self", "block"] fF fdF) (MX : Mf K C "is_bad" "Flash.is_bad" (sMeth 14) ["self", "block"] fX fdX) (GX : FnOk P w K mg base (CXF P w) 4 fX fdX ["self", "block"] (spBad K C)) : FnOk P w K mg base CX0 5 f fd ["flash"] (spHead K C) := by
  refine D.F.ok scHeadOf (fun vs H Q E h => ?_) (fun cdv A outer s H vs Q E hr h => ?_)
  · obtain ⟨_, _, _, rfl, _⟩ := h; rfl
  · obtain ⟨p, h, F, rfl, fa, wd, kk⟩ := h
    have kn : hdF F = none → Q .non H := fun e => kk _ _ (.inl ⟨e, rfl⟩) (Same.refl _)
    have ks : ∀ (i : Nat) (a : Addr), hdF F = some i → i < F.nb → H a = none → Q (.ref a) (upd H a (.tup [.int (i : Nat), .int (fbI F i : Nat)])) := fun i a e hi ha => kk _ _ (.inr ⟨i, a, e, hi, rfl, upd_same⟩) (same_new ha)
    obtain ⟨dx, ob⟩ := fa.ob
    have nb8 := fa.nb
    have pg8 := fa.pg
    have hr1 := hr.mono (show 1 ≤ 4 by decide)
    refine ⟨_, pss_cons (ps_for PassesOwn.never rfl (pi_range1 (by rfl) Tx'.range (pa_cons (pe_meth0 (pv 0) T.cl MB.m (okBls MB.F T) hr1 MB.b .nil pass0) pa_nil)) (pg_name (i := 1) scHeadOf.nd rfl (Or.inl rfl))
        (pss_cons (ps_set (i := 2) scHeadOf.nd rfl (Or.inl rfl) (pe_meth (pv 0) T.cl MF.m (okFbl MF.F T) hr1 MF.b .nil pass0 (pa_cons (pv 1) pa_nil)))
        (pss_one (ps_if (PW.pt (pw_and (pt_chain op_lt op_lt pe_int (pv 2) (pe_meth0 (pv 0) T.cl MG.m (okPgs MG.F T) hr1 MG.b .nil pass0)) (pw_and1 (pt_not (pt_val (pe_meth (pv 0) T.cl MX.m GX hr MX.b .nil passF (pa_cons (pv 1) pa_nil)))))))
          (pss_one (ps_ret (pe_tup (pa_cons (pv 1) (pa_cons (pv 2) pa_nil)))))
          pss_nil))))
      (pss_one (ps_ret pe_non)), ?_⟩
    refine ⟨_, rfl, p, dx, _, rfl, ob, (by kernel_rfl), p, h, F, rfl, fa, (F.nb : Int), rfl, by omega, by omega, ?_⟩
    refine for_range0 (n := F.nb) (fun i σ H' => H' = H ∧ (∀ j, j < i → hdP F j = false) ∧ ∃ v1 v2 : Option V, σ = [some (.ref p), v1, v2]) ⟨rfl, fun j hj => absurd hj (Nat.not_lt_zero _), _, _, rfl⟩ ?_ ?_
    · rintro i σ H1 hi ⟨rfl, hall, v1, v2, rfl⟩
      obtain ⟨cs, hc, hf⟩ := fa.ceI hi
      refine ⟨_, rfl, p, dx, _, rfl, ob, (by kernel_rfl), _, rfl, p, h, F, i, cs, rfl, fa, wd, hc, ?_⟩
      have hP : hdP F i = (decide (0 < fbN cs) && decide (fbN cs < F.pg) && !badI F i) := by unfold hdP; rw [hf]
      have step : hdP F i = false → ∀ j, j < i + 1 → hdP F j = false := fun z j hj => by
        rcases Nat.lt_succ_iff_lt_or_eq.mp hj with q | q
        · exact hall j q
        · rw [q]; exact z
      refine ⟨_, rfl, _, _, rfl, rfl, decide (0 < fbN cs), congrArg V.bl (by rw [decide_eq_decide]; omega), ?_⟩
      cases h0 : decide (0 < fbN cs) with
      | false => exact iteF ⟨false, rfl, iteF (iteF ⟨rfl, step (by rw [hP, h0]; rfl), _, _, rfl⟩)⟩
      | true =>
        refine iteT ⟨_, rfl, p, dx, _, rfl, ob, (by kernel_rfl), p, h, F, rfl, fa, _, _, rfl, rfl, decide (fbN cs < F.pg), congrArg V.bl (by rw [decide_eq_decide]; omega), ?_⟩
        cases h1 : decide (fbN cs < F.pg) with
        | false => exact iteF (iteF ⟨rfl, step (by rw [hP, h0, h1]; rfl), _, _, rfl⟩)
        | true =>
          refine iteT ⟨_, rfl, p, dx, _, rfl, ob, (by kernel_rfl), _, rfl, p, h, F, i, badI F i, rfl, fa, fa.flI hi, ?_⟩
          cases h2 : badI F i with
          | true => exact ⟨true, rfl, iteF ⟨rfl, step (by rw [hP, h0, h1, h2]; rfl), _, _, rfl⟩⟩
          | false =>
            refine ⟨false, rfl, iteT ⟨_, rfl, _, rfl, (by show 2 ≤ sizeLine; decide), fun a ha => ?_⟩⟩
            have hd : hdF F = some i := by
              unfold hdF
              rw [List.find?_range_eq_some]
              exact ⟨by rw [hP, h0, h1, h2]; rfl, List.mem_range.mpr hi, fun j hj => by rw [hall j hj]; rfl⟩
            have := ks i a hd hi ha
            rw [hf] at this
            exact this
    · rintro σ H1 ⟨rfl, hall, v1, v2, rfl⟩
      refine kn ?_
      unfold hdF
      rw [List.find?_range_eq_none]
      exact fun j hj => by rw [hall j hj]; rfl
abbrev sFailedWN : Stmt := top 70
abbrev nFailedWN : List Str := ["flash", "living", "block"]
theorem scFailedWN : FnScope nFailedWN ["flash", "living"] (defScope sFailedWN) := ⟨rfl, rfl, rfl, by decide +kernel, rfl, by decide +kernel, by decide +kernel⟩
theorem wipe3 (a b c v : Option V) : wipe ((wipe ([a, b, c] : St) [2]).set 2 v) [2] = wipe ([a, b, c] : St) [2] := rfl
theorem range_snoc (i : Nat) (q : Nat → Bool) : (List.range (i + 1)).filter q = (List.range i).filter q ++ (if q i = true then [i] else []) := by
  rw [List.range_succ, List.filter_append]
  cases h : q i <;> simp [h]
def spFwn (K : PySem.W.Frag) (C : Addr) : Sp := fun vs H Q _ => ∃ p h F t ns, vs = [.ref p, .ref t] ∧ FlAt K C H p h F ∧ H t = some (.tup ((ns : List Nat).map fun m => V.int ((m : Nat) : Int))) ∧ ns.length = F.nb ∧ ∀ a, H a = none → Q (.ref a) (upd H a (.lst ((fwL F ns).map fun m => V.int ((m : Nat) : Int))))
set_option maxHeartbeats 8000000 in
theorem okFwn {f fB fX : Addr} {fd fdB fdX : FuncData} (D : Df K mg "failed_with_newest" sFailedWN ["flash", "living"] f fd) (Tx' : Tx K mg) (T : Tf K mg C BK TK) (MB : Mf K C "blocks" "Flash.blocks" (sMeth 17) ["self"] fB fdB)
    (MX : Mf K C "is_bad" "Flash.is_bad" (sMeth 14) ["self", "block"] fX fdX) (GX : FnOk P w K mg base (CXF P w) 4 fX fdX ["self", "block"] (spBad K C)) : FnOk P w K mg base CX0 5 f fd ["flash", "living"] (spFwn K C) := by
  refine D.F.ok scFailedWN (fun vs H Q E h => ?_) (fun cdv A outer s H vs Q E hr h => ?_)
  · obtain ⟨_, _, _, _, _, rfl, _⟩ := h; rfl
  · obtain ⟨p, h, F, t, ns, rfl, fa, ht, hn, k⟩ := h
    obtain ⟨dx, ob⟩ := fa.ob
    have nb8 := fa.nb
    have hr1 := hr.mono (show 1 ≤ 4 by decide)
    refine ⟨_, pss_one (ps_ret (pe_lc (own := [("block", 2)]) (g := gName 2) (by rfl) scFailedWN.nd (pi_range1 (by rfl) Tx'.range (pa_cons (pe_meth0 (pv 0) T.cl MB.m (okBls MB.F T) hr1 MB.b .nil pass0) pa_nil)) (blkOk_by (own := [("block", 2)]) (N := nFailedWN) (sc := defScope sFailedWN) (by decide +kernel)) (fun _ _ _ _ _ => pg_name (i := 2) scFailedWN.nd rfl (Or.inl rfl)) (fun _ _ _ _ _ => pts_one (PW.pt (pw_and (pt_val (pe_meth (pv 0) T.cl MX.m GX hr MX.b .nil passF (pa_cons (pv 2) pa_nil))) (pw_and1 (pt_cmpR op_gt (pe_ix (show IxR _ (rIxT K) from ix_tup) (pv 1) (pv 2) (fun _ _ => rfl)) pe_int (nomark _)))))) (fun _ _ _ _ _ => (pv 2)))), ?_⟩
    refine ⟨_, rfl, p, dx, _, rfl, ob, (by kernel_rfl), p, h, F, rfl, fa, (F.nb : Int), rfl, by omega, by omega, fun DD hDD => ?_⟩
    have nep : ∀ b o, H b = some o → b ≠ DD := fun b o e z => by rw [z, hDD] at e; cases e
    refine lc_range (lo := 0) (n := F.nb) (fun j HH => HH = upd H DD (.lst (((List.range j).filter fun i => badI F i && decide (0 < ns[i]?.getD 0)).map fun m => V.int ((m : Nat) : Int)))) rfl ?_ ?_
    · rintro j HH hj rfl
      have i0 : some (some (V.int (0 + (j : Int)))) = some (some (V.int (j : Int))) := congrArg (fun v => some (some (V.int v))) (Int.zero_add _)
      have S := same_new (o := .lst (((List.range j).filter fun i => badI F i && decide (0 < ns[i]?.getD 0)).map fun m => V.int ((m : Nat) : Int))) hDD
      have hnj : ns[j]? = some (ns[j]'(by rw [hn]; exact hj)) := List.getElem?_eq_getElem _
      generalize ns[j]'(by rw [hn]; exact hj) = c at hnj
      have er := range_snoc j (fun i => badI F i && decide (0 < ns[i]?.getD 0))
      have eq : (badI F j && decide (0 < ns[j]?.getD 0)) = (badI F j && decide (0 < c)) := by rw [hnj]; rfl
      rw [eq] at er
      have nxt : (badI F j && decide (0 < c)) = false → upd H DD (.lst (((List.range j).filter fun i => badI F i && decide (0 < ns[i]?.getD 0)).map fun m => V.int ((m : Nat) : Int))) = upd H DD (.lst (((List.range (j + 1)).filter fun i => badI F i && decide (0 < ns[i]?.getD 0)).map fun m => V.int ((m : Nat) : Int))) := fun z => by
        rw [er, z]; simp
      refine ⟨wipe3 _ _ _ _, ?_⟩
      refine ⟨_, rfl, p, dx, _, rfl, S _ _ ob, (by kernel_rfl), V.int (j : Int), i0, p, h, F, j, badI F j, rfl, fa.same S, fa.flI hj, ?_⟩
      cases h2 : badI F j with
      | false => exact ⟨false, rfl, iteF (iteF (nxt (by rw [h2]; rfl)))⟩
      | true =>
        refine ⟨true, rfl, iteT ⟨_, rfl, V.int (j : Int), i0, t, _, _, _, rfl, rfl, SqT.of (S _ _ ht), atI_nat (by rw [List.getElem?_map, hnj]; rfl), _, _, rfl, rfl, decide (0 < c), congrArg V.bl (by rw [decide_eq_decide]; omega), ?_⟩⟩
        cases h3 : decide (0 < c) with
        | false => exact iteF (nxt (by rw [h2, h3]; rfl))
        | true =>
          refine iteT ⟨V.int (j : Int), i0, _, upd_same, small1000 (by rw [List.length_map]; have := List.length_filter_le (fun i => badI F i && decide (0 < ns[i]?.getD 0)) (List.range j); rw [List.length_range] at this; omega), ?_⟩
          rw [er, h2, h3, upd_upd]
          simp
    · rintro HH rfl
      exact k DD hDD
end
end My
namespace My
open PySem L2
open FK (Flds PRes)
def wlt (w : Nat → Nat) (x y : Nat) : Prop := w x < w y ∨ w x = w y ∧ x < y
theorem wlt_asym {w : Nat → Nat} {x y : Nat} (h : wlt w x y) : ¬ wlt w y x := by
  unfold wlt at *; omega
theorem stable_wlt {w : Nat → Nat} : ∀ l : List Nat, l.Pairwise (fun x y => w x ≤ w y) → (∀ z, (l.filter fun x => w x == z).Pairwise (· < ·)) → l.Pairwise (wlt w)
  | [], _, _ => .nil
  | a :: r, h, hf => by
    rw [List.pairwise_cons] at h
    refine List.Pairwise.cons (fun y hy => ?_) (stable_wlt r h.2 fun z => ?_)
    · have le := h.1 y hy
      by_cases e : w a = w y
      · have := hf (w a)
        rw [List.filter_cons_of_pos (by simp)] at this
        exact .inr ⟨e, (List.pairwise_cons.mp this).1 y (List.mem_filter.mpr ⟨hy, by simp [e]⟩)⟩
      · exact .inl (by omega)
    · have := hf z
      rw [List.filter_cons] at this
      split at this
      · exact (List.pairwise_cons.mp this).2
      · exact this
theorem perm_uniq {R : Nat → Nat → Prop} (as : ∀ x y, R x y → ¬ R y x) : ∀ l m : List Nat, l.Perm m → l.Pairwise R → m.Pairwise R → l = m
  | [], m, p, _, _ => (List.nil_perm.mp p).symm
  | a :: l, m, p, hl, hm => by
    cases m with
    | nil => exact absurd (id p.length_eq) (by simp)
    | cons b m =>
      rw [List.pairwise_cons] at hl hm
      have e : a = b := by
        have ha : a ∈ b :: m := p.subset (.head _)
        have hb : b ∈ a :: l := p.symm.subset (.head _)
        rcases List.mem_cons.mp ha with z | z
        · exact z
        · rcases List.mem_cons.mp hb with y | y
          · exact y.symm
          · exact absurd (hm.1 a z) (as _ _ (hl.1 b y))
      subst e
      rw [perm_uniq as l m (List.Perm.cons_inv p) hl.2 hm.2]
theorem sort_nat {l : List Nat} {w : Nat → Nat} {ns' : List Int} (hl : l.Pairwise (· < ·)) (p : ns'.Perm (l.map fun m => ((m : Nat) : Int))) (q : ns'.Pairwise fun x y => ((w x.toNat : Nat) : Int) ≤ (w y.toNat : Nat))
    (r : ∀ z : Int, ns'.filter (fun x => ((w x.toNat : Nat) : Int) == z) = (l.map fun m => ((m : Nat) : Int)).filter (fun x => ((w x.toNat : Nat) : Int) == z)) : ∃ l' : List Nat, ns' = (l'.map fun m => ((m : Nat) : Int)) ∧ l'.Perm l ∧ l'.Pairwise (wlt w) := by
  obtain ⟨l', p', rfl⟩ := perm_lift p l rfl
  refine ⟨l', rfl, p', stable_wlt l' ?_ fun z => ?_⟩
  · rw [List.pairwise_map] at q
    refine q.imp fun {a b} h => ?_
    simpa using h
  · have e := r (z : Int)
    rw [List.filter_map, List.filter_map] at e
    have f : ((fun x : Int => ((w x.toNat : Nat) : Int) == (z : Int)) ∘ fun m : Nat => ((m : Nat) : Int)) = fun x => w x == z := by
      funext x
      show (((w ((x : Int).toNat) : Nat) : Int) == (z : Int)) = (w x == z)
      rw [Int.toNat_natCast, Bool.eq_iff_iff, beq_iff_eq, beq_iff_eq]
      omega
    rw [f] at e
    have inj : ∀ a b : List Nat, a.map (fun m => ((m : Nat) : Int)) = b.map (fun m => ((m : Nat) : Int)) → a = b := fun a b h => by
      have := congrArg (List.map Int.toNat) h
      rw [List.map_map, List.map_map] at this
      have i : (Int.toNat ∘ fun m : Nat => ((m : Nat) : Int)) = id := by funext x; exact Int.toNat_natCast x
      rw [i, List.map_id, List.map_id] at this
      exact this
    rw [inj _ _ e]
    exact hl.filter _
theorem range_rise (n : Nat) (q : Nat → Bool) : ((List.range n).filter q).Pairwise (· < ·) := List.Pairwise.filter q List.pairwise_lt_range
structure Bm (K : PySem.W.Frag) (f : Addr) : Prop where
  g : PySem.W.specialIn K (.ref f) "__get__" = some (some (.builtin "function.__get__"))
  t : PySem.W.takesIn K (.ref f) = some false
theorem noF {P : Program} {w : World} (st : List Env) (H : Hp) (s : Shared) (e : Value) (s' : Shared) : ¬ CXF P w st H s E0 e s' := fun ⟨_, _, _, _, _, _, h⟩ => h.elim
theorem wipe3a (a b c v : Option V) : wipe ((wipe ([a, b, c] : St) [2]).set 2 v) [2] = wipe ([a, b, c] : St) [2] := rfl
theorem wipe4 (a b c d v : Option V) : wipe ((wipe ([a, b, c, d] : St) [3]).set 3 v) [3] = wipe ([a, b, c, d] : St) [3] := rfl
section
variable {P : Program} {w : World} {K : PySem.W.Frag} {mg : Str → Option Value} {base : Heap} {C BK TK : Addr}
abbrev sBlankBlocks : Stmt := top 66
abbrev nBlankBlocks : List Str := ["flash", "told", "block"]
theorem scBlankBlocks : FnScope nBlankBlocks ["flash"] (defScope sBlankBlocks) := ⟨rfl, rfl, rfl, by decide +kernel, rfl, by decide +kernel, by decide +kernel⟩
def spBlank (K : PySem.W.Frag) (C : Addr) (q : Fl → List Nat) : Sp := fun vs H Q _ => ∃ p h F, vs = [.ref p] ∧ FlAt K C H p h F ∧ F.Wd ∧ ∀ (l : List Nat) (L : Addr) (H' : Hp), l.Perm (q F) → l.Pairwise (wlt (wcI F)) → H L = none → H' L = some (.lst (l.map fun m => V.int ((m : Nat) : Int))) → Same H H' → Q (.ref L) H'
set_option maxHeartbeats 8000000 in
theorem okBlank {f fB fF fX fW : Addr} {fd fdB fdF fdX fdW : FuncData} (D : Df K mg "blank_blocks" sBlankBlocks ["flash"] f fd) (Tx' : Tx K mg) (hsrt : mg "sorted" = none) (T : Tf K mg C BK TK) (MB : Mf K C "blocks" "Flash.blocks" (sMeth 17) ["self"] fB fdB)
    (MF : Mf K C "first_blank" "Flash.first_blank" (sMeth 19) ["self", "block"] fF fdF) (MX : Mf K C "is_bad" "Flash.is_bad" (sMeth 14) ["self", "block"] fX fdX) (GX : FnOk P w K mg base (CXF P w) 4 fX fdX ["self", "block"] (spBad K C)) (MW : Mf K C "wipes" "Flash.wipes" (sMeth 13) ["self", "block"] fW fdW) (GW : FnOk P w K mg base (CXF P w) 4 fW fdW ["self", "block"] (spWps K C)) (B : Bm K fW) : FnOk P w K mg base CX0 7 f fd ["flash"] (spBlank K C bkL) := by
  refine D.F.ok scBlankBlocks (fun vs H Q E h => ?_) (fun cdv A outer s H vs Q E hr h => ?_)
  · obtain ⟨_, _, _, rfl, _⟩ := h; rfl
  · obtain ⟨p, h, F, rfl, fa, wd, k⟩ := h
    obtain ⟨dx, ob⟩ := fa.ob
    have nb8 := fa.nb
    have hr1 := hr.mono (show 1 ≤ 6 by decide)
    have hr4 := hr.mono (show 4 ≤ 6 by decide)
    refine ⟨_, pss_cons (ps_setLc (i := 1) (own := [("block", 2)]) (g := gName 2) (by rfl) scBlankBlocks.nd rfl rfl (sw_true rfl rfl rfl (by decide +kernel)) (pi_range1 (by rfl) Tx'.range (pa_cons (pe_meth0 (pv 0) T.cl MB.m (okBls MB.F T) hr1 MB.b .nil pass0) pa_nil)) (blkOk_by (own := [("block", 2)]) (N := nBlankBlocks) (sc := defScope sBlankBlocks) (by decide +kernel)) (fun _ _ _ _ _ => pg_name (i := 2) scBlankBlocks.nd rfl (Or.inl rfl)) (fun _ _ _ _ _ => pts_one (PW.pt (pw_and (pt_cmpR op_eq (pe_meth (pv 0) T.cl MF.m (okFbl MF.F T) hr1 MF.b .nil pass0 (pa_cons (pv 2) pa_nil)) pe_int (nomark _)) (pw_and1 (pt_not (pt_val (pe_meth (pv 0) T.cl MX.m GX hr4 MX.b .nil passF (pa_cons (pv 2) pa_nil)))))))) (fun _ _ _ _ _ => (pv 2)))
      (pss_one (ps_ret (pe_sortM (by rfl) hsrt (pv 1) (pv 0) T.cl MW.m B.g B.t GW hr MW.b (noF _)))), ?_⟩
    refine ⟨_, rfl, p, dx, _, rfl, ob, (by kernel_rfl), p, h, F, rfl, fa, (F.nb : Int), rfl, by omega, by omega, fun DD hDD => ?_⟩
    refine lc_range (lo := 0) (n := F.nb) (fun j HH => HH = upd H DD (.lst (((List.range j).filter (bkP F)).map fun m => V.int ((m : Nat) : Int)))) rfl ?_ ?_
    · rintro j HH hj rfl
      have i0 : some (some (V.int (0 + (j : Int)))) = some (some (V.int (j : Int))) := congrArg (fun v => some (some (V.int v))) (Int.zero_add _)
      have S := same_new (o := .lst (((List.range j).filter (bkP F)).map fun m => V.int ((m : Nat) : Int))) hDD
      obtain ⟨cs, hc, hf⟩ := fa.ceI hj
      have er := range_snoc j (bkP F)
      have eq : bkP F j = (decide (fbN cs = 0) && !badI F j) := by unfold bkP; rw [hf]
      rw [eq] at er
      have nxt : (decide (fbN cs = 0) && !badI F j) = false → upd H DD (.lst (((List.range j).filter (bkP F)).map fun m => V.int ((m : Nat) : Int))) = upd H DD (.lst (((List.range (j + 1)).filter (bkP F)).map fun m => V.int ((m : Nat) : Int))) := fun z => by
        rw [er, z]; simp
      refine ⟨wipe3a _ _ _ _, ?_⟩
      refine ⟨_, rfl, p, dx, _, rfl, S _ _ ob, (by kernel_rfl), V.int (j : Int), i0, p, h, F, j, cs, rfl, fa.same S, wd, hc, rfl, decide (fbN cs = 0), congrArg V.bl (by rw [Bool.eq_iff_iff, decide_eq_true_eq]; simp), ?_⟩
      cases h2 : decide (fbN cs = 0) with
      | false => exact iteF (iteF (nxt (by rw [h2]; rfl)))
      | true =>
        refine iteT ⟨_, rfl, p, dx, _, rfl, S _ _ ob, (by kernel_rfl), V.int (j : Int), i0, p, h, F, j, badI F j, rfl, fa.same S, fa.flI hj, ?_⟩
        cases h3 : badI F j with
        | true => exact ⟨true, rfl, iteF (nxt (by rw [h2, h3]; rfl))⟩
        | false =>
          refine ⟨false, rfl, iteT ⟨V.int (j : Int), i0, _, upd_same, small1000 (by rw [List.length_map]; have := List.length_filter_le (bkP F) (List.range j); rw [List.length_range] at this; omega), ?_⟩⟩
          rw [er, h2, h3, upd_upd]
          simp
    · rintro HH rfl
      have S := same_new (o := .lst (((List.range F.nb).filter (bkP F)).map fun m => V.int ((m : Nat) : Int))) hDD
      refine ⟨_, rfl, _, rfl, DD, p, dx, _, (bkL F).map fun m => ((m : Nat) : Int), fun z : Int => ((wcI F z.toNat : Nat) : Int), rfl, SqL.of (by rw [upd_same, List.map_map]; rfl), rfl, S _ _ ob, (by kernel_rfl), fun n hn => ?_, fun ns' L p1 p2 p3 hL => ?_⟩
      · obtain ⟨i, hi, rfl⟩ := List.mem_map.mp hn
        have hi' : i < F.nb := List.mem_range.mp (List.mem_filter.mp hi).1
        exact ⟨p, h, F, i, wcI F i, rfl, fa.same S, fa.wcI hi', rfl, rfl⟩
      · obtain ⟨l', rfl, q1, q2⟩ := sort_nat (range_rise _ _) p1 p2 p3
        refine k l' L _ q1 q2 ?_ (by rw [upd_same, List.map_map]; rfl) (S.trans (same_new hL))
        cases e : H L with
        | none => rfl
        | some o => rw [S _ _ e] at hL; cases hL
end
end My
namespace My
open PySem L2
open FK (Flds PRes)
section
variable {P : Program} {w : World} {K : PySem.W.Frag} {mg : Str → Option Value} {base : Heap} {C BK TK : Addr}
abbrev sTurn : Stmt := top 67
abbrev nTurn : List Str := ["flash", "head", "told", "block"]
theorem scTurn : FnScope nTurn ["flash"] (defScope sTurn) := ⟨rfl, rfl, rfl, by decide +kernel, rfl, by decide +kernel, by decide +kernel⟩
set_option maxHeartbeats 8000000 in
theorem okTurn {f fH fB fF fX fW : Addr} {fd fdH fdB fdF fdX fdW : FuncData} (D : Df K mg "blocks_in_turn" sTurn ["flash"] f fd) (DH : Df K mg "head_of" sHeadOf ["flash"] fH fdH) (GH : FnOk P w K mg base CX0 5 fH fdH ["flash"] (spHead K C)) (Tx' : Tx K mg) (hsrt : mg "sorted" = none) (T : Tf K mg C BK TK) (MB : Mf K C "blocks" "Flash.blocks" (sMeth 17) ["self"] fB fdB)
    (MF : Mf K C "first_blank" "Flash.first_blank" (sMeth 19) ["self", "block"] fF fdF) (MX : Mf K C "is_bad" "Flash.is_bad" (sMeth 14) ["self", "block"] fX fdX) (GX : FnOk P w K mg base (CXF P w) 4 fX fdX ["self", "block"] (spBad K C)) (MW : Mf K C "wipes" "Flash.wipes" (sMeth 13) ["self", "block"] fW fdW) (GW : FnOk P w K mg base (CXF P w) 4 fW fdW ["self", "block"] (spWps K C)) (B : Bm K fW) : FnOk P w K mg base CX0 7 f fd ["flash"] (spBlank K C tnL) := by
  refine D.F.ok scTurn (fun vs H Q E h => ?_) (fun cdv A outer s H vs Q E hr h => ?_)
  · obtain ⟨_, _, _, rfl, _⟩ := h; rfl
  · obtain ⟨p, h, F, rfl, fa0, wd, k⟩ := h
    have nb8 := fa0.nb
    have hr1 := hr.mono (show 1 ≤ 6 by decide)
    have hr4 := hr.mono (show 4 ≤ 6 by decide)
    have hr5 := hr.mono (show 5 ≤ 6 by decide)
    refine ⟨_, pss_cons (ps_set (i := 1) scTurn.nd rfl (Or.inr rfl) (pc DH GH hr5 (pa_cons (pv 0) pa_nil)))
      (pss_cons (ps_setLc (i := 2) (own := [("block", 3)]) (g := gName 3) (by rfl) scTurn.nd rfl rfl (sw_true rfl rfl rfl (by decide +kernel)) (pi_range1 (by rfl) Tx'.range (pa_cons (pe_meth0 (pv 0) T.cl MB.m (okBls MB.F T) hr1 MB.b .nil pass0) pa_nil)) (blkOk_by (own := [("block", 3)]) (N := nTurn) (sc := defScope sTurn) (by decide +kernel)) (fun _ _ _ _ _ => pg_name (i := 3) scTurn.nd rfl (Or.inl rfl)) (fun _ _ _ _ _ => pts_one (PW.pt (pw_and (pt_cmpR op_gt (pe_meth (pv 0) T.cl MF.m (okFbl MF.F T) hr1 MF.b .nil pass0 (pa_cons (pv 3) pa_nil)) pe_int (nomark _)) (pw_and (pt_not (pt_val (pe_meth (pv 0) T.cl MX.m GX hr4 MX.b .nil passF (pa_cons (pv 3) pa_nil)))) (pw_and1 (PW.pt (pw_or (pt_cmpR op_isN (pv 1) pe_non (nomark _)) (pw_or1 (pt_cmpR op_ne (pv 3) (pe_ix (show IxR _ (rIxT K) from ix_tup) (pv 1) pe_int (fun _ _ => rfl)) (nomark _)))))))))) (fun _ _ _ _ _ => (pv 3)))
      (pss_one (ps_ret (pe_sortM (by rfl) hsrt (pv 2) (pv 0) T.cl MW.m B.g B.t GW hr MW.b (noF _))))), ?_⟩
    refine ⟨_, rfl, p, h, F, rfl, fa0, wd, fun hv H1 hh S0 => ?_⟩
    have fa := fa0.same S0
    obtain ⟨dx, ob⟩ := fa.ob
    refine ⟨_, rfl, p, dx, _, rfl, ob, (by kernel_rfl), p, h, F, rfl, fa, (F.nb : Int), rfl, by omega, by omega, fun DD hDD => ?_⟩
    refine lc_range (lo := 0) (n := F.nb) (fun j HH => HH = upd H1 DD (.lst (((List.range j).filter (tnP F)).map fun m => V.int ((m : Nat) : Int)))) rfl ?_ ?_
    · rintro j HH hj rfl
      have i0 : some (some (V.int (0 + (j : Int)))) = some (some (V.int (j : Int))) := congrArg (fun v => some (some (V.int v))) (Int.zero_add _)
      have S := same_new (o := .lst (((List.range j).filter (tnP F)).map fun m => V.int ((m : Nat) : Int))) hDD
      obtain ⟨cs, hc, hf⟩ := fa.ceI hj
      have er := range_snoc j (tnP F)
      have eq : tnP F j = (decide (0 < fbN cs) && !badI F j && !(hdF F == some j)) := by unfold tnP; rw [hf]
      rw [eq] at er
      have nxt : (decide (0 < fbN cs) && !badI F j && !(hdF F == some j)) = false → upd H1 DD (.lst (((List.range j).filter (tnP F)).map fun m => V.int ((m : Nat) : Int))) = upd H1 DD (.lst (((List.range (j + 1)).filter (tnP F)).map fun m => V.int ((m : Nat) : Int))) := fun z => by
        rw [er, z]; simp
      have yes : (decide (0 < fbN cs) && !badI F j && !(hdF F == some j)) = true → ∃ acc, upd H1 DD (.lst (((List.range j).filter (tnP F)).map fun m => V.int ((m : Nat) : Int))) DD = some (.lst acc) ∧ acc.length < sizeLine ∧ upd (upd H1 DD (.lst (((List.range j).filter (tnP F)).map fun m => V.int ((m : Nat) : Int)))) DD (.lst (acc ++ [V.int (j : Int)])) = upd H1 DD (.lst (((List.range (j + 1)).filter (tnP F)).map fun m => V.int ((m : Nat) : Int))) := fun z => by
        refine ⟨_, upd_same, small1000 (by rw [List.length_map]; have := List.length_filter_le (tnP F) (List.range j); rw [List.length_range] at this; omega), ?_⟩
        rw [er, z, upd_upd]
        simp
      refine ⟨wipe4 _ _ _ _ _, ?_⟩
      refine ⟨_, rfl, p, dx, _, rfl, S _ _ ob, (by kernel_rfl), V.int (j : Int), i0, p, h, F, j, cs, rfl, fa.same S, wd, hc, _, _, rfl, rfl, decide (0 < fbN cs), congrArg V.bl (by rw [decide_eq_decide]; omega), ?_⟩
      cases h2 : decide (0 < fbN cs) with
      | false => exact iteF (iteF (nxt (by rw [h2]; rfl)))
      | true =>
        refine iteT ⟨_, rfl, p, dx, _, rfl, S _ _ ob, (by kernel_rfl), V.int (j : Int), i0, p, h, F, j, badI F j, rfl, fa.same S, fa.flI hj, ?_⟩
        cases h3 : badI F j with
        | true => exact ⟨true, rfl, iteF (iteF (nxt (by rw [h2, h3]; rfl)))⟩
        | false =>
          refine ⟨false, rfl, iteT ⟨hv, rfl, rfl, ?_⟩⟩
          rcases hh with ⟨e0, rfl⟩ | ⟨i, a, e0, hi, rfl, ea⟩
          · exact ⟨true, congrArg V.bl (by simp), iteT (iteT ⟨V.int (j : Int), i0, yes (by rw [h2, h3, e0]; rfl)⟩)⟩
          · refine ⟨false, congrArg V.bl (by simp), iteF ⟨V.int (j : Int), i0, _, rfl, a, _, _, _, rfl, rfl, SqT.of (S _ _ ea), atI_nat (j := 0) rfl, rfl, !decide (j = i), congrArg V.bl ?_, ?_⟩⟩
            · rw [Bool.eq_iff_iff]; simp; omega
            · by_cases e : j = i
              · subst e
                rw [decide_eq_true rfl]
                exact iteF (nxt (by rw [h2, h3, e0]; simp))
              · rw [decide_eq_false e]
                exact iteT ⟨V.int (j : Int), i0, yes (by rw [h2, h3, e0]; simp; omega)⟩
    · rintro HH rfl
      have S := same_new (o := .lst (((List.range F.nb).filter (tnP F)).map fun m => V.int ((m : Nat) : Int))) hDD
      refine ⟨_, rfl, _, rfl, DD, p, dx, _, (tnL F).map fun m => ((m : Nat) : Int), fun z : Int => ((wcI F z.toNat : Nat) : Int), rfl, SqL.of (by rw [upd_same, List.map_map]; rfl), rfl, S _ _ ob, (by kernel_rfl), fun n hn => ?_, fun ns' L p1 p2 p3 hL => ?_⟩
      · obtain ⟨i, hi, rfl⟩ := List.mem_map.mp hn
        have hi' : i < F.nb := List.mem_range.mp (List.mem_filter.mp hi).1
        exact ⟨p, h, F, i, wcI F i, rfl, fa.same S, fa.wcI hi', rfl, rfl⟩
      · obtain ⟨l', rfl, q1, q2⟩ := sort_nat (range_rise _ _) p1 p2 p3
        have S2 := S0.trans S
        refine k l' L _ q1 q2 ?_ (by rw [upd_same, List.map_map]; rfl) (S2.trans (same_new hL))
        cases e : H L with
        | none => rfl
        | some o => rw [S2 _ _ e] at hL; cases hL
abbrev sFreeP : Stmt := top 68
abbrev nFreeP : List Str := ["flash", "head", "at_head"]
theorem scFreeP : FnScope nFreeP ["flash"] (defScope sFreeP) := ⟨rfl, rfl, rfl, by decide +kernel, rfl, by decide +kernel, by decide +kernel⟩
def spFre (K : PySem.W.Frag) (C : Addr) : Sp := fun vs H Q _ => ∃ p h F, vs = [.ref p] ∧ FlAt K C H p h F ∧ F.Wd ∧ ∀ H' : Hp, Same H H' → Q (.int (freF F : Nat)) H'
theorem hd_lt {F : Fl} {i : Nat} (h : hdF F = some i) : 0 < fbI F i ∧ fbI F i < F.pg ∧ badI F i = false := by
  unfold hdF at h
  rw [List.find?_range_eq_some] at h
  have := h.1
  unfold hdP at this
  simp at this
  exact ⟨this.1.1, this.1.2, this.2⟩
theorem bk_len (F : Fl) : (bkL F).length ≤ F.nb := by
  have := List.length_filter_le (bkP F) (List.range F.nb)
  rw [List.length_range] at this
  exact this
set_option maxHeartbeats 8000000 in
theorem okFre {f fH fK fG : Addr} {fd fdH fdK fdG : FuncData} (D : Df K mg "free_pages" sFreeP ["flash"] f fd) (DH : Df K mg "head_of" sHeadOf ["flash"] fH fdH) (GH : FnOk P w K mg base CX0 5 fH fdH ["flash"] (spHead K C)) (DK : Df K mg "blank_blocks" sBlankBlocks ["flash"] fK fdK) (GK : FnOk P w K mg base CX0 7 fK fdK ["flash"] (spBlank K C bkL)) (Tx' : Tx K mg) (T : Tf K mg C BK TK) (MG : Mf K C "pages" "Flash.pages" (sMeth 18) ["self"] fG fdG) : FnOk P w K mg base CX0 8 f fd ["flash"] (spFre K C) := by
  refine D.F.ok scFreeP (fun vs H Q E h => ?_) (fun cdv A outer s H vs Q E hr h => ?_)
  · obtain ⟨_, _, _, rfl, _⟩ := h; rfl
  · obtain ⟨p, h, F, rfl, fa0, wd, k⟩ := h
    have nb8 := fa0.nb
    have pg8 := fa0.pg
    have bl := bk_len F
    have hr1 := hr.mono (show 1 ≤ 7 by decide)
    have hr5 := hr.mono (show 5 ≤ 7 by decide)
    refine ⟨_, pss_cons (ps_set (i := 1) scFreeP.nd rfl (Or.inl rfl) (pc DH GH hr5 (pa_cons (pv 0) pa_nil)))
      (pss_cons (ps_set (i := 2) scFreeP.nd rfl (Or.inl rfl) (pe_ifExp (pt_cmpR op_isN (pv 1) pe_non (nomark _)) pe_int (pe_op op_sub (pe_meth0 (pv 0) T.cl MG.m (okPgs MG.F T) hr1 MG.b .nil pass0) (pe_ix ix_tup (pv 1) pe_int (fun _ _ => rfl)))))
      (pss_one (ps_ret (pe_op op_add (pv 2) (pe_op op_mul (pe_callB call_len_seq (by rfl) Tx'.len PySem.boot_len (pa_cons (pc DK GK hr (pa_cons (pv 0) pa_nil)) pa_nil)) (pe_meth0 (pv 0) T.cl MG.m (okPgs MG.F T) hr1 MG.b .nil pass0)))))), ?_⟩
    refine ⟨_, rfl, p, h, F, rfl, fa0, wd, fun hv H1 hh S0 => ?_⟩
    have fa := fa0.same S0
    obtain ⟨dx, ob⟩ := fa.ob
    have rest : ∀ (t : Nat), hdR F = t → ∀ (L : Addr) (l : List Nat) (H2 : Hp), l.length = (bkL F).length → Same H1 H2 → H2 L = some (.lst (l.map fun m => V.int ((m : Nat) : Int))) → Q (.int ((t : Nat) + ((l.map fun m => V.int ((m : Nat) : Int)).length : Nat) * (F.pg : Nat) : Int)) H2 := fun t ht L l H2 hl S2 _ => by
      have := k H2 (S0.trans S2)
      unfold freF at this
      rw [ht] at this
      rw [List.length_map, hl]
      push_cast at this ⊢
      exact this
    rcases hh with ⟨e0, rfl⟩ | ⟨i, a, e0, hi, rfl, ea⟩
    · refine ⟨_, rfl, rfl, true, congrArg V.bl (by simp), iteT ?_⟩
      refine ⟨_, rfl, _, rfl, p, h, F, rfl, fa, wd, fun l L H2 p1 _ _ e2 S2 => ?_⟩
      obtain ⟨dx2, ob2⟩ := (fa.same S2).ob
      exact ⟨L, _, rfl, .inl (SqL.of e2), _, rfl, p, dx2, _, rfl, ob2, (by kernel_rfl), p, h, F, rfl, fa.same S2, _, _, rfl, rfl, .inr (by omega), _, _, rfl, rfl, rest 0 (by unfold hdR; rw [e0]) L l H2 p1.length_eq S2 e2⟩
    · have lt := hd_lt e0
      refine ⟨_, rfl, rfl, false, congrArg V.bl (by simp), iteF ?_⟩
      refine ⟨_, rfl, p, dx, _, rfl, ob, (by kernel_rfl), p, h, F, rfl, fa, _, rfl, a, _, _, _, rfl, rfl, SqT.of ea, atI_nat (j := 1) rfl, _, _, rfl, rfl, ?_⟩
      refine ⟨_, rfl, _, rfl, p, h, F, rfl, fa, wd, fun l L H2 p1 _ _ e2 S2 => ?_⟩
      obtain ⟨dx2, ob2⟩ := (fa.same S2).ob
      have := rest (F.pg - fbI F i) (by unfold hdR; rw [e0]) L l H2 p1.length_eq S2 e2
      rw [Int.ofNat_sub (Nat.le_of_lt lt.2.1)] at this
      exact ⟨L, _, rfl, .inl (SqL.of e2), _, rfl, p, dx2, _, rfl, ob2, (by kernel_rfl), p, h, F, rfl, fa.same S2, _, _, rfl, rfl, .inr (by omega), _, _, rfl, rfl, this⟩
end
end My
namespace My
open PySem L2
open FK (Flds PRes)
def cI (ns : List Nat) (b : Nat) : Nat := ns[b]?.getD 0
def failS (c : Nat → Nat) : List Nat → Int → Option Int
  | [], left => some left
  | b :: bs, left => if left < (c b : Int) then none else failS c bs (left - c b)
def roomR (c : Nat → Nat) (pg : Nat) (want : Int) : List Nat → Int → Bool
  | [], left => decide (want ≤ left)
  | b :: bs, left => if want ≤ left then true else if left < (c b : Int) then false else roomR c pg want bs (left + ((pg : Int) - c b))
def hasR (F : Fl) (ns : List Nat) (want : Int) (l : List Nat) : Bool := match failS (cI ns) (fwL F ns) (freF F : Nat) with
  | none => false
  | some left => roomR (cI ns) F.pg want l left
/-- what is told, whatever order by wipes then number is taken (there is one) -/
def HasR (F : Fl) (ns : List Nat) (want : Int) (r : Bool) : Prop := ∀ l : List Nat, l.Perm (tnL F) → l.Pairwise (wlt (wcI F)) → r = hasR F ns want l
theorem fw_lt {F : Fl} {ns : List Nat} {i b : Nat} (h : (fwL F ns)[i]? = some b) : b < F.nb := List.mem_range.mp (List.mem_filter.mp (List.mem_of_getElem? h)).1
theorem cI_at {ns : List Nat} {b : Nat} (h : b < ns.length) : ns[b]? = some (cI ns b) := by
  have e : ns[b]? = some ns[b] := List.getElem?_eq_getElem h
  unfold cI; rw [e]; rfl
theorem failS_step {c : Nat → Nat} {l : List Nat} {i b : Nat} {left : Int} (h : l[i]? = some b) : failS c (l.drop i) left = if left < (c b : Int) then none else failS c (l.drop (i + 1)) (left - c b) := by
  obtain ⟨hi, e⟩ := List.getElem?_eq_some_iff.mp (id h)
  rw [List.drop_eq_getElem_cons hi, e]; rfl
theorem roomR_step {c : Nat → Nat} {pg : Nat} {want : Int} {l : List Nat} {i b : Nat} {left : Int} (h : l[i]? = some b) : roomR c pg want (l.drop i) left = if want ≤ left then true else if left < (c b : Int) then false else roomR c pg want (l.drop (i + 1)) (left + ((pg : Int) - c b)) := by
  obtain ⟨hi, e⟩ := List.getElem?_eq_some_iff.mp (id h)
  rw [List.drop_eq_getElem_cons hi, e]; rfl
theorem natAt {l : List Nat} {i : Nat} {x : V} (h : (l.map fun m => V.int ((m : Nat) : Int))[i]? = some x) : ∃ b, l[i]? = some b ∧ x = .int ((b : Nat) : Int) := by
  rw [List.getElem?_map] at h
  cases e : l[i]? with
  | none => rw [e] at h; cases h
  | some b => rw [e] at h; exact ⟨b, rfl, (Option.some.inj h).symm⟩
theorem lvOf_len (F : Fl) (n : Nat) (sl : Bool) : (lvOf F n sl).length = F.nb := by
  unfold lvOf lvF
  rw [lv_len, List.length_replicate]
section
variable {P : Program} {w : World} {K : PySem.W.Frag} {mg : Str → Option Value} {base : Heap} {C BK TK : Addr}
abbrev sHasRoom : Stmt := top 75
abbrev nHasRoom : List Str := ["plan", "flash", "many", "counts", "left", "block", "wanted"]
theorem scHasRoom : FnScope nHasRoom ["plan", "flash", "many"] (defScope sHasRoom) := ⟨rfl, rfl, rfl, by decide +kernel, rfl, by decide +kernel, by decide +kernel⟩
def spHasR (K : PySem.W.Frag) (C : Addr) : Sp := fun vs H Q _ => ∃ pa p h F n sl cm m, vs = [.ref pa, .ref p, .int m] ∧ PF K C H pa p h F n sl cm ∧ ∀ (r : Bool) (H' : Hp), HasR F (lvOf F n sl) (m + (F.pg : Nat)) r → Same H H' → Q (.bl r) H'
set_option maxHeartbeats 8000000 in
theorem okHasR {f fL fR fW fT : Addr} {fd fdL fdR fdW fdT : FuncData} (D : Df K mg "has_room" sHasRoom ["plan", "flash", "many"] f fd) (DL : Df K mg "living_pages" sLivingPages ["plan", "flash"] fL fdL) (GL : FnOk P w K mg base CX0 3 fL fdL ["plan", "flash"] (spLvP K C)) (DR : Df K mg "free_pages" sFreeP ["flash"] fR fdR) (GR : FnOk P w K mg base CX0 8 fR fdR ["flash"] (spFre K C))
    (DW : Df K mg "failed_with_newest" sFailedWN ["flash", "living"] fW fdW) (GW : FnOk P w K mg base CX0 5 fW fdW ["flash", "living"] (spFwn K C)) (DT : Df K mg "blocks_in_turn" sTurn ["flash"] fT fdT) (GT : FnOk P w K mg base CX0 7 fT fdT ["flash"] (spBlank K C tnL)) : FnOk P w K mg base CX0 9 f fd ["plan", "flash", "many"] (spHasR K C) := by
  refine D.F.ok scHasRoom (fun vs H Q E h => ?_) (fun cdv A outer s H vs Q E hr h => ?_)
  · obtain ⟨_, _, _, _, _, _, _, _, rfl, _⟩ := h; rfl
  · obtain ⟨pa, p, h, F, n, sl, cm, m, rfl, pf, k⟩ := h
    have hr3 := hr.mono (show 3 ≤ 8 by decide)
    have hr5 := hr.mono (show 5 ≤ 8 by decide)
    have hr7 := hr.mono (show 7 ≤ 8 by decide)
    refine ⟨_, pss_cons (ps_set (i := 3) scHasRoom.nd rfl (Or.inl rfl) (pc DL GL hr3 (pa_cons (pv 0) (pa_cons (pv 1) pa_nil))))
      (pss_cons (ps_set (i := 4) scHasRoom.nd rfl (Or.inl rfl) (pc DR GR hr (pa_cons (pv 1) pa_nil)))
      (pss_cons (ps_for PassesOwn.never rfl (pi_list (pc DW GW hr5 (pa_cons (pv 1) (pa_cons (pv 3) pa_nil)))) (pg_name (i := 5) scHasRoom.nd rfl (Or.inl rfl))
        (pss_cons (ps_if (pt_cmpR op_gt (pe_ix ix_tup (pv 3) (pv 5) (fun _ _ => rfl)) (pv 4) (nomark _))
          (pss_one (ps_ret pe_bl))
          pss_nil)
        (pss_one (ps_aug (i := 4) scHasRoom.nd rfl (Or.inl rfl) (pe_ix ix_tup (pv 3) (pv 5) (fun _ _ => rfl)) ip_sub))))
      (pss_cons (ps_set (i := 6) scHasRoom.nd rfl (Or.inl rfl) (pe_op op_add (pv 2) (pe_ix ix_tup (pv 0) pe_int (fun _ _ => rfl))))
      (pss_cons (ps_for PassesOwn.never rfl (pi_list (pc DT GT hr7 (pa_cons (pv 1) pa_nil))) (pg_name (i := 5) scHasRoom.nd rfl (Or.inl rfl))
        (pss_cons (ps_if (pt_cmpR op_ge (pv 4) (pv 6) (nomark _))
          (pss_one (ps_ret pe_bl))
          pss_nil)
        (pss_cons (ps_if (pt_cmpR op_gt (pe_ix ix_tup (pv 3) (pv 5) (fun _ _ => rfl)) (pv 4) (nomark _))
          (pss_one (ps_ret pe_bl))
          pss_nil)
        (pss_one (ps_aug (i := 4) scHasRoom.nd rfl (Or.inl rfl) (pe_op op_sub (pe_ix ix_tup (pv 0) pe_int (fun _ _ => rfl)) (pe_ix ix_tup (pv 3) (pv 5) (fun _ _ => rfl))) ip_add)))))
      (pss_one (ps_ret (pe_cmpR op_ge (pv 4) (pv 6) (nomark _)))))))), ?_⟩
    have hlen := lvOf_len F n sl
    obtain ⟨ns, hns⟩ : ∃ ns, ns = lvOf F n sl := ⟨_, rfl⟩
    rw [← hns] at hlen k
    have done : ∀ (l : List Nat) (r : Bool), l.Perm (tnL F) → l.Pairwise (wlt (wcI F)) → hasR F ns (m + (F.pg : Nat)) l = r → HasR F ns (m + (F.pg : Nat)) r := fun l r p1 p2 e l' q1 q2 => by
      rw [perm_uniq (fun _ _ => wlt_asym) l' l (q1.trans p1.symm) q2 p2]; exact e.symm
    refine ⟨_, rfl, _, rfl, pa, p, h, F, n, sl, cm, rfl, pf, fun q H1 eq S1 => ?_⟩
    rw [← hns] at eq
    have pf1 := pf.same S1
    refine ⟨_, rfl, p, h, F, rfl, pf1.fa, pf1.wd, fun H2 S2 => ?_⟩
    have pf2 := pf1.same S2
    have eq2 := S2 _ _ eq
    refine ⟨_, rfl, _, rfl, p, h, F, q, ns, rfl, pf2.fa, eq2, hlen, fun L hL => ?_⟩
    have S3 := same_new (o := .lst ((fwL F ns).map fun m => V.int ((m : Nat) : Int))) hL
    have pf3 := pf2.same S3
    have eq3 := S3 _ _ eq2
    have eL := at_new hL (o := .lst ((fwL F ns).map fun m => V.int ((m : Nat) : Int)))
    have SS := S1.trans (S2.trans S3)
    clear S3
    generalize (upd H2 L (.lst ((fwL F ns).map fun m => V.int ((m : Nat) : Int)))) = H3 at pf3 eq3 eL SS ⊢
    refine ⟨L, rfl, ⟨_, SqL.of eL⟩, for_list (K := K) (a := L) (xs := (fwL F ns).map fun m => V.int ((m : Nat) : Int)) (fun i σ H' => H' = H3 ∧ ∃ (left : Int) (v5 : Option V), failS (cI ns) (fwL F ns) (freF F : Nat) = failS (cI ns) ((fwL F ns).drop i) left ∧ σ = [some (.ref pa), some (.ref p), some (.int m), some (.ref q), some (.int left), v5, none]) ⟨rfl, _, _, rfl, rfl⟩ (fun i σ H' _ hP => by rw [hP.1]; exact SqL.of eL) ?_ ?_⟩
    · rintro i x σ H' hx ⟨rfl, left, v5, hf, rfl⟩
      obtain ⟨b, hb, rfl⟩ := natAt hx
      have hc := cI_at (ns := ns) (b := b) (by rw [hlen]; exact fw_lt hb)
      rw [failS_step hb] at hf
      refine ⟨_, rfl, _, rfl, q, _, _, _, rfl, rfl, SqT.of eq3, atI_nat (by rw [List.getElem?_map, hc]; rfl), _, rfl, _, _, rfl, rfl, decide (left < (cI ns b : Nat)), rfl, ?_⟩
      cases hlt : decide (left < (cI ns b : Nat)) with
      | true =>
        rw [if_pos (of_decide_eq_true hlt)] at hf
        exact iteT (k false H' (fun l _ _ => by unfold hasR; rw [hf]) SS)
      | false =>
        rw [if_neg (of_decide_eq_false hlt)] at hf
        exact iteF ⟨_, rfl, _, rfl, _, rfl, q, _, _, _, rfl, rfl, SqT.of eq3, atI_nat (by rw [List.getElem?_map, hc]; rfl), _, _, rfl, rfl, rfl, _, _, hf, rfl⟩
    · rintro σ H' ⟨rfl, left, v5, hf, rfl⟩
      rw [List.length_map, List.drop_length] at hf
      refine ⟨_, rfl, _, rfl, pa, _, _, _, rfl, rfl, SqT.of pf3.e, atI_nat (j := 1) rfl, _, _, rfl, rfl, ?_⟩
      refine ⟨_, rfl, p, h, F, rfl, pf3.fa, pf3.wd, fun l L2 H4 p1 p2 hL2 eL2 S4 => ?_⟩
      have eq4 := S4 _ _ eq3
      have pf4 := pf3.same S4
      have S5 := SS.trans S4
      refine ⟨L2, rfl, ⟨_, SqL.of eL2⟩, for_list (K := K) (a := L2) (xs := l.map fun m => V.int ((m : Nat) : Int)) (fun i σ H' => H' = H4 ∧ ∃ (left : Int) (v5 : Option V), hasR F ns (m + (F.pg : Nat)) l = roomR (cI ns) F.pg (m + (F.pg : Nat)) (l.drop i) left ∧ σ = [some (.ref pa), some (.ref p), some (.int m), some (.ref q), some (.int left), v5, some (.int (m + (F.pg : Nat)))]) ⟨rfl, left, v5, by unfold hasR; rw [hf]; rfl, rfl⟩ (fun i σ H' _ hP => by rw [hP.1]; exact SqL.of eL2) ?_ ?_⟩
      · rintro i x σ H5 hx ⟨rfl, left, v5, hf, rfl⟩
        obtain ⟨b, hb, rfl⟩ := natAt hx
        have hbn : b < F.nb := List.mem_range.mp (List.mem_filter.mp (p1.subset (List.mem_of_getElem? hb))).1
        have hc := cI_at (ns := ns) (b := b) (by rw [hlen]; exact hbn)
        rw [roomR_step hb] at hf
        refine ⟨_, rfl, _, rfl, _, _, rfl, rfl, decide (m + (F.pg : Nat) ≤ left), rfl, ?_⟩
        cases h1 : decide (m + (F.pg : Nat) ≤ left) with
        | true =>
          rw [if_pos (of_decide_eq_true h1)] at hf
          exact iteT (k true H5 (done l true p1 p2 hf) S5)
        | false =>
          rw [if_neg (of_decide_eq_false h1)] at hf
          refine iteF ⟨_, rfl, _, rfl, q, _, _, _, rfl, rfl, SqT.of eq4, atI_nat (by rw [List.getElem?_map, hc]; rfl), _, rfl, _, _, rfl, rfl, decide (left < (cI ns b : Nat)), rfl, ?_⟩
          cases hlt : decide (left < (cI ns b : Nat)) with
          | true =>
            rw [if_pos (of_decide_eq_true hlt)] at hf
            exact iteT (k false H5 (done l false p1 p2 hf) S5)
          | false =>
            rw [if_neg (of_decide_eq_false hlt)] at hf
            exact iteF ⟨_, rfl, _, rfl, pa, _, _, _, rfl, rfl, SqT.of pf4.e, atI_nat (j := 1) rfl, _, rfl, _, rfl, q, _, _, _, rfl, rfl, SqT.of eq4, atI_nat (by rw [List.getElem?_map, hc]; rfl), _, _, rfl, rfl, _, _, rfl, rfl, rfl, _, _, hf, rfl⟩
      · rintro σ H5 ⟨rfl, left, v5, hf, rfl⟩
        rw [List.length_map, List.drop_length] at hf
        exact ⟨_, rfl, _, rfl, _, _, rfl, rfl, k _ H5 (done l _ p1 p2 hf) S5⟩
abbrev sRoomP : Stmt := top 76
abbrev nRoomP : List Str := ["plan", "flash", "many"]
theorem scRoomP : FnScope nRoomP ["plan", "flash", "many"] (defScope sRoomP) := ⟨rfl, rfl, rfl, by decide +kernel, rfl, by decide +kernel, by decide +kernel⟩
def spRoomP (K : PySem.W.Frag) (C : Addr) : Sp := fun vs H Q _ => ∃ pa p h F n sl cm m, vs = [.ref pa, .ref p, .int m] ∧ PF K C H pa p h F n sl cm ∧ 1 ≤ m ∧ m ≤ 5 ∧ ∀ (r : Bool) (H' : Hp), HasR F (lvOf F n sl) (m + (F.pg : Nat)) r → Same H H' → Q (.bl r) H'
set_option maxHeartbeats 8000000 in
theorem okRoomP {f fL fI fW fR : Addr} {fd fdL fdI fdW fdR : FuncData} (D : Df K mg "room" sRoomP ["plan", "flash", "many"] f fd) (DL : Df K mg "look_at_flash" sLookFlash ["plan", "flash"] fL fdL) (GL : FnOk P w K mg base CX0 5 fL fdL ["plan", "flash"] (spLookFlash K C)) (DI : Df K mg "is_within" sWithin ["thing", "low", "high"] fI fdI) (DW : Df K mg "is_whole" sWhole ["thing"] fW fdW) (T : Tx K mg) (hmp : ∃ t, mg "MOST_PAGES" = some (.int 5 t))
    (DR : Df K mg "has_room" sHasRoom ["plan", "flash", "many"] fR fdR) (GR : FnOk P w K mg base CX0 9 fR fdR ["plan", "flash", "many"] (spHasR K C)) : FnOk P w K mg base CX0 10 f fd ["plan", "flash", "many"] (spRoomP K C) := by
  refine D.F.ok scRoomP (fun vs H Q E h => ?_) (fun cdv A outer s H vs Q E hr h => ?_)
  · obtain ⟨_, _, _, _, _, _, _, _, rfl, _⟩ := h; rfl
  · obtain ⟨pa, p, h, F, n, sl, cm, m, rfl, pf, m1, m5, k⟩ := h
    obtain ⟨tw, hw⟩ := hmp
    have hr5 := hr.mono (show 5 ≤ 9 by decide)
    have hr2 := hr.mono (show 2 ≤ 9 by decide)
    refine ⟨_, pss_cons (ps_expr (pc DL GL hr5 (pa_cons (pv 0) (pa_cons (pv 1) pa_nil))))
      (pss_cons (ps_if (pt_not (pt_val (pc DI (okWithin DI DW T) hr2 (pa_cons (pv 2) (pa_cons pe_int (pa_cons (pe_glob (v := .int 5) (by rfl) hw ⟨tw, rfl⟩) pa_nil))))))
        pss_never
        pss_nil)
      (pss_one (ps_ret (pc DR GR hr (pa_cons (pv 0) (pa_cons (pv 1) (pa_cons (pv 2) pa_nil))))))), ?_⟩
    refine ⟨_, rfl, _, rfl, pa, p, h, F, n, sl, cm, rfl, pf, fun H1 S1 => ?_⟩
    refine ⟨_, rfl, m, 1, 5, rfl, true, congrArg V.bl (by simp; omega), iteF ?_⟩
    exact ⟨_, rfl, _, rfl, _, rfl, pa, p, h, F, n, sl, cm, m, rfl, pf.same S1, fun r H' e S => k r H' e (S1.trans S)⟩
end
end My
namespace My
open PySem L2
def gw (wc : List Nat) (fl : List Bool) : List Int := ((wc.zip fl).filter fun z => !z.2).map fun z => ((z.1 : Nat) : Int)
theorem gw_step {wc : List Nat} {fl : List Bool} {j n : Nat} {b : Bool} (hl : wc.length = fl.length) (e1 : wc[j]? = some n) (e2 : fl[j]? = some b) : gw (wc.take (j + 1)) (fl.take (j + 1)) = gw (wc.take j) (fl.take j) ++ (if b = true then [] else [((n : Nat) : Int)]) := by
  unfold gw
  rw [List.take_succ, List.take_succ, e1, e2]
  show (((wc.take j ++ [n]).zip (fl.take j ++ [b])).filter fun z => !z.2).map _ = _
  rw [List.zip_append (by rw [List.length_take, List.length_take, hl]), List.filter_append, List.map_append]
  cases b <;> rfl
theorem gw_len (wc : List Nat) (fl : List Bool) : (gw wc fl).length ≤ wc.length := by
  unfold gw
  rw [List.length_map]
  refine Nat.le_trans (List.length_filter_le ..) ?_
  rw [List.length_zip]; omega
section
variable {P : Program} {w : World} {K : PySem.W.Frag} {mg : Str → Option Value} {base : Heap} {C BK TK : Addr}
abbrev sWorn : Stmt := top 73
abbrev nWorn : List Str := ["flash", "counts", "block"]
theorem scWorn : FnScope nWorn ["flash"] (defScope sWorn) := ⟨rfl, rfl, rfl, by decide +kernel, rfl, by decide +kernel, by decide +kernel⟩
def Ends (ns : List Int) (lo hi : Int) : Prop := (lo ∈ ns ∧ ∀ y ∈ ns, lo ≤ y) ∧ (hi ∈ ns ∧ ∀ y ∈ ns, y ≤ hi)
def spWorn (K : PySem.W.Frag) (C : Addr) : Sp := fun vs H Q _ => ∃ p h F, vs = [.ref p] ∧ FlAt K C H p h F ∧ (gw F.wc F.fl = [] → ∀ H', Same H H' → Q .non H') ∧ (gw F.wc F.fl ≠ [] → ∀ lo hi t H', Ends (gw F.wc F.fl) lo hi → Same H H' → H' t = some (.tup [.int lo, .int hi]) → Q (.ref t) H')
set_option maxHeartbeats 4000000 in
theorem okWorn {f fB fX fW : Addr} {fd fdB fdX fdW : FuncData} (D : Df K mg "worn" sWorn ["flash"] f fd) (Tx' : Tx K mg) (T : Tf K mg C BK TK) (O : To K C)
    (MB : Mf K C "blocks" "Flash.blocks" (sMeth 17) ["self"] fB fdB) (MX : Mf K C "is_bad" "Flash.is_bad" (sMeth 14) ["self", "block"] fX fdX) (GX : FnOk P w K mg base (CXF P w) 4 fX fdX ["self", "block"] (spBad K C)) (MW : Mf K C "wipes" "Flash.wipes" (sMeth 13) ["self", "block"] fW fdW) (GW : FnOk P w K mg base (CXF P w) 4 fW fdW ["self", "block"] (spWps K C)) : FnOk P w K mg base CX0 5 f fd ["flash"] (spWorn K C) := by
  refine D.F.ok scWorn (fun vs H Q E h => ?_) (fun cdv A outer s H vs Q E hr h => ?_)
  · obtain ⟨_, _, _, rfl, _⟩ := h; rfl
  · obtain ⟨p, h, F, rfl, fa, k1, k2⟩ := h
    obtain ⟨dx, ob⟩ := fa.ob
    have hr1 := hr.mono (show 1 ≤ 4 by decide)
    refine ⟨_, pss_cons (ps_if (pt_not (pt_val (pe_callB call_isinstO (by rfl) Tx'.isi (by decide +kernel) (pa_cons (pv 0) (pa_cons (pe_glob (v := .ref C) (by rfl) T.mgC rfl) pa_nil)))))
        pss_never pss_nil)
      (pss_cons (ps_setLc (i := 1) (own := [("block", 2)]) (g := gName 2) (by rfl) scWorn.nd rfl rfl (sw_true rfl rfl rfl (by decide +kernel)) (pi_range1 (by rfl) Tx'.range (pa_cons (pe_meth0 (pv 0) T.cl MB.m (okBls MB.F T) hr1 MB.b .nil pass0) pa_nil)) (blkOk_by (own := [("block", 2)]) (N := nWorn) (sc := defScope sWorn) (by decide +kernel)) (fun _ _ _ _ _ => pg_name (i := 2) scWorn.nd rfl (Or.inl rfl)) (fun _ _ _ _ _ => pts_one (pt_not (pt_val (pe_meth (pv 0) T.cl MX.m GX hr MX.b .nil passF (pa_cons (pv 2) pa_nil))))) (fun _ _ _ _ _ => (pe_meth (pv 0) T.cl MW.m GW hr MW.b .nil passF (pa_cons (pv 2) pa_nil))))
      (pss_one (ps_ret (pe_ifExp (pt_truth (pv 1) (by intro _; rfl)) (pe_tup (pa_cons (pe_callB (cr_min rfl) (by rfl) Tx'.min (by decide +kernel) (pa_cons (pv 1) pa_nil)) (pa_cons (pe_callB (cr_max rfl) (by rfl) Tx'.max (by decide +kernel) (pa_cons (pv 1) pa_nil)) pa_nil))) pe_non)))), ?_⟩
    refine ⟨_, rfl, _, C, _, true, rfl, .ins ob T.cl O.ha O.hn O.htk O.hm, O.self, _, rfl, iteF ?_⟩
    have n8 := fa.nb
    refine ⟨_, rfl, p, dx, _, rfl, ob, (by kernel_rfl), p, h, F, rfl, fa, _, rfl, by omega, by omega, fun DD hDD => ?_⟩
    refine lc_range (lo := 0) (n := _) (fun j HH => Same H (Hm HH DD) ∧ HH DD = some (.lst ((gw (F.wc.take j) (F.fl.take j)).map V.int))) ⟨fun b o e => Hm.get (same_new hDD b o e) (ne_of_none e hDD), upd_same⟩ ?_ ?_
    · rintro j HH hj ⟨sm, hD⟩
      have hj : j < F.nb := by rw [Int.toNat_natCast] at hj; exact hj
      have sm' : Same H HH := fun b o e => Hm.un b o (sm b o e)
      have faH := fa.same sm'
      have obH := sm' _ _ ob
      have hw : F.wc[j]? = some (F.wc[j]'(by rw [fa.lw]; exact hj)) := List.getElem?_eq_getElem _
      have hf : F.fl[j]? = some (F.fl[j]'(by rw [fa.lf]; exact hj)) := List.getElem?_eq_getElem _
      generalize (F.wc[j]'(by rw [fa.lw]; exact hj)) = n at hw
      generalize (F.fl[j]'(by rw [fa.lf]; exact hj)) = b at hf
      have hst := gw_step (by rw [fa.lw, fa.lf]) hw hf
      have i0 : some (some (V.int (0 + (j : Int)))) = some (some (V.int (j : Int))) := congrArg (fun v => some (some (V.int v))) (Int.zero_add _)
      refine ⟨wipe3 _ _ _ _, ?_⟩
      cases b with
      | true =>
        refine ⟨_, rfl, p, dx, _, rfl, obH, (by kernel_rfl), V.int (j : Int), i0, p, h, F, j, true, rfl, faH, hf, true, rfl, iteF ?_⟩
        refine ⟨sm, ?_⟩
        rw [hst, if_pos rfl, List.append_nil]; exact hD
      | false =>
        refine ⟨_, rfl, p, dx, _, rfl, obH, (by kernel_rfl), V.int (j : Int), i0, p, h, F, j, false, rfl, faH, hf, false, rfl, iteT ?_⟩
        refine ⟨_, rfl, p, dx, _, rfl, obH, (by kernel_rfl), V.int (j : Int), i0, p, h, F, j, n, rfl, faH, hw, _, hD, small1000 ?_, ?_, ?_⟩
        · rw [List.length_map]
          have := gw_len (F.wc.take j) (F.fl.take j)
          rw [List.length_take] at this
          omega
        · intro b o e
          obtain ⟨e3, n3⟩ := Hm.of (sm b o e)
          exact Hm.get (by rw [upd_ne n3]; exact e3) n3
        · rw [upd_same, hst, if_neg Bool.false_ne_true, List.map_append]; rfl
    · rintro HH ⟨sm, hD⟩
      rw [Int.toNat_natCast] at hD
      have sm' : Same H HH := fun b o e => Hm.un b o (sm b o e)
      rw [List.take_of_length_le (Nat.le_of_eq fa.lw), List.take_of_length_le (Nat.le_of_eq fa.lf)] at hD
      cases hg : gw F.wc F.fl with
      | nil =>
        rw [hg] at hD
        refine ⟨_, rfl, false, .inl ⟨[], SqL.of hD, rfl⟩, iteF ?_⟩
        exact k1 hg HH sm'
      | cons x xs =>
        have hne : 0 < (gw F.wc F.fl).length := by rw [hg]; exact Nat.succ_pos _
        refine ⟨_, rfl, true, .inl ⟨_, SqL.of hD, by rw [hg]; rfl⟩, iteT ?_⟩
        refine ⟨_, rfl, DD, _, rfl, SqL.of hD, hne, fun lo h1 h2 => ⟨_, rfl, DD, _, rfl, SqL.of hD, hne, fun hi h3 h4 => ⟨(by show 2 ≤ sizeLine; decide), fun t ht => ?_⟩⟩⟩
        exact k2 (by rw [hg]; exact fun z => nomatch z) lo hi t _ ⟨⟨h1, h2⟩, h3, h4⟩ (sm'.trans (same_new ht)) upd_same
end
end My
namespace My
open PySem L2
open FK (Flds PRes)
theorem new_rd (nb pg : Nat) (sl : Bool) : rdB sl (Fl.new nb pg []).ce (Fl.new nb pg []).pg (Fl.new nb pg []).nb = [] := by
  unfold rdB
  rw [List.flatMap_eq_nil_iff]
  intro m _
  unfold rdP
  rw [List.filterMap_eq_nil_iff]
  intro j _
  have e : ((Fl.new nb pg []).ce.getD m [])[j]?.bind (Cl.rd sl) = none := by
    show ((List.replicate nb (List.replicate pg Cl.blank)).getD m [])[j]?.bind (Cl.rd sl) = none
    rw [List.getD_eq_getElem?_getD, List.getElem?_replicate]
    split
    · show (List.replicate pg Cl.blank)[j]?.bind (Cl.rd sl) = none
      rw [List.getElem?_replicate]
      split <;> rfl
    · rfl
  rw [e]; rfl
theorem new_fb (nb pg i : Nat) : fbI (Fl.new nb pg []) i = 0 := by
  unfold fbI
  show fbN ((List.replicate nb (List.replicate pg Cl.blank))[i]?.getD []) = 0
  rw [List.getElem?_replicate]
  split
  · show (List.replicate pg Cl.blank).findIdx Cl.isBlank = 0
    cases pg with
    | zero => rfl
    | succ g => rw [List.replicate_succ, List.findIdx_cons]; rfl
  · rfl
theorem new_hd (nb pg : Nat) : hdF (Fl.new nb pg []) = none := by
  unfold hdF
  rw [List.find?_range_eq_none]
  intro j _
  unfold hdP
  rw [new_fb]; rfl
theorem wok0 : WOk [] := ⟨by decide, (fun _ h => nomatch h), (fun _ h => nomatch h), .nil⟩
theorem wat0 {K : PySem.W.Frag} {H : Hp} {a : Addr} (sq : SqT K H a []) : WAt K H a [] [] [] := ⟨rfl, rfl, sq, fun i r f q e => by cases e⟩
end My
namespace My
open PySem L2
open FK (Flds PRes)
theorem pcX {X : Cx} {k : Nat} {f : Addr} {fd : FuncData} {ps : List Str} {sp : Sp} {x : Str} {st : Stmt} {p pos : Pos} {e : Expr} {es : List Expr} {t : TA} {E : XK} (D : Df X.K X.mg x st ps f fd) (G : FnOk X.prog X.w X.K X.mg X.base (CXF X.prog X.w) k f fd ps sp) (hr : Room k X.A) (hx : Passes (CXF X.prog X.w) X E) (ha : PA X (e :: es) t)
    (hg : Gl X x := by rfl) (hdb : (x == ("__debug__" : Str)) = false := by decide) (he : starEach (e :: es) X.env = (false, eval e X.env) :: starEach es X.env := by rfl) (hpl : (backTo pos (starEach es X.env)).any (·.1) = false := by rfl) :
    PE X (.Call (.Name x p) (e :: es) [] pos) (tCall sp [] E t) := pe_call G hr hg D.m D.F.kp D.b .nil hx ha hdb he hpl
section
variable {P : Program} {w : World} {K : PySem.W.Frag} {mg : Str → Option Value} {base : Heap} {C BK TK : Addr}
def spLookPlanX (cP : Addr) : Sp := fun vs H Q E => ∃ (x : V) (d : PyData), vs = [x] ∧ Dh H x d ∧ (plF d = true → Q .non H) ∧ (plF d = false → E (.ref cP) none H)
theorem okLookPlanX {f fP cP : Addr} {fd fdP : FuncData} (D : Df K mg "look_at_plan" sLookPlan ["plan"] f fd) (DP : Df K mg "is_plan" sIsPlan ["thing"] fP fdP) (GP : FnOk P w K mg base CX0 3 fP fdP ["thing"] spIsPlan) (XP : EC K mg "NoPlan" cP) : FnOk P w K mg base (CXF P w) 4 f fd ["plan"] (spLookPlanX cP) := by
  refine D.F.okE scLookPlan (fun vs H Q E h => ?_) (fun cdv A outer s H vs Q E hr h => ?_)
  · obtain ⟨_, _, rfl, _⟩ := h; rfl
  · obtain ⟨x, d, rfl, hd, k1, k2⟩ := h
    refine ⟨_, pss_one (ps_if (pt_not (pt_val (pc DP GP hr (pa_cons (pv 0) pa_nil))))
        (pss_one (ps_raise rfl raises_cx XP.m XP.e (pa_cons pe_str pa_nil)))
        pss_nil), ?_⟩
    cases hp : plF d with
    | true => exact ⟨_, rfl, x, d, rfl, hd, true, congrArg V.bl hp, iteF (k1 hp)⟩
    | false => exact ⟨_, rfl, x, d, rfl, hd, false, congrArg V.bl hp, iteT ⟨(by show 1 ≤ sizeLine; decide), k2 hp⟩⟩
/-- what is refused: no plan, or no flash of the plan -/
def NoLook (K : PySem.W.Frag) (C cP cF : Addr) (x y : V) (H : Hp) (E : XK) : Prop :=
  (∃ d, Dh H x d ∧ plF d = false ∧ E (.ref cP) none H) ∨ ∃ (pa : Addr) (nb pg n : Int) (sl cm : Bool), x = .ref pa ∧ H pa = some (.tup (plV nb pg n sl cm)) ∧ plF (.tuple (plD nb pg n sl cm)) = true ∧
    ((∃ t, TyOf K H y t ∧ PySem.W.kitOne K t (.ref C) = some false ∧ E (.ref cF) none H) ∨ ∃ fp h F, y = .ref fp ∧ FlAt K C H fp h F ∧ ¬ ((F.nb : Int) = nb ∧ (F.pg : Int) = pg) ∧ ∀ H', Same H H' → E (.ref cF) none H')
def spNoLook (K : PySem.W.Frag) (C cP cF : Addr) : Sp := fun vs H _ E => ∃ x y, vs = [x, y] ∧ NoLook K C cP cF x y H E
theorem two_ne {a b c d : Int} (h : ¬ (a = c ∧ b = d)) : (!PyData.eqv (.tuple [.int a, .int b]) (.tuple [.int c, .int d])) = true := by
  show (!((a == c) && ((b == d) && true))) = true
  rw [Bool.and_true, Bool.not_eq_true', Bool.and_eq_false_iff, beq_eq_false_iff_ne, beq_eq_false_iff_ne]
  omega
set_option maxHeartbeats 4000000 in
theorem okLookFlashN {f fL fB fG cP cF : Addr} {fd fdL fdB fdG : FuncData} (D : Df K mg "look_at_flash" sLookFlash ["plan", "flash"] f fd) (DL : Df K mg "look_at_plan" sLookPlan ["plan"] fL fdL) (GL : FnOk P w K mg base (CXF P w) 4 fL fdL ["plan"] (spLookPlanX cP)) (Tx' : Tx K mg) (T : Tf K mg C BK TK) (O : To K C)
    (MB : Mf K C "blocks" "Flash.blocks" (sMeth 17) ["self"] fB fdB) (MG : Mf K C "pages" "Flash.pages" (sMeth 18) ["self"] fG fdG) (XF : EC K mg "NoFlash" cF) : FnOk P w K mg base (CXF P w) 5 f fd ["plan", "flash"] (spNoLook K C cP cF) := by
  refine D.F.okE scLookFlash (fun vs H Q E h => ?_) (fun cdv A outer s H vs Q E hr h => ?_)
  · obtain ⟨_, _, rfl, _⟩ := h; rfl
  · obtain ⟨x, y, rfl, h⟩ := h
    have hr1 := hr.mono (show 1 ≤ 4 by decide)
    refine ⟨_, pss_cons (ps_expr (pcX DL GL hr pass_cx (pa_cons (pv 0) pa_nil)))
      (pss_one (ps_if (PW.pt (pw_or (pt_not (pt_val (pe_callB call_isinstO (by rfl) Tx'.isi (by decide +kernel) (pa_cons (pv 1) (pa_cons (pe_glob (v := .ref C) (by rfl) T.mgC rfl) pa_nil))))) (pw_or1 (pt_cmpR (op_neD hr.units) (pe_tup (pa_cons (pe_meth0 (pv 1) T.cl MB.m (okBls MB.F T) hr1 MB.b .nil pass0) (pa_cons (pe_meth0 (pv 1) T.cl MG.m (okPgs MG.F T) hr1 MG.b .nil pass0) pa_nil))) (pe_tup (pa_cons (pe_ix ix_tup (pv 0) pe_int (fun _ _ => rfl)) (pa_cons (pe_ix ix_tup (pv 0) pe_int (fun _ _ => rfl)) pa_nil))) (nomark _)))))
        (pss_one (ps_raise rfl raises_cx XF.m XF.e (pa_cons pe_str pa_nil)))
        pss_nil)), ?_⟩
    rcases h with ⟨d, hd, np, kx⟩ | ⟨pa, nb, pg, n, sl, cm, rfl, hpa, ip, h⟩
    · exact ⟨_, rfl, x, d, rfl, hd, (fun z => by rw [np] at z; cases z), fun _ => kx⟩
    refine ⟨_, rfl, .ref pa, _, rfl, .tup hpa (plDh H _ _ _ sl cm), fun _ => ?_, (fun z => by rw [ip] at z; cases z)⟩
    rcases h with ⟨t, ty, hk, kx⟩ | ⟨fp, h, F, rfl, fa, ne, kx⟩
    · exact ⟨_, rfl, _, C, t, false, rfl, ty, hk, _, rfl, iteT (iteT ⟨(by show 1 ≤ sizeLine; decide), kx⟩)⟩
    · obtain ⟨dx, ob⟩ := fa.ob
      refine ⟨_, rfl, _, C, _, true, rfl, .ins ob T.cl O.ha O.hn O.htk O.hm, O.self, _, rfl, iteF ?_⟩
      refine ⟨_, rfl, fp, dx, _, rfl, ob, (by kernel_rfl), fp, h, F, rfl, fa, _, rfl, fp, dx, _, rfl, ob, (by kernel_rfl), fp, h, F, rfl, fa, (by show 2 ≤ sizeLine; decide), fun t1 h1 => ?_⟩
      have S1 := same_new (o := .tup [.int (F.nb : Nat), .int (F.pg : Nat)]) h1
      refine ⟨_, rfl, pa, _, _, _, rfl, rfl, SqT.of (S1 _ _ hpa), atI_nat (j := 0) rfl, _, rfl, pa, _, _, _, rfl, rfl, SqT.of (S1 _ _ hpa), atI_nat (j := 1) rfl, (by show 2 ≤ sizeLine; decide), fun t2 h2 => ?_⟩
      have S2 := same_new (o := .tup [.int nb, .int pg]) h2
      exact ⟨.tuple [.int (F.nb : Nat), .int (F.pg : Nat)], .tuple [.int nb, .int pg], .tup (SqT.of (S2 _ _ upd_same)) (.cons (.int _) (.cons (.int _) .nil)), .tup (SqT.of upd_same) (.cons (.int _) (.cons (.int _) .nil)), rfl, rfl, true, congrArg V.bl (two_ne ne), iteT ⟨(by show 1 ≤ sizeLine; decide), kx _ (S1.trans S2)⟩⟩
end
def tys7 : List String := ["NoneType", "bool", "int", "str", "list", "tuple", "dict"]
theorem noInst {K : PySem.W.Frag} {C : Addr} (h : (tys7.all fun t => PySem.W.kitOne K (.type t) (.ref C) == some false) = true) (d : PyData) : PySem.W.kitOne K (.type (tyD d)) (.ref C) = some false := by
  have h := List.all_eq_true.mp h
  cases d with
  | none => exact beq_iff_eq.mp (h "NoneType" (by decide +kernel))
  | bool _ => exact beq_iff_eq.mp (h "bool" (by decide +kernel))
  | int _ => exact beq_iff_eq.mp (h "int" (by decide +kernel))
  | str _ => exact beq_iff_eq.mp (h "str" (by decide +kernel))
  | list _ => exact beq_iff_eq.mp (h "list" (by decide +kernel))
  | tuple _ => exact beq_iff_eq.mp (h "tuple" (by decide +kernel))
  | dict _ => exact beq_iff_eq.mp (h "dict" (by decide +kernel))
end My
namespace My
open PySem L2
open FK (Flds PRes)
theorem new_wd {ws : List (Nat × Flt)} (ok : ∀ q ∈ ws, q.2.ok) (nb pg : Nat) : (Fl.new nb pg ws).Wd := by
  refine ⟨fun i cs e => ?_, fun n m e => ?_⟩
  · have e : (List.replicate nb (List.replicate pg Cl.blank))[i]? = some cs := e
    rw [List.getElem?_replicate] at e
    split at e
    · cases e; exact ⟨List.length_replicate, fun c hc => by rw [List.eq_of_mem_replicate hc]; exact .blank⟩
    · cases e
  · have e : ftAt ws n = some (.bit m) := e
    unfold ftAt at e
    cases hq : ws.find? fun q => q.1 == n with
    | none => rw [hq] at e; cases e
    | some q =>
      rw [hq] at e
      have e : q.2 = .bit m := Option.some.inj e
      have := ok q (List.mem_of_find?_eq_some hq)
      rw [e] at this
      have this : m ≤ 46 := this
      omega
theorem new_bad (nb pg i : Nat) : badI (Fl.new nb pg []) i = false := by
  unfold badI
  show (List.replicate nb false)[i]?.getD false = false
  rw [List.getElem?_replicate]
  split <;> rfl
theorem new_bk (nb pg : Nat) : bkL (Fl.new nb pg []) = List.range nb := by
  unfold bkL
  show (List.range nb).filter _ = _
  rw [List.filter_eq_self]
  intro i _
  unfold bkP
  rw [new_fb, new_bad]; rfl
theorem new_tn (nb pg : Nat) : tnL (Fl.new nb pg []) = [] := by
  unfold tnL
  rw [List.filter_eq_nil_iff]
  intro i _
  unfold tnP
  rw [new_fb]; simp
theorem new_fw (nb pg : Nat) (ns : List Nat) : fwL (Fl.new nb pg []) ns = [] := by
  unfold fwL
  rw [List.filter_eq_nil_iff]
  intro i _
  rw [new_bad]; simp
theorem new_fre (nb pg : Nat) : freF (Fl.new nb pg []) = nb * pg := by
  unfold freF hdR
  rw [new_hd, new_bk, List.length_range]
  exact Nat.zero_add _
theorem new_lv (nb pg n : Nat) (sl : Bool) : lvOf (Fl.new nb pg []) n sl = List.replicate nb 0 := by
  unfold lvOf
  rw [new_rd]
  show (List.replicate n none).foldl lvS (List.replicate nb 0) = _
  generalize List.replicate nb 0 = m
  induction n with
  | zero => rfl
  | succ n ih => rw [List.replicate_succ, List.foldl_cons]; exact ih
theorem new_gw (nb pg : Nat) : gw (Fl.new nb pg []).wc (Fl.new nb pg []).fl = List.replicate nb 0 := by
  show gw (List.replicate nb 0) (List.replicate nb false) = _
  induction nb with
  | zero => rfl
  | succ n ih =>
    unfold gw at ih ⊢
    rw [List.replicate_succ, List.replicate_succ, List.replicate_succ, List.zip_cons_cons]
    show (0 : Int) :: _ = _
    rw [← ih]
theorem new_ends {nb pg : Nat} {lo hi : Int} (h : Ends (gw (Fl.new nb pg []).wc (Fl.new nb pg []).fl) lo hi) : lo = 0 ∧ hi = 0 := by
  rw [new_gw] at h
  exact ⟨List.eq_of_mem_replicate h.1.1, List.eq_of_mem_replicate h.2.1⟩
theorem new_room {nb pg : Nat} {ns : List Nat} {want : Int} {r : Bool} (hw : want ≤ ((nb * pg : Nat) : Int)) (h : HasR (Fl.new nb pg []) ns want r) : r = true := by
  have e := h [] (by rw [new_tn]) List.Pairwise.nil
  rw [e]
  unfold hasR
  rw [new_fw, new_fre]
  show decide (want ≤ ((nb * pg : Nat) : Int)) = true
  exact decide_eq_true hw
end My
namespace My
open PySem L2
open FK (Flds PRes)
section
variable {P : Program} {w : World} {K : PySem.W.Frag} {mg : Str → Option Value} {base : Heap} {C BK TK : Addr}
def spWornN (K : PySem.W.Frag) (C cF : Addr) : Sp := fun vs H _ E => ∃ y t, vs = [y] ∧ TyOf K H y t ∧ PySem.W.kitOne K t (.ref C) = some false ∧ E (.ref cF) none H
theorem okWornN {f cF : Addr} {fd : FuncData} (D : Df K mg "worn" sWorn ["flash"] f fd) (Tx' : Tx K mg) (T : Tf K mg C BK TK) (XF : EC K mg "NoFlash" cF) : FnOk P w K mg base (CXF P w) 1 f fd ["flash"] (spWornN K C cF) := by
  refine D.F.okE scWorn (fun vs H Q E h => ?_) (fun cdv A outer s H vs Q E hr h => ?_)
  · obtain ⟨_, _, rfl, _⟩ := h; rfl
  · obtain ⟨y, t, rfl, ty, hk, kx⟩ := h
    refine ⟨_, pss_cons (ps_if (pt_not (pt_val (pe_callB call_isinstO (by rfl) Tx'.isi (by decide +kernel) (pa_cons (pv 0) (pa_cons (pe_glob (v := .ref C) (by rfl) T.mgC rfl) pa_nil)))))
        (pss_one (ps_raise rfl raises_cx XF.m XF.e (pa_cons pe_str pa_nil))) pss_nil) pss_never, ?_⟩
    exact ⟨_, rfl, _, C, t, false, rfl, ty, hk, _, rfl, iteT ⟨(by show 1 ≤ sizeLine; decide), kx⟩⟩
theorem okLivN {f fL cP cF : Addr} {fd fdL : FuncData} (D : Df K mg "living" sLiving ["plan", "flash"] f fd) (DL : Df K mg "look_at_flash" sLookFlash ["plan", "flash"] fL fdL) (GL : FnOk P w K mg base (CXF P w) 5 fL fdL ["plan", "flash"] (spNoLook K C cP cF)) : FnOk P w K mg base (CXF P w) 6 f fd ["plan", "flash"] (spNoLook K C cP cF) := by
  refine D.F.okE scLiving (fun vs H Q E h => ?_) (fun cdv A outer s H vs Q E hr h => ?_)
  · obtain ⟨_, _, rfl, _⟩ := h; rfl
  · obtain ⟨x, y, rfl, h⟩ := h
    exact ⟨_, pss_cons (ps_expr (pcX DL GL hr pass_cx (pa_cons (pv 0) (pa_cons (pv 1) pa_nil)))) pss_never, _, rfl, _, rfl, x, y, rfl, h⟩
def spRoomN (K : PySem.W.Frag) (C cP cF : Addr) : Sp := fun vs H _ E => ∃ x y z, vs = [x, y, z] ∧ NoLook K C cP cF x y H E
theorem okRoomN {f fL cP cF : Addr} {fd fdL : FuncData} (D : Df K mg "room" sRoomP ["plan", "flash", "many"] f fd) (DL : Df K mg "look_at_flash" sLookFlash ["plan", "flash"] fL fdL) (GL : FnOk P w K mg base (CXF P w) 5 fL fdL ["plan", "flash"] (spNoLook K C cP cF)) : FnOk P w K mg base (CXF P w) 6 f fd ["plan", "flash", "many"] (spRoomN K C cP cF) := by
  refine D.F.okE scRoomP (fun vs H Q E h => ?_) (fun cdv A outer s H vs Q E hr h => ?_)
  · obtain ⟨_, _, _, rfl, _⟩ := h; rfl
  · obtain ⟨x, y, z, rfl, h⟩ := h
    exact ⟨_, pss_cons (ps_expr (pcX DL GL hr pass_cx (pa_cons (pv 0) (pa_cons (pv 1) pa_nil)))) pss_never, _, rfl, _, rfl, x, y, rfl, h⟩
def spRoomM (K : PySem.W.Frag) (C cN : Addr) : Sp := fun vs H _ E => ∃ pa p h F n sl cm x d, vs = [.ref pa, .ref p, x] ∧ PF K C H pa p h F n sl cm ∧ Dh H x d ∧ wi d 1 5 = false ∧ ∀ H', Same H H' → E (.ref cN) none H'
theorem okRoomM {f fL fI fW cN : Addr} {fd fdL fdI fdW : FuncData} (D : Df K mg "room" sRoomP ["plan", "flash", "many"] f fd) (DL : Df K mg "look_at_flash" sLookFlash ["plan", "flash"] fL fdL) (GL : FnOk P w K mg base CX0 5 fL fdL ["plan", "flash"] (spLookFlash K C)) (DI : Df K mg "is_within" sWithin ["thing", "low", "high"] fI fdI) (DW : Df K mg "is_whole" sWhole ["thing"] fW fdW) (T : Tx K mg) (hmp : ∃ t, mg "MOST_PAGES" = some (.int 5 t)) (XN : EC K mg "NoNumber" cN) : FnOk P w K mg base (CXF P w) 6 f fd ["plan", "flash", "many"] (spRoomM K C cN) := by
  refine D.F.okE scRoomP (fun vs H Q E h => ?_) (fun cdv A outer s H vs Q E hr h => ?_)
  · obtain ⟨_, _, _, _, _, _, _, _, _, rfl, _⟩ := h; rfl
  · obtain ⟨pa, p, h, F, n, sl, cm, x, d, rfl, pf, hd, hw5, kx⟩ := h
    obtain ⟨tw, hw⟩ := hmp
    refine ⟨_, pss_cons (ps_expr (pc DL GL hr (pa_cons (pv 0) (pa_cons (pv 1) pa_nil))))
      (pss_cons (ps_if (pt_not (pt_val (pc DI (okWithinD DI DW T) (hr.mono (show 2 ≤ 5 by decide)) (pa_cons (pv 2) (pa_cons pe_int (pa_cons (pe_glob (v := .int 5) (by rfl) hw ⟨tw, rfl⟩) pa_nil))))))
        (pss_one (ps_raise rfl raises_cx XN.m XN.e (pa_cons pe_str pa_nil)))
        pss_nil)
      pss_never), ?_⟩
    refine ⟨_, rfl, _, rfl, pa, p, h, F, n, sl, cm, rfl, pf, fun H1 S1 => ?_⟩
    exact ⟨_, rfl, x, d, 1, 5, rfl, hd.same S1, false, congrArg V.bl hw5, iteT ⟨(by show 1 ≤ sizeLine; decide), kx _ S1⟩⟩
end
end My
namespace My
open PySem L2
theorem okC {P : Program} {w : World} {K : PySem.W.Frag} {mg : Str → Option Value} {base : Heap} {x qual : Str} {st : Stmt} {f c : Addr} {fd : FuncData} {N ps : List Str} {k : Nat} {sp : Sp} (F : Fun K x qual st f fd) (hc : fd.code = .ref c) (S : FnScope N ps (defScope st)) (len : ∀ vs H Q E, sp vs H Q E → vs.length = ps.length)
    (hbody : ∀ (A : Around) (outer : List Env) (s : Shared) (H : Hp) (vs : List V) (Q : VK) (E : XK), Room k (A.deeper (PyProof.Rows.envOfC qual (defScope st) s.heap.objs.size f (.ref c))) → sp vs H Q E →
      ∃ t, PSs (cxOf CX0 P w K mg base N qual (defScope st) f (.ref c) A outer s H E).nox (defBody st) t ∧ t { nx := fun _ H' => Q .non H', rt := Q } (start N vs) H) : FnOk P w K mg base CX0 (k + 1) f fd ps sp := by
  obtain ⟨oc, od, kV, doc, pm, an, cdv, ct, osl, rfl, lk, hcd⟩ := F.ex
  cases (show cdv = .ref c from hc)
  refine fn_of lk hcd S len fun A outer s H vs Q E hr hsp => ?_
  obtain ⟨t, h, q⟩ := hbody A outer s H vs Q E hr hsp
  exact ⟨t, h.nox, q⟩
theorem same_grow {H H' : Hp} (s : Same H H') : Grow H H' := fun b o e _ => s b o e
theorem tbs_same {T : TbM} {H H' : Hp} (t : TbS T H) (s : Same H H') : TbS T H' := fun P q e => by
  obtain ⟨ps, h1, h2, h3⟩ := t P q e
  refine ⟨ps, s _ _ h1, h2, fun pos cv z => ?_⟩
  obtain ⟨c', oc, vs, tk, z1, z2, z3⟩ := h3 pos cv z
  exact ⟨c', oc, vs, tk, z1, s _ _ z2, z3⟩
theorem tbs_oth {T : TbM} {H H' : Hp} {p : Addr} (t : TbS T H) (st : StAt H p) (o : Oth H H' p) : TbS T H' := fun P q e => by
  obtain ⟨d, m, z, hp, _⟩ := st
  obtain ⟨ps, h1, h2, h3⟩ := t P q e
  refine ⟨ps, by rw [o P (ne_of h1 hp fun z => nomatch z)]; exact h1, h2, fun pos cv z => ?_⟩
  obtain ⟨c', oc, vs, tk, z1, z2, z3⟩ := h3 pos cv z
  exact ⟨c', oc, vs, tk, z1, by rw [o c' (ne_of z2 hp fun z => nomatch z)]; exact z2, z3⟩
theorem grow_set {H Hx H2 : Hp} {a : Addr} {o : HO} (g : Grow H Hx) (e : Hx a = none) (g2 : Grow H H2) : Grow H (upd H2 a o) := fun b u q n => by
  rw [upd_ne (ne_of_none (g b u q n) e)]
  exact g2 b u q n
def ExT (H H' : Hp) (p : Addr) : Prop := ∀ b o, H b = some o → b ≠ p → (∀ ps, o ≠ .tbl ps) → H' b = some o
theorem tbs_ex {T : TbM} {H H' : Hp} {p : Addr} (t : TbS T H) (st : StAt H p) (o : Ex H H' p) : TbS T H' := fun P q e => by
  obtain ⟨d, m, z, hp, _⟩ := st
  obtain ⟨ps, h1, h2, h3⟩ := t P q e
  refine ⟨ps, o _ _ h1 (ne_of h1 hp fun z => nomatch z), h2, fun pos cv z => ?_⟩
  obtain ⟨c', oc, vs, tk, z1, z2, z3⟩ := h3 pos cv z
  exact ⟨c', oc, vs, tk, z1, o _ _ z2 (ne_of z2 hp fun z => nomatch z), z3⟩
theorem Ex.t {H H' : Hp} {p : Addr} (a : Ex H H' p) : ExT H H' p := fun b o e n _ => a b o e n
theorem ExT.trans {H H1 H2 : Hp} {p : Addr} (a : ExT H H1 p) (b : ExT H1 H2 p) : ExT H H2 p := fun c o e n m => b c o (a c o e n m) n m
theorem Grow.ext {H H' : Hp} {p : Addr} (a : Grow H H') : ExT H H' p := fun b o e _ m => a b o e m
mutual
theorem dh_grow {H H' : Hp} (g : Grow H H') : ∀ {x : V} {d : PyData}, Dh H x d → Dh H' x d
  | _, _, .non => .non
  | _, _, .bl b => .bl b
  | _, _, .int i => .int i
  | _, _, .str x => .str x
  | _, _, .lst e h => .lst (g.get e) (dhs_grow g h)
  | _, _, .tup e h => .tup (g.get e) (dhs_grow g h)
  | _, _, .d0 e => .d0 (g.get e)
  | _, _, .d1 e => .d1 (g.get e)
theorem dhs_grow {H H' : Hp} (g : Grow H H') : ∀ {xs : List V} {ds : List PyData}, DhAll H xs ds → DhAll H' xs ds
  | _, _, .nil => .nil
  | _, _, .cons h t => .cons (dh_grow g h) (dhs_grow g t)
end
theorem ty_grow {K : PySem.W.Frag} {H H' : Hp} {x : V} {t : Value} (g : Grow H H') (h : TyOf K H x t) : TyOf K H' x t := by
  cases h with
  | non => exact .non
  | bl b => exact .bl b
  | int i => exact .int i
  | str y => exact .str y
  | flt y => exact .flt y
  | lst e => exact .lst (g.get e)
  | frz e => exact .frz (g.get e)
  | tup e => exact .tup (g.get e)
  | dK e => exact .dK (g.get e)
  | dT e => exact .dT (g.get e)
  | ins e cl ha hn htk hm => exact .ins (g.get e) cl ha hn htk hm
theorem grow_tk {H H' : Hp} (g : Grow H H') : TupK H H' := fun a xs => ⟨fun e => g.get e, fun o e => g.get e⟩
theorem FlAt.grow {K : PySem.W.Frag} {C : Addr} {H H' : Hp} {p : Addr} {h : FlH} {F : Fl} (A : FlAt K C H p h F) (g : Grow H H') : FlAt K C H' p h F := by
  refine ⟨?_, ?_, g.get A.cc, A.lr, fun i r cs e1 e2 => ?_, g.get A.ww, g.get A.ff, A.nd, A.lc, A.lw, A.lf, A.nb, A.pg⟩
  · obtain ⟨dx, e⟩ := A.ob; exact ⟨dx, g.get e⟩
  · obtain ⟨fs, l, e, m⟩ := A.dd; exact ⟨fs, l, g.get e, fun i f q e1 e2 => g.get (m i f q e1 e2)⟩
  · obtain ⟨xs, e3, t⟩ := A.rr i r cs e1 e2
    exact ⟨xs, g.get e3, t.on (grow_tk g)⟩
theorem PF.grow {K : PySem.W.Frag} {C : Addr} {H H' : Hp} {pa p : Addr} {h : FlH} {F : Fl} {n : Nat} {sl cm : Bool} (f : PF K C H pa p h F n sl cm) (g : Grow H H') : PF K C H' pa p h F n sl cm := ⟨g.get f.e, f.pl, f.n1, f.fa.grow g, f.wd⟩
/-- what is refused: no plan (7), or no flash of the plan (8) -/
def NL (K : PySem.W.Frag) (C : Addr) (H : Hp) (x y : V) (j : Nat) : Prop :=
  (j = 7 ∧ ∃ d, Dh H x d ∧ plF d = false) ∨ (j = 8 ∧ ∃ (pa : Addr) (nb pg n : Int) (sl cm : Bool), x = .ref pa ∧ H pa = some (.tup (plV nb pg n sl cm)) ∧ plF (.tuple (plD nb pg n sl cm)) = true ∧
    ((∃ t, TyOf K H y t ∧ PySem.W.kitOne K t (.ref C) = some false) ∨ ∃ fp h F, y = .ref fp ∧ FlAt K C H fp h F ∧ ¬ ((F.nb : Int) = nb ∧ (F.pg : Int) = pg)))
theorem NL.grow {K : PySem.W.Frag} {C : Addr} {H H' : Hp} {x y : V} {j : Nat} (h : NL K C H x y j) (g : Grow H H') : NL K C H' x y j := by
  rcases h with ⟨e, d, hd, np⟩ | ⟨e, pa, nb, pg, n, sl, cm, ex, hp, ip, h⟩
  · exact .inl ⟨e, d, dh_grow g hd, np⟩
  · refine .inr ⟨e, pa, nb, pg, n, sl, cm, ex, g.get hp, ip, ?_⟩
    rcases h with ⟨t, ty, hk⟩ | ⟨fp, h, F, ey, fa, ne⟩
    · exact .inl ⟨t, ty_grow g ty, hk⟩
    · exact .inr ⟨fp, h, F, ey, fa.grow g, ne⟩
theorem NL.no {K : PySem.W.Frag} {C : Addr} {H : Hp} {x y : V} {j : Nat} {ca : Nat → Addr} {E : XK} (h : NL K C H x y j) (k : ∀ H', Same H H' → E (.ref (ca j)) none H') : NoLook K C (ca 7) (ca 8) x y H E := by
  rcases h with ⟨rfl, d, hd, np⟩ | ⟨rfl, pa, nb, pg, n, sl, cm, ex, hp, ip, h⟩
  · exact .inl ⟨d, hd, np, k H (fun _ _ e => e)⟩
  · refine .inr ⟨pa, nb, pg, n, sl, cm, ex, hp, ip, ?_⟩
    rcases h with ⟨t, ty, hk⟩ | ⟨fp, h, F, ey, fa, ne⟩
    · exact .inl ⟨t, ty, hk, k H (fun _ _ e => e)⟩
    · exact .inr ⟨fp, h, F, ey, fa, ne, k⟩
theorem NL.lt {K : PySem.W.Frag} {C : Addr} {H : Hp} {x y : V} {j : Nat} (h : NL K C H x y j) : j < 22 := by
  rcases h with ⟨rfl, _⟩ | ⟨rfl, _⟩ <;> decide
/-- what is said of a call of two: the text r -/
def Sd (K : PySem.W.Frag) (ca : Nat → Addr) (sp : Sp) (H : Hp) (x y : V) (r : Str) : Prop := ∀ H1, Grow H H1 → ∀ Q : VK, (∀ H2, Same H1 H2 → Q (.str r) H2) → RSaid K ca (fun H' Q' E => sp [x, y] H' Q' E) H1 Q
theorem Sd.grow {K : PySem.W.Frag} {ca : Nat → Addr} {sp : Sp} {H H' : Hp} {x y : V} {r : Str} (h : Sd K ca sp H x y r) (g : Grow H H') : Sd K ca sp H' x y r := fun H1 g1 => h H1 (g.trans g1)
end My
namespace My
open PySem L2
def Bp (H : Hp) (x : V) : Prop := ∃ d, Dh H x d ∧ plF d = false ∧ OkD 100 3 d
theorem Bp.grow {H H' : Hp} {x : V} (h : Bp H x) (g : Grow H H') : Bp H' x := let ⟨d, a, b, c⟩ := h; ⟨d, dh_grow g a, b, c⟩
theorem Bp.same {H H' : Hp} {x : V} (h : Bp H x) (s : Same H H') : Bp H' x := h.grow (same_grow s)
theorem bp_non {H : Hp} : Bp H .non := ⟨.none, .non, rfl, OkD.non⟩
theorem bp_int {H : Hp} (i : Int) (h : i.natAbs < 2 ^ 100) : Bp H (.int i) := ⟨.int i, .int i, rfl, OkD.int i h⟩
theorem bp_str {H : Hp} : Bp H (.str "plan") := ⟨.str "plan", .str _, rfl, (OkD.str (b := 10) (n := 0) "plan" (by decide +kernel) (by decide +kernel) (by decide +kernel)).mono (by decide) (by decide)⟩
theorem bp_tup {H : Hp} {a : Addr} {xs : List V} {ds : List PyData} (e : H a = some (.tup xs)) (h : DhAll H xs ds) (np : plF (.tuple ds) = false) (ok : OkL 100 2 ds) : Bp H (.ref a) := ⟨.tuple ds, .tup e h, np, OkL.tup ok⟩
theorem bp_lst {H : Hp} {a : Addr} {xs : List V} {ds : List PyData} (e : H a = some (.lst xs)) (h : DhAll H xs ds) (ok : OkL 100 2 ds) : Bp H (.ref a) := ⟨.list ds, .lst e h, rfl, OkL.lst ok⟩
theorem pl_ok {b g : Int} {n : Nat} (h : PlG b g n) (s c : Bool) : OkL 5 2 (plD b g n s c) := by
  have p : (20000 : Nat) < 2 ^ 100 := by decide
  have h1 := h.b0; have h2 := h.b1; have h3 := h.g0; have h4 := h.g1; have h5 := h.n2
  exact OkL.cons (b := 0) (OkD.int _ (by omega)) (OkL.cons (b := 0) (OkD.int _ (by omega)) (OkL.cons (b := 0) (OkD.int _ (by omega)) (OkL.cons (b := 0) (OkD.bl s) (OkL.cons (b := 0) (c := 0) (OkD.bl c) OkL.nil))))
theorem i5_ok (a b c : Int) (h : a.natAbs < 2 ^ 100 ∧ b.natAbs < 2 ^ 100 ∧ c.natAbs < 2 ^ 100) : OkL 5 2 [.int a, .int b, .int c, .bool true, .bool true] :=
  OkL.cons (b := 0) (OkD.int _ h.1) (OkL.cons (b := 0) (OkD.int _ h.2.1) (OkL.cons (b := 0) (OkD.int _ h.2.2) (OkL.cons (b := 0) (OkD.bl true) (OkL.cons (b := 0) (c := 0) (OkD.bl true) OkL.nil))))
theorem bp_five {H : Hp} {t : Addr} {a b c : Int} (e : H t = some (.tup [.int a, .int b, .int c, .bl true, .bl true])) (np : plF (.tuple [.int a, .int b, .int c, .bool true, .bool true]) = false) (h : a.natAbs < 2 ^ 100 ∧ b.natAbs < 2 ^ 100 ∧ c.natAbs < 2 ^ 100) : Bp H (.ref t) :=
  bp_tup e (.cons (.int _) (.cons (.int _) (.cons (.int _) (.cons (.bl _) (.cons (.bl _) .nil))))) np ((i5_ok a b c h).mono (by decide) (Nat.le_refl _))
theorem bp_list {H : Hp} {t : Addr} {b g : Int} {n : Nat} {s c : Bool} (h : PlG b g n) (e : H t = some (.lst (plV b g n s c))) : Bp H (.ref t) := bp_lst e (plDh H b g n s c) ((pl_ok h s c).mono (by decide) (Nat.le_refl _))
theorem bp_four {H : Hp} {t : Addr} {b g : Int} {n : Nat} {s c : Bool} (h : PlG b g n) (e : H t = some (.tup ((plV b g n s c).take 4))) : Bp H (.ref t) := bp_tup e ((plDh H b g n s c).take 4) (plF_len _ (by show 4 ≠ 5; decide)) (((pl_ok h s c).take 4).mono (by decide) (Nat.le_refl _))
end My
namespace My
open PySem L2
open FK (Flds PRes)
theorem Old.same {H H' : Hp} {Z : List Addr} (h : Old H Z) (s : Same H H') : Old H' Z := fun b z => let ⟨o, e⟩ := h b z; ⟨o, s _ _ e⟩
theorem Oth.exz {H H' : Hp} {p : Addr} {Z : List Addr} (h : Oth H H' p) (hp : p ∈ Z) : ExZ H H' Z := fun b o e n => by rw [h b (fun z => n (by rw [z]; exact hp))]; exact e
theorem Ex.exz {H H' : Hp} {p : Addr} {Z : List Addr} (h : Ex H H' p) (hp : p ∈ Z) : ExZ H H' Z := fun b o e n => h b o e (fun z => n (by rw [z]; exact hp))
theorem cutP {t : Nat} (b g n : Int) (s c : Bool) (h : t < 5) : cutV (plV b g n s c) none (some (t : Int)) = (plV b g n s c).take t := by
  unfold cutV
  show ((plV b g n s c).drop (HT.sIx 5 0 none)).take (HT.sIx 5 5 (some (t : Int)) - HT.sIx 5 0 none) = _
  rw [HT.sIx_none, HT.sIx_nat, List.drop_zero, Nat.min_eq_left (Nat.le_of_lt h), Nat.sub_zero]
theorem cutPn {t : Nat} (b g n : Int) (s c : Bool) (h : t < 5) : ¬ (HT.sIx (plV b g n s c).length 0 none = 0 ∧ HT.sIx (plV b g n s c).length (plV b g n s c).length (some (t : Int)) = (plV b g n s c).length) := by
  show ¬ (_ ∧ HT.sIx 5 5 (some (t : Int)) = 5)
  rw [HT.sIx_nat]; omega
/-- what is no flash of the plan -/
def Bf (K : PySem.W.Frag) (C : Addr) (H : Hp) (nb pg : Int) (y : V) : Prop := (∃ t, TyOf K H y t ∧ PySem.W.kitOne K t (.ref C) = some false) ∨ ∃ fp h F, y = .ref fp ∧ FlAt K C H fp h F ∧ ¬ ((F.nb : Int) = nb ∧ (F.pg : Int) = pg)
theorem Bf.grow {K : PySem.W.Frag} {C : Addr} {H H' : Hp} {nb pg : Int} {y : V} (h : Bf K C H nb pg y) (g : Grow H H') : Bf K C H' nb pg y := by
  rcases h with ⟨t, ty, hk⟩ | ⟨fp, h, F, ey, fa, ne⟩
  · exact .inl ⟨t, ty_grow g ty, hk⟩
  · exact .inr ⟨fp, h, F, ey, fa.grow g, ne⟩
theorem all_mem {α : Type} {P : α → Prop} {xs : List α} (h : ∀ x ∈ xs, P x) {i : Nat} {x : α} (e : xs[i]? = some x) : P x := h x (List.mem_of_getElem? e)
theorem sq_grow {K : PySem.W.Frag} {H H' : Hp} {a : Addr} {xs : List V} (g : Grow H H') (h : SqL K H a xs) : SqL K H' a xs := by
  rcases h with (h | ⟨o, h⟩) | h
  · exact .inl (.inl (g.get h))
  · exact .inl (.inr ⟨o, g.get h⟩)
  · exact .inr h
def AllB (H : Hp) (xs : List V) : Prop := ∀ x ∈ xs, Bp H x
theorem AllB.same {H H' : Hp} {xs : List V} (h : AllB H xs) (s : Same H H') : AllB H' xs := fun x hx => (h x hx).same s
theorem AllB.snoc {H H' : Hp} {xs : List V} {y : V} (h : AllB H xs) (s : Same H H') (b : Bp H' y) : AllB H' (xs ++ [y]) := fun x hx => by
  rcases List.mem_append.mp hx with z | z
  · exact (h x z).same s
  · rw [List.mem_singleton.mp z]; exact b
structure Cz (K : PySem.W.Frag) (C : Addr) (Tb : TbM) (H : Hp) (pa fp : Addr) (h : FlH) (nb pg n : Nat) (sl cm : Bool) (od : V) (dO : PyData) : Prop where
  e : H pa = some (.tup (plV nb pg n sl cm))
  fl : FlAt K C H fp h (Fl.new nb pg [])
  tb : TbS Tb H
  ho : Dh H od dO
theorem Cz.same {K : PySem.W.Frag} {C : Addr} {Tb : TbM} {H H' : Hp} {pa fp : Addr} {h : FlH} {nb pg n : Nat} {sl cm : Bool} {od : V} {dO : PyData} (c : Cz K C Tb H pa fp h nb pg n sl cm od dO) (s : Same H H') : Cz K C Tb H' pa fp h nb pg n sl cm od dO := ⟨s _ _ c.e, c.fl.same s, tbs_same c.tb s, dh_grow (same_grow s) c.ho⟩
theorem Cz.grow {K : PySem.W.Frag} {C : Addr} {Tb : TbM} {H H' : Hp} {pa fp : Addr} {h : FlH} {nb pg n : Nat} {sl cm : Bool} {od : V} {dO : PyData} (c : Cz K C Tb H pa fp h nb pg n sl cm od dO) (g : Grow H H') (t : TbS Tb H') : Cz K C Tb H' pa fp h nb pg n sl cm od dO := ⟨g.get c.e, c.fl.grow g, t, dh_grow g c.ho⟩
end My
namespace My
open PySem L2
def Bq (H : Hp) (x : V) : Prop := ∃ d, Dh H x d ∧ plF d = false ∧ Sho d
theorem Bq.grow {H H' : Hp} {x : V} (h : Bq H x) (g : Grow H H') : Bq H' x := let ⟨d, a, b, c⟩ := h; ⟨d, dh_grow g a, b, c⟩
theorem Bq.same {H H' : Hp} {x : V} (h : Bq H x) (s : Same H H') : Bq H' x := h.grow (same_grow s)
theorem Bp.q {H : Hp} {x : V} (h : Bp H x) : Bq H x := let ⟨d, a, b, c⟩ := h; ⟨d, a, b, OkD.sho c (by decide) (by decide)⟩
def AllQ (H : Hp) (xs : List V) : Prop := ∀ x ∈ xs, Bq H x
theorem AllQ.same {H H' : Hp} {xs : List V} (h : AllQ H xs) (s : Same H H') : AllQ H' xs := fun x hx => (h x hx).same s
theorem AllQ.snoc {H H' : Hp} {xs : List V} {y : V} (h : AllQ H xs) (s : Same H H') (b : Bq H' y) : AllQ H' (xs ++ [y]) := fun x hx => by
  rcases List.mem_append.mp hx with z | z
  · exact (h x z).same s
  · rw [List.mem_singleton.mp z]; exact b
theorem bq_moreT {H : Hp} {t : Addr} {b g : Int} {n : Nat} {s c : Bool} (h : PlG b g n) (e : H t = some (.tup (plV b g n s c ++ [.bl true]))) : Bq H (.ref t) := (bp_tup e ((plDh H b g n s c).app (.cons (.bl _) .nil)) (plF_len _ (by show 6 ≠ 5; decide)) (((pl_ok h s c).app (OkL.cons (b := 0) (c := 0) (OkD.bl true) OkL.nil)).mono (by decide) (Nat.le_refl _))).q
theorem PlG.w1 {b g : Int} {n : Nat} (h : PlG b g n) : wi (.int b) 3 8 = true := by
  show (decide (3 ≤ b) && decide (b ≤ 8)) = true
  rw [decide_eq_true h.b0, decide_eq_true h.b1]; rfl
theorem PlG.w2 {b g : Int} {n : Nat} (h : PlG b g n) : wi (.int g) 2 8 = true := by
  show (decide (2 ≤ g) && decide (g ≤ 8)) = true
  rw [decide_eq_true h.g0, decide_eq_true h.g1]; rfl
section
variable {H : Hp} {t : Addr} {b g : Int} {n : Nat} {s c : Bool}
theorem bq_zero (h : PlG b g n) (e : H t = some (.tup [.int b, .int g, .int 0, .bl s, .bl c])) : Bq H (.ref t) := by
  have h1 := h.b0; have h2 := h.b1; have h3 := h.g0; have h4 := h.g1
  have p : (20000 : Nat) < 2 ^ 100 := by decide
  refine (bp_tup e (.cons (.int _) (.cons (.int _) (.cons (.int _) (.cons (.bl _) (.cons (.bl _) .nil))))) ?_ ((OkL.cons (b := 0) (OkD.int _ (by omega)) (OkL.cons (b := 0) (OkD.int _ (by omega)) (OkL.cons (b := 0) (OkD.int _ (by decide)) (OkL.cons (b := 0) (OkD.bl s) (OkL.cons (b := 0) (c := 0) (OkD.bl c) OkL.nil))))).mono (by decide) (Nat.le_refl _))).q
  rw [plF_in b g _ _ _ h.w1 h.w2]
  rfl
theorem bq_tru (h : PlG b g n) (e : H t = some (.tup [.int b, .int g, .bl true, .bl s, .bl c])) : Bq H (.ref t) := by
  have h1 := h.b0; have h2 := h.b1; have h3 := h.g0; have h4 := h.g1
  have p : (20000 : Nat) < 2 ^ 100 := by decide
  refine (bp_tup e (.cons (.int _) (.cons (.int _) (.cons (.bl _) (.cons (.bl _) (.cons (.bl _) .nil))))) ?_ ((OkL.cons (b := 0) (OkD.int _ (by omega)) (OkL.cons (b := 0) (OkD.int _ (by omega)) (OkL.cons (b := 0) (OkD.bl true) (OkL.cons (b := 0) (OkD.bl s) (OkL.cons (b := 0) (c := 0) (OkD.bl c) OkL.nil))))).mono (by decide) (Nat.le_refl _))).q
  rw [plF_in b g _ _ _ h.w1 h.w2]
  rfl
theorem bq_s1 (h : PlG b g n) (e : H t = some (.tup [.int b, .int g, .int n, .int 1, .bl c])) : Bq H (.ref t) := by
  have h1 := h.b0; have h2 := h.b1; have h3 := h.g0; have h4 := h.g1; have h5 := h.n2
  have p : (20000 : Nat) < 2 ^ 100 := by decide
  refine (bp_tup e (.cons (.int _) (.cons (.int _) (.cons (.int _) (.cons (.int _) (.cons (.bl _) .nil))))) ?_ ((OkL.cons (b := 0) (OkD.int _ (by omega)) (OkL.cons (b := 0) (OkD.int _ (by omega)) (OkL.cons (b := 0) (OkD.int _ (by omega)) (OkL.cons (b := 0) (OkD.int 1 (by decide)) (OkL.cons (b := 0) (c := 0) (OkD.bl c) OkL.nil))))).mono (by decide) (Nat.le_refl _))).q
  rw [plF_in b g _ _ _ h.w1 h.w2]
  exact Bool.and_false _
theorem bq_cN (h : PlG b g n) (e : H t = some (.tup [.int b, .int g, .int n, .bl s, .non])) : Bq H (.ref t) := by
  have h1 := h.b0; have h2 := h.b1; have h3 := h.g0; have h4 := h.g1; have h5 := h.n2
  have p : (20000 : Nat) < 2 ^ 100 := by decide
  refine (bp_tup e (.cons (.int _) (.cons (.int _) (.cons (.int _) (.cons (.bl _) (.cons .non .nil))))) ?_ ((OkL.cons (b := 0) (OkD.int _ (by omega)) (OkL.cons (b := 0) (OkD.int _ (by omega)) (OkL.cons (b := 0) (OkD.int _ (by omega)) (OkL.cons (b := 0) (OkD.bl s) (OkL.cons (b := 0) (c := 0) OkD.non OkL.nil))))).mono (by decide) (Nat.le_refl _))).q
  rw [plF_in b g _ _ _ h.w1 h.w2]
  exact Bool.and_false _
theorem bq_bN (h : PlG b g n) (e : H t = some (.tup [.non, .int g, .int n, .bl s, .bl c])) : Bq H (.ref t) := by
  have h1 := h.b0; have h2 := h.b1; have h3 := h.g0; have h4 := h.g1; have h5 := h.n2
  have p : (20000 : Nat) < 2 ^ 100 := by decide
  exact (bp_tup e (.cons .non (.cons (.int _) (.cons (.int _) (.cons (.bl _) (.cons (.bl _) .nil))))) rfl ((OkL.cons (b := 0) OkD.non (OkL.cons (b := 0) (OkD.int _ (by omega)) (OkL.cons (b := 0) (OkD.int _ (by omega)) (OkL.cons (b := 0) (OkD.bl s) (OkL.cons (b := 0) (c := 0) (OkD.bl c) OkL.nil))))).mono (by decide) (Nat.le_refl _))).q
theorem bq_d0 (e : H t = some (.dK [])) : Bq H (.ref t) := ⟨.dict [], .d0 e, rfl, sho_d0⟩
end
section
variable {P : Program} {w : World} {K : PySem.W.Frag} {mg : Str → Option Value} {base : Heap}
abbrev sNoPlans : Stmt := top 85
abbrev nNoPlans : List Str := ["_law_plan_here", "_law_blocks", "_law_pages", "_law_places", "_law_sealed", "_law_commits", "_law_some"]
theorem scNoPlans : FnScope nNoPlans ["_law_plan_here"] (defScope sNoPlans) := ⟨rfl, rfl, rfl, by decide +kernel, rfl, by decide +kernel, by decide +kernel⟩
def spNoPlans : Sp := fun vs H Q _ => ∃ (pa : Addr) (nb pg : Int) (n : Nat) (sl cm : Bool), vs = [.ref pa] ∧ H pa = some (.tup (plV nb pg n sl cm)) ∧ PlG nb pg n ∧ ∀ L xs H', Same H H' → H' L = some (.lst xs) → AllQ H' xs → xs.length ≤ 20 → Q (.ref L) H'
set_option maxHeartbeats 8000000 in
theorem okNoPlans {f : Addr} {fd : FuncData} (D : Df K mg "_law_no_plans" sNoPlans ["_law_plan_here"] f fd) (hlst : mg "list" = none) : FnOk P w K mg base CX0 1 f fd ["_law_plan_here"] spNoPlans := by
  refine D.F.ok scNoPlans (fun vs H Q E h => ?_) (fun cdv A outer s H vs Q E hr h => ?_)
  · obtain ⟨_, _, _, _, _, _, rfl, _⟩ := h; rfl
  · obtain ⟨pa, nb, pg, n, sl, cm, rfl, e0, plg, k⟩ := h
    refine ⟨_, pss_cons (ps_asg (pv 0) (pg_tup (by rfl) (pgs_cons (pg_name (i := 1) scNoPlans.nd rfl (Or.inl rfl)) (pgs_cons (pg_name (i := 2) scNoPlans.nd rfl (Or.inl rfl)) (pgs_cons (pg_name (i := 3) scNoPlans.nd rfl (Or.inl rfl)) (pgs_cons (pg_name (i := 4) scNoPlans.nd rfl (Or.inl rfl)) (pgs_cons (pg_name (i := 5) scNoPlans.nd rfl (Or.inl rfl)) pgs_nil)))))))
      (pss_cons (ps_set (i := 6) scNoPlans.nd rfl (Or.inl rfl) (@pe_lst _ _ _ _ (@pa_con _ _ _ _ _ _ _ pe_non (@pa_tpl _ _ _ _ _ _ _ (pe_tup pa_nil) (pa_cons (pe_callTy call_list_of (by rfl) hlst (by decide +kernel) (pa_cons (pv 0) pa_nil)) (pa_cons (pe_slice sl_tup (pv 0) po_none (po_some pe_int)) (@pa_bin _ _ _ _ _ _ _ _ (pe_op op_catA (pv 0) (pe_tup (pa_cons pe_bl pa_nil))) (@pa_tpl _ _ _ _ _ _ _ (pe_tup (pa_cons pe_int (pa_cons pe_int (pa_cons pe_int (pa_cons pe_bl (pa_cons pe_bl pa_nil)))))) (@pa_tpl _ _ _ _ _ _ _ (pe_tup (pa_cons pe_int (pa_cons pe_int (pa_cons pe_int (pa_cons pe_bl (pa_cons pe_bl pa_nil)))))) pa_nil)))))))))
      (pss_cons (ps_set (i := 6) scNoPlans.nd rfl (Or.inl rfl) (pe_op op_cat (pv 6) (pe_lst (pa_cons (pe_tup (pa_cons pe_int (pa_cons pe_int (pa_cons pe_int (pa_cons pe_bl (pa_cons pe_bl pa_nil)))))) (pa_cons (pe_tup (pa_cons pe_int (pa_cons pe_int (pa_cons pe_int (pa_cons pe_bl (pa_cons pe_bl pa_nil)))))) (pa_cons (pe_tup (pa_cons (pv 1) (pa_cons (pv 2) (pa_cons pe_int (pa_cons (pv 4) (pa_cons (pv 5) pa_nil)))))) pa_nil))))))
      (pss_cons (ps_set (i := 6) scNoPlans.nd rfl (Or.inl rfl) (pe_op op_cat (pv 6) (pe_lst (pa_cons (pe_tup (pa_cons pe_int (pa_cons pe_int (pa_cons pe_int (pa_cons pe_bl (pa_cons pe_bl pa_nil)))))) (pa_cons (pe_tup (pa_cons pe_int (pa_cons pe_int (pa_cons pe_int (pa_cons pe_bl (pa_cons pe_bl pa_nil)))))) pa_nil)))))
      (pss_cons (ps_set (i := 6) scNoPlans.nd rfl (Or.inl rfl) (pe_op op_cat (pv 6) (pe_lst (pa_cons (pe_tup (pa_cons pe_int (pa_cons pe_int (pa_cons pe_int (pa_cons pe_bl (pa_cons pe_bl pa_nil)))))) (pa_cons (pe_tup (pa_cons (pv 1) (pa_cons (pv 2) (pa_cons pe_bl (pa_cons (pv 4) (pa_cons (pv 5) pa_nil)))))) (pa_cons (pe_tup (pa_cons (pv 1) (pa_cons (pv 2) (pa_cons (pv 3) (pa_cons pe_int (pa_cons (pv 5) pa_nil)))))) pa_nil))))))
      (pss_one (ps_ret (pe_op op_cat (pv 6) (pe_lst (pa_cons (pe_tup (pa_cons (pv 1) (pa_cons (pv 2) (pa_cons (pv 3) (pa_cons (pv 4) (pa_cons pe_non pa_nil)))))) (pa_cons (pe_tup (pa_cons pe_non (pa_cons (pv 2) (pa_cons (pv 3) (pa_cons (pv 4) (pa_cons (pv 5) pa_nil)))))) (pa_cons pe_str (pa_cons pe_int (pa_cons pe_dnewK pa_nil))))))))))))), ?_⟩
    refine ⟨_, rfl, pa, _, rfl, SqT.of e0, rfl, _, _, rfl, _, _, rfl, _, _, rfl, _, _, rfl, _, _, rfl, rfl, ?_⟩
    have B0 : AllQ H ([] ++ [.non]) := fun x hx => by rw [List.mem_singleton.mp hx]; exact bp_non.q
    refine ⟨(by show 0 ≤ sizeLine; decide), fun a1 h1 => ?_⟩
    have S1 := same_new (o := .tup []) h1
    have E1 := S1 _ _ e0
    have B1 := B0.snoc S1 ((bp_tup (at_new h1) .nil (by decide +kernel) OkL.nil).q)
    generalize upd H a1 (.tup []) = H1 at S1 E1 B1 ⊢
    refine ⟨_, rfl, pa, _, rfl, .inr (SqT.of E1), fun a2 h2 => ?_⟩
    have S2 := same_new (o := .lst (plV nb pg n sl cm)) h2
    have E2 := S2 _ _ E1
    have B2 := B1.snoc S2 ((bp_list plg (at_new h2)).q)
    generalize upd H1 a2 (.lst (plV nb pg n sl cm)) = H2 at S2 E2 B2 ⊢
    have e4 : cutV (plV nb pg n sl cm) none (some (4 : Int)) = (plV nb pg n sl cm).take 4 := cutP (t := 4) _ _ _ _ _ (by decide)
    refine ⟨_, rfl, _, rfl, pa, _, rfl, SqT.of E2, cutPn (t := 4) _ _ _ _ _ (by decide), fun a3 h3 => ?_⟩
    rw [e4]
    have S3 := same_new (o := .tup ((plV nb pg n sl cm).take 4)) h3
    have E3 := S3 _ _ E2
    have B3 := B2.snoc S3 ((bp_four plg (at_new h3)).q)
    generalize upd H2 a3 (.tup ((plV nb pg n sl cm).take 4)) = H3 at S3 E3 B3 ⊢
    refine ⟨_, rfl, (by show 1 ≤ sizeLine; decide), fun q4 d4 => ⟨pa, q4, _, _, rfl, rfl, same_new d4 _ _ E3, upd_same, (by show 5 + 1 ≤ sizeLine; decide), fun a4 H4 sm4 hl4 => ?_⟩⟩
    have S4 := (same_new (o := .tup [.bl true]) d4).trans sm4
    have E4 := S4 _ _ E3
    have B4 := B3.snoc S4 (bq_moreT plg hl4)
    refine ⟨(by show 5 ≤ sizeLine; decide), fun a5 h5 => ?_⟩
    have S5 := same_new (o := .tup [.int 2, .int 8, .int 1, .bl true, .bl true]) h5
    have E5 := S5 _ _ E4
    have B5 := B4.snoc S5 ((bp_five (at_new h5) (by decide +kernel) (by decide)).q)
    generalize upd H4 a5 (.tup [.int 2, .int 8, .int 1, .bl true, .bl true]) = H5 at S5 E5 B5 ⊢
    refine ⟨(by show 5 ≤ sizeLine; decide), fun a6 h6 => ?_⟩
    have S6 := same_new (o := .tup [.int 9, .int 2, .int 1, .bl true, .bl true]) h6
    have E6 := S6 _ _ E5
    have B6 := B5.snoc S6 ((bp_five (at_new h6) (by decide +kernel) (by decide)).q)
    generalize upd H5 a6 (.tup [.int 9, .int 2, .int 1, .bl true, .bl true]) = H6 at S6 E6 B6 ⊢
    refine ⟨(by show 7 ≤ sizeLine; decide), fun L1 hL1 => ?_⟩
    have SL1 := same_new (o := .lst [.non, .ref a1, .ref a2, .ref a3, .ref a4, .ref a5, .ref a6]) hL1
    have l1 := at_new hL1 (o := .lst [.non, .ref a1, .ref a2, .ref a3, .ref a4, .ref a5, .ref a6])
    have EL1 := SL1 _ _ E6
    have BL1 := B6.same SL1
    generalize upd H6 L1 (.lst [.non, .ref a1, .ref a2, .ref a3, .ref a4, .ref a5, .ref a6]) = K1 at SL1 l1 EL1 BL1 ⊢
    refine ⟨_, rfl, ?_⟩
    refine ⟨(by show 5 ≤ sizeLine; decide), fun a7 h7 => ?_⟩
    have S7 := same_new (o := .tup [.int 3, .int 1, .int 1, .bl true, .bl true]) h7
    have E7 := S7 _ _ EL1
    have B7 := BL1.snoc S7 ((bp_five (at_new h7) (by decide +kernel) (by decide)).q)
    generalize upd K1 a7 (.tup [.int 3, .int 1, .int 1, .bl true, .bl true]) = H7 at S7 E7 B7 ⊢
    refine ⟨(by show 5 ≤ sizeLine; decide), fun a8 h8 => ?_⟩
    have S8 := same_new (o := .tup [.int 3, .int 9, .int 1, .bl true, .bl true]) h8
    have E8 := S8 _ _ E7
    have B8 := B7.snoc S8 ((bp_five (at_new h8) (by decide +kernel) (by decide)).q)
    generalize upd H7 a8 (.tup [.int 3, .int 9, .int 1, .bl true, .bl true]) = H8 at S8 E8 B8 ⊢
    refine ⟨_, rfl, _, rfl, _, rfl, _, rfl, (by show 5 ≤ sizeLine; decide), fun a9 h9 => ?_⟩
    have S9 := same_new (o := .tup [.int nb, .int pg, .int 0, .bl sl, .bl cm]) h9
    have E9 := S9 _ _ E8
    have B9 := B8.snoc S9 (bq_zero plg (at_new h9))
    generalize upd H8 a9 (.tup [.int nb, .int pg, .int 0, .bl sl, .bl cm]) = H9 at S9 E9 B9 ⊢
    have lk := (S9 _ _ (S8 _ _ (S7 _ _ l1)))
    refine ⟨(by show 3 ≤ sizeLine; decide), fun r2 hr2 => ?_⟩
    have Sr2 := same_new (o := .lst [.ref a7, .ref a8, .ref a9]) hr2
    have m2 := at_new hr2 (o := .lst [.ref a7, .ref a8, .ref a9])
    refine ⟨_, _, _, _, rfl, rfl, Sr2 _ _ lk, m2, (by show 10 ≤ sizeLine; decide), fun L2 hL2 => ?_⟩
    have SL2 := Sr2.trans (same_new (o := .lst ([.non, .ref a1, .ref a2, .ref a3, .ref a4, .ref a5, .ref a6] ++ [.ref a7, .ref a8, .ref a9])) hL2)
    have l2 := at_new hL2 (o := .lst ([.non, .ref a1, .ref a2, .ref a3, .ref a4, .ref a5, .ref a6] ++ [.ref a7, .ref a8, .ref a9]))
    have EL2 := SL2 _ _ E9
    have BL2 := B9.same SL2
    generalize upd (upd H9 r2 (.lst [.ref a7, .ref a8, .ref a9])) L2 (.lst ([.non, .ref a1, .ref a2, .ref a3, .ref a4, .ref a5, .ref a6] ++ [.ref a7, .ref a8, .ref a9])) = K2 at SL2 l2 EL2 BL2 ⊢
    refine ⟨_, rfl, ?_⟩
    refine ⟨(by show 5 ≤ sizeLine; decide), fun a10 h10 => ?_⟩
    have S10 := same_new (o := .tup [.int 3, .int 6, .int 2, .bl true, .bl true]) h10
    have E10 := S10 _ _ EL2
    have B10 := BL2.snoc S10 ((bp_five (at_new h10) (by decide +kernel) (by decide)).q)
    generalize upd K2 a10 (.tup [.int 3, .int 6, .int 2, .bl true, .bl true]) = H10 at S10 E10 B10 ⊢
    refine ⟨(by show 5 ≤ sizeLine; decide), fun a11 h11 => ?_⟩
    have S11 := same_new (o := .tup [.int 4, .int 4, .int 4, .bl true, .bl true]) h11
    have E11 := S11 _ _ E10
    have B11 := B10.snoc S11 ((bp_five (at_new h11) (by decide +kernel) (by decide)).q)
    generalize upd H10 a11 (.tup [.int 4, .int 4, .int 4, .bl true, .bl true]) = H11 at S11 E11 B11 ⊢
    have lk := (S11 _ _ (S10 _ _ l2))
    refine ⟨(by show 2 ≤ sizeLine; decide), fun r3 hr3 => ?_⟩
    have Sr3 := same_new (o := .lst [.ref a10, .ref a11]) hr3
    have m3 := at_new hr3 (o := .lst [.ref a10, .ref a11])
    refine ⟨_, _, _, _, rfl, rfl, Sr3 _ _ lk, m3, (by show 12 ≤ sizeLine; decide), fun L3 hL3 => ?_⟩
    have SL3 := Sr3.trans (same_new (o := .lst ([.non, .ref a1, .ref a2, .ref a3, .ref a4, .ref a5, .ref a6] ++ [.ref a7, .ref a8, .ref a9] ++ [.ref a10, .ref a11])) hL3)
    have l3 := at_new hL3 (o := .lst ([.non, .ref a1, .ref a2, .ref a3, .ref a4, .ref a5, .ref a6] ++ [.ref a7, .ref a8, .ref a9] ++ [.ref a10, .ref a11]))
    have EL3 := SL3 _ _ E11
    have BL3 := B11.same SL3
    generalize upd (upd H11 r3 (.lst [.ref a10, .ref a11])) L3 (.lst ([.non, .ref a1, .ref a2, .ref a3, .ref a4, .ref a5, .ref a6] ++ [.ref a7, .ref a8, .ref a9] ++ [.ref a10, .ref a11])) = K3 at SL3 l3 EL3 BL3 ⊢
    refine ⟨_, rfl, ?_⟩
    refine ⟨(by show 5 ≤ sizeLine; decide), fun a12 h12 => ?_⟩
    have S12 := same_new (o := .tup [.int 8, .int 8, .int 17, .bl true, .bl true]) h12
    have E12 := S12 _ _ EL3
    have B12 := BL3.snoc S12 ((bp_five (at_new h12) (by decide +kernel) (by decide)).q)
    generalize upd K3 a12 (.tup [.int 8, .int 8, .int 17, .bl true, .bl true]) = H12 at S12 E12 B12 ⊢
    refine ⟨_, rfl, _, rfl, _, rfl, _, rfl, (by show 5 ≤ sizeLine; decide), fun a13 h13 => ?_⟩
    have S13 := same_new (o := .tup [.int nb, .int pg, .bl true, .bl sl, .bl cm]) h13
    have E13 := S13 _ _ E12
    have B13 := B12.snoc S13 (bq_tru plg (at_new h13))
    generalize upd H12 a13 (.tup [.int nb, .int pg, .bl true, .bl sl, .bl cm]) = H13 at S13 E13 B13 ⊢
    refine ⟨_, rfl, _, rfl, _, rfl, _, rfl, (by show 5 ≤ sizeLine; decide), fun a14 h14 => ?_⟩
    have S14 := same_new (o := .tup [.int nb, .int pg, .int n, .int 1, .bl cm]) h14
    have E14 := S14 _ _ E13
    have B14 := B13.snoc S14 (bq_s1 plg (at_new h14))
    generalize upd H13 a14 (.tup [.int nb, .int pg, .int n, .int 1, .bl cm]) = H14 at S14 E14 B14 ⊢
    have lk := (S14 _ _ (S13 _ _ (S12 _ _ l3)))
    refine ⟨(by show 3 ≤ sizeLine; decide), fun r4 hr4 => ?_⟩
    have Sr4 := same_new (o := .lst [.ref a12, .ref a13, .ref a14]) hr4
    have m4 := at_new hr4 (o := .lst [.ref a12, .ref a13, .ref a14])
    refine ⟨_, _, _, _, rfl, rfl, Sr4 _ _ lk, m4, (by show 15 ≤ sizeLine; decide), fun L4 hL4 => ?_⟩
    have SL4 := Sr4.trans (same_new (o := .lst ([.non, .ref a1, .ref a2, .ref a3, .ref a4, .ref a5, .ref a6] ++ [.ref a7, .ref a8, .ref a9] ++ [.ref a10, .ref a11] ++ [.ref a12, .ref a13, .ref a14])) hL4)
    have l4 := at_new hL4 (o := .lst ([.non, .ref a1, .ref a2, .ref a3, .ref a4, .ref a5, .ref a6] ++ [.ref a7, .ref a8, .ref a9] ++ [.ref a10, .ref a11] ++ [.ref a12, .ref a13, .ref a14]))
    have EL4 := SL4 _ _ E14
    have BL4 := B14.same SL4
    generalize upd (upd H14 r4 (.lst [.ref a12, .ref a13, .ref a14])) L4 (.lst ([.non, .ref a1, .ref a2, .ref a3, .ref a4, .ref a5, .ref a6] ++ [.ref a7, .ref a8, .ref a9] ++ [.ref a10, .ref a11] ++ [.ref a12, .ref a13, .ref a14])) = K4 at SL4 l4 EL4 BL4 ⊢
    refine ⟨_, rfl, ?_⟩
    refine ⟨_, rfl, _, rfl, _, rfl, _, rfl, (by show 5 ≤ sizeLine; decide), fun a15 h15 => ?_⟩
    have S15 := same_new (o := .tup [.int nb, .int pg, .int n, .bl sl, .non]) h15
    have E15 := S15 _ _ EL4
    have B15 := BL4.snoc S15 (bq_cN plg (at_new h15))
    generalize upd K4 a15 (.tup [.int nb, .int pg, .int n, .bl sl, .non]) = H15 at S15 E15 B15 ⊢
    refine ⟨_, rfl, _, rfl, _, rfl, _, rfl, (by show 5 ≤ sizeLine; decide), fun a16 h16 => ?_⟩
    have S16 := same_new (o := .tup [.non, .int pg, .int n, .bl sl, .bl cm]) h16
    have E16 := S16 _ _ E15
    have B16 := B15.snoc S16 (bq_bN plg (at_new h16))
    generalize upd H15 a16 (.tup [.non, .int pg, .int n, .bl sl, .bl cm]) = H16 at S16 E16 B16 ⊢
    have B16 := (B16.snoc (y := .str "plan") (fun _ _ e => e) bp_str.q).snoc (y := .int 7) (fun _ _ e => e) (bp_int 7 (by decide)).q
    refine fun a17 h17 => ?_
    have S17 := same_new (o := .dK []) h17
    have E17 := S17 _ _ E16
    have B17 := B16.snoc S17 (bq_d0 (at_new h17))
    generalize upd H16 a17 (.dK []) = H17 at S17 E17 B17 ⊢
    have lk := (S17 _ _ (S16 _ _ (S15 _ _ l4)))
    refine ⟨(by show 5 ≤ sizeLine; decide), fun r5 hr5 => ?_⟩
    have Sr5 := same_new (o := .lst [.ref a15, .ref a16, .str "plan", .int 7, .ref a17]) hr5
    have m5 := at_new hr5 (o := .lst [.ref a15, .ref a16, .str "plan", .int 7, .ref a17])
    refine ⟨_, _, _, _, rfl, rfl, Sr5 _ _ lk, m5, (by show 20 ≤ sizeLine; decide), fun L5 hL5 => ?_⟩
    have SL5 := Sr5.trans (same_new (o := .lst ([.non, .ref a1, .ref a2, .ref a3, .ref a4, .ref a5, .ref a6] ++ [.ref a7, .ref a8, .ref a9] ++ [.ref a10, .ref a11] ++ [.ref a12, .ref a13, .ref a14] ++ [.ref a15, .ref a16, .str "plan", .int 7, .ref a17])) hL5)
    have l5 := at_new hL5 (o := .lst ([.non, .ref a1, .ref a2, .ref a3, .ref a4, .ref a5, .ref a6] ++ [.ref a7, .ref a8, .ref a9] ++ [.ref a10, .ref a11] ++ [.ref a12, .ref a13, .ref a14] ++ [.ref a15, .ref a16, .str "plan", .int 7, .ref a17]))
    have EL5 := SL5 _ _ E17
    have BL5 := B17.same SL5
    generalize upd (upd H17 r5 (.lst [.ref a15, .ref a16, .str "plan", .int 7, .ref a17])) L5 (.lst ([.non, .ref a1, .ref a2, .ref a3, .ref a4, .ref a5, .ref a6] ++ [.ref a7, .ref a8, .ref a9] ++ [.ref a10, .ref a11] ++ [.ref a12, .ref a13, .ref a14] ++ [.ref a15, .ref a16, .str "plan", .int 7, .ref a17])) = K5 at SL5 l5 EL5 BL5 ⊢
    exact k L5 _ K5 ((((((((((((((((((((((S1).trans S2).trans S3).trans S4).trans S5).trans S6).trans SL1).trans S7).trans S8).trans S9).trans SL2).trans S10).trans S11).trans SL3).trans S12).trans S13).trans S14).trans SL4).trans S15).trans S16).trans S17).trans SL5) l5 BL5 (by show 20 ≤ 20; decide)
end
end My
namespace My
open PySem L2
open FK (Flds PRes)
/-- what is said of a call: the text r -/
def SdN (K : PySem.W.Frag) (ca : Nat → Addr) (sp : Sp) (H : Hp) (vs : List V) (r : Str) : Prop := ∀ H1, Grow H H1 → ∀ Q : VK, (∀ H2, Same H1 H2 → Q (.str r) H2) → RSaid K ca (fun H' Q' E => sp vs H' Q' E) H1 Q
def oLv (K : PySem.W.Frag) (C : Addr) (ca : Nat → Addr) : Sp := fun vs H Q E => spLvP K C vs H Q E ∨ spNoLook K C (ca 7) (ca 8) vs H Q E
def oRm (K : PySem.W.Frag) (C : Addr) (ca : Nat → Addr) : Sp := fun vs H Q E => spRoomP K C vs H Q E ∨ (spRoomN K C (ca 7) (ca 8) vs H Q E ∨ spRoomM K C (ca 1) vs H Q E)
def oWn (K : PySem.W.Frag) (C : Addr) (ca : Nat → Addr) : Sp := fun vs H Q E => spWorn K C vs H Q E ∨ spWornN K C (ca 8) vs H Q E
theorem repDh {H : Hp} : ∀ n, DhAll H ((List.replicate n 0).map fun m : Nat => V.int ((m : Nat) : Int)) (List.replicate n (.int 0))
  | 0 => .nil
  | n + 1 => by rw [List.replicate_succ, List.replicate_succ]; exact .cons (.int _) (repDh n)
theorem repDf {H : Hp} : ∀ n, DhAll H (List.replicate n [V.int 0]).flatten (List.replicate n (.int 0))
  | 0 => .nil
  | n + 1 => by rw [List.replicate_succ, List.replicate_succ]; exact .cons (.int _) (repDf n)
theorem okRep : ∀ n : Nat, OkL n 0 (List.replicate n (.int 0))
  | 0 => OkL.nil
  | n + 1 => by
    rw [List.replicate_succ]
    exact (OkL.cons (b := 0) (OkD.int 0 (by decide)) (okRep n)).mono (by omega) (Nat.le_refl _)
theorem repSho {n : Nat} (h : n ≤ 8) : Sho (.tuple (List.replicate n (.int 0))) := OkD.sho (OkL.tup ((okRep n).mono h (Nat.le_refl 0))) (by decide) (by decide)
theorem shp1' : ∀ m, m < 9 → SeqAt.shaped (.list [.str "(0, 0)", .str (PyData.tuple (List.replicate m (.int 0))).shown]) = true := by decide +kernel
theorem shp1 (m : Nat) (h : m ≤ 8) : SeqAt.shaped (.list [.str "(0, 0)", .str (PyData.tuple (List.replicate m (.int 0))).shown]) = true := shp1' m (by omega)
theorem shp2 (m : Nat) (h : m ≤ 8) : SeqAt.shaped (.list [.str (PyData.tuple [.int 0, .int 0]).shown, .str (PyData.tuple (List.replicate m (.int 0))).shown]) = true := by
  rw [show (PyData.tuple [.int 0, .int 0]).shown = ("(0, 0)" : Str) by decide +kernel]
  exact shp1 m h
theorem eqv_two (x y : Str) : (!PyData.eqv (.list [.str x, .str y]) (.list [.str x, .str y])) = false := by
  show (!((x == x) && ((y == y) && true))) = false
  rw [beq_self_eq_true, beq_self_eq_true]; rfl
theorem zz_sho : Sho (.tuple [.int 0, .int 0]) := repSho (n := 2) (by decide)
section
variable {K : PySem.W.Frag} {C : Addr} {ca : Nat → Addr} {H : Hp}
theorem lv_no {x y : V} {j : Nat} (h : NL K C H x y j) : SdN K ca (oLv K C ca) H [x, y] (sayW j) := fun H1 g1 Q k Q' E' _ hE =>
  .inr ⟨x, y, rfl, (h.grow g1).no fun H' s => hE j H' h.lt fun H2 s2 => k H2 (s.trans s2)⟩
theorem rm_no {x y z : V} {j : Nat} (h : NL K C H x y j) : SdN K ca (oRm K C ca) H [x, y, z] (sayW j) := fun H1 g1 Q k Q' E' _ hE =>
  .inr (.inl ⟨x, y, z, rfl, (h.grow g1).no fun H' s => hE j H' h.lt fun H2 s2 => k H2 (s.trans s2)⟩)
theorem rm_num {pa p : Addr} {h : FlH} {F : Fl} {n : Nat} {sl cm : Bool} {x : V} {d : PyData} (pf : PF K C H pa p h F n sl cm) (hd : Dh H x d) (hw : wi d 1 5 = false) : SdN K ca (oRm K C ca) H [.ref pa, .ref p, x] (sayW 1) := fun H1 g1 Q k Q' E' _ hE =>
  .inr (.inr ⟨pa, p, h, F, n, sl, cm, x, d, rfl, pf.grow g1, dh_grow g1 hd, hw, fun H' s => hE 1 H' (by decide) fun H2 s2 => k H2 (s.trans s2)⟩)
theorem wn_no {y : V} {t : Value} (ty : TyOf K H y t) (hk : PySem.W.kitOne K t (.ref C) = some false) : SdN K ca (oWn K C ca) H [y] (sayW 8) := fun H1 g1 Q k Q' E' _ hE =>
  .inr ⟨y, t, rfl, ty_grow g1 ty, hk, hE 8 H1 (by decide) k⟩
theorem wn_ok {p : Addr} {h : FlH} {nb pg : Nat} (fa : FlAt K C H p h (Fl.new nb pg [])) (hn : 1 ≤ nb) : SdN K ca (oWn K C ca) H [.ref p] (PyData.tuple [.int 0, .int 0]).shown := fun H1 g1 Q k Q' E' hQ _ =>
  .inl ⟨p, h, _, rfl, fa.grow g1, fun e => by
    rw [new_gw] at e
    have := congrArg List.length e
    rw [List.length_replicate] at this
    have : nb = 0 := this
    omega, fun _ lo hi t H' en S et => by
    obtain ⟨rfl, rfl⟩ := new_ends en
    exact hQ _ _ (.inr ⟨_, .tuple [.int 0, .int 0], rfl, .tup et (.cons (.int _) (.cons (.int _) .nil)), zz_sho, k _ S⟩)⟩
theorem lv_ok {pa p : Addr} {h : FlH} {nb pg n : Nat} {sl cm : Bool} (pf : PF K C H pa p h (Fl.new nb pg []) n sl cm) (hn : nb ≤ 8) : SdN K ca (oLv K C ca) H [.ref pa, .ref p] (PyData.tuple (List.replicate nb (.int 0))).shown := fun H1 g1 Q k Q' E' hQ _ =>
  .inl ⟨pa, p, h, _, n, sl, cm, rfl, pf.grow g1, fun q H' e S => by
    rw [new_lv] at e
    exact hQ _ _ (.inr ⟨_, .tuple (List.replicate nb (.int 0)), rfl, .tup e (repDh nb), repSho hn, k _ S⟩)⟩
theorem rm_ok {pa p : Addr} {h : FlH} {nb pg n : Nat} {sl cm : Bool} {m : Int} (pf : PF K C H pa p h (Fl.new nb pg []) n sl cm) (m1 : 1 ≤ m) (m5 : m ≤ 5) (hw : m + ((pg : Nat) : Int) ≤ ((nb * pg : Nat) : Int)) : SdN K ca (oRm K C ca) H [.ref pa, .ref p, .int m] "True" := fun H1 g1 Q k Q' E' hQ _ =>
  .inl ⟨pa, p, h, _, n, sl, cm, m, rfl, pf.grow g1, m1, m5, fun r H' e S => by
    obtain rfl := new_room hw e
    exact hQ _ _ (.inr ⟨_, .bool true, rfl, .bl true, OkD.sho (b := 0) (n := 0) (OkD.bl true) (by decide) (by decide), k _ S⟩)⟩
end
theorem wipe11 (a0 a1 a2 a3 a4 a5 a6 a7 a8 a9 a10 v : Option V) : wipe ((wipe ([a0, a1, a2, a3, a4, a5, a6, a7, a8, a9, a10] : St) [10]).set 10 v) [10] = wipe ([a0, a1, a2, a3, a4, a5, a6, a7, a8, a9, a10] : St) [10] := rfl
theorem cut2 (xs : List V) (h : 2 ≤ xs.length) : cutV xs (some (2 : Int)) none = xs.drop 2 := by
  unfold cutV
  rw [HT.sIx_none, show (2 : Int) = ((2 : Nat) : Int) from rfl, HT.sIx_nat, Nat.min_eq_left h]
  rw [List.take_of_length_le (by rw [List.length_drop]; exact Nat.le_refl _)]
section
variable {P : Program} {w : World} {K : PySem.W.Frag} {mg : Str → Option Value} {base : Heap} {C BK TK : Addr}
abbrev sLaw : Stmt := top 86
abbrev nLaw : List Str := ["_law_script", "_law_k", "_law_state_here", "_law_plan_here", "_law_flash", "_law_other", "_law_others", "_law_bad", "_law_words", "_law_stays", "_law_many"]
theorem scLaw : FnScope nLaw ["_law_script"] (defScope sLaw) := ⟨rfl, rfl, rfl, by decide +kernel, rfl, by decide +kernel, by decide +kernel⟩
def spLawT (Tb : TbM) (K : PySem.W.Frag) : Sp := fun vs H Q _ => ∃ (a : Addr) (ns : List Int), vs = [.ref a] ∧ SqL K H a (ns.map V.int) ∧ ns.length ≤ 63 ∧ TbS Tb H ∧ ∀ H', Q (.bl true) H'
set_option maxHeartbeats 32000000 in
theorem okLaw {f c Pt fS fC fK fP fO fN fI fD fW fL fR e0 : Addr} {fd fdS fdC fdK fdP fdO fdN fdI fdD fdW fdL fdR : FuncData} {ca : Nat → Addr} {Tb : TbM} {kl : Nat} (hk : 6 ≤ kl) (D : Df K mg "law" sLaw ["_law_script"] f fd) (hc : fd.code = .ref c) (hq : Tb Pt = some ("law.<locals>.<lambda>" : Str)) (B : TabB base mg c Pt)
    (DS : Df K mg "_law_state" sState ["_law_script", "_law_k"] fS fdS) (DC : Df K mg "_law_cell_at" sCell ["_law_script", "_law_k"] fC fdC) (DK : Df K mg "_law_choice" sChoice ["_law_state_here", "_law_many"] fK fdK)
    (DP : Df K mg "_law_plan" sPlan ["_law_state_here"] fP fdP) (DO : Df K mg "_law_odd" sOddL ["_law_state_here"] fO fdO) (DN : Df K mg "_law_no_plans" sNoPlans ["_law_plan_here"] fN fdN)
    (DD : Df K mg "_law_said" sSaid ["_law_call"] fD fdD) (GD : FnOkS P w K mg base CX0 (kl + 2) fD fdD ["_law_call"] (spCl P w K mg base (kl + 1) (RSaid K ca))) (hbd : ∀ (s : Shared) (u : Value), BindsTo s fdD ⟨[u], []⟩ [("_law_call", u)])
    (DW : Df K mg "worn" sWorn ["flash"] fW fdW) (GW : FnOk P w K mg base (CXF P w) kl fW fdW ["flash"] (oWn K C ca)) (DL : Df K mg "living" sLiving ["plan", "flash"] fL fdL) (GL : FnOk P w K mg base (CXF P w) kl fL fdL ["plan", "flash"] (oLv K C ca)) (DR : Df K mg "room" sRoomP ["plan", "flash", "many"] fR fdR) (GR : FnOk P w K mg base (CXF P w) kl fR fdR ["plan", "flash", "many"] (oRm K C ca))
    (M : Mk K C fI) (GI : FnOk P w K mg base (CXF P w) 5 fI fdI ["self", "blocks", "pages", "weather"] (spIni K C)) (bI : Binds K fdI ["self", "blocks", "pages", "weather"] [.ref e0]) (sE : ∀ H, SqT K H e0 []) (noI : ∀ t ∈ tys7, PySem.W.kitOne K (.type t) (.ref C) = some false) (noD : ∀ d : PyData, PySem.W.kitOne K (.type (tyD d)) (.ref C) = some false)
    (Tx' : Tx K mg) (T : Tf K mg C BK TK) (hlst : mg "list" = none) : FnOk P w K mg base CX0 (kl + 3) f fd ["_law_script"] (spLawT Tb K) := by
  refine okC D.F hc scLaw (fun vs H Q E h => ?_) (fun A outer s H vs Q E hr h => ?_)
  · obtain ⟨_, _, rfl, _⟩ := h; rfl
  · obtain ⟨a, ns, rfl, hS, hlen, tH, k⟩ := h
    have hu := hr.units
    have hr1 := hr.mono (show 1 ≤ kl + 2 by omega)
    have hr2 := hr.mono (show 2 ≤ kl + 2 by omega)
    have hr6 := hr.mono (show 6 ≤ kl + 2 by omega)
    refine ⟨_, pss_cons (ps_for PassesOwn.never rfl (pi_range1 (by rfl) Tx'.range (pa_cons (pe_callB (call_max2 rfl) (by rfl) Tx'.max (by decide +kernel) (pa_cons pe_int (pa_cons (pe_callB (call_min2 rfl) (by rfl) Tx'.min (by decide +kernel) (pa_cons (pe_callB call_len_seq (by rfl) Tx'.len PySem.boot_len (pa_cons (pv 0) pa_nil)) (pa_cons pe_int pa_nil))) pa_nil))) pa_nil)) (pg_name (i := 1) scLaw.nd rfl (Or.inl rfl))
        (pss_cons (ps_set (i := 2) scLaw.nd rfl (Or.inl rfl) (pc DS (okState DS DC Tx') hr2 (pa_cons (pv 0) (pa_cons (pv 1) pa_nil))))
        (pss_cons (ps_set (i := 3) scLaw.nd rfl (Or.inr rfl) (pc DP (okPlan DP DK) hr2 (pa_cons (pv 2) pa_nil)))
        (pss_cons (ps_asg (pe_tup (pa_cons (pe_make M GI hr6 (by rfl) T.mgC bI (dvs := [V.ref e0]) (.cons rfl .nil) passF (pa_cons (pe_ix ix_tup (pv 3) pe_int (fun _ _ => rfl)) (pa_cons (pe_ix ix_tup (pv 3) pe_int (fun _ _ => rfl)) pa_nil))) (pa_cons (pc DO (okOddL DO DK) hr2 (pa_cons (pv 2) pa_nil)) pa_nil))) (pg_tup (by rfl) (pgs_cons (pg_name (i := 4) scLaw.nd rfl (Or.inr rfl)) (pgs_cons (pg_name (i := 5) scLaw.nd rfl (Or.inl rfl)) pgs_nil))))
        (pss_cons (ps_set (i := 6) scLaw.nd rfl (Or.inl rfl) (@pe_lst _ _ _ _ (pa_cons (pe_make M GI hr6 (by rfl) T.mgC bI (dvs := [V.ref e0]) (.cons rfl .nil) passF (pa_cons (pe_op op_add (pe_op op_mod (pe_ix ix_tup (pv 3) pe_int (fun _ _ => rfl)) pe_int) pe_int) (pa_cons (pe_ix ix_tup (pv 3) pe_int (fun _ _ => rfl)) pa_nil))) (pa_cons (pe_make M GI hr6 (by rfl) T.mgC bI (dvs := [V.ref e0]) (.cons rfl .nil) passF (pa_cons (pe_ix ix_tup (pv 3) pe_int (fun _ _ => rfl)) (pa_cons (pe_op op_add (pe_op op_mod (pe_ix ix_tup (pv 3) pe_int (fun _ _ => rfl)) pe_int) pe_int) pa_nil))) (@pa_con _ _ _ _ _ _ _ pe_non (pa_cons (pv 3) (pa_cons (pv 5) (@pa_tpl _ _ _ _ _ _ _ (pe_tup pa_nil) (@pa_con _ _ _ _ _ _ _ pe_str (@pa_con _ _ _ _ _ _ _ pe_int pa_nil))))))))))
        (pss_cons (ps_for PassesOwn.never rfl (pi_list (pc DN (okNoPlans DN hlst) hr1 (pa_cons (pv 3) pa_nil))) (pg_name (i := 7) scLaw.nd rfl (Or.inr rfl))
          (pss_cons (ps_par (i := 9) (j := 8) (by rfl) scLaw.nd rfl rfl (by decide) rfl rfl (pa_cons (pe_callB (call_reprH hr) (by rfl) Tx'.repr (by decide +kernel) (pa_cons (pv 7) pa_nil)) (pa_cons (pe_lst (pa_cons (pe_lam (T := Tb) (j := kl) GD hr DD.m DD.F.kp hbd hq B rfl rfl (fun f c' A outer s' H' E hr' => pcX DL GL hr' pass_cxL (pa_cons (pv 7) (pa_cons pe_non pa_nil)))) pa_nil)) pa_nil)) (by rfl))
          (pss_cons (ps_expr (pe_bm PySem.F.plainAttrs_list PySem.F.slot_list_append PySem.F.type_list_append mt_append (pv 8) (pa_cons (pe_lam (T := Tb) (j := kl) GD hr DD.m DD.F.kp hbd hq B rfl rfl (fun f c' A outer s' H' E hr' => pcX DR GR hr' pass_cxL (pa_cons (pv 7) (pa_cons (pv 4) (pa_cons pe_non pa_nil))))) pa_nil)))
          (pss_one (ps_if (PW.pt (pw_or (pt_cmpR (op_neD hu) (pe_op op_cat (pv 8) (pe_lst (pa_cons (pe_lam (T := Tb) (j := kl) GD hr DD.m DD.F.kp hbd hq B rfl rfl (fun f c' A outer s' H' E hr' => pcX DL GL hr' pass_cxL (pa_cons (pv 7) (pa_cons (pv 4) pa_nil)))) pa_nil))) (pe_op op_rep (pe_lst (pa_cons pe_str pa_nil)) pe_int) (nomark _)) (pw_or1 (pt_cmpR op_ne (pe_callB (call_reprH hr) (by rfl) Tx'.repr (by decide +kernel) (pa_cons (pv 7) pa_nil)) (pv 9) (nomark _)))))
            (pss_one (ps_ret pe_bl)) pss_nil)))))
        (pss_cons (ps_for PassesOwn.never rfl (pi_list (pv 6)) (pg_name (i := 7) scLaw.nd rfl (Or.inr rfl))
          (pss_cons (ps_set (i := 8) scLaw.nd rfl (Or.inl rfl) (pe_lst (pa_cons (pe_lam (T := Tb) (j := kl) GD hr DD.m DD.F.kp hbd hq B rfl rfl (fun f c' A outer s' H' E hr' => pcX DL GL hr' pass_cxL (pa_cons (pv 3) (pa_cons (pv 7) pa_nil)))) pa_nil)))
          (pss_one (ps_if (pt_cmpR (op_neD hu) (pe_op op_cat (pv 8) (pe_lst (pa_cons (pe_lam (T := Tb) (j := kl) GD hr DD.m DD.F.kp hbd hq B rfl rfl (fun f c' A outer s' H' E hr' => pcX DR GR hr' pass_cxL (pa_cons (pv 3) (pa_cons (pv 7) (pa_cons pe_non pa_nil))))) pa_nil))) (pe_op op_rep (pe_lst (pa_cons pe_str pa_nil)) pe_int) (nomark _))
            (pss_one (ps_ret pe_bl)) pss_nil))))
        (pss_cons (ps_for PassesOwn.never rfl (pi_list (pe_slice sl_list (pv 6) (po_some pe_int) po_none)) (pg_name (i := 7) scLaw.nd rfl (Or.inr rfl))
          (pss_one (ps_if (pt_cmpR op_ne (pe_lam (T := Tb) (j := kl) GD hr DD.m DD.F.kp hbd hq B rfl rfl (fun f c' A outer s' H' E hr' => pcX DW GW hr' pass_cxL (pa_cons (pv 7) pa_nil))) pe_str (nomark _))
            (pss_one (ps_ret pe_bl)) pss_nil)))
        (pss_cons (ps_for PassesOwn.never rfl (pi_list (@pe_lst _ _ _ _ (@pa_con _ _ _ _ _ _ _ pe_int (@pa_con _ _ _ _ _ _ _ pe_int (@pa_una _ _ _ _ _ _ _ (pe_un un_neg pe_int) (@pa_con _ _ _ _ _ _ _ pe_non (@pa_con _ _ _ _ _ _ _ pe_bl (@pa_con _ _ _ _ _ _ _ pe_str (@pa_tpl _ _ _ _ _ _ _ (pe_tup (pa_cons pe_int pa_nil)) (@pa_lst _ _ _ _ _ _ (pe_lst (pa_cons pe_int pa_nil)) (@pa_bin _ _ _ _ _ _ _ _ (pe_op op_pow pe_int pe_int) pa_nil))))))))))) (pg_name (i := 7) scLaw.nd rfl (Or.inr rfl))
          (pss_one (ps_if (pt_cmpR op_ne (pe_lam (T := Tb) (j := kl) GD hr DD.m DD.F.kp hbd hq B rfl rfl (fun f c' A outer s' H' E hr' => pcX DR GR hr' pass_cxL (pa_cons (pv 3) (pa_cons (pv 4) (pa_cons (pv 7) pa_nil))))) pe_str (nomark _))
            (pss_one (ps_ret pe_bl)) pss_nil)))
        (pss_cons (ps_set (i := 8) scLaw.nd rfl (Or.inl rfl) (pe_lst (pa_cons (pe_lam (T := Tb) (j := kl) GD hr DD.m DD.F.kp hbd hq B rfl rfl (fun f c' A outer s' H' E hr' => pcX DW GW hr' pass_cxL (pa_cons (pv 4) pa_nil))) pa_nil)))
        (pss_cons (ps_expr (pe_bm PySem.F.plainAttrs_list PySem.F.slot_list_append PySem.F.type_list_append mt_append (pv 8) (pa_cons (pe_lam (T := Tb) (j := kl) GD hr DD.m DD.F.kp hbd hq B rfl rfl (fun f c' A outer s' H' E hr' => pcX DL GL hr' pass_cxL (pa_cons (pv 3) (pa_cons (pv 4) pa_nil)))) pa_nil)))
        (pss_cons (ps_if (pt_cmpR (op_neD hu) (pv 8) (pe_lst (pa_cons pe_str (pa_cons (pe_callB (call_reprH hr) (by rfl) Tx'.repr (by decide +kernel) (pa_cons (pe_op op_repT (pe_tup (pa_cons pe_int pa_nil)) (pe_ix ix_tup (pv 3) pe_int (fun _ _ => rfl))) pa_nil)) pa_nil))) (nomark _))
          (pss_one (ps_ret pe_bl)) pss_nil)
        (pss_one (ps_if (pt_cmpR (op_neD hu) (pe_lc (own := [("_law_many", 10)]) (g := gName 10) (by rfl) scLaw.nd (pi_tup (pe_tup (pa_cons pe_int (pa_cons pe_int pa_nil)))) (blkOk_by (own := [("_law_many", 10)]) (N := nLaw) (sc := defScope sLaw) (by decide +kernel)) (fun _ _ _ _ _ => pg_name (i := 10) scLaw.nd rfl (Or.inr rfl)) (fun _ _ _ _ _ => pts_nil) (fun _ _ _ _ _ => (pe_lam (T := Tb) (j := kl) GD hr DD.m DD.F.kp hbd hq B rfl rfl (fun f c' A outer s' H' E hr' => pcX DR GR hr' pass_cxL (pa_cons (pv 3) (pa_cons (pv 4) (pa_cons (pv 10) pa_nil))))))) (pe_op op_rep (pe_lst (pa_cons pe_str pa_nil)) pe_int) (nomark _))
          (pss_one (ps_ret pe_bl)) pss_nil))))))))))))))
      (pss_one (ps_ret pe_bl)), ?_⟩
    refine ⟨_, rfl, a, _, rfl, .inl hS, _, _, rfl, _, _, rfl, _, rfl, ?_, ?_, for_range (lo := 0) (n := _) (fun i σ H2 => Grow H H2 ∧ TbS Tb H2 ∧ ∃ v1 v2 v3 v4 v5 v6 v7 v8 v9 v10 : Option V, σ = [some (.ref a), v1, v2, v3, v4, v5, v6, v7, v8, v9, v10]) ⟨Grow.refl, tH, none, none, none, none, none, none, none, none, none, none, rfl⟩ ?_ ?_⟩
    · repeat' split
      all_goals omega
    · repeat' split
      all_goals omega
    · rintro i σ H2 hi ⟨gr2, t2, v1, v2, v3, v4, v5, v6, v7, v8, v9, v10, rfl⟩
      refine ⟨_, rfl, _, rfl, a, i, ns, by show [V.ref a, V.int (0 + (i : Int))] = _; rw [Int.zero_add], sq_grow gr2 hS, fun p H3 hst0 ho st3 => ?_⟩
      have s23 : Same H2 H3 := ho.same hst0
      have t3 := tbs_same t2 s23
      refine ⟨_, rfl, p, rfl, st3, fun b g n sl cm pa H6 plg hp6 hn6 st6 ex6 => ?_⟩
      have t6 := tbs_ex t3 st3 ex6
      obtain ⟨nb, rfl⟩ := Int.eq_ofNat_of_zero_le (show 0 ≤ b by have := plg.b0; omega)
      obtain ⟨pg, rfl⟩ := Int.eq_ofNat_of_zero_le (show 0 ≤ g by have := plg.g0; omega)
      have ex26 : Ex H2 H6 p := (Same.ex s23).trans ex6
      have nb8 : 3 ≤ nb ∧ nb ≤ 8 := by have := plg.b0; have := plg.b1; omega
      have pg8 : 2 ≤ pg ∧ pg ≤ 8 := by have := plg.g0; have := plg.g1; omega
      have big : 6 + 2 * pg ≤ nb * pg := by
        have h0 := plg.n0; have h1 := plg.n1
        have e : (((nb : Nat) : Int) - 2) * ((pg : Nat) : Int) = ((nb * pg : Nat) : Int) - 2 * ((pg : Nat) : Int) := by rw [Int.sub_mul, Int.natCast_mul]
        rw [e] at h1
        omega
      refine ⟨_, rfl, pa, _, _, _, rfl, rfl, SqT.of hp6, atI_nat (j := 0) rfl, _, rfl, pa, _, _, _, rfl, rfl, SqT.of hp6, atI_nat (j := 1) rfl, fun fp dx hfp hdx nxd => ?_⟩
      have npd : Same H6 (upd (upd H6 dx (.own fp)) fp (.ins C dx [])) := fun b o e => by
        rw [upd_ne (ne_of_none e hfp), upd_ne (ne_of_none e hdx)]; exact e
      refine ⟨fp, dx, nb, pg, e0, [], [], [], rfl, upd_same, ⟨by omega, by omega⟩, ⟨by omega, by omega⟩, wat0 (sE _), wok0, fun H7 h7 fl7 fr7 ex7 => ⟨rfl, ?_⟩⟩
      have k67 : Same H6 H7 := fun b o e => ex7 b o (npd b o e) (fun z => ne_of_none e hfp (List.mem_singleton.mp z))
      have st7 := st6.same k67
      have zn : p ∉ h7.zs fp := fun z => by
        obtain ⟨_, _, _, ep, _⟩ := st6
        rcases fr7 p z with e | e
        · rw [e, hfp] at ep; cases ep
        · rw [npd _ _ ep] at e; cases e
      have li : AllLI H7 [p] := fun b hb => by obtain ⟨_, _, _, e, _⟩ := st7; rw [List.mem_singleton.mp hb]; exact ⟨_, e, trivial⟩
      refine ⟨_, rfl, p, rfl, st7, fun od H8 tg8 st8 ex8 => ?_⟩
      obtain ⟨dO, hdO, _⟩ := tg8
      have kz : ExZ H7 H8 [p] := ex8.exz (List.mem_singleton.mpr rfl)
      have c0 : Cz K C Tb H8 pa fp h7 nb pg n sl cm od dO := ⟨(exz_tup kz li _ _).1 (k67 _ _ hp6), fl7.on kz li (fun b hb z => zn (by rw [← List.mem_singleton.mp z]; exact hb)), tbs_ex (tbs_same t6 k67) st7 ex8, hdO.same Hm.un⟩
      have ex28 : Ex H2 H8 p := (ex26.trans (Same.ex k67)).trans ex8
      clear zn li kz fl7 fr7 ex7 t3 t6 st3 hp6 hn6 ex6 ex26 k67 st7 ex8 npd hdO
      refine ⟨(by show 2 ≤ sizeLine; decide), fun tt htt => ⟨tt, _, rfl, SqT.of upd_same, rfl, _, _, rfl, _, _, rfl, rfl, ?_⟩⟩
      have Stt := same_new (o := .tup [.ref fp, od]) htt
      have dA := c0.same Stt
      generalize upd H8 tt (.tup [.ref fp, od]) = HA at Stt dA ⊢
      -- the others
      obtain ⟨nbx, hnx, nex⟩ : ∃ m : Nat, ((nb : Nat) : Int) % 8 + 1 = ((m : Nat) : Int) ∧ 1 ≤ m ∧ m ≤ 8 ∧ m ≠ nb := ⟨nb % 8 + 1, by omega, by omega, by omega, by omega⟩
      obtain ⟨pgx, hgx, ngx⟩ : ∃ m : Nat, ((pg : Nat) : Int) % 8 + 1 = ((m : Nat) : Int) ∧ 1 ≤ m ∧ m ≤ 8 ∧ m ≠ pg := ⟨pg % 8 + 1, by omega, by omega, by omega, by omega⟩
      refine ⟨_, rfl, pa, _, _, _, rfl, rfl, SqT.of dA.e, atI_nat (j := 0) rfl, _, _, rfl, rfl, (by show (0 : Int) < 8; decide), _, _, rfl, rfl, _, rfl, pa, _, _, _, rfl, rfl, SqT.of dA.e, atI_nat (j := 1) rfl, fun f1 x1 hf1 hx1 nx1 => ?_⟩
      have np1 : Same HA (upd (upd HA x1 (.own f1)) f1 (.ins C x1 [])) := fun b o e => by
        rw [upd_ne (ne_of_none e hf1), upd_ne (ne_of_none e hx1)]; exact e
      refine ⟨f1, x1, nbx, pg, e0, [], [], [], (by show [V.ref f1, .int (((nb : Nat) : Int) % 8 + 1), .int ((pg : Nat) : Int), .ref e0] = [V.ref f1, .int ((nbx : Nat) : Int), .int ((pg : Nat) : Int), .ref e0]; rw [hnx]), upd_same, ⟨by omega, by omega⟩, ⟨by omega, by omega⟩, wat0 (sE _), wok0, fun F1 k1 fl1 fr1 ez1 => ⟨rfl, ?_⟩⟩
      have sf1 : Same HA F1 := fun b o e => ez1 b o (np1 b o e) (fun z => ne_of_none e hf1 (List.mem_singleton.mp z))
      have df1 := dA.same sf1
      refine ⟨_, rfl, pa, _, _, _, rfl, rfl, SqT.of df1.e, atI_nat (j := 0) rfl, _, rfl, pa, _, _, _, rfl, rfl, SqT.of df1.e, atI_nat (j := 1) rfl, _, _, rfl, rfl, (by show (0 : Int) < 8; decide), _, _, rfl, rfl, fun f2 x2 hf2 hx2 nx2 => ?_⟩
      have np2 : Same F1 (upd (upd F1 x2 (.own f2)) f2 (.ins C x2 [])) := fun b o e => by
        rw [upd_ne (ne_of_none e hf2), upd_ne (ne_of_none e hx2)]; exact e
      refine ⟨f2, x2, nb, pgx, e0, [], [], [], (by show [V.ref f2, .int ((nb : Nat) : Int), .int (((pg : Nat) : Int) % 8 + 1), .ref e0] = [V.ref f2, .int ((nb : Nat) : Int), .int ((pgx : Nat) : Int), .ref e0]; rw [hgx]), upd_same, ⟨by omega, by omega⟩, ⟨by omega, by omega⟩, wat0 (sE _), wok0, fun F2 k2 fl2 fr2 ez2 => ⟨rfl, ?_⟩⟩
      have sf2 : Same F1 F2 := fun b o e => ez2 b o (np2 b o e) (fun z => ne_of_none e hf2 (List.mem_singleton.mp z))
      have df2 := df1.same sf2
      refine ⟨_, rfl, _, rfl, (by show 0 ≤ sizeLine; decide), fun b1 hb1 => ?_⟩
      have T1 := same_new (o := .tup []) hb1
      have y1 := at_new hb1 (o := .tup [])
      refine ⟨(by show 8 ≤ sizeLine; decide), fun Lo hLo => ?_⟩
      have SLo := T1.trans (same_new (o := .lst [.ref f1, .ref f2, .non, .ref pa, od, .ref b1, .str "flash", .int 0]) hLo)
      have lo := at_new hLo (o := .lst [.ref f1, .ref f2, .non, .ref pa, od, .ref b1, .str "flash", .int 0])
      have y1 := (same_new (o := .lst [.ref f1, .ref f2, .non, .ref pa, od, .ref b1, .str "flash", .int 0]) hLo) _ _ y1
      have dB := df2.same SLo
      have fx1 := (fl1.same sf2).same SLo
      have fx2 := fl2.same SLo
      have SAB := sf1.trans (sf2.trans SLo)
      generalize upd (upd F2 b1 (.tup [])) Lo (.lst [.ref f1, .ref f2, .non, .ref pa, od, .ref b1, .str "flash", .int 0]) = HB at SLo lo y1 dB fx1 fx2 SAB ⊢
      have no6 : ∀ y ∈ ([.non, .ref pa, od, .ref b1, .str "flash", .int 0] : List V), ∃ t, TyOf K HB y t ∧ PySem.W.kitOne K t (.ref C) = some false := fun y hy => by
        rcases List.mem_cons.mp (id hy) with rfl | hy
        · exact ⟨_, .non, noI "NoneType" (by decide +kernel)⟩
        rcases List.mem_cons.mp (id hy) with rfl | hy
        · exact ⟨_, .tup dB.e, noI "tuple" (by decide +kernel)⟩
        rcases List.mem_cons.mp (id hy) with rfl | hy
        · exact ⟨_, dB.ho.ty, noD dO⟩
        rcases List.mem_cons.mp (id hy) with rfl | hy
        · exact ⟨_, .tup y1, noI "tuple" (by decide +kernel)⟩
        rcases List.mem_cons.mp (id hy) with rfl | hy
        · exact ⟨_, .str _, noI "str" (by decide +kernel)⟩
        rw [List.mem_singleton.mp hy]
        exact ⟨_, .int _, noI "int" (by decide +kernel)⟩
      have all8 : ∀ y ∈ ([.ref f1, .ref f2, .non, .ref pa, od, .ref b1, .str "flash", .int 0] : List V), Bf K C HB nb pg y := fun y hy => by
        rcases List.mem_cons.mp (id hy) with rfl | hy
        · exact .inr ⟨f1, k1, _, rfl, fx1, fun z => by
            have z1 : ((nbx : Nat) : Int) = ((nb : Nat) : Int) := z.1
            omega⟩
        rcases List.mem_cons.mp (id hy) with rfl | hy
        · exact .inr ⟨f2, k2, _, rfl, fx2, fun z => by
            have z1 : ((pgx : Nat) : Int) = ((pg : Nat) : Int) := z.2
            omega⟩
        exact .inl (no6 y hy)
      -- what is no plan
      refine ⟨_, rfl, pa, _, _, n, sl, cm, rfl, dB.e, plg, fun L4 xs4 HC SC l4 BA len4 => ?_⟩
      have dC := dB.same SC
      refine ⟨L4, rfl, ⟨_, SqL.of l4⟩, for_list (K := K) (a := L4) (xs := xs4) (fun _ σ H' => Grow HC H' ∧ TbS Tb H' ∧ ∃ v1 v7 v8 v9 v10 : Option V, σ = [some (.ref a), v1, some (.ref p), some (.ref pa), some (.ref fp), some od, some (.ref Lo), v7, v8, v9, v10]) ⟨Grow.refl, dC.tb, _, _, _, _, _, rfl⟩ (fun i σ H' _ h => SqL.of (h.1.get l4)) ?_ ?_⟩
      · rintro j x σ HD hx ⟨gD, tD, v1, v7, v8, v9, v10, rfl⟩
        obtain ⟨d, hd, np, sho⟩ := (BA x (List.mem_of_getElem? hx)).grow gD
        have nl : ∀ y, NL K C HD x y 7 := fun y => .inl ⟨rfl, d, hd, np⟩
        refine ⟨_, rfl, x, d, rfl, hd, sho, tD, fun J1 g1 t1 Q' E' hQ hE => ⟨_, rfl, lv_no (nl .non) J1 g1 _ (fun J2 s2 => ?_) Q' E' hQ hE⟩⟩
        have g2 := g1.trans (same_grow s2)
        refine ⟨(by show 1 ≤ sizeLine; decide), fun q e => ⟨_, _, rfl, ?_⟩⟩
        have G3 := g2.trans (Grow.upd e (o := .lst [.str (sayW 7)]))
        have T3 := (tbs_same t1 s2).upd e (o := .lst [.str (sayW 7)])
        have l3 := at_new e (o := .lst [.str (sayW 7)])
        generalize upd J2 q (.lst [.str (sayW 7)]) = J3 at G3 T3 l3 ⊢
        refine ⟨_, rfl, .inl ⟨rfl, _, SqL.of l3⟩, T3, fun J4 g4 t4 Q' E' hQ hE => ⟨_, rfl, _, rfl, rm_no (z := .non) (nl (.ref fp)) J4 (G3.trans g4) _ (fun J5 s5 => ?_) Q' E' hQ hE⟩⟩
        have l5 := s5 _ _ (g4.get l3)
        have T5 := tbs_same t4 s5
        have G5 := (G3.trans g4).trans (same_grow s5)
        refine ⟨q, _, _, rfl, rfl, l5, (by show 2 ≤ sizeLine; decide), ?_⟩
        have G6 := grow_set (o := .lst ([.str (sayW 7)] ++ [.str (sayW 7)])) g2 e G5
        have T6 := T5.set l5 (o := .lst ([.str (sayW 7)] ++ [.str (sayW 7)]))
        have l6 : upd J5 q (.lst ([.str (sayW 7)] ++ [.str (sayW 7)])) q = some (.lst ([.str (sayW 7)] ++ [.str (sayW 7)])) := upd_same
        generalize upd J5 q (.lst ([.str (sayW 7)] ++ [.str (sayW 7)])) = J6 at G6 T6 l6 ⊢
        refine ⟨_, rfl, T6, fun J7 g7 t7 Q' E' hQ hE => ⟨_, rfl, _, rfl, lv_no (nl (.ref fp)) J7 (G6.trans g7) _ (fun J8 s8 => ?_) Q' E' hQ hE⟩⟩
        refine ⟨(by show 1 ≤ sizeLine; decide), fun q1 e1 => ?_⟩
        refine ⟨_, _, _, _, rfl, rfl, nx e1 (s8 _ _ (g7.get l6)), upd_same, (by show 3 ≤ sizeLine; decide), fun p2 e2 => ?_⟩
        have G9 := (((G6.trans g7).trans (same_grow s8)).trans (Grow.upd e1 (o := .lst [.str (sayW 7)]))).trans (Grow.upd e2 (o := .lst ([.str (sayW 7)] ++ [.str (sayW 7)] ++ [.str (sayW 7)])))
        have T9 := ((tbs_same t7 s8).upd e1 (o := .lst [.str (sayW 7)])).upd e2 (o := .lst ([.str (sayW 7)] ++ [.str (sayW 7)] ++ [.str (sayW 7)]))
        have l9 := at_new e2 (o := .lst ([.str (sayW 7)] ++ [.str (sayW 7)] ++ [.str (sayW 7)]))
        generalize upd (upd J8 q1 (.lst [.str (sayW 7)])) p2 (.lst ([.str (sayW 7)] ++ [.str (sayW 7)] ++ [.str (sayW 7)])) = J9 at G9 T9 l9 ⊢
        refine ⟨(by show 1 ≤ sizeLine; decide), fun q7 n7 => ?_⟩
        refine ⟨q7, 3, _, rfl, rfl, upd_same, by decide, by decide, (by show 1 * 3 ≤ sizeLine; decide), fun q8 n8 => ?_⟩
        have g8 := (G9.trans (Grow.upd n7 (o := .lst [.str "! plan"]))).trans (Grow.upd n8 (o := .lst (List.replicate (3 : Int).toNat [V.str "! plan"]).flatten))
        have t8 := (T9.upd n7 (o := .lst [.str "! plan"])).upd n8 (o := .lst (List.replicate (3 : Int).toNat [V.str "! plan"]).flatten)
        refine ⟨.list [.str (sayW 7), .str (sayW 7), .str (sayW 7)], .list [.str "! plan", .str "! plan", .str "! plan"], .lst (SqL.of (nx n8 (nx n7 l9))) (.cons (.str _) (.cons (.str _) (.cons (.str _) .nil))), .lst (SqL.of upd_same) (.cons (.str _) (.cons (.str _) (.cons (.str _) .nil))), (by decide +kernel), (by decide +kernel), false, congrArg V.bl (by decide +kernel), iteF ?_⟩
        exact ⟨_, rfl, x, d, rfl, dh_grow g8 hd, sho, _, rfl, rfl, false, congrArg V.bl (by rw [decide_eq_true rfl]; rfl), iteF ⟨gD.trans g8, t8, _, _, _, _, _, rfl⟩⟩
      rintro σ HD ⟨gD, tD, u1, u7, u8, u9, u10, rfl⟩
      have dD := dC.grow gD tD
      have loD := gD.get (SC _ _ lo)
      have gBD : Grow HB HD := (same_grow SC).trans gD
      -- what is no flash of the plan
      refine ⟨_, rfl, Lo, rfl, ⟨_, SqL.of loD⟩, for_list (K := K) (a := Lo) (xs := [.ref f1, .ref f2, .non, .ref pa, od, .ref b1, .str "flash", .int 0]) (fun _ σ H' => Grow HD H' ∧ TbS Tb H' ∧ ∃ v1 v7 v8 v9 v10 : Option V, σ = [some (.ref a), v1, some (.ref p), some (.ref pa), some (.ref fp), some od, some (.ref Lo), v7, v8, v9, v10]) ⟨Grow.refl, tD, _, _, _, _, _, rfl⟩ (fun i σ H' _ h => SqL.of (h.1.get loD)) ?_ ?_⟩
      · rintro j y σ HE hy ⟨gE, tE, v1, v7, v8, v9, v10, rfl⟩
        have bf := (all_mem all8 hy).grow (gBD.trans gE)
        have nl : NL K C HE (.ref pa) y 8 := .inr ⟨rfl, pa, nb, pg, n, sl, cm, rfl, gE.get dD.e, plg.pl sl cm, bf⟩
        refine ⟨tE, fun J1 g1 t1 Q' E' hQ hE => ⟨_, rfl, _, rfl, lv_no nl J1 g1 _ (fun J2 s2 => ?_) Q' E' hQ hE⟩⟩
        have g2 := g1.trans (same_grow s2)
        refine ⟨(by show 1 ≤ sizeLine; decide), fun q e => ?_⟩
        have G3 := g2.trans (Grow.upd e (o := .lst [.str (sayW 8)]))
        have T3 := (tbs_same t1 s2).upd e (o := .lst [.str (sayW 8)])
        have l3 := at_new e (o := .lst [.str (sayW 8)])
        generalize upd J2 q (.lst [.str (sayW 8)]) = J3 at G3 T3 l3 ⊢
        refine ⟨_, rfl, T3, fun J7 g7 t7 Q' E' hQ hE => ⟨_, rfl, _, rfl, rm_no (z := .non) nl J7 (G3.trans g7) _ (fun J8 s8 => ?_) Q' E' hQ hE⟩⟩
        refine ⟨(by show 1 ≤ sizeLine; decide), fun q1 e1 => ?_⟩
        refine ⟨_, _, _, _, rfl, rfl, nx e1 (s8 _ _ (g7.get l3)), upd_same, (by show 2 ≤ sizeLine; decide), fun p2 e2 => ?_⟩
        have G9 := (((G3.trans g7).trans (same_grow s8)).trans (Grow.upd e1 (o := .lst [.str (sayW 8)]))).trans (Grow.upd e2 (o := .lst ([.str (sayW 8)] ++ [.str (sayW 8)])))
        have T9 := ((tbs_same t7 s8).upd e1 (o := .lst [.str (sayW 8)])).upd e2 (o := .lst ([.str (sayW 8)] ++ [.str (sayW 8)]))
        have l9 := at_new e2 (o := .lst ([.str (sayW 8)] ++ [.str (sayW 8)]))
        generalize upd (upd J8 q1 (.lst [.str (sayW 8)])) p2 (.lst ([.str (sayW 8)] ++ [.str (sayW 8)])) = J9 at G9 T9 l9 ⊢
        refine ⟨(by show 1 ≤ sizeLine; decide), fun q7 n7 => ?_⟩
        refine ⟨q7, 2, _, rfl, rfl, upd_same, by decide, by decide, (by show 1 * 2 ≤ sizeLine; decide), fun q8 n8 => ?_⟩
        have g8 := (G9.trans (Grow.upd n7 (o := .lst [.str "! flash"]))).trans (Grow.upd n8 (o := .lst (List.replicate (2 : Int).toNat [V.str "! flash"]).flatten))
        have t8 := (T9.upd n7 (o := .lst [.str "! flash"])).upd n8 (o := .lst (List.replicate (2 : Int).toNat [V.str "! flash"]).flatten)
        exact ⟨.list [.str (sayW 8), .str (sayW 8)], .list [.str "! flash", .str "! flash"], .lst (SqL.of (nx n8 (nx n7 l9))) (.cons (.str _) (.cons (.str _) .nil)), .lst (SqL.of upd_same) (.cons (.str _) (.cons (.str _) .nil)), (by decide +kernel), (by decide +kernel), false, congrArg V.bl (by decide +kernel), iteF ⟨gE.trans g8, t8, _, _, _, _, _, rfl⟩⟩
      rintro σ HE ⟨gE, tE, u1, u7, u8, u9, u10, rfl⟩
      have dE := dD.grow gE tE
      have loE := gE.get loD
      -- worn of what is no flash
      have ecut : cutV ([.ref f1, .ref f2, .non, .ref pa, od, .ref b1, .str "flash", .int 0] : List V) (some (2 : Int)) none = [.non, .ref pa, od, .ref b1, .str "flash", .int 0] := cut2 _ (by show 2 ≤ 8; decide)
      refine ⟨_, rfl, _, rfl, Lo, _, rfl, SqL.of loE, fun Ls hLs => ?_⟩
      rw [ecut]
      have gS := Grow.upd hLs (o := .lst [.non, .ref pa, od, .ref b1, .str "flash", .int 0])
      have tS := tE.upd hLs (o := .lst [.non, .ref pa, od, .ref b1, .str "flash", .int 0])
      have lS := at_new hLs (o := .lst [.non, .ref pa, od, .ref b1, .str "flash", .int 0])
      generalize upd HE Ls (.lst [.non, .ref pa, od, .ref b1, .str "flash", .int 0]) = HF at gS tS lS ⊢
      have dF := dE.grow gS tS
      have gBF := (gBD.trans gE).trans gS
      refine ⟨Ls, rfl, ⟨_, SqL.of lS⟩, for_list (K := K) (a := Ls) (xs := [.non, .ref pa, od, .ref b1, .str "flash", .int 0]) (fun _ σ H' => Grow HF H' ∧ TbS Tb H' ∧ ∃ v1 v7 v8 v9 v10 : Option V, σ = [some (.ref a), v1, some (.ref p), some (.ref pa), some (.ref fp), some od, some (.ref Lo), v7, v8, v9, v10]) ⟨Grow.refl, tS, _, _, _, _, _, rfl⟩ (fun i σ H' _ h => SqL.of (h.1.get lS)) ?_ ?_⟩
      · rintro j y σ HG hy ⟨gG, tG, v1, v7, v8, v9, v10, rfl⟩
        obtain ⟨t, ty, hk'⟩ := all_mem no6 hy
        refine ⟨tG, fun J1 g1 t1 Q' E' hQ hE => ⟨_, rfl, wn_no (ty_grow (gBF.trans gG) ty) hk' J1 g1 _ (fun J2 s2 => ?_) Q' E' hQ hE⟩⟩
        exact ⟨rfl, false, congrArg V.bl (by decide +kernel), iteF ⟨gG.trans (g1.trans (same_grow s2)), tbs_same t1 s2, _, _, _, _, _, rfl⟩⟩
      rintro σ HG ⟨gG, tG, u1, u7, u8, u9, u10, rfl⟩
      have dG := dF.grow gG tG
      -- what is no number
      refine ⟨_, rfl, (by show 1 ≤ sizeLine; decide), fun m1 hm1 => ?_⟩
      have M1 := same_new (o := .tup [.int 1]) hm1
      have z1 := at_new hm1 (o := .tup [.int 1])
      refine ⟨(by show 1 ≤ sizeLine; decide), fun m2 hm2 => ?_⟩
      have M2 := same_new (o := .lst [.int 1]) hm2
      have z2 := at_new hm2 (o := .lst [.int 1])
      refine ⟨_, _, rfl, rfl, ⟨by decide, by decide, by decide⟩, (by show 9 ≤ sizeLine; decide), fun Ln hLn => ?_⟩
      have M3 := same_new (o := .lst [.int 0, .int 6, .int (-1), .non, .bl true, .str "1", .ref m1, .ref m2, .int (10 ^ (29 : Int).toNat)]) hLn
      have lN := at_new hLn (o := .lst [.int 0, .int 6, .int (-1), .non, .bl true, .str "1", .ref m1, .ref m2, .int (10 ^ (29 : Int).toNat)])
      have z1 := M3 _ _ (M2 _ _ z1)
      have z2 := M3 _ _ z2
      have MM := M1.trans (M2.trans M3)
      generalize upd (upd (upd HG m1 (.tup [.int 1])) m2 (.lst [.int 1])) Ln (.lst [.int 0, .int 6, .int (-1), .non, .bl true, .str "1", .ref m1, .ref m2, .int (10 ^ (29 : Int).toNat)]) = HI at M3 lN z1 z2 MM ⊢
      have dI := dG.same MM
      have no9 : ∀ y ∈ ([.int 0, .int 6, .int (-1), .non, .bl true, .str "1", .ref m1, .ref m2, .int (10 ^ (29 : Int).toNat)] : List V), ∃ d, Dh HI y d ∧ wi d 1 5 = false := fun y hy => by
        rcases List.mem_cons.mp (id hy) with rfl | hy
        · exact ⟨_, .int _, rfl⟩
        rcases List.mem_cons.mp (id hy) with rfl | hy
        · exact ⟨_, .int _, rfl⟩
        rcases List.mem_cons.mp (id hy) with rfl | hy
        · exact ⟨_, .int _, rfl⟩
        rcases List.mem_cons.mp (id hy) with rfl | hy
        · exact ⟨_, .non, rfl⟩
        rcases List.mem_cons.mp (id hy) with rfl | hy
        · exact ⟨_, .bl _, rfl⟩
        rcases List.mem_cons.mp (id hy) with rfl | hy
        · exact ⟨_, .str _, rfl⟩
        rcases List.mem_cons.mp (id hy) with rfl | hy
        · exact ⟨_, .tup z1 (.cons (.int _) .nil), rfl⟩
        rcases List.mem_cons.mp (id hy) with rfl | hy
        · exact ⟨_, .lst z2 (.cons (.int _) .nil), rfl⟩
        rw [List.mem_singleton.mp hy]
        exact ⟨_, .int _, by rw [pow29]; rfl⟩
      have pfI : PF K C HI pa fp h7 (Fl.new nb pg []) n sl cm := ⟨dI.e, plg.pl sl cm, ⟨plg.n0, by have := plg.n2; omega⟩, dI.fl, new_wd wok0.ok nb pg⟩
      refine ⟨Ln, rfl, ⟨_, SqL.of lN⟩, for_list (K := K) (a := Ln) (xs := [.int 0, .int 6, .int (-1), .non, .bl true, .str "1", .ref m1, .ref m2, .int (10 ^ (29 : Int).toNat)]) (fun _ σ H' => Grow HI H' ∧ TbS Tb H' ∧ ∃ v1 v7 v8 v9 v10 : Option V, σ = [some (.ref a), v1, some (.ref p), some (.ref pa), some (.ref fp), some od, some (.ref Lo), v7, v8, v9, v10]) ⟨Grow.refl, dI.tb, _, _, _, _, _, rfl⟩ (fun i σ H' _ h => SqL.of (h.1.get lN)) ?_ ?_⟩
      · rintro j y σ HJ hy ⟨gJ, tJ, v1, v7, v8, v9, v10, rfl⟩
        obtain ⟨d, hd, hw⟩ := all_mem no9 hy
        refine ⟨tJ, fun J1 g1 t1 Q' E' hQ hE => ⟨_, rfl, _, rfl, _, rfl, rm_num (pfI.grow gJ) (dh_grow gJ hd) hw J1 g1 _ (fun J2 s2 => ?_) Q' E' hQ hE⟩⟩
        exact ⟨rfl, false, congrArg V.bl (by decide +kernel), iteF ⟨gJ.trans (g1.trans (same_grow s2)), tbs_same t1 s2, _, _, _, _, _, rfl⟩⟩
      rintro σ HJ ⟨gJ, tJ, u1, u7, u8, u9, u10, rfl⟩
      have pfJ := pfI.grow gJ
      -- a good flash
      refine ⟨tJ, fun J1 g1 t1 Q' E' hQ hE => ⟨_, rfl, wn_ok pfJ.fa (by omega) J1 g1 _ (fun J2 s2 => ?_) Q' E' hQ hE⟩⟩
      have g2 := g1.trans (same_grow s2)
      refine ⟨(by show 1 ≤ sizeLine; decide), fun q e => ?_⟩
      have G3 := g2.trans (Grow.upd e (o := .lst [.str (PyData.tuple [.int 0, .int 0]).shown]))
      have T3 := (tbs_same t1 s2).upd e (o := .lst [.str (PyData.tuple [.int 0, .int 0]).shown])
      have l3 := at_new e (o := .lst [.str (PyData.tuple [.int 0, .int 0]).shown])
      generalize upd J2 q (.lst [.str (PyData.tuple [.int 0, .int 0]).shown]) = J3 at G3 T3 l3 ⊢
      refine ⟨_, rfl, .inl ⟨rfl, _, SqL.of l3⟩, T3, fun J4 g4 t4 Q' E' hQ hE => ⟨_, rfl, _, rfl, lv_ok pfJ nb8.2 J4 (G3.trans g4) _ (fun J5 s5 => ?_) Q' E' hQ hE⟩⟩
      have l5 := s5 _ _ (g4.get l3)
      have T5 := tbs_same t4 s5
      have G5 := (G3.trans g4).trans (same_grow s5)
      refine ⟨q, _, _, rfl, rfl, l5, (by show 2 ≤ sizeLine; decide), ?_⟩
      have G6 := grow_set (o := .lst ([.str (PyData.tuple [.int 0, .int 0]).shown] ++ [.str (PyData.tuple (List.replicate nb (.int 0))).shown])) g2 e G5
      have T6 := T5.set l5 (o := .lst ([.str (PyData.tuple [.int 0, .int 0]).shown] ++ [.str (PyData.tuple (List.replicate nb (.int 0))).shown]))
      have l6 : upd J5 q (.lst ([.str (PyData.tuple [.int 0, .int 0]).shown] ++ [.str (PyData.tuple (List.replicate nb (.int 0))).shown])) q = some (.lst ([.str (PyData.tuple [.int 0, .int 0]).shown] ++ [.str (PyData.tuple (List.replicate nb (.int 0))).shown])) := upd_same
      generalize upd J5 q (.lst ([.str (PyData.tuple [.int 0, .int 0]).shown] ++ [.str (PyData.tuple (List.replicate nb (.int 0))).shown])) = J6 at G6 T6 l6 ⊢
      have eJ6 := G6.get pfJ.e
      refine ⟨_, rfl, (by show 1 ≤ sizeLine; decide), fun o1 ho1 => ?_⟩
      refine ⟨_, rfl, pa, _, _, _, rfl, rfl, SqT.of (nx ho1 eJ6), atI_nat (j := 0) rfl, o1, nb, _, rfl, rfl, upd_same, (by simp), (by omega), (by show 1 * nb ≤ 1000; omega), fun o2 J7 ho2 s7 => ?_⟩
      have s67 := (same_new (o := .tup [.int 0]) ho1).trans s7
      refine ⟨_, .tuple (List.replicate nb (.int 0)), rfl, .tup ho2 (repDf nb), repSho nb8.2, (by show 2 ≤ sizeLine; decide), fun o3 ho3 => ?_⟩
      have S3 := s67.trans (same_new (o := .lst [.str "(0, 0)", .str (PyData.tuple (List.replicate nb (.int 0))).shown]) ho3)
      have l7 := S3 _ _ l6
      refine ⟨.list [.str (PyData.tuple [.int 0, .int 0]).shown, .str (PyData.tuple (List.replicate nb (.int 0))).shown], .list [.str "(0, 0)", .str (PyData.tuple (List.replicate nb (.int 0))).shown], .lst (SqL.of l7) (.cons (.str _) (.cons (.str _) .nil)), .lst (SqL.of upd_same) (.cons (.str _) (.cons (.str _) .nil)), shp2 nb nb8.2, shp1 nb nb8.2, false, congrArg V.bl ?_, iteF ?_⟩
      · rw [show (PyData.tuple [.int 0, .int 0]).shown = ("(0, 0)" : Str) by decide +kernel]
        exact eqv_two _ _
      have G7 := G6.trans (same_grow S3)
      have T7 := tbs_same T6 S3
      generalize upd J7 o3 (.lst [.str "(0, 0)", .str (PyData.tuple (List.replicate nb (.int 0))).shown]) = J8 at G7 T7 S3 l7 ⊢
      -- room for one, for five
      refine ⟨(by show 2 ≤ sizeLine; decide), fun o4 ho4 => ?_⟩
      have G8 := G7.trans (Grow.upd ho4 (o := .tup [.int 1, .int 5]))
      have T8 := T7.upd ho4 (o := .tup [.int 1, .int 5])
      have z8 := at_new ho4 (o := .tup [.int 1, .int 5])
      generalize upd J8 o4 (.tup [.int 1, .int 5]) = J9 at G8 T8 z8 ⊢
      refine ⟨o4, rfl, ⟨_, SqT.of z8⟩, fun DD hDD => ?_⟩
      refine lc_tup (K := K) (a := o4) (xs := [.int 1, .int 5]) (fun i HH => Grow J9 HH ∧ TbS Tb HH ∧ HH DD = some (.lst (List.replicate i (.str "True")))) ⟨Grow.upd hDD, T8.upd hDD, upd_same⟩ (fun i HH _ h => SqT.of (h.1.get z8)) ?_ ?_
      · rintro i x HH hx ⟨gH, tH', eD⟩
        have lt : i < 2 := (List.getElem?_eq_some_iff.mp hx).1
        obtain ⟨m, rfl, m1', m5'⟩ : ∃ m : Int, x = .int m ∧ 1 ≤ m ∧ m ≤ 5 := by
          rcases List.mem_cons.mp (List.mem_of_getElem? hx) with rfl | hx
          · exact ⟨1, rfl, by decide, by decide⟩
          rw [List.mem_singleton.mp hx]
          exact ⟨5, rfl, by decide, by decide⟩
        have pfH := pfJ.grow (G8.trans gH)
        refine ⟨wipe11 _ _ _ _ _ _ _ _ _ _ _ _, ?_⟩
        refine ⟨tH', fun J1 g1 t1 Q' E' hQ hE => ⟨_, rfl, _, rfl, _, rfl, rm_ok pfH m1' m5' (by omega) J1 g1 _ (fun J2 s2 => ?_) Q' E' hQ hE⟩⟩
        have eD2 := s2 _ _ (g1.get eD)
        refine ⟨_, eD2, small1000 (by rw [List.length_replicate]; omega), ?_, (tbs_same t1 s2).set eD2, ?_⟩
        · exact grow_set (g := (Grow.refl : Grow J9 J9)) hDD (gH.trans (g1.trans (same_grow s2)))
        · rw [upd_same, List.replicate_succ']
      rintro HH ⟨gH, tH', eD⟩
      refine ⟨(by show 1 ≤ sizeLine; decide), fun q7 n7 => ?_⟩
      refine ⟨q7, 2, _, rfl, rfl, upd_same, by decide, by decide, (by show 1 * 2 ≤ sizeLine; decide), fun q8 n8 => ?_⟩
      have g8 := (gH.trans (Grow.upd n7 (o := .lst [.str "True"]))).trans (Grow.upd n8 (o := .lst (List.replicate (2 : Int).toNat [V.str "True"]).flatten))
      have t8 := (tH'.upd n7 (o := .lst [.str "True"])).upd n8 (o := .lst (List.replicate (2 : Int).toNat [V.str "True"]).flatten)
      refine ⟨.list [.str "True", .str "True"], .list [.str "True", .str "True"], .lst (SqL.of (nx n8 (nx n7 eD))) (.cons (.str _) (.cons (.str _) .nil)), .lst (SqL.of upd_same) (.cons (.str _) (.cons (.str _) .nil)), (by decide +kernel), (by decide +kernel), false, congrArg V.bl (by decide +kernel), iteF ?_⟩
      have gF : Grow H8 _ := ((same_grow (Stt.trans SAB)).trans gBF).trans (gG.trans ((same_grow MM).trans (gJ.trans (G8.trans g8))))
      exact ⟨fun b o e nt => gF b o (ex28 b o (gr2 b o e nt) (ne_of_none (gr2 b o e nt) hst0)) nt, t8, _, _, _, _, _, _, _, _, _, _, rfl⟩
    · rintro σ H2 ⟨sm, tb, v1, v2, v3, v4, v5, v6, v7, v8, v9, v10, rfl⟩
      exact k _
end
end My
namespace My
open PySem L2
def xcIn (K : PySem.W.Frag) (D : Addr) : Bool :=
  (PySem.W.findIn K (.ref D) "__getattribute__" == some (some (.builtin "BaseException.__getattribute__"))) && (PySem.W.findIn K (.ref D) "__getattr__" == some none) &&
  (PySem.W.findIn K (.ref D) "__class__" == some (some (.builtin "object.__class__"))) && (PySem.W.specialIn K (.builtin "object.__class__") "__get__" == some (some (.builtin "getset_descriptor.__get__"))) &&
  (PySem.W.takesIn K (.builtin "object.__class__") == some true) && (PySem.W.mroIn K D (.type "object") == some true) && (PySem.W.mroIn K D (.type "BaseException") == some true) && (PySem.W.clsIn K D).isSome
theorem xc_of {K : PySem.W.Frag} {D : Addr} (h : xcIn K D = true) : PySem.W.XC K D := by
  unfold xcIn at h
  rw [Bool.and_eq_true, Bool.and_eq_true, Bool.and_eq_true, Bool.and_eq_true, Bool.and_eq_true, Bool.and_eq_true, Bool.and_eq_true] at h
  obtain ⟨⟨⟨⟨⟨⟨⟨h1, h2⟩, h3⟩, h4⟩, h5⟩, h6⟩, h7⟩, h8⟩ := h
  exact ⟨beq_iff_eq.mp h1, beq_iff_eq.mp h2, beq_iff_eq.mp h3, beq_iff_eq.mp h4, beq_iff_eq.mp h5, beq_iff_eq.mp h6, beq_iff_eq.mp h7, h8⟩
def kAll (K : PySem.W.Frag) (as : List Addr) : Bool := (List.range 22).all fun j => (List.range 22).all fun i => PySem.W.kitOne K (.ref (as.getD j 0)) (.ref (as.getD i 0)) == some (decide (i = j))
def kEx (K : PySem.W.Frag) (as : List Addr) (cF : Addr) : Bool := (List.range 22).all fun j => xcIn K (as.getD j 0) && PySem.W.excIn K (as.getD j 0) bmVE "ValueError.__new__" && (PySem.W.kitOne K (.ref (as.getD j 0)) (.type "ValueError") == some true) && (PySem.W.exmOne K (.ref (as.getD j 0)) (.ref cF) == some true)
structure KE22 (K : PySem.W.Frag) (ca : Nat → Addr) (cF : Addr) : Prop where
  k : ∀ j i, j < 22 → i < 22 → PySem.W.kitOne K (.ref (ca j)) (.ref (ca i)) = some (decide (i = j))
  x : ∀ j, j < 22 → PySem.W.XC K (ca j)
  e : ∀ j, j < 22 → PySem.W.excIn K (ca j) bmVE "ValueError.__new__" = true
  v : ∀ j, j < 22 → PySem.W.kitOne K (.ref (ca j)) (.type "ValueError") = some true
  m : ∀ j, j < 22 → PySem.W.exmOne K (.ref (ca j)) (.ref cF) = some true
theorem ke22_of {K : PySem.W.Frag} {as : List Addr} {cF : Addr} (h1 : kAll K as = true) (h2 : kEx K as cF = true) : KE22 K (fun i => as.getD i 0) cF := by
  have q : ∀ j, j < 22 → (xcIn K (as.getD j 0) && PySem.W.excIn K (as.getD j 0) bmVE "ValueError.__new__" && (PySem.W.kitOne K (.ref (as.getD j 0)) (.type "ValueError") == some true) && (PySem.W.exmOne K (.ref (as.getD j 0)) (.ref cF) == some true)) = true := fun j hj =>
    List.all_eq_true.mp h2 j (List.mem_range.mpr hj)
  have q' : ∀ j, j < 22 → ((xcIn K (as.getD j 0) = true ∧ PySem.W.excIn K (as.getD j 0) bmVE "ValueError.__new__" = true) ∧ PySem.W.kitOne K (.ref (as.getD j 0)) (.type "ValueError") = some true) ∧ PySem.W.exmOne K (.ref (as.getD j 0)) (.ref cF) = some true := fun j hj => by
    have z := q j hj
    rw [Bool.and_eq_true, Bool.and_eq_true, Bool.and_eq_true] at z
    exact ⟨⟨z.1.1, beq_iff_eq.mp z.1.2⟩, beq_iff_eq.mp z.2⟩
  exact ⟨fun j i hj hi => beq_iff_eq.mp (List.all_eq_true.mp (List.all_eq_true.mp h1 j (List.mem_range.mpr hj)) i (List.mem_range.mpr hi)), fun j hj => xc_of (q' j hj).1.1.1, fun j hj => (q' j hj).1.1.2, fun j hj => (q' j hj).1.2, fun j hj => (q' j hj).2⟩
theorem tab_mk {K : PySem.W.Frag} {x : Str} {f c P : Addr} {oc oc2 : Value} {od od2 : Option Addr} {fd : FuncData} {vs : Array Value} {sl sl2 : Array (Option Value)} (a : PySem.W.nsIn K mainGlobals x = some (some (.ref f))) (l : K.lookup f = some ⟨oc, od, .func fd, sl⟩) (hc : fd.code = .ref c)
    (l2 : K.lookup c = some ⟨oc2, od2, .fields vs, sl2⟩) (hv : vs[11]? = some (.ref P)) : PySem.W.tabIn K x = some (c, P) := by
  unfold PySem.W.tabIn
  simp only [a, l, hc, l2, hv]
end My
namespace My
open PySem L2
structure Dd (K : PySem.W.Frag) (mg : Str → Option Value) (x : Str) (ps : List Str) (f : Addr) (fd : FuncData) : Prop where
  kp : PySem.W.keepIn K (.ref f) = true
  b0 : Binds K fd ps []
  b1 : Binds K fd ps [.bool true]
  m : mg x = some (.ref f)
theorem ib_of (K : PySem.W.Frag) : PySem.W.kitOne K (.type "int") (.type "bool") = some false := by
  kernel_rfl
theorem dd_mk {K : PySem.W.Frag} {mg : Str → Option Value} {x : Str} {st : Stmt} {ps : List Str} {f : Addr} {fd : FuncData} {ds : List Value} (F : FunD K x x st f fd ds) (b0 : Binds K fd ps []) (b1 : Binds K fd ps [.bool true]) (m : mg x = some (.ref f)) : Dd K mg x ps f fd := ⟨F.kp, b0, b1, m⟩
theorem keyStr (s : Str) (t : Tok) : keyIs (.inr s) (.str s t) = true := by
  show decide (s = s) = true
  exact decide_eq_true rfl
set_option maxHeartbeats 8000000 in
theorem all_mk {l : PySem.W.OpenLaw} {w : World} {q : Program} {loose : List Str} {mean : ExcName → Option Value} {K : PySem.W.Frag} {h : Heap} {mg mb : Str → Option Value} {fa : Addr} (X : K.In h) (TP : PyProof.Rows.Top q loose mean mg mb h) (hfa : mg "law" = some (.ref fa))
    {fWhole : Addr} {odWhole anWhole : Option Addr} {slWhole : Array (Option Value)} {ocWhole kVWhole dcWhole pmWhole cdWhole ctWhole : Value} (aWhole : PySem.W.nsIn K mainGlobals "is_whole" = some (some (.ref fWhole))) (lWhole : K.lookup fWhole = some ⟨ocWhole, odWhole, .func (PySem.W.fnOf "is_whole" "is_whole" (defArgs sWhole) (defBody sWhole) (defScope sWhole) .none kVWhole dcWhole pmWhole anWhole cdWhole ctWhole), slWhole⟩) (cWhole : PySem.W.codeIn K cdWhole "is_whole" = true) (kWhole : PySem.W.keepIn K (.ref fWhole) = true)
    {fWithin : Addr} {odWithin anWithin : Option Addr} {slWithin : Array (Option Value)} {ocWithin kVWithin dcWithin pmWithin cdWithin ctWithin : Value} (aWithin : PySem.W.nsIn K mainGlobals "is_within" = some (some (.ref fWithin))) (lWithin : K.lookup fWithin = some ⟨ocWithin, odWithin, .func (PySem.W.fnOf "is_within" "is_within" (defArgs sWithin) (defBody sWithin) (defScope sWithin) .none kVWithin dcWithin pmWithin anWithin cdWithin ctWithin), slWithin⟩) (cWithin : PySem.W.codeIn K cdWithin "is_within" = true) (kWithin : PySem.W.keepIn K (.ref fWithin) = true)
    {fLook : Addr} {odLook anLook : Option Addr} {slLook : Array (Option Value)} {ocLook kVLook dcLook pmLook cdLook ctLook : Value} (aLook : PySem.W.nsIn K mainGlobals "look_at_width" = some (some (.ref fLook))) (lLook : K.lookup fLook = some ⟨ocLook, odLook, .func (PySem.W.fnOf "look_at_width" "look_at_width" (defArgs sLook) (defBody sLook) (defScope sLook) .none kVLook dcLook pmLook anLook cdLook ctLook), slLook⟩) (cLook : PySem.W.codeIn K cdLook "look_at_width" = true) (kLook : PySem.W.keepIn K (.ref fLook) = true)
    {fLast : Addr} {odLast anLast : Option Addr} {slLast : Array (Option Value)} {ocLast kVLast dcLast pmLast cdLast ctLast : Value} (aLast : PySem.W.nsIn K mainGlobals "last_bit" = some (some (.ref fLast))) (lLast : K.lookup fLast = some ⟨ocLast, odLast, .func (PySem.W.fnOf "last_bit" "last_bit" (defArgs sLast) (defBody sLast) (defScope sLast) .none kVLast dcLast pmLast anLast cdLast ctLast), slLast⟩) (cLast : PySem.W.codeIn K cdLast "last_bit" = true) (kLast : PySem.W.keepIn K (.ref fLast) = true)
    {fNumIn : Addr} {odNumIn anNumIn : Option Addr} {slNumIn : Array (Option Value)} {ocNumIn kVNumIn dcNumIn pmNumIn cdNumIn ctNumIn : Value} (aNumIn : PySem.W.nsIn K mainGlobals "number_in" = some (some (.ref fNumIn))) (lNumIn : K.lookup fNumIn = some ⟨ocNumIn, odNumIn, .func (PySem.W.fnOf "number_in" "number_in" (defArgs sNumIn) (defBody sNumIn) (defScope sNumIn) .none kVNumIn dcNumIn pmNumIn anNumIn cdNumIn ctNumIn), slNumIn⟩) (cNumIn : PySem.W.codeIn K cdNumIn "number_in" = true) (kNumIn : PySem.W.keepIn K (.ref fNumIn) = true)
    {fTog : Addr} {odTog anTog : Option Addr} {slTog : Array (Option Value)} {ocTog kVTog dcTog pmTog cdTog ctTog : Value} (aTog : PySem.W.nsIn K mainGlobals "together" = some (some (.ref fTog))) (lTog : K.lookup fTog = some ⟨ocTog, odTog, .func (PySem.W.fnOf "together" "together" (defArgs sTog) (defBody sTog) (defScope sTog) .none kVTog dcTog pmTog anTog cdTog ctTog), slTog⟩) (cTog : PySem.W.codeIn K cdTog "together" = true) (kTog : PySem.W.keepIn K (.ref fTog) = true)
    {fOdd : Addr} {odOdd anOdd : Option Addr} {slOdd : Array (Option Value)} {ocOdd kVOdd dcOdd pmOdd cdOdd ctOdd : Value} (aOdd : PySem.W.nsIn K mainGlobals "is_odd" = some (some (.ref fOdd))) (lOdd : K.lookup fOdd = some ⟨ocOdd, odOdd, .func (PySem.W.fnOf "is_odd" "is_odd" (defArgs sOdd) (defBody sOdd) (defScope sOdd) .none kVOdd dcOdd pmOdd anOdd cdOdd ctOdd), slOdd⟩) (cOdd : PySem.W.codeIn K cdOdd "is_odd" = true) (kOdd : PySem.W.keepIn K (.ref fOdd) = true)
    {fOpen : Addr} {odOpen anOpen : Option Addr} {slOpen : Array (Option Value)} {ocOpen kVOpen dcOpen pmOpen cdOpen ctOpen : Value} (aOpen : PySem.W.nsIn K mainGlobals "opened" = some (some (.ref fOpen))) (lOpen : K.lookup fOpen = some ⟨ocOpen, odOpen, .func (PySem.W.fnOf "opened" "opened" (defArgs sOpen) (defBody sOpen) (defScope sOpen) .none kVOpen dcOpen pmOpen anOpen cdOpen ctOpen), slOpen⟩) (cOpen : PySem.W.codeIn K cdOpen "opened" = true) (kOpen : PySem.W.keepIn K (.ref fOpen) = true)
    {fIsFields : Addr} {odIsFields anIsFields : Option Addr} {slIsFields : Array (Option Value)} {ocIsFields kVIsFields dcIsFields pmIsFields cdIsFields ctIsFields : Value} (aIsFields : PySem.W.nsIn K mainGlobals "is_fields" = some (some (.ref fIsFields))) (lIsFields : K.lookup fIsFields = some ⟨ocIsFields, odIsFields, .func (PySem.W.fnOf "is_fields" "is_fields" (defArgs sIsFields) (defBody sIsFields) (defScope sIsFields) .none kVIsFields dcIsFields pmIsFields anIsFields cdIsFields ctIsFields), slIsFields⟩) (cIsFields : PySem.W.codeIn K cdIsFields "is_fields" = true) (kIsFields : PySem.W.keepIn K (.ref fIsFields) = true)
    {fIsWord : Addr} {odIsWord anIsWord : Option Addr} {slIsWord : Array (Option Value)} {ocIsWord kVIsWord dcIsWord pmIsWord cdIsWord ctIsWord : Value} (aIsWord : PySem.W.nsIn K mainGlobals "is_word" = some (some (.ref fIsWord))) (lIsWord : K.lookup fIsWord = some ⟨ocIsWord, odIsWord, .func (PySem.W.fnOf "is_word" "is_word" (defArgs sIsWord) (defBody sIsWord) (defScope sIsWord) .none kVIsWord dcIsWord pmIsWord anIsWord cdIsWord ctIsWord), slIsWord⟩) (cIsWord : PySem.W.codeIn K cdIsWord "is_word" = true) (kIsWord : PySem.W.keepIn K (.ref fIsWord) = true)
    {fPartsOf : Addr} {odPartsOf anPartsOf : Option Addr} {slPartsOf : Array (Option Value)} {ocPartsOf kVPartsOf dcPartsOf pmPartsOf cdPartsOf ctPartsOf : Value} (aPartsOf : PySem.W.nsIn K mainGlobals "parts_of" = some (some (.ref fPartsOf))) (lPartsOf : K.lookup fPartsOf = some ⟨ocPartsOf, odPartsOf, .func (PySem.W.fnOf "parts_of" "parts_of" (defArgs sPartsOf) (defBody sPartsOf) (defScope sPartsOf) .none kVPartsOf dcPartsOf pmPartsOf anPartsOf cdPartsOf ctPartsOf), slPartsOf⟩) (cPartsOf : PySem.W.codeIn K cdPartsOf "parts_of" = true) (kPartsOf : PySem.W.keepIn K (.ref fPartsOf) = true)
    {fNumberInWord : Addr} {odNumberInWord anNumberInWord : Option Addr} {slNumberInWord : Array (Option Value)} {ocNumberInWord kVNumberInWord dcNumberInWord pmNumberInWord cdNumberInWord ctNumberInWord : Value} (aNumberInWord : PySem.W.nsIn K mainGlobals "number_in_word" = some (some (.ref fNumberInWord))) (lNumberInWord : K.lookup fNumberInWord = some ⟨ocNumberInWord, odNumberInWord, .func (PySem.W.fnOf "number_in_word" "number_in_word" (defArgs sNumberInWord) (defBody sNumberInWord) (defScope sNumberInWord) .none kVNumberInWord dcNumberInWord pmNumberInWord anNumberInWord cdNumberInWord ctNumberInWord), slNumberInWord⟩) (cNumberInWord : PySem.W.codeIn K cdNumberInWord "number_in_word" = true) (kNumberInWord : PySem.W.keepIn K (.ref fNumberInWord) = true)
    {fIsFault : Addr} {odIsFault anIsFault : Option Addr} {slIsFault : Array (Option Value)} {ocIsFault kVIsFault dcIsFault pmIsFault cdIsFault ctIsFault : Value} (aIsFault : PySem.W.nsIn K mainGlobals "is_fault" = some (some (.ref fIsFault))) (lIsFault : K.lookup fIsFault = some ⟨ocIsFault, odIsFault, .func (PySem.W.fnOf "is_fault" "is_fault" (defArgs sIsFault) (defBody sIsFault) (defScope sIsFault) .none kVIsFault dcIsFault pmIsFault anIsFault cdIsFault ctIsFault), slIsFault⟩) (cIsFault : PySem.W.codeIn K cdIsFault "is_fault" = true) (kIsFault : PySem.W.keepIn K (.ref fIsFault) = true)
    {fIsWeather : Addr} {odIsWeather anIsWeather : Option Addr} {slIsWeather : Array (Option Value)} {ocIsWeather kVIsWeather dcIsWeather pmIsWeather cdIsWeather ctIsWeather : Value} (aIsWeather : PySem.W.nsIn K mainGlobals "is_weather" = some (some (.ref fIsWeather))) (lIsWeather : K.lookup fIsWeather = some ⟨ocIsWeather, odIsWeather, .func (PySem.W.fnOf "is_weather" "is_weather" (defArgs sIsWeather) (defBody sIsWeather) (defScope sIsWeather) .none kVIsWeather dcIsWeather pmIsWeather anIsWeather cdIsWeather ctIsWeather), slIsWeather⟩) (cIsWeather : PySem.W.codeIn K cdIsWeather "is_weather" = true) (kIsWeather : PySem.W.keepIn K (.ref fIsWeather) = true)
    {fCelW : Addr} {odCelW anCelW : Option Addr} {slCelW : Array (Option Value)} {ocCelW kVCelW dcCelW pmCelW cdCelW ctCelW : Value} (aCelW : PySem.W.nsIn K mainGlobals "cell_with" = some (some (.ref fCelW))) (lCelW : K.lookup fCelW = some ⟨ocCelW, odCelW, .func (PySem.W.fnOf "cell_with" "cell_with" (defArgs sCelW) (defBody sCelW) (defScope sCelW) .none kVCelW dcCelW pmCelW anCelW cdCelW ctCelW), slCelW⟩) (cCelW : PySem.W.codeIn K cdCelW "cell_with" = true) (kCelW : PySem.W.keepIn K (.ref fCelW) = true)
    {fIsPlan : Addr} {odIsPlan anIsPlan : Option Addr} {slIsPlan : Array (Option Value)} {ocIsPlan kVIsPlan dcIsPlan pmIsPlan cdIsPlan ctIsPlan : Value} (aIsPlan : PySem.W.nsIn K mainGlobals "is_plan" = some (some (.ref fIsPlan))) (lIsPlan : K.lookup fIsPlan = some ⟨ocIsPlan, odIsPlan, .func (PySem.W.fnOf "is_plan" "is_plan" (defArgs sIsPlan) (defBody sIsPlan) (defScope sIsPlan) .none kVIsPlan dcIsPlan pmIsPlan anIsPlan cdIsPlan ctIsPlan), slIsPlan⟩) (cIsPlan : PySem.W.codeIn K cdIsPlan "is_plan" = true) (kIsPlan : PySem.W.keepIn K (.ref fIsPlan) = true)
    {fLookPlan : Addr} {odLookPlan anLookPlan : Option Addr} {slLookPlan : Array (Option Value)} {ocLookPlan kVLookPlan dcLookPlan pmLookPlan cdLookPlan ctLookPlan : Value} (aLookPlan : PySem.W.nsIn K mainGlobals "look_at_plan" = some (some (.ref fLookPlan))) (lLookPlan : K.lookup fLookPlan = some ⟨ocLookPlan, odLookPlan, .func (PySem.W.fnOf "look_at_plan" "look_at_plan" (defArgs sLookPlan) (defBody sLookPlan) (defScope sLookPlan) .none kVLookPlan dcLookPlan pmLookPlan anLookPlan cdLookPlan ctLookPlan), slLookPlan⟩) (cLookPlan : PySem.W.codeIn K cdLookPlan "look_at_plan" = true) (kLookPlan : PySem.W.keepIn K (.ref fLookPlan) = true)
    {fLookFlash : Addr} {odLookFlash anLookFlash : Option Addr} {slLookFlash : Array (Option Value)} {ocLookFlash kVLookFlash dcLookFlash pmLookFlash cdLookFlash ctLookFlash : Value} (aLookFlash : PySem.W.nsIn K mainGlobals "look_at_flash" = some (some (.ref fLookFlash))) (lLookFlash : K.lookup fLookFlash = some ⟨ocLookFlash, odLookFlash, .func (PySem.W.fnOf "look_at_flash" "look_at_flash" (defArgs sLookFlash) (defBody sLookFlash) (defScope sLookFlash) .none kVLookFlash dcLookFlash pmLookFlash anLookFlash cdLookFlash ctLookFlash), slLookFlash⟩) (cLookFlash : PySem.W.codeIn K cdLookFlash "look_at_flash" = true) (kLookFlash : PySem.W.keepIn K (.ref fLookFlash) = true)
    {fPagesRead : Addr} {odPagesRead anPagesRead : Option Addr} {slPagesRead : Array (Option Value)} {ocPagesRead kVPagesRead dcPagesRead pmPagesRead cdPagesRead ctPagesRead : Value} (aPagesRead : PySem.W.nsIn K mainGlobals "pages_read" = some (some (.ref fPagesRead))) (lPagesRead : K.lookup fPagesRead = some ⟨ocPagesRead, odPagesRead, .func (PySem.W.fnOf "pages_read" "pages_read" (defArgs sPagesRead) (defBody sPagesRead) (defScope sPagesRead) .none kVPagesRead dcPagesRead pmPagesRead anPagesRead cdPagesRead ctPagesRead), slPagesRead⟩) (cPagesRead : PySem.W.codeIn K cdPagesRead "pages_read" = true) (kPagesRead : PySem.W.keepIn K (.ref fPagesRead) = true)
    {fNewestOf : Addr} {odNewestOf anNewestOf : Option Addr} {slNewestOf : Array (Option Value)} {ocNewestOf kVNewestOf dcNewestOf pmNewestOf cdNewestOf ctNewestOf : Value} (aNewestOf : PySem.W.nsIn K mainGlobals "newest_of" = some (some (.ref fNewestOf))) (lNewestOf : K.lookup fNewestOf = some ⟨ocNewestOf, odNewestOf, .func (PySem.W.fnOf "newest_of" "newest_of" (defArgs sNewestOf) (defBody sNewestOf) (defScope sNewestOf) .none kVNewestOf dcNewestOf pmNewestOf anNewestOf cdNewestOf ctNewestOf), slNewestOf⟩) (cNewestOf : PySem.W.codeIn K cdNewestOf "newest_of" = true) (kNewestOf : PySem.W.keepIn K (.ref fNewestOf) = true)
    {fHeadOf : Addr} {odHeadOf anHeadOf : Option Addr} {slHeadOf : Array (Option Value)} {ocHeadOf kVHeadOf dcHeadOf pmHeadOf cdHeadOf ctHeadOf : Value} (aHeadOf : PySem.W.nsIn K mainGlobals "head_of" = some (some (.ref fHeadOf))) (lHeadOf : K.lookup fHeadOf = some ⟨ocHeadOf, odHeadOf, .func (PySem.W.fnOf "head_of" "head_of" (defArgs sHeadOf) (defBody sHeadOf) (defScope sHeadOf) .none kVHeadOf dcHeadOf pmHeadOf anHeadOf cdHeadOf ctHeadOf), slHeadOf⟩) (cHeadOf : PySem.W.codeIn K cdHeadOf "head_of" = true) (kHeadOf : PySem.W.keepIn K (.ref fHeadOf) = true)
    {fBlankBlocks : Addr} {odBlankBlocks anBlankBlocks : Option Addr} {slBlankBlocks : Array (Option Value)} {ocBlankBlocks kVBlankBlocks dcBlankBlocks pmBlankBlocks cdBlankBlocks ctBlankBlocks : Value} (aBlankBlocks : PySem.W.nsIn K mainGlobals "blank_blocks" = some (some (.ref fBlankBlocks))) (lBlankBlocks : K.lookup fBlankBlocks = some ⟨ocBlankBlocks, odBlankBlocks, .func (PySem.W.fnOf "blank_blocks" "blank_blocks" (defArgs sBlankBlocks) (defBody sBlankBlocks) (defScope sBlankBlocks) .none kVBlankBlocks dcBlankBlocks pmBlankBlocks anBlankBlocks cdBlankBlocks ctBlankBlocks), slBlankBlocks⟩) (cBlankBlocks : PySem.W.codeIn K cdBlankBlocks "blank_blocks" = true) (kBlankBlocks : PySem.W.keepIn K (.ref fBlankBlocks) = true)
    {fTurn : Addr} {odTurn anTurn : Option Addr} {slTurn : Array (Option Value)} {ocTurn kVTurn dcTurn pmTurn cdTurn ctTurn : Value} (aTurn : PySem.W.nsIn K mainGlobals "blocks_in_turn" = some (some (.ref fTurn))) (lTurn : K.lookup fTurn = some ⟨ocTurn, odTurn, .func (PySem.W.fnOf "blocks_in_turn" "blocks_in_turn" (defArgs sTurn) (defBody sTurn) (defScope sTurn) .none kVTurn dcTurn pmTurn anTurn cdTurn ctTurn), slTurn⟩) (cTurn : PySem.W.codeIn K cdTurn "blocks_in_turn" = true) (kTurn : PySem.W.keepIn K (.ref fTurn) = true)
    {fFreeP : Addr} {odFreeP anFreeP : Option Addr} {slFreeP : Array (Option Value)} {ocFreeP kVFreeP dcFreeP pmFreeP cdFreeP ctFreeP : Value} (aFreeP : PySem.W.nsIn K mainGlobals "free_pages" = some (some (.ref fFreeP))) (lFreeP : K.lookup fFreeP = some ⟨ocFreeP, odFreeP, .func (PySem.W.fnOf "free_pages" "free_pages" (defArgs sFreeP) (defBody sFreeP) (defScope sFreeP) .none kVFreeP dcFreeP pmFreeP anFreeP cdFreeP ctFreeP), slFreeP⟩) (cFreeP : PySem.W.codeIn K cdFreeP "free_pages" = true) (kFreeP : PySem.W.keepIn K (.ref fFreeP) = true)
    {fLivingPages : Addr} {odLivingPages anLivingPages : Option Addr} {slLivingPages : Array (Option Value)} {ocLivingPages kVLivingPages dcLivingPages pmLivingPages cdLivingPages ctLivingPages : Value} (aLivingPages : PySem.W.nsIn K mainGlobals "living_pages" = some (some (.ref fLivingPages))) (lLivingPages : K.lookup fLivingPages = some ⟨ocLivingPages, odLivingPages, .func (PySem.W.fnOf "living_pages" "living_pages" (defArgs sLivingPages) (defBody sLivingPages) (defScope sLivingPages) .none kVLivingPages dcLivingPages pmLivingPages anLivingPages cdLivingPages ctLivingPages), slLivingPages⟩) (cLivingPages : PySem.W.codeIn K cdLivingPages "living_pages" = true) (kLivingPages : PySem.W.keepIn K (.ref fLivingPages) = true)
    {fFailedWN : Addr} {odFailedWN anFailedWN : Option Addr} {slFailedWN : Array (Option Value)} {ocFailedWN kVFailedWN dcFailedWN pmFailedWN cdFailedWN ctFailedWN : Value} (aFailedWN : PySem.W.nsIn K mainGlobals "failed_with_newest" = some (some (.ref fFailedWN))) (lFailedWN : K.lookup fFailedWN = some ⟨ocFailedWN, odFailedWN, .func (PySem.W.fnOf "failed_with_newest" "failed_with_newest" (defArgs sFailedWN) (defBody sFailedWN) (defScope sFailedWN) .none kVFailedWN dcFailedWN pmFailedWN anFailedWN cdFailedWN ctFailedWN), slFailedWN⟩) (cFailedWN : PySem.W.codeIn K cdFailedWN "failed_with_newest" = true) (kFailedWN : PySem.W.keepIn K (.ref fFailedWN) = true)
    {fWorn : Addr} {odWorn anWorn : Option Addr} {slWorn : Array (Option Value)} {ocWorn kVWorn dcWorn pmWorn cdWorn ctWorn : Value} (aWorn : PySem.W.nsIn K mainGlobals "worn" = some (some (.ref fWorn))) (lWorn : K.lookup fWorn = some ⟨ocWorn, odWorn, .func (PySem.W.fnOf "worn" "worn" (defArgs sWorn) (defBody sWorn) (defScope sWorn) .none kVWorn dcWorn pmWorn anWorn cdWorn ctWorn), slWorn⟩) (cWorn : PySem.W.codeIn K cdWorn "worn" = true) (kWorn : PySem.W.keepIn K (.ref fWorn) = true)
    {fLiving : Addr} {odLiving anLiving : Option Addr} {slLiving : Array (Option Value)} {ocLiving kVLiving dcLiving pmLiving cdLiving ctLiving : Value} (aLiving : PySem.W.nsIn K mainGlobals "living" = some (some (.ref fLiving))) (lLiving : K.lookup fLiving = some ⟨ocLiving, odLiving, .func (PySem.W.fnOf "living" "living" (defArgs sLiving) (defBody sLiving) (defScope sLiving) .none kVLiving dcLiving pmLiving anLiving cdLiving ctLiving), slLiving⟩) (cLiving : PySem.W.codeIn K cdLiving "living" = true) (kLiving : PySem.W.keepIn K (.ref fLiving) = true)
    {fHasRoom : Addr} {odHasRoom anHasRoom : Option Addr} {slHasRoom : Array (Option Value)} {ocHasRoom kVHasRoom dcHasRoom pmHasRoom cdHasRoom ctHasRoom : Value} (aHasRoom : PySem.W.nsIn K mainGlobals "has_room" = some (some (.ref fHasRoom))) (lHasRoom : K.lookup fHasRoom = some ⟨ocHasRoom, odHasRoom, .func (PySem.W.fnOf "has_room" "has_room" (defArgs sHasRoom) (defBody sHasRoom) (defScope sHasRoom) .none kVHasRoom dcHasRoom pmHasRoom anHasRoom cdHasRoom ctHasRoom), slHasRoom⟩) (cHasRoom : PySem.W.codeIn K cdHasRoom "has_room" = true) (kHasRoom : PySem.W.keepIn K (.ref fHasRoom) = true)
    {fRoomP : Addr} {odRoomP anRoomP : Option Addr} {slRoomP : Array (Option Value)} {ocRoomP kVRoomP dcRoomP pmRoomP cdRoomP ctRoomP : Value} (aRoomP : PySem.W.nsIn K mainGlobals "room" = some (some (.ref fRoomP))) (lRoomP : K.lookup fRoomP = some ⟨ocRoomP, odRoomP, .func (PySem.W.fnOf "room" "room" (defArgs sRoomP) (defBody sRoomP) (defScope sRoomP) .none kVRoomP dcRoomP pmRoomP anRoomP cdRoomP ctRoomP), slRoomP⟩) (cRoomP : PySem.W.codeIn K cdRoomP "room" = true) (kRoomP : PySem.W.keepIn K (.ref fRoomP) = true)
    {fCell : Addr} {odCell anCell : Option Addr} {slCell : Array (Option Value)} {ocCell kVCell dcCell pmCell cdCell ctCell : Value} (aCell : PySem.W.nsIn K mainGlobals "_law_cell_at" = some (some (.ref fCell))) (lCell : K.lookup fCell = some ⟨ocCell, odCell, .func (PySem.W.fnOf "_law_cell_at" "_law_cell_at" (defArgs sCell) (defBody sCell) (defScope sCell) .none kVCell dcCell pmCell anCell cdCell ctCell), slCell⟩) (cCell : PySem.W.codeIn K cdCell "_law_cell_at" = true) (kCell : PySem.W.keepIn K (.ref fCell) = true)
    {fState : Addr} {odState anState : Option Addr} {slState : Array (Option Value)} {ocState kVState dcState pmState cdState ctState : Value} (aState : PySem.W.nsIn K mainGlobals "_law_state" = some (some (.ref fState))) (lState : K.lookup fState = some ⟨ocState, odState, .func (PySem.W.fnOf "_law_state" "_law_state" (defArgs sState) (defBody sState) (defScope sState) .none kVState dcState pmState anState cdState ctState), slState⟩) (cState : PySem.W.codeIn K cdState "_law_state" = true) (kState : PySem.W.keepIn K (.ref fState) = true)
    {fChoice : Addr} {odChoice anChoice : Option Addr} {slChoice : Array (Option Value)} {ocChoice kVChoice dcChoice pmChoice cdChoice ctChoice : Value} (aChoice : PySem.W.nsIn K mainGlobals "_law_choice" = some (some (.ref fChoice))) (lChoice : K.lookup fChoice = some ⟨ocChoice, odChoice, .func (PySem.W.fnOf "_law_choice" "_law_choice" (defArgs sChoice) (defBody sChoice) (defScope sChoice) .none kVChoice dcChoice pmChoice anChoice cdChoice ctChoice), slChoice⟩) (cChoice : PySem.W.codeIn K cdChoice "_law_choice" = true) (kChoice : PySem.W.keepIn K (.ref fChoice) = true)
    {fPlanL : Addr} {odPlanL anPlanL : Option Addr} {slPlanL : Array (Option Value)} {ocPlanL kVPlanL dcPlanL pmPlanL cdPlanL ctPlanL : Value} (aPlanL : PySem.W.nsIn K mainGlobals "_law_plan" = some (some (.ref fPlanL))) (lPlanL : K.lookup fPlanL = some ⟨ocPlanL, odPlanL, .func (PySem.W.fnOf "_law_plan" "_law_plan" (defArgs sPlan) (defBody sPlan) (defScope sPlan) .none kVPlanL dcPlanL pmPlanL anPlanL cdPlanL ctPlanL), slPlanL⟩) (cPlanL : PySem.W.codeIn K cdPlanL "_law_plan" = true) (kPlanL : PySem.W.keepIn K (.ref fPlanL) = true)
    {fOddL : Addr} {odOddL anOddL : Option Addr} {slOddL : Array (Option Value)} {ocOddL kVOddL dcOddL pmOddL cdOddL ctOddL : Value} (aOddL : PySem.W.nsIn K mainGlobals "_law_odd" = some (some (.ref fOddL))) (lOddL : K.lookup fOddL = some ⟨ocOddL, odOddL, .func (PySem.W.fnOf "_law_odd" "_law_odd" (defArgs sOddL) (defBody sOddL) (defScope sOddL) .none kVOddL dcOddL pmOddL anOddL cdOddL ctOddL), slOddL⟩) (cOddL : PySem.W.codeIn K cdOddL "_law_odd" = true) (kOddL : PySem.W.keepIn K (.ref fOddL) = true)
    {fMarks : Addr} {odMarks anMarks : Option Addr} {slMarks : Array (Option Value)} {ocMarks kVMarks dcMarks pmMarks cdMarks ctMarks : Value} (aMarks : PySem.W.nsIn K mainGlobals "_law_marks" = some (some (.ref fMarks))) (lMarks : K.lookup fMarks = some ⟨ocMarks, odMarks, .func (PySem.W.fnOf "_law_marks" "_law_marks" (defArgs sMarks) (defBody sMarks) (defScope sMarks) .none kVMarks dcMarks pmMarks anMarks cdMarks ctMarks), slMarks⟩) (cMarks : PySem.W.codeIn K cdMarks "_law_marks" = true) (kMarks : PySem.W.keepIn K (.ref fMarks) = true)
    {fSaid : Addr} {odSaid anSaid : Option Addr} {slSaid : Array (Option Value)} {ocSaid kVSaid dcSaid pmSaid cdSaid ctSaid : Value} (aSaid : PySem.W.nsIn K mainGlobals "_law_said" = some (some (.ref fSaid))) (lSaid : K.lookup fSaid = some ⟨ocSaid, odSaid, .func (PySem.W.fnOf "_law_said" "_law_said" (defArgs sSaid) (defBody sSaid) (defScope sSaid) .none kVSaid dcSaid pmSaid anSaid cdSaid ctSaid), slSaid⟩) (cSaid : PySem.W.codeIn K cdSaid "_law_said" = true) (kSaid : PySem.W.keepIn K (.ref fSaid) = true)
    {fNoPlans : Addr} {odNoPlans anNoPlans : Option Addr} {slNoPlans : Array (Option Value)} {ocNoPlans kVNoPlans dcNoPlans pmNoPlans cdNoPlans ctNoPlans : Value} (aNoPlans : PySem.W.nsIn K mainGlobals "_law_no_plans" = some (some (.ref fNoPlans))) (lNoPlans : K.lookup fNoPlans = some ⟨ocNoPlans, odNoPlans, .func (PySem.W.fnOf "_law_no_plans" "_law_no_plans" (defArgs sNoPlans) (defBody sNoPlans) (defScope sNoPlans) .none kVNoPlans dcNoPlans pmNoPlans anNoPlans cdNoPlans ctNoPlans), slNoPlans⟩) (cNoPlans : PySem.W.codeIn K cdNoPlans "_law_no_plans" = true) (kNoPlans : PySem.W.keepIn K (.ref fNoPlans) = true)
    {fLaw : Addr} {odLaw anLaw : Option Addr} {slLaw : Array (Option Value)} {ocLaw kVLaw dcLaw pmLaw cdLaw ctLaw : Value} (aLaw : PySem.W.nsIn K mainGlobals "law" = some (some (.ref fLaw))) (lLaw : K.lookup fLaw = some ⟨ocLaw, odLaw, .func (PySem.W.fnOf "law" "law" (defArgs sLaw) (defBody sLaw) (defScope sLaw) .none kVLaw dcLaw pmLaw anLaw cdLaw ctLaw), slLaw⟩) (cLaw : PySem.W.codeIn K cdLaw "law" = true) (kLaw : PySem.W.keepIn K (.ref fLaw) = true)
    {fFieldsIn tdFieldsIn : Addr} {odFieldsIn anFieldsIn oeFieldsIn : Option Addr} {slFieldsIn smFieldsIn : Array (Option Value)} {ocFieldsIn kVFieldsIn dcFieldsIn pmFieldsIn cdFieldsIn ctFieldsIn ofFieldsIn : Value} {nnFieldsIn : Nat} (aFieldsIn : PySem.W.nsIn K mainGlobals "fields_in" = some (some (.ref fFieldsIn))) (lFieldsIn : K.lookup fFieldsIn = some ⟨ocFieldsIn, odFieldsIn, .func (PySem.W.fnOf "fields_in" "fields_in" (defArgs sFieldsIn) (defBody sFieldsIn) (defScope sFieldsIn) (.ref tdFieldsIn) kVFieldsIn dcFieldsIn pmFieldsIn anFieldsIn cdFieldsIn ctFieldsIn), slFieldsIn⟩) (cFieldsIn : PySem.W.codeIn K cdFieldsIn "fields_in" = true) (kFieldsIn : PySem.W.keepIn K (.ref fFieldsIn) = true) (tFieldsIn : K.lookup tdFieldsIn = some ⟨ofFieldsIn, oeFieldsIn, .seq #[.bool true] nnFieldsIn, smFieldsIn⟩)
    {C BK TK b1 t1 : Addr} (aC : PySem.W.nsIn K mainGlobals "Flash" = some (some (.ref C)))
    {tdIni e0Ini : Addr} {ofIni : Value} {oeIni : Option Addr} {nnIni : Nat} {smIni : Array (Option Value)}
    {fIni : Addr} {odIni anIni : Option Addr} {slIni : Array (Option Value)} {ocIni kVIni dcIni pmIni cdIni ctIni : Value} (aIni : PySem.W.findIn K (.ref C) "__init__" = some (some (.ref fIni))) (iIni : PySem.W.isFn K (.ref fIni) = true) (lIni : K.lookup fIni = some ⟨ocIni, odIni, .func (PySem.W.fnOf "__init__" "Flash.__init__" (defArgs (sMeth 0)) (defBody (sMeth 0)) (defScope (sMeth 0)) (.ref tdIni) kVIni dcIni pmIni anIni cdIni ctIni), slIni⟩) (cIni : PySem.W.codeIn K cdIni "Flash.__init__" = true) (kIni : PySem.W.keepIn K (.ref fIni) = true)
    (tIni : K.lookup tdIni = some ⟨ofIni, oeIni, .seq #[.ref e0Ini] nnIni, smIni⟩)
    {fBlk : Addr} {odBlk anBlk : Option Addr} {slBlk : Array (Option Value)} {ocBlk kVBlk dcBlk pmBlk cdBlk ctBlk : Value} (aBlk : PySem.W.findIn K (.ref C) "look_at_block" = some (some (.ref fBlk))) (iBlk : PySem.W.isFn K (.ref fBlk) = true) (lBlk : K.lookup fBlk = some ⟨ocBlk, odBlk, .func (PySem.W.fnOf "look_at_block" "Flash.look_at_block" (defArgs (sMeth 1)) (defBody (sMeth 1)) (defScope (sMeth 1)) (.none) kVBlk dcBlk pmBlk anBlk cdBlk ctBlk), slBlk⟩) (cBlk : PySem.W.codeIn K cdBlk "Flash.look_at_block" = true) (kBlk : PySem.W.keepIn K (.ref fBlk) = true)
    {fWps : Addr} {odWps anWps : Option Addr} {slWps : Array (Option Value)} {ocWps kVWps dcWps pmWps cdWps ctWps : Value} (aWps : PySem.W.findIn K (.ref C) "wipes" = some (some (.ref fWps))) (iWps : PySem.W.isFn K (.ref fWps) = true) (lWps : K.lookup fWps = some ⟨ocWps, odWps, .func (PySem.W.fnOf "wipes" "Flash.wipes" (defArgs (sMeth 13)) (defBody (sMeth 13)) (defScope (sMeth 13)) (.none) kVWps dcWps pmWps anWps cdWps ctWps), slWps⟩) (cWps : PySem.W.codeIn K cdWps "Flash.wipes" = true) (kWps : PySem.W.keepIn K (.ref fWps) = true)
    {fBad : Addr} {odBad anBad : Option Addr} {slBad : Array (Option Value)} {ocBad kVBad dcBad pmBad cdBad ctBad : Value} (aBad : PySem.W.findIn K (.ref C) "is_bad" = some (some (.ref fBad))) (iBad : PySem.W.isFn K (.ref fBad) = true) (lBad : K.lookup fBad = some ⟨ocBad, odBad, .func (PySem.W.fnOf "is_bad" "Flash.is_bad" (defArgs (sMeth 14)) (defBody (sMeth 14)) (defScope (sMeth 14)) (.none) kVBad dcBad pmBad anBad cdBad ctBad), slBad⟩) (cBad : PySem.W.codeIn K cdBad "Flash.is_bad" = true) (kBad : PySem.W.keepIn K (.ref fBad) = true)
    {fBls : Addr} {odBls anBls : Option Addr} {slBls : Array (Option Value)} {ocBls kVBls dcBls pmBls cdBls ctBls : Value} (aBls : PySem.W.findIn K (.ref C) "blocks" = some (some (.ref fBls))) (iBls : PySem.W.isFn K (.ref fBls) = true) (lBls : K.lookup fBls = some ⟨ocBls, odBls, .func (PySem.W.fnOf "blocks" "Flash.blocks" (defArgs (sMeth 17)) (defBody (sMeth 17)) (defScope (sMeth 17)) (.none) kVBls dcBls pmBls anBls cdBls ctBls), slBls⟩) (cBls : PySem.W.codeIn K cdBls "Flash.blocks" = true) (kBls : PySem.W.keepIn K (.ref fBls) = true)
    {fPgs : Addr} {odPgs anPgs : Option Addr} {slPgs : Array (Option Value)} {ocPgs kVPgs dcPgs pmPgs cdPgs ctPgs : Value} (aPgs : PySem.W.findIn K (.ref C) "pages" = some (some (.ref fPgs))) (iPgs : PySem.W.isFn K (.ref fPgs) = true) (lPgs : K.lookup fPgs = some ⟨ocPgs, odPgs, .func (PySem.W.fnOf "pages" "Flash.pages" (defArgs (sMeth 18)) (defBody (sMeth 18)) (defScope (sMeth 18)) (.none) kVPgs dcPgs pmPgs anPgs cdPgs ctPgs), slPgs⟩) (cPgs : PySem.W.codeIn K cdPgs "Flash.pages" = true) (kPgs : PySem.W.keepIn K (.ref fPgs) = true)
    {fFbl : Addr} {odFbl anFbl : Option Addr} {slFbl : Array (Option Value)} {ocFbl kVFbl dcFbl pmFbl cdFbl ctFbl : Value} (aFbl : PySem.W.findIn K (.ref C) "first_blank" = some (some (.ref fFbl))) (iFbl : PySem.W.isFn K (.ref fFbl) = true) (lFbl : K.lookup fFbl = some ⟨ocFbl, odFbl, .func (PySem.W.fnOf "first_blank" "Flash.first_blank" (defArgs (sMeth 19)) (defBody (sMeth 19)) (defScope (sMeth 19)) (.none) kVFbl dcFbl pmFbl anFbl cdFbl ctFbl), slFbl⟩) (cFbl : PySem.W.codeIn K cdFbl "Flash.first_blank" = true) (kFbl : PySem.W.keepIn K (.ref fFbl) = true)
    {fFnd : Addr} {odFnd anFnd : Option Addr} {slFnd : Array (Option Value)} {ocFnd kVFnd dcFnd pmFnd cdFnd ctFnd : Value} (aFnd : PySem.W.findIn K (.ref C) "found" = some (some (.ref fFnd))) (iFnd : PySem.W.isFn K (.ref fFnd) = true) (lFnd : K.lookup fFnd = some ⟨ocFnd, odFnd, .func (PySem.W.fnOf "found" "Flash.found" (defArgs (sMeth 20)) (defBody (sMeth 20)) (defScope (sMeth 20)) (.none) kVFnd dcFnd pmFnd anFnd cdFnd ctFnd), slFnd⟩) (cFnd : PySem.W.codeIn K cdFnd "Flash.found" = true) (kFnd : PySem.W.keepIn K (.ref fFnd) = true)
    (cpg : PySem.W.plainGet K C Str.empty = true) (chd : PySem.W.hasDictIn K C = true) (cpo : PySem.W.plainOver K C = true) (csa : PySem.W.findIn K (.ref C) "__setattr__" = some (some (.builtin "object.__setattr__"))) (cmk : PySem.W.makesIn K C = true) (ckc : PySem.W.keepIn K (.ref C) = true)
    (nB : PySem.W.findIn K (.ref C) "block_count" = some none)
    (nP : PySem.W.findIn K (.ref C) "page_count" = some none)
    (nD : PySem.W.findIn K (.ref C) "faults" = some none)
    (nC : PySem.W.findIn K (.ref C) "cells" = some none)
    (nW : PySem.W.findIn K (.ref C) "wipe_counts" = some none)
    (nF : PySem.W.findIn K (.ref C) "failed" = some none)
    (nO : PySem.W.findIn K (.ref C) "power" = some none)
    (nS : PySem.W.findIn K (.ref C) "step_count" = some none)
    (aBK : PySem.W.nsIn K mainGlobals "BLANK" = some (some (.ref BK))) {nBK nBK1 : Nat} {sBK sBK1 : Array (Option Value)} {uBK : Tok} (lBK : K.lookup BK = some ⟨.type "tuple", none, .seq #[.ref b1, .none, .none] nBK, sBK⟩) (lBK1 : K.lookup b1 = some ⟨.type "tuple", none, .seq #[.str "blank" uBK] nBK1, sBK1⟩)
    (aTK : PySem.W.nsIn K mainGlobals "TORN" = some (some (.ref TK))) {nTK nTK1 : Nat} {sTK sTK1 : Array (Option Value)} {uTK : Tok} (lTK : K.lookup TK = some ⟨.type "tuple", none, .seq #[.ref t1, .none, .none] nTK, sTK⟩) (lTK1 : K.lookup t1 = some ⟨.type "tuple", none, .seq #[.str "torn" uTK] nTK1, sTK1⟩)
    (z0 : PySem.W.nsIn K mainGlobals "isinstance" = some none)
    (z1 : PySem.W.nsIn K mainGlobals "int" = some none)
    (z2 : PySem.W.nsIn K mainGlobals "bool" = some none)
    (z3 : PySem.W.nsIn K mainGlobals "len" = some none)
    (z4 : PySem.W.nsIn K mainGlobals "max" = some none)
    (z5 : PySem.W.nsIn K mainGlobals "min" = some none)
    (z6 : PySem.W.nsIn K mainGlobals "range" = some none)
    (z7 : PySem.W.nsIn K mainGlobals "enumerate" = some none)
    (z8 : PySem.W.nsIn K mainGlobals "repr" = some none)
    (z9 : PySem.W.nsIn K mainGlobals "tuple" = some none)
    (z10 : PySem.W.nsIn K mainGlobals "str" = some none)
    (z11 : PySem.W.nsIn K mainGlobals "list" = some none)
    (z12 : PySem.W.nsIn K mainGlobals "divmod" = some none)
    (z13 : PySem.W.nsIn K mainGlobals "sorted" = some none)
    (z14 : PySem.W.nsIn K mainGlobals "ValueError" = some none)
    {tiWIDEST : Tok} (aiWIDEST : PySem.W.nsIn K mainGlobals "WIDEST" = some (some (.int 57 tiWIDEST)))
    {tiWIDTH : Tok} (aiWIDTH : PySem.W.nsIn K mainGlobals "WIDTH" = some (some (.int 40 tiWIDTH)))
    {tiGREATEST_NUMBER : Tok} (aiGREATEST_NUMBER : PySem.W.nsIn K mainGlobals "GREATEST_NUMBER" = some (some (.int 16383 tiGREATEST_NUMBER)))
    {tiGREATEST_WORD : Tok} (aiGREATEST_WORD : PySem.W.nsIn K mainGlobals "GREATEST_WORD" = some (some (.int 140737488355327 tiGREATEST_WORD)))
    {tiMOST : Tok} (aiMOST : PySem.W.nsIn K mainGlobals "MOST" = some (some (.int 8 tiMOST)))
    {tiMOST_FAULTS : Tok} (aiMOST_FAULTS : PySem.W.nsIn K mainGlobals "MOST_FAULTS" = some (some (.int 40 tiMOST_FAULTS)))
    {tiLAST_STEP : Tok} (aiLAST_STEP : PySem.W.nsIn K mainGlobals "LAST_STEP" = some (some (.int 9999 tiLAST_STEP)))
    {tiLAST_BIT : Tok} (aiLAST_BIT : PySem.W.nsIn K mainGlobals "LAST_BIT" = some (some (.int 46 tiLAST_BIT)))
    {tiMOST_PLACES : Tok} (aiMOST_PLACES : PySem.W.nsIn K mainGlobals "MOST_PLACES" = some (some (.int 16 tiMOST_PLACES)))
    {tiMOST_PAGES : Tok} (aiMOST_PAGES : PySem.W.nsIn K mainGlobals "MOST_PAGES" = some (some (.int 5 tiMOST_PAGES)))
    {xNoBlock : Addr} (xaNoBlock : PySem.W.nsIn K mainGlobals "NoBlock" = some (some (.ref xNoBlock))) (xeNoBlock : PySem.W.excIn K xNoBlock bmVE "ValueError.__new__" = true)
    {xNoNumber : Addr} (xaNoNumber : PySem.W.nsIn K mainGlobals "NoNumber" = some (some (.ref xNoNumber))) (xeNoNumber : PySem.W.excIn K xNoNumber bmVE "ValueError.__new__" = true)
    {xNoWeather : Addr} (xaNoWeather : PySem.W.nsIn K mainGlobals "NoWeather" = some (some (.ref xNoWeather))) (xeNoWeather : PySem.W.excIn K xNoWeather bmVE "ValueError.__new__" = true)
    {ka : Addr} {k0 k1 k2 k3 : Tok} {kn : Nat} {ks : Array (Option Value)} (aKinds : PySem.W.nsIn K mainGlobals "KINDS" = some (some (.ref ka))) (lKinds : K.lookup ka = some ⟨.type "tuple", none, .seq #[.str "write" k0, .str "trim" k1, .str "member" k2, .str "commit" k3] kn, ks⟩)
    {ga g0 g1 g2 g3 : Addr} {u0 u1 u2 u3 : Tok} {hh0 hh1 hh2 hh3 : Int} {gn : Nat} (aGr : PySem.W.nsIn K mainGlobals "GREATEST" = some (some (.ref ga))) (nGr : (ga == sysModules) = false) (lGr : K.lookup ga = some ⟨.type "dict", none, .dict #[⟨hh0, .str "write" u0, .ref g0⟩, ⟨hh1, .str "trim" u1, .ref g1⟩, ⟨hh2, .str "member" u2, .ref g2⟩, ⟨hh3, .str "commit" u3, .ref g3⟩] gn, #[]⟩)
    (eh0 : hh0 = keyH w (.inr "write"))
    (eh1 : hh1 = keyH w (.inr "trim"))
    (eh2 : hh2 = keyH w (.inr "member"))
    (eh3 : hh3 = keyH w (.inr "commit"))
    {v0a v0b v0c : Tok} {vn0 : Nat} {vs0 : Array (Option Value)} (lG0 : K.lookup g0 = some ⟨.type "tuple", none, .seq #[.int 15 v0a, .int 0 v0b, .int 63 v0c] vn0, vs0⟩)
    {v1a v1b v1c : Tok} {vn1 : Nat} {vs1 : Array (Option Value)} (lG1 : K.lookup g1 = some ⟨.type "tuple", none, .seq #[.int 15 v1a, .int 0 v1b, .int 0 v1c] vn1, vs1⟩)
    {v2a v2b v2c : Tok} {vn2 : Nat} {vs2 : Array (Option Value)} (lG2 : K.lookup g2 = some ⟨.type "tuple", none, .seq #[.int 15 v2a, .int 16383 v2b, .int 63 v2c] vn2, vs2⟩)
    {v3a v3b v3c : Tok} {vn3 : Nat} {vs3 : Array (Option Value)} (lG3 : K.lookup g3 = some ⟨.type "tuple", none, .seq #[.int 0 v3a, .int 16383 v3b, .int 0 v3c] vn3, vs3⟩)
    (oha : PySem.W.findIn K (.ref C) "__class__" = some (some (.builtin "object.__class__"))) (ohn : PySem.W.specialIn K (.builtin "object.__class__") "__get__" = some (some (.builtin "getset_descriptor.__get__"))) (oht : PySem.W.takesIn K (.builtin "object.__class__") = some true) (ohm : PySem.W.mroIn K C (.type "object") = some true) (oks : PySem.W.kitOne K (.ref C) (.ref C) = some true)
    {nE0 : Nat} {sE0 : Array (Option Value)} (lE0 : K.lookup e0Ini = some ⟨.type "tuple", none, .seq #[] nE0, sE0⟩)
    (bmg : PySem.W.specialIn K (.ref fWps) "__get__" = some (some (.builtin "function.__get__"))) (bmt : PySem.W.takesIn K (.ref fWps) = some false)
    (kF7 : (tys7.all fun t => PySem.W.kitOne K (.type t) (.ref C) == some false) = true)
    {x0 x1 x2 x3 x4 x5 x6 x7 x8 x9 x10 x11 x12 x13 x14 x15 x16 x17 x18 x19 x20 x21 cFE : Addr}
    (n0 : PySem.W.nsIn K mainGlobals "NoWidth" = some (some (.ref x0)))
    (n1 : PySem.W.nsIn K mainGlobals "NoNumber" = some (some (.ref x1)))
    (n2 : PySem.W.nsIn K mainGlobals "NoWord" = some (some (.ref x2)))
    (n3 : PySem.W.nsIn K mainGlobals "NoFields" = some (some (.ref x3)))
    (n4 : PySem.W.nsIn K mainGlobals "NoWeather" = some (some (.ref x4)))
    (n5 : PySem.W.nsIn K mainGlobals "NoBlock" = some (some (.ref x5)))
    (n6 : PySem.W.nsIn K mainGlobals "NoPage" = some (some (.ref x6)))
    (n7 : PySem.W.nsIn K mainGlobals "NoPlan" = some (some (.ref x7)))
    (n8 : PySem.W.nsIn K mainGlobals "NoFlash" = some (some (.ref x8)))
    (n9 : PySem.W.nsIn K mainGlobals "NoOrder" = some (some (.ref x9)))
    (n10 : PySem.W.nsIn K mainGlobals "NoOrders" = some (some (.ref x10)))
    (n11 : PySem.W.nsIn K mainGlobals "NoPlace" = some (some (.ref x11)))
    (n12 : PySem.W.nsIn K mainGlobals "NoPaper" = some (some (.ref x12)))
    (n13 : PySem.W.nsIn K mainGlobals "NoText" = some (some (.ref x13)))
    (n14 : PySem.W.nsIn K mainGlobals "NoLine" = some (some (.ref x14)))
    (n15 : PySem.W.nsIn K mainGlobals "Off" = some (some (.ref x15)))
    (n16 : PySem.W.nsIn K mainGlobals "Written" = some (some (.ref x16)))
    (n17 : PySem.W.nsIn K mainGlobals "Bad" = some (some (.ref x17)))
    (n18 : PySem.W.nsIn K mainGlobals "Spoilt" = some (some (.ref x18)))
    (n19 : PySem.W.nsIn K mainGlobals "NoRoom" = some (some (.ref x19)))
    (n20 : PySem.W.nsIn K mainGlobals "Worn" = some (some (.ref x20)))
    (n21 : PySem.W.nsIn K mainGlobals "Over" = some (some (.ref x21)))
    (nFE : PySem.W.nsIn K mainGlobals "FlashError" = some (some (.ref cFE)))
    (e1 : kAll K [x0, x1, x2, x3, x4, x5, x6, x7, x8, x9, x10, x11, x12, x13, x14, x15, x16, x17, x18, x19, x20, x21] = true) (e2 : kEx K [x0, x1, x2, x3, x4, x5, x6, x7, x8, x9, x10, x11, x12, x13, x14, x15, x16, x17, x18, x19, x20, x21] cFE = true) (e3 : PySem.W.noTabs K = true)
    {cLa PLa : Addr} {oc2La : Value} {od2La : Option Addr} {vLa : Array Value} {sl2La : Array (Option Value)} {dLa : DefRec} (hcLa : cdLaw = .ref cLa) (l2La : K.lookup cLa = some ⟨oc2La, od2La, .fields vLa, sl2La⟩) (hvLa : vLa[11]? = some (.ref PLa)) (hrLa : (PyProof.Rows.recsOf q).find? (fun e => e.name == ("law" : Str)) = some dLa)
    :
    ∃ (T : TbM) (fd : FuncData), (∀ b y, T b = some y → h.get? b = some (PySem.W.tabObj #[]) ∧ isCodeTable h b) ∧ PySem.W.noTabs K = true ∧ (∀ (s : Shared) (v : Value), BindsTo s fd ⟨[v], []⟩ [("_law_script", v)]) ∧
      ∀ base : Heap, K.In base → base.Ns mainGlobals mg → (∀ b o, h.get? b = some o → o.cls ≠ .none → o.cls ≠ .type "list" → base.get? b = some o) → FnOk l.prog w K mg base CX0 13 fa fd ["_law_script"] (spLawT T K) := by
  have G := TP.g
  have e := hfa.symm.trans (PySem.W.mg_of X G aLaw)
  cases e
  have T : Tx K mg := ⟨PySem.W.mg_none_of X G z0, PySem.W.mg_none_of X G z1, PySem.W.mg_none_of X G z2, PySem.W.mg_none_of X G z3, PySem.W.mg_none_of X G z4, PySem.W.mg_none_of X G z5, PySem.W.mg_none_of X G z6, PySem.W.mg_none_of X G z7, PySem.W.mg_none_of X G z8, ⟨tiWIDEST, PySem.W.mg_of X G aiWIDEST⟩, ib_of K⟩
  have W : Tw mg := ⟨PySem.W.mg_none_of X G z9, ⟨tiLAST_BIT, PySem.W.mg_of X G aiLAST_BIT⟩, ⟨tiLAST_STEP, PySem.W.mg_of X G aiLAST_STEP⟩, ⟨tiMOST_FAULTS, PySem.W.mg_of X G aiMOST_FAULTS⟩⟩
  have kk : KTp K ka ktV := ⟨_, _, _, lKinds, rfl, rfl, (by show 4 ≤ sizeLine; decide), .cons ⟨_, rfl⟩ (.cons ⟨_, rfl⟩ (.cons ⟨_, rfl⟩ (.cons ⟨_, rfl⟩ .nil))), rfl⟩
  have gt0 : KTp K g0 [.int 15, .int 0, .int 63] := ⟨_, _, _, lG0, rfl, rfl, (by show 3 ≤ sizeLine; decide), .cons ⟨_, rfl⟩ (.cons ⟨_, rfl⟩ (.cons ⟨_, rfl⟩ .nil)), rfl⟩
  have gt1 : KTp K g1 [.int 15, .int 0, .int 0] := ⟨_, _, _, lG1, rfl, rfl, (by show 3 ≤ sizeLine; decide), .cons ⟨_, rfl⟩ (.cons ⟨_, rfl⟩ (.cons ⟨_, rfl⟩ .nil)), rfl⟩
  have gt2 : KTp K g2 [.int 15, .int 16383, .int 63] := ⟨_, _, _, lG2, rfl, rfl, (by show 3 ≤ sizeLine; decide), .cons ⟨_, rfl⟩ (.cons ⟨_, rfl⟩ (.cons ⟨_, rfl⟩ .nil)), rfl⟩
  have gt3 : KTp K g3 [.int 0, .int 16383, .int 0] := ⟨_, _, _, lG3, rfl, rfl, (by show 3 ≤ sizeLine; decide), .cons ⟨_, rfl⟩ (.cons ⟨_, rfl⟩ (.cons ⟨_, rfl⟩ .nil)), rfl⟩
  subst eh0 eh1 eh2 eh3
  have kd : KDic l.prog w K ga (grK g0 g1 g2 g3) := ⟨(by show 4 ≤ sizeLine; decide), nGr, [(.inr "write", .ref g0), (.inr "trim", .ref g1), (.inr "member", .ref g2), (.inr "commit", .ref g3)], .cons ⟨rfl, rfl⟩ (.cons ⟨rfl, rfl⟩ (.cons ⟨rfl, rfl⟩ (.cons ⟨rfl, rfl⟩ .nil))), fun h hI => by
    refine ⟨_, _, _, hI _ _ lGr, ⟨rfl, rfl, rfl⟩, rfl, ?_, .cons (keyStr "write" u0) rfl (.cons (keyStr "trim" u1) rfl (.cons (keyStr "member" u2) rfl (.cons (keyStr "commit" u3) rfl .nil))), (show ([.inr "write", .inr "trim", .inr "member", .inr "commit"] : List Key).Nodup by decide +kernel)⟩
    intro e he
    simp only [List.mem_toArray, List.mem_cons, List.not_mem_nil, or_false] at he
    rcases he with rfl | rfl | rfl | rfl
    · exact ⟨.inr "write", keyStr "write" u0, rfl⟩
    · exact ⟨.inr "trim", keyStr "trim" u1, rfl⟩
    · exact ⟨.inr "member", keyStr "member" u2, rfl⟩
    · exact ⟨.inr "commit", keyStr "commit" u3, rfl⟩⟩
  have U : Tp l.prog w K mg := ⟨PySem.W.mg_none_of X G z9, PySem.W.mg_none_of X G z10, ⟨tiGREATEST_NUMBER, PySem.W.mg_of X G aiGREATEST_NUMBER⟩, ga, g0, g1, g2, g3, PySem.W.mg_of X G aGr, kd, gt0, gt1, gt2, gt3⟩
  have Uq : Tqp K mg := ⟨PySem.W.mg_none_of X G z12, ⟨tiWIDTH, PySem.W.mg_of X G aiWIDTH⟩, ⟨tiGREATEST_WORD, PySem.W.mg_of X G aiGREATEST_WORD⟩, ka, PySem.W.mg_of X G aKinds, kk⟩
  have qBK : ∀ H, Tq K H (.ref BK) blankD := fun H => .tup (xs := [.ref b1, .non, .non]) (.inr ⟨_, _, _, lBK, rfl, rfl, (by show 3 ≤ sizeLine; decide), .cons rfl (.cons rfl (.cons rfl .nil))⟩) (.cons (.tup (xs := [.str "blank"]) (.inr ⟨_, _, _, lBK1, rfl, rfl, (by show 1 ≤ sizeLine; decide), .cons ⟨_, rfl⟩ .nil⟩) (.cons (.str _) .nil)) (.cons .non (.cons .non .nil)))
  have qTK : ∀ H, Tq K H (.ref TK) tornD := fun H => .tup (xs := [.ref t1, .non, .non]) (.inr ⟨_, _, _, lTK, rfl, rfl, (by show 3 ≤ sizeLine; decide), .cons rfl (.cons rfl (.cons rfl .nil))⟩) (.cons (.tup (xs := [.str "torn"]) (.inr ⟨_, _, _, lTK1, rfl, rfl, (by show 1 ≤ sizeLine; decide), .cons ⟨_, rfl⟩ .nil⟩) (.cons (.str _) .nil)) (.cons .non (.cons .non .nil)))
  have F : Tf K mg C BK TK := ⟨⟨cpg, chd, cpo, csa⟩, nB, nP, nD, nC, nW, nF, nO, nS, PySem.W.mg_of X G aC, PySem.W.mg_of X G aBK, PySem.W.mg_of X G aTK, qBK, qTK⟩
  have FWhole := fun_mk (st := sWhole) lWhole cWhole kWhole
  have DWhole : Df K mg "is_whole" sWhole ["thing"] fWhole _ := ⟨FWhole, FWhole.binds (ps := ["thing"]) fun _ _ _ _ _ _ us hl => match us, hl with | [_], _ => rfl, PySem.W.mg_of X G aWhole⟩
  have FWithin := fun_mk (st := sWithin) lWithin cWithin kWithin
  have DWithin : Df K mg "is_within" sWithin ["thing", "low", "high"] fWithin _ := ⟨FWithin, FWithin.binds (ps := ["thing", "low", "high"]) fun _ _ _ _ _ _ us hl => match us, hl with | [_, _, _], _ => rfl, PySem.W.mg_of X G aWithin⟩
  have FLook := fun_mk (st := sLook) lLook cLook kLook
  have DLook : Df K mg "look_at_width" sLook ["width"] fLook _ := ⟨FLook, FLook.binds (ps := ["width"]) fun _ _ _ _ _ _ us hl => match us, hl with | [_], _ => rfl, PySem.W.mg_of X G aLook⟩
  have FLast := fun_mk (st := sLast) lLast cLast kLast
  have DLast : Df K mg "last_bit" sLast ["width"] fLast _ := ⟨FLast, FLast.binds (ps := ["width"]) fun _ _ _ _ _ _ us hl => match us, hl with | [_], _ => rfl, PySem.W.mg_of X G aLast⟩
  have FNumIn := fun_mk (st := sNumIn) lNumIn cNumIn kNumIn
  have DNumIn : Df K mg "number_in" sNumIn ["word"] fNumIn _ := ⟨FNumIn, FNumIn.binds (ps := ["word"]) fun _ _ _ _ _ _ us hl => match us, hl with | [_], _ => rfl, PySem.W.mg_of X G aNumIn⟩
  have FTog := fun_mk (st := sTog) lTog cTog kTog
  have DTog : Df K mg "together" sTog ["word"] fTog _ := ⟨FTog, FTog.binds (ps := ["word"]) fun _ _ _ _ _ _ us hl => match us, hl with | [_], _ => rfl, PySem.W.mg_of X G aTog⟩
  have FOdd := fun_mk (st := sOdd) lOdd cOdd kOdd
  have DOdd : Df K mg "is_odd" sOdd ["word"] fOdd _ := ⟨FOdd, FOdd.binds (ps := ["word"]) fun _ _ _ _ _ _ us hl => match us, hl with | [_], _ => rfl, PySem.W.mg_of X G aOdd⟩
  have FOpen := fun_mk (st := sOpen) lOpen cOpen kOpen
  have DOpen : Df K mg "opened" sOpen ["word", "width"] fOpen _ := ⟨FOpen, FOpen.binds (ps := ["word", "width"]) fun _ _ _ _ _ _ us hl => match us, hl with | [_, _], _ => rfl, PySem.W.mg_of X G aOpen⟩
  have FIsFields := fun_mk (st := sIsFields) lIsFields cIsFields kIsFields
  have DIsFields : Df K mg "is_fields" sIsFields ["thing"] fIsFields _ := ⟨FIsFields, FIsFields.binds (ps := ["thing"]) fun _ _ _ _ _ _ us hl => match us, hl with | [_], _ => rfl, PySem.W.mg_of X G aIsFields⟩
  have FIsWord := fun_mk (st := sIsWord) lIsWord cIsWord kIsWord
  have DIsWord : Df K mg "is_word" sIsWord ["thing"] fIsWord _ := ⟨FIsWord, FIsWord.binds (ps := ["thing"]) fun _ _ _ _ _ _ us hl => match us, hl with | [_], _ => rfl, PySem.W.mg_of X G aIsWord⟩
  have FPartsOf := fun_mk (st := sPartsOf) lPartsOf cPartsOf kPartsOf
  have DPartsOf : Df K mg "parts_of" sPartsOf ["number"] fPartsOf _ := ⟨FPartsOf, FPartsOf.binds (ps := ["number"]) fun _ _ _ _ _ _ us hl => match us, hl with | [_], _ => rfl, PySem.W.mg_of X G aPartsOf⟩
  have FNumberInWord := fun_mk (st := sNumberInWord) lNumberInWord cNumberInWord kNumberInWord
  have DNumberInWord : Df K mg "number_in_word" sNumberInWord ["word", "sealed"] fNumberInWord _ := ⟨FNumberInWord, FNumberInWord.binds (ps := ["word", "sealed"]) fun _ _ _ _ _ _ us hl => match us, hl with | [_, _], _ => rfl, PySem.W.mg_of X G aNumberInWord⟩
  have FIsFault := fun_mk (st := sIsFault) lIsFault cIsFault kIsFault
  have DIsFault : Df K mg "is_fault" sIsFault ["thing"] fIsFault _ := ⟨FIsFault, FIsFault.binds (ps := ["thing"]) fun _ _ _ _ _ _ us hl => match us, hl with | [_], _ => rfl, PySem.W.mg_of X G aIsFault⟩
  have FIsWeather := fun_mk (st := sIsWeather) lIsWeather cIsWeather kIsWeather
  have DIsWeather : Df K mg "is_weather" sIsWeather ["thing"] fIsWeather _ := ⟨FIsWeather, FIsWeather.binds (ps := ["thing"]) fun _ _ _ _ _ _ us hl => match us, hl with | [_], _ => rfl, PySem.W.mg_of X G aIsWeather⟩
  have FCelW := fun_mk (st := sCelW) lCelW cCelW kCelW
  have DCelW : Df K mg "cell_with" sCelW ["word"] fCelW _ := ⟨FCelW, FCelW.binds (ps := ["word"]) fun _ _ _ _ _ _ us hl => match us, hl with | [_], _ => rfl, PySem.W.mg_of X G aCelW⟩
  have FIsPlan := fun_mk (st := sIsPlan) lIsPlan cIsPlan kIsPlan
  have DIsPlan : Df K mg "is_plan" sIsPlan ["thing"] fIsPlan _ := ⟨FIsPlan, FIsPlan.binds (ps := ["thing"]) fun _ _ _ _ _ _ us hl => match us, hl with | [_], _ => rfl, PySem.W.mg_of X G aIsPlan⟩
  have FLookPlan := fun_mk (st := sLookPlan) lLookPlan cLookPlan kLookPlan
  have DLookPlan : Df K mg "look_at_plan" sLookPlan ["plan"] fLookPlan _ := ⟨FLookPlan, FLookPlan.binds (ps := ["plan"]) fun _ _ _ _ _ _ us hl => match us, hl with | [_], _ => rfl, PySem.W.mg_of X G aLookPlan⟩
  have FLookFlash := fun_mk (st := sLookFlash) lLookFlash cLookFlash kLookFlash
  have DLookFlash : Df K mg "look_at_flash" sLookFlash ["plan", "flash"] fLookFlash _ := ⟨FLookFlash, FLookFlash.binds (ps := ["plan", "flash"]) fun _ _ _ _ _ _ us hl => match us, hl with | [_, _], _ => rfl, PySem.W.mg_of X G aLookFlash⟩
  have FPagesRead := fun_mk (st := sPagesRead) lPagesRead cPagesRead kPagesRead
  have DPagesRead : Df K mg "pages_read" sPagesRead ["plan", "flash"] fPagesRead _ := ⟨FPagesRead, FPagesRead.binds (ps := ["plan", "flash"]) fun _ _ _ _ _ _ us hl => match us, hl with | [_, _], _ => rfl, PySem.W.mg_of X G aPagesRead⟩
  have FNewestOf := fun_mk (st := sNewestOf) lNewestOf cNewestOf kNewestOf
  have DNewestOf : Df K mg "newest_of" sNewestOf ["plan", "rows"] fNewestOf _ := ⟨FNewestOf, FNewestOf.binds (ps := ["plan", "rows"]) fun _ _ _ _ _ _ us hl => match us, hl with | [_, _], _ => rfl, PySem.W.mg_of X G aNewestOf⟩
  have FHeadOf := fun_mk (st := sHeadOf) lHeadOf cHeadOf kHeadOf
  have DHeadOf : Df K mg "head_of" sHeadOf ["flash"] fHeadOf _ := ⟨FHeadOf, FHeadOf.binds (ps := ["flash"]) fun _ _ _ _ _ _ us hl => match us, hl with | [_], _ => rfl, PySem.W.mg_of X G aHeadOf⟩
  have FBlankBlocks := fun_mk (st := sBlankBlocks) lBlankBlocks cBlankBlocks kBlankBlocks
  have DBlankBlocks : Df K mg "blank_blocks" sBlankBlocks ["flash"] fBlankBlocks _ := ⟨FBlankBlocks, FBlankBlocks.binds (ps := ["flash"]) fun _ _ _ _ _ _ us hl => match us, hl with | [_], _ => rfl, PySem.W.mg_of X G aBlankBlocks⟩
  have FTurn := fun_mk (st := sTurn) lTurn cTurn kTurn
  have DTurn : Df K mg "blocks_in_turn" sTurn ["flash"] fTurn _ := ⟨FTurn, FTurn.binds (ps := ["flash"]) fun _ _ _ _ _ _ us hl => match us, hl with | [_], _ => rfl, PySem.W.mg_of X G aTurn⟩
  have FFreeP := fun_mk (st := sFreeP) lFreeP cFreeP kFreeP
  have DFreeP : Df K mg "free_pages" sFreeP ["flash"] fFreeP _ := ⟨FFreeP, FFreeP.binds (ps := ["flash"]) fun _ _ _ _ _ _ us hl => match us, hl with | [_], _ => rfl, PySem.W.mg_of X G aFreeP⟩
  have FLivingPages := fun_mk (st := sLivingPages) lLivingPages cLivingPages kLivingPages
  have DLivingPages : Df K mg "living_pages" sLivingPages ["plan", "flash"] fLivingPages _ := ⟨FLivingPages, FLivingPages.binds (ps := ["plan", "flash"]) fun _ _ _ _ _ _ us hl => match us, hl with | [_, _], _ => rfl, PySem.W.mg_of X G aLivingPages⟩
  have FFailedWN := fun_mk (st := sFailedWN) lFailedWN cFailedWN kFailedWN
  have DFailedWN : Df K mg "failed_with_newest" sFailedWN ["flash", "living"] fFailedWN _ := ⟨FFailedWN, FFailedWN.binds (ps := ["flash", "living"]) fun _ _ _ _ _ _ us hl => match us, hl with | [_, _], _ => rfl, PySem.W.mg_of X G aFailedWN⟩
  have FWorn := fun_mk (st := sWorn) lWorn cWorn kWorn
  have DWorn : Df K mg "worn" sWorn ["flash"] fWorn _ := ⟨FWorn, FWorn.binds (ps := ["flash"]) fun _ _ _ _ _ _ us hl => match us, hl with | [_], _ => rfl, PySem.W.mg_of X G aWorn⟩
  have FLiving := fun_mk (st := sLiving) lLiving cLiving kLiving
  have DLiving : Df K mg "living" sLiving ["plan", "flash"] fLiving _ := ⟨FLiving, FLiving.binds (ps := ["plan", "flash"]) fun _ _ _ _ _ _ us hl => match us, hl with | [_, _], _ => rfl, PySem.W.mg_of X G aLiving⟩
  have FHasRoom := fun_mk (st := sHasRoom) lHasRoom cHasRoom kHasRoom
  have DHasRoom : Df K mg "has_room" sHasRoom ["plan", "flash", "many"] fHasRoom _ := ⟨FHasRoom, FHasRoom.binds (ps := ["plan", "flash", "many"]) fun _ _ _ _ _ _ us hl => match us, hl with | [_, _, _], _ => rfl, PySem.W.mg_of X G aHasRoom⟩
  have FRoomP := fun_mk (st := sRoomP) lRoomP cRoomP kRoomP
  have DRoomP : Df K mg "room" sRoomP ["plan", "flash", "many"] fRoomP _ := ⟨FRoomP, FRoomP.binds (ps := ["plan", "flash", "many"]) fun _ _ _ _ _ _ us hl => match us, hl with | [_, _, _], _ => rfl, PySem.W.mg_of X G aRoomP⟩
  have FCell := fun_mk (st := sCell) lCell cCell kCell
  have DCell : Df K mg "_law_cell_at" sCell ["_law_script", "_law_k"] fCell _ := ⟨FCell, FCell.binds (ps := ["_law_script", "_law_k"]) fun _ _ _ _ _ _ us hl => match us, hl with | [_, _], _ => rfl, PySem.W.mg_of X G aCell⟩
  have FState := fun_mk (st := sState) lState cState kState
  have DState : Df K mg "_law_state" sState ["_law_script", "_law_k"] fState _ := ⟨FState, FState.binds (ps := ["_law_script", "_law_k"]) fun _ _ _ _ _ _ us hl => match us, hl with | [_, _], _ => rfl, PySem.W.mg_of X G aState⟩
  have FChoice := fun_mk (st := sChoice) lChoice cChoice kChoice
  have DChoice : Df K mg "_law_choice" sChoice ["_law_state_here", "_law_many"] fChoice _ := ⟨FChoice, FChoice.binds (ps := ["_law_state_here", "_law_many"]) fun _ _ _ _ _ _ us hl => match us, hl with | [_, _], _ => rfl, PySem.W.mg_of X G aChoice⟩
  have FPlanL := fun_mk (st := sPlan) lPlanL cPlanL kPlanL
  have DPlanL : Df K mg "_law_plan" sPlan ["_law_state_here"] fPlanL _ := ⟨FPlanL, FPlanL.binds (ps := ["_law_state_here"]) fun _ _ _ _ _ _ us hl => match us, hl with | [_], _ => rfl, PySem.W.mg_of X G aPlanL⟩
  have FOddL := fun_mk (st := sOddL) lOddL cOddL kOddL
  have DOddL : Df K mg "_law_odd" sOddL ["_law_state_here"] fOddL _ := ⟨FOddL, FOddL.binds (ps := ["_law_state_here"]) fun _ _ _ _ _ _ us hl => match us, hl with | [_], _ => rfl, PySem.W.mg_of X G aOddL⟩
  have FMarks := fun_mk (st := sMarks) lMarks cMarks kMarks
  have DMarks : Df K mg "_law_marks" sMarks ["_law_e"] fMarks _ := ⟨FMarks, FMarks.binds (ps := ["_law_e"]) fun _ _ _ _ _ _ us hl => match us, hl with | [_], _ => rfl, PySem.W.mg_of X G aMarks⟩
  have FSaid := fun_mk (st := sSaid) lSaid cSaid kSaid
  have DSaid : Df K mg "_law_said" sSaid ["_law_call"] fSaid _ := ⟨FSaid, FSaid.binds (ps := ["_law_call"]) fun _ _ _ _ _ _ us hl => match us, hl with | [_], _ => rfl, PySem.W.mg_of X G aSaid⟩
  have FNoPlans := fun_mk (st := sNoPlans) lNoPlans cNoPlans kNoPlans
  have DNoPlans : Df K mg "_law_no_plans" sNoPlans ["_law_plan_here"] fNoPlans _ := ⟨FNoPlans, FNoPlans.binds (ps := ["_law_plan_here"]) fun _ _ _ _ _ _ us hl => match us, hl with | [_], _ => rfl, PySem.W.mg_of X G aNoPlans⟩
  have FLaw := fun_mk (st := sLaw) lLaw cLaw kLaw
  have DLaw : Df K mg "law" sLaw ["_law_script"] fa _ := ⟨FLaw, FLaw.binds (ps := ["_law_script"]) fun _ _ _ _ _ _ us hl => match us, hl with | [_], _ => rfl, PySem.W.mg_of X G aLaw⟩
  have FFieldsIn : FunD K "fields_in" "fields_in" sFieldsIn fFieldsIn _ [.bool true] := ⟨⟨_, _, tdFieldsIn, _, _, _, _, _, _, _, _, _, rfl, lFieldsIn, cFieldsIn, tFieldsIn, rfl⟩, kFieldsIn⟩
  have DFieldsIn : Dd K mg "fields_in" ["word", "sealed"] fFieldsIn _ := dd_mk FFieldsIn (FFieldsIn.binds (ps := ["word", "sealed"]) (es := []) fun _ _ _ _ _ _ _ us hl => match us, hl with | [_, _], _ => ⟨_, rfl, rfl⟩) (FFieldsIn.binds (ps := ["word", "sealed"]) (es := [.bool true]) fun _ _ _ _ _ _ _ us hl => match us, (show us.length = 1 by simpa using hl) with | [_], _ => ⟨_, rfl, rfl⟩) (PySem.W.mg_of X G aFieldsIn)
  have FIni : FunD K "__init__" "Flash.__init__" (sMeth 0) fIni _ [.ref e0Ini] := ⟨⟨_, _, tdIni, _, _, _, _, _, _, _, _, _, rfl, lIni, cIni, tIni, rfl⟩, kIni⟩
  have bIni := FIni.binds (ps := ["self", "blocks", "pages", "weather"]) (es := []) fun _ _ _ _ _ _ _ us hl => match us, hl with | [_, _, _, _], _ => ⟨_, rfl, rfl⟩
  have MIni : Mk K C fIni := ⟨cmk, aIni, iIni, ckc⟩
  have FBlk := fun_mk (st := sMeth 1) lBlk cBlk kBlk
  have MBlk : Mf K C "look_at_block" "Flash.look_at_block" (sMeth 1) ["self", "block"] fBlk _ := ⟨FBlk, FBlk.binds (ps := ["self", "block"]) fun _ _ _ _ _ _ us hl => match us, hl with | [_, _], _ => rfl, aBlk, iBlk, kBlk⟩
  have FWps := fun_mk (st := sMeth 13) lWps cWps kWps
  have MWps : Mf K C "wipes" "Flash.wipes" (sMeth 13) ["self", "block"] fWps _ := ⟨FWps, FWps.binds (ps := ["self", "block"]) fun _ _ _ _ _ _ us hl => match us, hl with | [_, _], _ => rfl, aWps, iWps, kWps⟩
  have FBad := fun_mk (st := sMeth 14) lBad cBad kBad
  have MBad : Mf K C "is_bad" "Flash.is_bad" (sMeth 14) ["self", "block"] fBad _ := ⟨FBad, FBad.binds (ps := ["self", "block"]) fun _ _ _ _ _ _ us hl => match us, hl with | [_, _], _ => rfl, aBad, iBad, kBad⟩
  have FBls := fun_mk (st := sMeth 17) lBls cBls kBls
  have MBls : Mf K C "blocks" "Flash.blocks" (sMeth 17) ["self"] fBls _ := ⟨FBls, FBls.binds (ps := ["self"]) fun _ _ _ _ _ _ us hl => match us, hl with | [_], _ => rfl, aBls, iBls, kBls⟩
  have FPgs := fun_mk (st := sMeth 18) lPgs cPgs kPgs
  have MPgs : Mf K C "pages" "Flash.pages" (sMeth 18) ["self"] fPgs _ := ⟨FPgs, FPgs.binds (ps := ["self"]) fun _ _ _ _ _ _ us hl => match us, hl with | [_], _ => rfl, aPgs, iPgs, kPgs⟩
  have FFbl := fun_mk (st := sMeth 19) lFbl cFbl kFbl
  have MFbl : Mf K C "first_blank" "Flash.first_blank" (sMeth 19) ["self", "block"] fFbl _ := ⟨FFbl, FFbl.binds (ps := ["self", "block"]) fun _ _ _ _ _ _ us hl => match us, hl with | [_, _], _ => rfl, aFbl, iFbl, kFbl⟩
  have FFnd := fun_mk (st := sMeth 20) lFnd cFnd kFnd
  have MFnd : Mf K C "found" "Flash.found" (sMeth 20) ["self", "block", "page", "sealed"] fFnd _ := ⟨FFnd, FFnd.binds (ps := ["self", "block", "page", "sealed"]) fun _ _ _ _ _ _ us hl => match us, hl with | [_, _, _, _], _ => rfl, aFnd, iFnd, kFnd⟩
  have XNoBlock : EC K mg "NoBlock" xNoBlock := ⟨PySem.W.mg_of X G xaNoBlock, xeNoBlock⟩
  have XNoNumber : EC K mg "NoNumber" xNoNumber := ⟨PySem.W.mg_of X G xaNoNumber, xeNoNumber⟩
  have XNoWeather : EC K mg "NoWeather" xNoWeather := ⟨PySem.W.mg_of X G xaNoWeather, xeNoWeather⟩
  have KE := ke22_of e1 e2
  have nm : ∀ i x, names22[i]? = some x → mg x = some (.ref (([x0, x1, x2, x3, x4, x5, x6, x7, x8, x9, x10, x11, x12, x13, x14, x15, x16, x17, x18, x19, x20, x21] : List Addr).getD i 0)) := fun i x hx => by
    match i, hx with
    | 0, hx => cases hx; exact PySem.W.mg_of X G n0
    | 1, hx => cases hx; exact PySem.W.mg_of X G n1
    | 2, hx => cases hx; exact PySem.W.mg_of X G n2
    | 3, hx => cases hx; exact PySem.W.mg_of X G n3
    | 4, hx => cases hx; exact PySem.W.mg_of X G n4
    | 5, hx => cases hx; exact PySem.W.mg_of X G n5
    | 6, hx => cases hx; exact PySem.W.mg_of X G n6
    | 7, hx => cases hx; exact PySem.W.mg_of X G n7
    | 8, hx => cases hx; exact PySem.W.mg_of X G n8
    | 9, hx => cases hx; exact PySem.W.mg_of X G n9
    | 10, hx => cases hx; exact PySem.W.mg_of X G n10
    | 11, hx => cases hx; exact PySem.W.mg_of X G n11
    | 12, hx => cases hx; exact PySem.W.mg_of X G n12
    | 13, hx => cases hx; exact PySem.W.mg_of X G n13
    | 14, hx => cases hx; exact PySem.W.mg_of X G n14
    | 15, hx => cases hx; exact PySem.W.mg_of X G n15
    | 16, hx => cases hx; exact PySem.W.mg_of X G n16
    | 17, hx => cases hx; exact PySem.W.mg_of X G n17
    | 18, hx => cases hx; exact PySem.W.mg_of X G n18
    | 19, hx => cases hx; exact PySem.W.mg_of X G n19
    | 20, hx => cases hx; exact PySem.W.mg_of X G n20
    | 21, hx => cases hx; exact PySem.W.mg_of X G n21
    | m + 22, hx => cases hx
  have M22 : Mk22 K mg (fun i => ([x0, x1, x2, x3, x4, x5, x6, x7, x8, x9, x10, x11, x12, x13, x14, x15, x16, x17, x18, x19, x20, x21] : List Addr).getD i 0) := ⟨nm, KE.k, KE.x, KE.v⟩
  have hFE := PySem.W.mg_of X G nFE
  have tLa := PySem.W.tab_of TP X hrLa (tab_mk aLaw lLaw hcLa l2La hvLa)
  refine ⟨(fun b => if b = PLa then some ("law.<locals>.<lambda>" : Str) else none : TbM), PySem.W.fnOf "law" "law" (defArgs sLaw) (defBody sLaw) (defScope sLaw) .none kVLaw dcLaw pmLaw anLaw cdLaw ctLaw, fun b y hb => ?_, e3, fun s v => .of_eq rfl, fun base _ _ kk => ?_⟩
  · by_cases h0 : b = PLa
    · subst h0; exact ⟨tLa.2, (tLa.1.tab tLa.2).isCodeTable⟩
    have z0z := (if_neg h0).symm.trans hb
    cases z0z
  · have BLa := tabB_of TP tLa.1 tLa.2 kk
    have GE : FnOk l.prog w K mg base CX0 4 fIsWeather _ ["thing"] (spIsWeather K) := okIsWeather DIsWeather DIsFault DWithin DWhole T W
    have GI := okIni (P := l.prog) (w := w) (base := base) FIni F XNoNumber XNoWeather DWithin DWhole DIsWeather GE T ⟨tiMOST, PySem.W.mg_of X G aiMOST⟩
    have GB := okBlk (P := l.prog) (w := w) (base := base) FBlk F XNoBlock DWithin DWhole T
    have O : To K C := ⟨oha, ohn, oht, ohm, oks⟩
    have GLp := okLookPlan (P := l.prog) (w := w) (base := base) DLookPlan DIsPlan (okIsPlan DIsPlan DWithin DWhole T (PySem.W.mg_none_of X G z9) ⟨tiMOST_PLACES, PySem.W.mg_of X G aiMOST_PLACES⟩)
    have GLf := okLookFlash DLookFlash DLookPlan GLp T F O MBls MPgs
    have GPr := okPgR (P := l.prog) (w := w) (base := base) DPagesRead T F MFnd
    have GNo := okNwO (P := l.prog) (w := w) (base := base) DNewestOf (PySem.W.mg_none_of X G z9)
    have GXb := okBad FBad F MBlk GB
    have bIniD := FIni.binds (ps := ["self", "blocks", "pages", "weather"]) (es := [.ref e0Ini]) fun _ _ _ _ _ _ _ us hl => match us, (show us.length = 3 by simpa using hl) with | [_, _, _], _ => ⟨_, rfl, rfl⟩
    have sE : ∀ H, SqT K H e0Ini [] := fun H => .inr ⟨_, _, _, lE0, rfl, rfl, (by show 0 ≤ sizeLine; decide), .nil⟩
    have GHd := okHead DHeadOf T F MBls MPgs MFbl MBad GXb
    have GWp := okWps FWps F MBlk GB
    have Bw : Bm K fWps := ⟨bmg, bmt⟩
    have GLv := okLvP DLivingPages DNewestOf GNo DPagesRead GPr (PySem.W.mg_none_of X G z9)
    have GFw := okFwn DFailedWN T F MBls MBad GXb
    have GBk := okBlank DBlankBlocks T (PySem.W.mg_none_of X G z13) F MBls MFbl MBad GXb MWps GWp Bw
    have GTn := okTurn DTurn DHeadOf GHd T (PySem.W.mg_none_of X G z13) F MBls MFbl MBad GXb MWps GWp Bw
    have GFr := okFre DFreeP DHeadOf GHd DBlankBlocks GBk T F MPgs
    have GLi := okLiv DLiving DLookFlash GLf DLivingPages GLv
    have GHr := okHasR DHasRoom DLivingPages GLv DFreeP GFr DFailedWN GFw DTurn GTn
    have GRm := okRoomP DRoomP DLookFlash GLf DWithin DWhole T ⟨tiMOST_PAGES, PySem.W.mg_of X G aiMOST_PAGES⟩ DHasRoom GHr
    have GV := okWorn DWorn T F O MBls MBad GXb MWps GWp
    have XNoPlan' : EC K mg "NoPlan" ((fun i => ([x0, x1, x2, x3, x4, x5, x6, x7, x8, x9, x10, x11, x12, x13, x14, x15, x16, x17, x18, x19, x20, x21] : List Addr).getD i 0) 7) := ⟨PySem.W.mg_of X G n7, KE.e 7 (by decide)⟩
    have XNoFlash' : EC K mg "NoFlash" ((fun i => ([x0, x1, x2, x3, x4, x5, x6, x7, x8, x9, x10, x11, x12, x13, x14, x15, x16, x17, x18, x19, x20, x21] : List Addr).getD i 0) 8) := ⟨PySem.W.mg_of X G n8, KE.e 8 (by decide)⟩
    have GLx := okLookPlanX (P := l.prog) (w := w) (base := base) DLookPlan DIsPlan (okIsPlan DIsPlan DWithin DWhole T (PySem.W.mg_none_of X G z9) ⟨tiMOST_PLACES, PySem.W.mg_of X G aiMOST_PLACES⟩) XNoPlan'
    have GLn := okLookFlashN DLookFlash DLookPlan GLx T F O MBls MPgs XNoFlash'
    have XNoNumber' : EC K mg "NoNumber" ((fun i => ([x0, x1, x2, x3, x4, x5, x6, x7, x8, x9, x10, x11, x12, x13, x14, x15, x16, x17, x18, x19, x20, x21] : List Addr).getD i 0) 1) := ⟨PySem.W.mg_of X G n1, KE.e 1 (by decide)⟩
    have GW : FnOk l.prog w K mg base (CXF l.prog w) 10 fWorn _ ["flash"] (oWn K C (fun i => ([x0, x1, x2, x3, x4, x5, x6, x7, x8, x9, x10, x11, x12, x13, x14, x15, x16, x17, x18, x19, x20, x21] : List Addr).getD i 0)) := (GV.cx.mono (by decide)).or ((okWornN DWorn T F XNoFlash').mono (by decide))
    have GL : FnOk l.prog w K mg base (CXF l.prog w) 10 fLiving _ ["plan", "flash"] (oLv K C (fun i => ([x0, x1, x2, x3, x4, x5, x6, x7, x8, x9, x10, x11, x12, x13, x14, x15, x16, x17, x18, x19, x20, x21] : List Addr).getD i 0)) := (GLi.cx.mono (by decide)).or ((okLivN DLiving DLookFlash GLn).mono (by decide))
    have GR : FnOk l.prog w K mg base (CXF l.prog w) 10 fRoomP _ ["plan", "flash", "many"] (oRm K C (fun i => ([x0, x1, x2, x3, x4, x5, x6, x7, x8, x9, x10, x11, x12, x13, x14, x15, x16, x17, x18, x19, x20, x21] : List Addr).getD i 0)) := (GRm.cx.mono (by decide)).or (((okRoomN DRoomP DLookFlash GLn).mono (by decide)).or ((okRoomM DRoomP DLookFlash GLf DWithin DWhole T ⟨tiMOST_PAGES, PySem.W.mg_of X G aiMOST_PAGES⟩ XNoNumber').mono (by decide)))
    have GD : FnOkS l.prog w K mg base CX0 12 fSaid _ ["_law_call"] (spCl l.prog w K mg base 11 (RSaid K (fun i => ([x0, x1, x2, x3, x4, x5, x6, x7, x8, x9, x10, x11, x12, x13, x14, x15, x16, x17, x18, x19, x20, x21] : List Addr).getD i 0))) := okSaid (j := 10) DSaid T (PySem.W.mg_none_of X G z14) hFE KE.m M22 DMarks
    have hbd : ∀ (s : Shared) (u : Value), BindsTo s (PySem.W.fnOf "_law_said" "_law_said" (defArgs sSaid) (defBody sSaid) (defScope sSaid) .none kVSaid dcSaid pmSaid anSaid cdSaid ctSaid) ⟨[u], []⟩ [("_law_call", u)] := fun s u => .of_eq rfl
    exact okLaw (kl := 10) (by decide) DLaw hcLa (if_pos rfl) BLa DState DCell DChoice DPlanL DOddL DNoPlans DSaid GD hbd DWorn GW DLiving GL DRoomP GR MIni GI bIniD sE (fun t ht => beq_iff_eq.mp (List.all_eq_true.mp kF7 t ht)) (noInst kF7) T F (PySem.W.mg_none_of X G z11)
end My
open PySem PySem.W PyProof.Rows
set_option maxRecDepth 100000 in
set_option maxHeartbeats 0 in
theorem PySem.Challenge.cw_flashkeep_k32_wear_refused_holds : PySem.Challenge.rw_flashkeep_k32_wear_refused.Holds := by
  w_on; o_law; k_head; (case hw => w_witness2)
  k_fill
  refine L2.walk_ofT (l := PySem.Challenge.rw_flashkeep_k32_wear_refused) (n := 63) (k := 13) (x := "_law_script") (sp := My.spLawT) rfl (by decide) rfl ⟨rfl, by decide, by decide, rfl⟩ (fun w h Y => PySem.W.km_in_of Y) ?F (fun T K H a ns hl hO hS => ⟨a, ns, rfl, hS, hl, hO, fun _ => rfl⟩)
  case F =>
    intro w s₀ mg mb fa h KX TP hmg
    refine' My.all_mk KX TP hmg ?aWhole ?lWhole ?cWhole ?kWhole ?aWithin ?lWithin ?cWithin ?kWithin ?aLook ?lLook ?cLook ?kLook ?aLast ?lLast ?cLast ?kLast ?aNumIn ?lNumIn ?cNumIn ?kNumIn ?aTog ?lTog ?cTog ?kTog ?aOdd ?lOdd ?cOdd ?kOdd ?aOpen ?lOpen ?cOpen ?kOpen ?aIsFields ?lIsFields ?cIsFields ?kIsFields ?aIsWord ?lIsWord ?cIsWord ?kIsWord ?aPartsOf ?lPartsOf ?cPartsOf ?kPartsOf ?aNumberInWord ?lNumberInWord ?cNumberInWord ?kNumberInWord ?aIsFault ?lIsFault ?cIsFault ?kIsFault ?aIsWeather ?lIsWeather ?cIsWeather ?kIsWeather ?aCelW ?lCelW ?cCelW ?kCelW ?aIsPlan ?lIsPlan ?cIsPlan ?kIsPlan ?aLookPlan ?lLookPlan ?cLookPlan ?kLookPlan ?aLookFlash ?lLookFlash ?cLookFlash ?kLookFlash ?aPagesRead ?lPagesRead ?cPagesRead ?kPagesRead ?aNewestOf ?lNewestOf ?cNewestOf ?kNewestOf ?aHeadOf ?lHeadOf ?cHeadOf ?kHeadOf ?aBlankBlocks ?lBlankBlocks ?cBlankBlocks ?kBlankBlocks ?aTurn ?lTurn ?cTurn ?kTurn ?aFreeP ?lFreeP ?cFreeP ?kFreeP ?aLivingPages ?lLivingPages ?cLivingPages ?kLivingPages ?aFailedWN ?lFailedWN ?cFailedWN ?kFailedWN ?aWorn ?lWorn ?cWorn ?kWorn ?aLiving ?lLiving ?cLiving ?kLiving ?aHasRoom ?lHasRoom ?cHasRoom ?kHasRoom ?aRoomP ?lRoomP ?cRoomP ?kRoomP ?aCell ?lCell ?cCell ?kCell ?aState ?lState ?cState ?kState ?aChoice ?lChoice ?cChoice ?kChoice ?aPlanL ?lPlanL ?cPlanL ?kPlanL ?aOddL ?lOddL ?cOddL ?kOddL ?aMarks ?lMarks ?cMarks ?kMarks ?aSaid ?lSaid ?cSaid ?kSaid ?aNoPlans ?lNoPlans ?cNoPlans ?kNoPlans ?aLaw ?lLaw ?cLaw ?kLaw ?aFieldsIn ?lFieldsIn ?cFieldsIn ?kFieldsIn ?tFieldsIn ?aC ?aIni ?iIni ?lIni ?cIni ?kIni ?tIni ?aBlk ?iBlk ?lBlk ?cBlk ?kBlk ?aWps ?iWps ?lWps ?cWps ?kWps ?aBad ?iBad ?lBad ?cBad ?kBad ?aBls ?iBls ?lBls ?cBls ?kBls ?aPgs ?iPgs ?lPgs ?cPgs ?kPgs ?aFbl ?iFbl ?lFbl ?cFbl ?kFbl ?aFnd ?iFnd ?lFnd ?cFnd ?kFnd ?cpg ?chd ?cpo ?csa ?cmk ?ckc ?nB ?nP ?nD ?nC ?nW ?nF ?nO ?nS ?aBK ?lBK ?lBK1 ?aTK ?lTK ?lTK1 ?z0 ?z1 ?z2 ?z3 ?z4 ?z5 ?z6 ?z7 ?z8 ?z9 ?z10 ?z11 ?z12 ?z13 ?z14 ?aiWIDEST ?aiWIDTH ?aiGREATEST_NUMBER ?aiGREATEST_WORD ?aiMOST ?aiMOST_FAULTS ?aiLAST_STEP ?aiLAST_BIT ?aiMOST_PLACES ?aiMOST_PAGES ?xaNoBlock ?xeNoBlock ?xaNoNumber ?xeNoNumber ?xaNoWeather ?xeNoWeather ?aKinds ?lKinds ?aGr ?nGr ?lGr ?eh0 ?eh1 ?eh2 ?eh3 ?lG0 ?lG1 ?lG2 ?lG3 ?oha ?ohn ?oht ?ohm ?oks ?lE0 ?bmg ?bmt ?kF7 ?n0 ?n1 ?n2 ?n3 ?n4 ?n5 ?n6 ?n7 ?n8 ?n9 ?n10 ?n11 ?n12 ?n13 ?n14 ?n15 ?n16 ?n17 ?n18 ?n19 ?n20 ?n21 ?nFE ?e1 ?e2 ?e3 ?hcLa ?l2La ?hvLa ?hrLa
    (case aWhole => k_is); (case lWhole => k_is); (case cWhole => k_is); (case kWhole => k_is); (case aWithin => k_is); (case lWithin => k_is)
    (case cWithin => k_is); (case kWithin => k_is); (case aLook => k_is); (case lLook => k_is); (case cLook => k_is); (case kLook => k_is)
    (case aLast => k_is); (case lLast => k_is); (case cLast => k_is); (case kLast => k_is); (case aNumIn => k_is); (case lNumIn => k_is)
    (case cNumIn => k_is); (case kNumIn => k_is); (case aTog => k_is); (case lTog => k_is); (case cTog => k_is); (case kTog => k_is)
    (case aOdd => k_is); (case lOdd => k_is); (case cOdd => k_is); (case kOdd => k_is); (case aOpen => k_is); (case lOpen => k_is)
    (case cOpen => k_is); (case kOpen => k_is); (case aIsFields => k_is); (case lIsFields => k_is); (case cIsFields => k_is); (case kIsFields => k_is)
    (case aIsWord => k_is); (case lIsWord => k_is); (case cIsWord => k_is); (case kIsWord => k_is); (case aPartsOf => k_is); (case lPartsOf => k_is)
    (case cPartsOf => k_is); (case kPartsOf => k_is); (case aNumberInWord => k_is); (case lNumberInWord => k_is); (case cNumberInWord => k_is); (case kNumberInWord => k_is)
    (case aIsFault => k_is); (case lIsFault => k_is); (case cIsFault => k_is); (case kIsFault => k_is); (case aIsWeather => k_is); (case lIsWeather => k_is)
    (case cIsWeather => k_is); (case kIsWeather => k_is); (case aCelW => k_is); (case lCelW => k_is); (case cCelW => k_is); (case kCelW => k_is)
    (case aIsPlan => k_is); (case lIsPlan => k_is); (case cIsPlan => k_is); (case kIsPlan => k_is); (case aLookPlan => k_is); (case lLookPlan => k_is)
    (case cLookPlan => k_is); (case kLookPlan => k_is); (case aLookFlash => k_is); (case lLookFlash => k_is); (case cLookFlash => k_is); (case kLookFlash => k_is)
    (case aPagesRead => k_is); (case lPagesRead => k_is); (case cPagesRead => k_is); (case kPagesRead => k_is); (case aNewestOf => k_is); (case lNewestOf => k_is)
    (case cNewestOf => k_is); (case kNewestOf => k_is); (case aHeadOf => k_is); (case lHeadOf => k_is); (case cHeadOf => k_is); (case kHeadOf => k_is)
    (case aBlankBlocks => k_is); (case lBlankBlocks => k_is); (case cBlankBlocks => k_is); (case kBlankBlocks => k_is); (case aTurn => k_is); (case lTurn => k_is)
    (case cTurn => k_is); (case kTurn => k_is); (case aFreeP => k_is); (case lFreeP => k_is); (case cFreeP => k_is); (case kFreeP => k_is)
    (case aLivingPages => k_is); (case lLivingPages => k_is); (case cLivingPages => k_is); (case kLivingPages => k_is); (case aFailedWN => k_is); (case lFailedWN => k_is)
    (case cFailedWN => k_is); (case kFailedWN => k_is); (case aWorn => k_is); (case lWorn => k_is); (case cWorn => k_is); (case kWorn => k_is)
    (case aLiving => k_is); (case lLiving => k_is); (case cLiving => k_is); (case kLiving => k_is); (case aHasRoom => k_is); (case lHasRoom => k_is)
    (case cHasRoom => k_is); (case kHasRoom => k_is); (case aRoomP => k_is); (case lRoomP => k_is); (case cRoomP => k_is); (case kRoomP => k_is)
    (case aCell => k_is); (case lCell => k_is); (case cCell => k_is); (case kCell => k_is); (case aState => k_is); (case lState => k_is)
    (case cState => k_is); (case kState => k_is); (case aChoice => k_is); (case lChoice => k_is); (case cChoice => k_is); (case kChoice => k_is)
    (case aPlanL => k_is); (case lPlanL => k_is); (case cPlanL => k_is); (case kPlanL => k_is); (case aOddL => k_is); (case lOddL => k_is)
    (case cOddL => k_is); (case kOddL => k_is); (case aMarks => k_is); (case lMarks => k_is); (case cMarks => k_is); (case kMarks => k_is)
    (case aSaid => k_is); (case lSaid => k_is); (case cSaid => k_is); (case kSaid => k_is); (case aNoPlans => k_is); (case lNoPlans => k_is)
    (case cNoPlans => k_is); (case kNoPlans => k_is); (case aLaw => k_is); (case lLaw => k_is); (case cLaw => k_is); (case kLaw => k_is)
    (case aFieldsIn => k_is); (case lFieldsIn => k_is); (case cFieldsIn => k_is); (case kFieldsIn => k_is); (case tFieldsIn => k_is); (case aC => k_is)
    (case aIni => k_is); (case iIni => k_is); (case lIni => k_is); (case cIni => k_is); (case kIni => k_is); (case tIni => k_is)
    (case aBlk => k_is); (case iBlk => k_is); (case lBlk => k_is); (case cBlk => k_is); (case kBlk => k_is); (case aWps => k_is)
    (case iWps => k_is); (case lWps => k_is); (case cWps => k_is); (case kWps => k_is); (case aBad => k_is); (case iBad => k_is)
    (case lBad => k_is); (case cBad => k_is); (case kBad => k_is); (case aBls => k_is); (case iBls => k_is); (case lBls => k_is)
    (case cBls => k_is); (case kBls => k_is); (case aPgs => k_is); (case iPgs => k_is); (case lPgs => k_is); (case cPgs => k_is)
    (case kPgs => k_is); (case aFbl => k_is); (case iFbl => k_is); (case lFbl => k_is); (case cFbl => k_is); (case kFbl => k_is)
    (case aFnd => k_is); (case iFnd => k_is); (case lFnd => k_is); (case cFnd => k_is); (case kFnd => k_is); (case cpg => k_is)
    (case chd => k_is); (case cpo => k_is); (case csa => k_is); (case cmk => k_is); (case ckc => k_is); (case nB => k_is)
    (case nP => k_is); (case nD => k_is); (case nC => k_is); (case nW => k_is); (case nF => k_is); (case nO => k_is)
    (case nS => k_is); (case aBK => k_is); (case lBK => k_is); (case lBK1 => k_is); (case aTK => k_is); (case lTK => k_is)
    (case lTK1 => k_is); (case z0 => k_is); (case z1 => k_is); (case z2 => k_is); (case z3 => k_is); (case z4 => k_is)
    (case z5 => k_is); (case z6 => k_is); (case z7 => k_is); (case z8 => k_is); (case z9 => k_is); (case z10 => k_is)
    (case z11 => k_is); (case z12 => k_is); (case z13 => k_is); (case z14 => k_is); (case aiWIDEST => k_is); (case aiWIDTH => k_is)
    (case aiGREATEST_NUMBER => k_is); (case aiGREATEST_WORD => k_is); (case aiMOST => k_is); (case aiMOST_FAULTS => k_is); (case aiLAST_STEP => k_is); (case aiLAST_BIT => k_is)
    (case aiMOST_PLACES => k_is); (case aiMOST_PAGES => k_is); (case xaNoBlock => k_is); (case xeNoBlock => kernel_rfl); (case xaNoNumber => k_is); (case xeNoNumber => kernel_rfl)
    (case xaNoWeather => k_is); (case xeNoWeather => kernel_rfl); (case aKinds => k_is); (case lKinds => k_is); (case aGr => k_is); (case nGr => rfl)
    (case lGr => k_is); (case eh0 => rfl); (case eh1 => rfl); (case eh2 => rfl); (case eh3 => rfl); (case lG0 => k_is)
    (case lG1 => k_is); (case lG2 => k_is); (case lG3 => k_is); (case oha => first | kernel_rfl | k_is); (case ohn => first | kernel_rfl | k_is); (case oht => first | kernel_rfl | k_is)
    (case ohm => first | kernel_rfl | k_is); (case oks => first | kernel_rfl | k_is); (case lE0 => k_is); (case bmg => first | k_is | kernel_rfl); (case bmt => first | k_is | kernel_rfl); (case kF7 => kernel_rfl)
    (case n0 => k_is); (case n1 => k_is); (case n2 => k_is); (case n3 => k_is); (case n4 => k_is); (case n5 => k_is)
    (case n6 => k_is); (case n7 => k_is); (case n8 => k_is); (case n9 => k_is); (case n10 => k_is); (case n11 => k_is)
    (case n12 => k_is); (case n13 => k_is); (case n14 => k_is); (case n15 => k_is); (case n16 => k_is); (case n17 => k_is)
    (case n18 => k_is); (case n19 => k_is); (case n20 => k_is); (case n21 => k_is); (case nFE => k_is); (case e1 => kernel_rfl)
    (case e2 => kernel_rfl); (case e3 => kernel_rfl); (case hcLa => exact rfl); (case l2La => k_is); (case hvLa => exact rfl); (case hrLa => exact rfl)

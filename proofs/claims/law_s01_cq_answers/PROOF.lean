import PyProof.Rows.All
import Wide.All
import OpenK.AllK
import Wide.FinOn
import PyProof.EqAt
import PyProof.EqKinds
import PyProof.TupleCall
import KE.BitLaws
import Open.SpecLaws
import KE.OsHead
import KE.OsGo
import KE.KDictSum
import PyProof.Rows.BitMore
import KE.KDictLaws
import PyProof.ListRange
import PyProof.Rows.SortMergeAt
import KE.KSortTupG
import PySem.Challenge.RW_askedtables_s01_cq_answers
set_option Elab.async false
set_option linter.all false
set_option maxRecDepth 100000
set_option maxHeartbeats 2000000
namespace L2
open PySem PySem.Spec PyProof.Rows

/-- a key: an int or a str -/
abbrev Key := Sum Int Str
def keyIs : Key → Value → Bool
  | .inl k, v => Value.isInt k v
  | .inr x, v => Value.isStrOf x v
def keyH (w : World) : Key → Int
  | .inl k => hashInt k
  | .inr x => hashStr w x
theorem keyIs_shape : ∀ {k : Key} {v : Value}, keyIs k v = true → (∃ i t, k = Sum.inl i ∧ v = Value.int i t) ∨ (∃ x t, k = Sum.inr x ∧ v = Value.str x t)
  | .inl i, v, h => by
    obtain ⟨t, e⟩ := Value.isInt_shape (k := i) (v := v) h
    exact .inl ⟨i, t, rfl, e⟩
  | .inr x, v, h => by
    obtain ⟨t, e⟩ := Value.isStrOf_shape (x := x) (v := v) h
    exact .inr ⟨x, t, rfl, e⟩
theorem keyIs_int (i : Int) (t : Tok) : keyIs (.inl i) (.int i t) = true := by simp [keyIs, Value.isInt]
theorem keyIs_str (x : Str) (t : Tok) : keyIs (.inr x) (.str x t) = true := by simp [keyIs, Value.isStrOf]
theorem key_ll (a b : Int) : decide ((Sum.inl a : Key) = Sum.inl b) = (a == b) := by
  by_cases e : a = b
  · subst e; simp
  · have h : ¬ (Sum.inl a : Key) = Sum.inl b := fun q => e (Sum.inl.inj q)
    rw [decide_eq_false h]
    exact (beq_eq_false_iff_ne.mpr e).symm
theorem key_rr (a b : Str) : decide ((Sum.inr a : Key) = Sum.inr b) = decide (a = b) := by
  by_cases e : a = b
  · subst e; simp
  · have h : ¬ (Sum.inr a : Key) = Sum.inr b := fun q => e (Sum.inr.inj q)
    rw [decide_eq_false h, decide_eq_false e]
theorem key_lr (a : Int) (b : Str) : decide ((Sum.inl a : Key) = Sum.inr b) = false := decide_eq_false (fun q => nomatch q)
theorem key_rl (a : Str) (b : Int) : decide ((Sum.inr a : Key) = Sum.inl b) = false := decide_eq_false (fun q => nomatch q)

def mixKind (prog : Program) (w : World) : PySem.KeyKind prog w Key where
  is := keyIs
  hash := keyH w
  inj := fun v a b ha hb => by
    rcases keyIs_shape ha with ⟨i, t, rfl, rfl⟩ | ⟨x, t, rfl, rfl⟩
    · rcases keyIs_shape hb with ⟨j, u, rfl, e⟩ | ⟨y, u, rfl, e⟩
      · injection e with e1 _; rw [e1]
      · exact nomatch e
    · rcases keyIs_shape hb with ⟨j, u, rfl, e⟩ | ⟨y, u, rfl, e⟩
      · exact nomatch e
      · injection e with e1 _; rw [e1]
  byValue := fun k v h => by
    rcases keyIs_shape h with ⟨i, t, rfl, rfl⟩ | ⟨x, t, rfl, rfl⟩ <;> rfl
  pyHash := fun hv h => by
    rcases keyIs_shape hv with ⟨i, t, rfl, rfl⟩ | ⟨x, t, rfl, rfl⟩
    · exact wpAny_pyHash_int h
    · exact wpAny_pyHash_str h
  eqBool := fun hu hv h => by
    rcases keyIs_shape hu with ⟨i, t, rfl, rfl⟩ | ⟨x, t, rfl, rfl⟩
    · rcases keyIs_shape hv with ⟨j, u, rfl, rfl⟩ | ⟨y, u, rfl, rfl⟩
      · rw [key_ll] at h; exact wpAny_eqBool_int h
      · rw [key_lr] at h; exact SeqAt.EqAt.int_str i t y u _ _ _ _ h
    · rcases keyIs_shape hv with ⟨j, u, rfl, rfl⟩ | ⟨y, u, rfl, rfl⟩
      · rw [key_rl] at h; exact SeqAt.EqAt.str_int x t j u _ _ _ _ h
      · rw [key_rr] at h; exact wpAny_eqBool_str h
  «strs» := fun k x t v h => by
    rcases keyIs_shape h with ⟨i, u, rfl, e⟩ | ⟨y, u, rfl, e⟩
    · exact nomatch e
    · injection e with e1 _
      subst e1
      cases v <;> rfl

theorem mixKind_int (prog : Program) (w : World) (i : Int) (t : Tok) : (mixKind prog w).is (.inl i) (.int i t) = true := keyIs_int i t
theorem mixKind_str (prog : Program) (w : World) (x : Str) (t : Tok) : (mixKind prog w).is (.inr x) (.str x t) = true := keyIs_str x t
end L2

namespace L2
open PySem PySem.Spec PyProof.Rows

/-- a value, without the heap -/
inductive V where
  | non | bl (b : Bool) | int (i : Int) | str (x : Str) | byt (b : Array UInt8) | flt (b : UInt64) | ref (a : Addr) | ty (n : String)
  deriving DecidableEq

def RelV : V → Value → Prop
  | .non, u => u = Value.none
  | .bl b, u => u = Value.bool b
  | .int i, u => ∃ t, u = Value.int i t
  | .str x, u => ∃ t, u = Value.str x t
  | .byt b, u => ∃ t, u = Value.bytes b t
  | .flt b, u => ∃ t, u = Value.float b t
  | .ref a, u => u = Value.ref a
  | .ty n, u => u = Value.type n

abbrev Vals : List V → List Value → Prop := Paired RelV
theorem Vals.length {xs : List V} {us : List Value} (r : Vals xs us) : xs.length = us.length := Paired.length r
theorem Vals.get : ∀ {xs : List V} {us : List Value} {i : Nat} {x : V}, Vals xs us → xs[i]? = some x → ∃ u, us[i]? = some u ∧ RelV x u
  | _, _, _, _, .nil, e => by simp at e
  | _, _, 0, _, .cons r _, e => by simp at e; subst e; exact ⟨_, rfl, r⟩
  | _, _, i + 1, x, .cons _ t, e => by
    obtain ⟨u, h1, h2⟩ := Vals.get (i := i) (x := x) t (by simpa using e)
    exact ⟨u, by simpa using h1, h2⟩
theorem Vals.set {x : V} {u : Value} (r : RelV x u) : ∀ {xs : List V} {us : List Value} (i : Nat), Vals xs us → Vals (xs.set i x) (us.set i u)
  | _, _, _, .nil => .nil
  | _, _, 0, .cons _ t => .cons r t
  | _, _, i + 1, .cons q t => .cons q (Vals.set r i t)
theorem Vals.append : ∀ {xs ys : List V} {us ws : List Value}, Vals xs us → Vals ys ws → Vals (xs ++ ys) (us ++ ws)
  | _, _, _, _, .nil, s => s
  | _, _, _, _, .cons r t, s => .cons r (Vals.append t s)
theorem Vals.take : ∀ {xs : List V} {us : List Value} (n : Nat), Vals xs us → Vals (xs.take n) (us.take n)
  | _, _, 0, _ => .nil
  | _, _, _ + 1, .nil => .nil
  | _, _, n + 1, .cons r t => .cons r (Vals.take n t)
theorem Vals.drop : ∀ {xs : List V} {us : List Value} (n : Nat), Vals xs us → Vals (xs.drop n) (us.drop n)
  | _, _, 0, r => r
  | _, _, _ + 1, .nil => .nil
  | _, _, n + 1, .cons _ t => Vals.drop n t

def RelO : Option V → Option Value → Prop
  | some v, some u => RelV v u
  | none, none => True
  | _, _ => False
def KV {κ : Type} : List (κ × V) → List (κ × Value) → Prop := Paired fun (p : κ × V) (q : κ × Value) => p.1 = q.1 ∧ RelV p.2 q.2

/-- a key of a dict (00_mix): an int or a text -/
def kV : Key → V
  | .inl i => .int i
  | .inr x => .str x

/-- what stands at a tracked address -/
inductive HO where
  /-- a list -/
  | lst (xs : List V)
  /-- a tuple (never changes) -/
  | tup (xs : List V)
  /-- a dict whose keys are ints and texts; one whose keys are tuples of ints and texts (the empty one is both) -/
  | dK (kvs : List (Key × V)) | dT (kvs : List (List Key × V))
  /-- a set of ints: its members, its size -/
  | set (S : Int → Bool) (n : Nat)
  /-- an instance of the class at C, its dict at dx, its attributes -/
  | ins (C dx : Addr) (fs : List (Str × V))
  /-- the dict of the instance at x -/
  | own (x : Addr)
  /-- the dict of an exception -/
  | xd (fs : List (Str × V))
  /-- a bound method, f of x -/
  | met (f x : Addr)
  /-- a range object lo, lo + 1, .. below hi -/
  | rng (lo hi : Int)
  /-- a thing that is known to the object (the script; a dict while a loop walks it): read, never written while it is so -/
  | frz (o : Obj) (u : HO)
  /-- a code object's table -/
  | tbl (ps : Array Value)
  /-- any other thing, by what is true of its one object (a def of one's own: SetO a S n := HO.ext fun h => ..) -/
  | ext (φ : Heap → Prop)

abbrev Hp := Addr → Option HO
def upd (H : Hp) (a : Addr) (o : HO) : Hp := fun b => if b = a then some o else H b
theorem upd_same {H : Hp} {a : Addr} {o : HO} : upd H a o a = some o := by unfold upd; rw [if_pos rfl]
theorem upd_ne {H : Hp} {a b : Addr} {o : HO} (h : b ≠ a) : upd H a o b = H b := by unfold upd; rw [if_neg h]
/-- two objects of different content stand apart -/
theorem ne_of {H : Hp} {a b : Addr} {o u : HO} (h : H a = some o) (h' : H b = some u) (d : o ≠ u) : a ≠ b := by
  intro e; subst e; rw [h] at h'; exact d (Option.some.inj h')
theorem ne_of_none {H : Hp} {a b : Addr} {o : HO} (h : H a = some o) (h' : H b = none) : a ≠ b := by
  intro e; subst e; rw [h] at h'; cases h'

section
variable (P : Program) (w : World)
def ObjOk (H : Hp) (h : Heap) (a : Addr) : HO → Prop
  | .lst xs => xs.length ≤ sizeLine ∧ ∃ (its : List Value) (n : Nat), Vals xs its ∧ h.get? a = some { cls := .type "list", data := .seq its.toArray n }
  | .tup xs => xs.length ≤ sizeLine ∧ ∃ its : List Value, Vals xs its ∧ IsTup h a its.toArray
  | .dK kvs => kvs.length ≤ sizeLine ∧ (a == sysModules) = false ∧ ∃ vs, KV kvs vs ∧ h.DictOf (mixKind P w) a vs
  | .dT kvs => kvs.length ≤ sizeLine ∧ (a == sysModules) = false ∧ ∃ xs : List (List Key × Addr × Value),
      Paired (fun (p : List Key × V) (q : List Key × Addr × Value) => p.1 = q.1 ∧ H q.2.1 = some (.tup (p.1.map kV)) ∧ RelV p.2 q.2.2) kvs xs ∧
      ∃ o es ep, h.get? a = some o ∧ o.ExactDict ∧ o.data = .dict es ep ∧ es.toList = xs.map (entryOfKey (tupleKind (mixKind P w))) ∧ (xs.map (·.1)).Nodup
  | .set S n => h.SetOf (intKind P w) a S n
  | .ins C dx fs => H dx = some (.own a) ∧ fs.length ≤ 1000 ∧ dx ≠ a ∧ h.get? a = some (PySem.W.instObj C dx) ∧
      ∃ mA, h.Ns1 dx mA ∧ (∀ f, RelO (fs.lookup f) (mA f)) ∧ PySem.Within mA (fs.map (·.1))
  | .own _ => ∃ o, h.get? a = some o
  | .xd fs => ∃ mA, h.Ns1 a mA ∧ ∀ f, RelO (fs.lookup f) (mA f)
  | .rng lo hi => ∃ t u v, h.get? a = some { cls := .type "range", data := .fields #[.int lo t, .int hi u, .int 1 v] }
  | .frz o u => h.get? a = some o ∧ ObjOk H h a u
  | .tbl ps => h.get? a = some { cls := .none, data := .fields ps }
  | .met f x => h.get? a = some (PySem.W.methodObj (.ref f) (.ref x))
  | .ext φ => φ h ∧ (∃ o, h.get? a = some o) ∧ ∀ h1 h2 : Heap, φ h1 → (∀ o, h1.get? a = some o → h2.get? a = some o) → φ h2
/-- the abstract heap is held -/
def HOk (H : Hp) (h : Heap) : Prop := ∀ a o, H a = some o → ObjOk P w H h a o
end

section
variable {P : Program} {w : World} {H H' : Hp} {h h' : Heap} {a : Addr} {o : HO}
theorem ObjOk.lt (x : ObjOk P w H h a o) : a < h.objs.size := by
  cases o with
  | lst xs => obtain ⟨_, _, _, _, e⟩ := x; exact Heap.lt_size e
  | tup xs => obtain ⟨_, _, _, p⟩ := x; exact p.lt
  | dK kvs => obtain ⟨_, _, _, _, o, _, _, e, _⟩ := x; exact Heap.lt_size e
  | dT kvs => obtain ⟨_, _, _, _, o, _, _, e, _⟩ := x; exact Heap.lt_size e
  | set S n => obtain ⟨o, _, _, _, e, _⟩ := x; exact Heap.lt_size e
  | ins C dx fs => obtain ⟨_, _, _, e, _⟩ := x; exact Heap.lt_size e
  | own y => obtain ⟨_, e⟩ := x; exact Heap.lt_size e
  | xd fs => obtain ⟨_, ⟨_, _, _, e, _⟩, _⟩ := x; exact Heap.lt_size e
  | rng lo hi => obtain ⟨_, _, _, e⟩ := x; exact Heap.lt_size e
  | frz ob u => obtain ⟨e, _⟩ := x; exact Heap.lt_size e
  | tbl ps => exact Heap.lt_size (show h.get? a = some _ from x)
  | met f y => exact Heap.lt_size (show h.get? a = some _ from x)
  | ext φ => obtain ⟨_, ⟨_, e⟩, _⟩ := x; exact Heap.lt_size e
theorem Paired.mapP {α β : Type} {F G : α → β → Prop} : ∀ {l₁ : List α} {l₂ : List β}, Paired F l₁ l₂ → (∀ a b, F a b → G a b) → Paired G l₁ l₂
  | _, _, .nil, _ => .nil
  | _, _, .cons r t, f => .cons (f _ _ r) (Paired.mapP t f)
/-- what an object's description leans on: its own object, its own dict, the tuples -/
theorem ObjOk.stay (x : ObjOk P w H h a o) (k : ∀ b u, (b = a ∨ H b = some (.own a)) → h.get? b = some u → h'.get? b = some u)
    (ho : ∀ b, H b = some (.own a) → H' b = some (.own a)) (ht : ∀ b xs, H b = some (.tup xs) → H' b = some (.tup xs)) : ObjOk P w H' h' a o := by
  induction o with
  | lst xs => obtain ⟨z, its, n, r, e⟩ := x; exact ⟨z, its, n, r, k _ _ (.inl rfl) e⟩
  | tup xs => obtain ⟨z, its, r, ob, e, c⟩ := x; exact ⟨z, its, r, ob, k _ _ (.inl rfl) e, c⟩
  | dK kvs => obtain ⟨z, y, vs, r, ob, es, ep, e, c⟩ := x; exact ⟨z, y, vs, r, ob, es, ep, k _ _ (.inl rfl) e, c⟩
  | dT kvs =>
    obtain ⟨z, y, xs, r, ob, es, ep, e, c⟩ := x
    exact ⟨z, y, xs, Paired.mapP r fun p q z => ⟨z.1, ht _ _ z.2.1, z.2.2⟩, ob, es, ep, k _ _ (.inl rfl) e, c⟩
  | set S n => obtain ⟨ob, es, ep, t, e, c⟩ := x; exact ⟨ob, es, ep, t, k _ _ (.inl rfl) e, c⟩
  | ins C dx fs =>
    obtain ⟨d, z, ne, e, mA, ⟨od, es, ep, e2, c⟩, r⟩ := x
    exact ⟨ho _ d, z, ne, k _ _ (.inl rfl) e, mA, ⟨od, es, ep, k _ _ (.inr d) e2, c⟩, r⟩
  | own y => obtain ⟨ob, e⟩ := x; exact ⟨ob, k _ _ (.inl rfl) e⟩
  | xd fs => obtain ⟨mA, ⟨od, es, ep, e, c⟩, r⟩ := x; exact ⟨mA, ⟨od, es, ep, k _ _ (.inl rfl) e, c⟩, r⟩
  | rng lo hi => obtain ⟨t, u, v, e⟩ := x; exact ⟨t, u, v, k _ _ (.inl rfl) e⟩
  | frz ob u ih => obtain ⟨e, q⟩ := x; exact ⟨k _ _ (.inl rfl) e, ih q⟩
  | tbl ps =>
    have e : h.get? a = some { cls := .none, data := .fields ps } := x
    show h'.get? a = some { cls := .none, data := .fields ps }
    exact k a _ (.inl rfl) e
  | met f y =>
    have e : h.get? a = some (PySem.W.methodObj (.ref f) (.ref y)) := x
    show h'.get? a = some (PySem.W.methodObj (.ref f) (.ref y))
    exact k a _ (.inl rfl) e
  | ext φ => obtain ⟨p, ⟨o, e⟩, st⟩ := x; exact ⟨st _ _ p fun o q => k _ _ (.inl rfl) q, ⟨o, k _ _ (.inl rfl) e⟩, st⟩
theorem HOk.lt (x : HOk P w H h) (e : H a = some o) : a < h.objs.size := (x a o e).lt
theorem HOk.fresh (x : HOk P w H h) (e : h.objs.size ≤ a) : H a = none := by
  cases q : H a with
  | none => rfl
  | some u => exact absurd (Nat.lt_of_lt_of_le (x.lt q) e) (Nat.lt_irrefl _)
/-- every object of the heap is kept -/
theorem HOk.kept (x : HOk P w H h) (k : ∀ b u, h.get? b = some u → h'.get? b = some u) : HOk P w H h' := fun a o e =>
  (x a o e).stay (fun b u _ q => k b u q) (fun _ q => q) fun _ _ q => q
/-- a new object is laid and tracked -/
theorem HOk.laid (x : HOk P w H h) (k : ∀ b u, h.get? b = some u → h'.get? b = some u) (hp : h.objs.size ≤ a) (new : ObjOk P w (upd H a o) h' a o) : HOk P w (upd H a o) h' := fun b u e => by
  have hn := x.fresh hp
  by_cases hb : b = a
  · subst hb; rw [upd_same] at e; cases e; exact new
  · rw [upd_ne hb] at e
    exact (x b u e).stay (fun c v _ q => k c v q) (fun c q => by rw [upd_ne (ne_of_none q hn)]; exact q) fun c xs q => by rw [upd_ne (ne_of_none q hn)]; exact q
end

/-- what may be read as u: it is u, or a known u -/
def Rd (H : Hp) (a : Addr) (u : HO) : Prop := H a = some u ∨ ∃ o, H a = some (.frz o u)
theorem Rd.of {H : Hp} {a : Addr} {u : HO} (h : H a = some u) : Rd H a u := .inl h
theorem Rd.ok {P : Program} {w : World} {H : Hp} {h : Heap} {a : Addr} {u : HO} (r : Rd H a u) (x : HOk P w H h) : ObjOk P w H h a u := by
  rcases r with r | ⟨o, r⟩
  · exact x a u r
  · obtain ⟨_, q⟩ := x a _ r
    exact q
/-- what may be written -/
def Mut : Option HO → Prop
  | some (.lst _) => True
  | some (.dK _) => True
  | some (.dT _) => True
  | some (.set _ _) => True
  | some (.ins _ _ _) => True
  | some (.ext _) => True
  | _ => False
section
variable {P : Program} {w : World} {H : Hp} {h h' : Heap} {x e : Addr} {o' : HO}
/-- the object at e is changed: x itself, or the dict of the instance x -/
theorem HOk.write (ok : HOk P w H h) (mu : Mut (H x)) (he : e = x ∨ H e = some (.own x)) (k : ∀ b u, b ≠ e → h.get? b = some u → h'.get? b = some u) (heo : ∃ u, h'.get? e = some u)
    (new : ObjOk P w (upd H x o') h' x o') : HOk P w (upd H x o') h' := fun b u q => by
  have nown : ∀ c y, H c = some (.own y) → c ≠ x := fun c y r z => by subst z; rw [r] at mu; exact mu
  have ntup : ∀ c xs, H c = some (.tup xs) → c ≠ x := fun c xs r z => by subst z; rw [r] at mu; exact mu
  by_cases hb : b = x
  · subst hb; rw [upd_same] at q; cases q; exact new
  · rw [upd_ne hb] at q
    by_cases hbe : b = e
    · have q' : H b = some (.own x) := by
        rcases he with z | z
        · exact absurd (hbe.trans z) hb
        · rw [hbe]; exact z
      rw [q] at q'; cases q'
      obtain ⟨v, hv⟩ := heo
      exact ⟨v, by rw [hbe]; exact hv⟩
    · refine (ok b u q).stay (fun c v hc r => k c v ?_ r) (fun c r => by rw [upd_ne (nown c b r)]; exact r) fun c xs r => by rw [upd_ne (ntup c xs r)]; exact r
      rcases hc with rfl | hc
      · exact hbe
      · rintro rfl
        rcases he with z | z
        · exact nown c b hc z
        · rw [hc] at z; cases z; exact hb rfl
end

structure Un (fs ex : List Addr) (H H' : Hp) (h h' : Heap) : Prop where
  keep : ∀ b o, h.get? b = some o → H b = none → b ∉ fs → b ∉ ex → h'.get? b = some o
  slot : ∀ b o, h.get? b = some o → H b = none → b ∈ fs → b ∉ ex → ∃ sl, h'.get? b = some { o with slots := sl }
  free : ∀ b o, h.get? b = some o → H b = none → b ∉ ex → H' b = none
  there : ∀ b o, h.get? b = some o → b ∉ ex → ∃ o', h'.get? b = some o'
  tups : ∀ b xs, H b = some (.tup xs) → H' b = some (.tup xs)
  frzs : ∀ b o u, H b = some (.frz o u) → H' b = some (.frz o u)
  tbls : ∀ b ps, H b = some (.tbl ps) → ∃ more, H' b = some (.tbl (ps ++ more))
section
variable {fs fs' ex ex' : List Addr} {H H1 H2 : Hp} {h h1 h2 h' : Heap} {a x e : Addr} {o : HO}
theorem Un.any (u : Un fs ex H H1 h h1) {b : Addr} {ob : Obj} (q : h.get? b = some ob) (n : H b = none) (hx : b ∉ ex) : ∃ sl, h1.get? b = some { ob with slots := sl } := by
  by_cases hb : b ∈ fs
  · exact u.slot b ob q n hb hx
  · exact ⟨ob.slots, u.keep b ob q n hb hx⟩
theorem Un.trans (a : Un fs ex H H1 h h1) (b : Un fs ex H1 H2 h1 h2) : Un fs ex H H2 h h2 where
  keep := fun c ob q n hc hx => b.keep c ob (a.keep c ob q n hc hx) (a.free c ob q n hx) hc hx
  slot := fun c ob q n hc hx => by
    obtain ⟨sl, e1⟩ := a.slot c ob q n hc hx
    obtain ⟨sl', e2⟩ := b.slot c _ e1 (a.free c ob q n hx) hc hx
    exact ⟨sl', e2⟩
  free := fun c ob q n hx => by
    obtain ⟨o', e1⟩ := a.there c ob q hx
    exact b.free c o' e1 (a.free c ob q n hx) hx
  there := fun c ob q hx => by
    obtain ⟨o', e1⟩ := a.there c ob q hx
    exact b.there c o' e1 hx
  tups := fun c xs q => b.tups c xs (a.tups c xs q)
  frzs := fun c ob xs q => b.frzs c ob xs (a.frzs c ob xs q)
  tbls := fun c ps q => by
    obtain ⟨m1, e1⟩ := a.tbls c ps q
    obtain ⟨m2, e2⟩ := b.tbls c _ e1
    exact ⟨m1 ++ m2, by rw [e2, Array.append_assoc]⟩
theorem Un.kept (k : ∀ b u, h.get? b = some u → h'.get? b = some u) : Un fs ex H H h h' :=
  ⟨fun b ob q _ _ _ => k b ob q, fun b ob q _ _ _ => ⟨ob.slots, k b ob q⟩, fun _ _ _ n _ => n, fun b ob q _ => ⟨ob, k b ob q⟩, fun _ _ q => q, fun _ _ _ q => q, fun _ ps q => ⟨#[], by rw [q]; simp⟩⟩
theorem Un.refl : Un fs ex H H h h := Un.kept fun _ _ q => q
theorem Un.laid (k : ∀ b u, h.get? b = some u → h'.get? b = some u) (hp : h.objs.size ≤ a) (hn : H a = none) : Un fs ex H (upd H a o) h h' where
  keep := fun b u q _ _ _ => k b u q
  slot := fun b u q _ _ _ => ⟨u.slots, k b u q⟩
  free := fun b u q n _ => by rw [upd_ne (Nat.ne_of_lt (Nat.lt_of_lt_of_le (Heap.lt_size q) hp))]; exact n
  there := fun b u q _ => ⟨u, k b u q⟩
  tups := fun b xs q => by rw [upd_ne (ne_of_none q hn)]; exact q
  frzs := fun b u xs q => by rw [upd_ne (ne_of_none q hn)]; exact q
  tbls := fun b ps q => ⟨#[], by rw [upd_ne (ne_of_none q hn), q]; simp⟩
theorem Un.write (mu : Mut (H x)) (he : e = x ∨ H e = some (.own x)) (k : ∀ b u, b ≠ e → h.get? b = some u → h'.get? b = some u) (heo : ∃ u, h'.get? e = some u) : Un fs ex H (upd H x o) h h' := by
  have hx : ∀ b, H b = none → b ≠ x := fun b n z => by subst z; rw [n] at mu; exact mu
  have hb : ∀ b, H b = none → b ≠ e := fun b n z => by
    subst z
    rcases he with r | r
    · exact hx b n r
    · rw [n] at r; cases r
  have hm : ∀ b u, H b = some u → ¬ Mut (some u) → b ≠ x := fun b u q nm z => by subst z; rw [q] at mu; exact nm mu
  refine ⟨fun b u q n _ _ => k b u (hb b n) q, fun b u q n _ _ => ⟨u.slots, k b u (hb b n) q⟩, fun b u q n _ => by rw [upd_ne (hx b n)]; exact n, fun b u q _ => ?_,
    fun b xs q => by rw [upd_ne (hm b _ q fun z => z)]; exact q, fun b u xs q => by rw [upd_ne (hm b _ q fun z => z)]; exact q, fun b ps q => ⟨#[], by rw [upd_ne (hm b _ q fun z => z), q]; simp⟩⟩
  by_cases hbe : b = e
  · subst hbe; exact heo
  · exact ⟨u, k b u hbe q⟩
theorem Un.mono (u : Un fs ex H H1 h h1) (hs : ∀ b ∈ fs, b ∈ fs') (hx : ∀ b ∈ ex, b ∈ ex') : Un fs' ex' H H1 h h1 :=
  ⟨fun b ob q n hb he => u.keep b ob q n (fun z => hb (hs b z)) fun z => he (hx b z), fun _ _ q n _ he => u.any q n fun z => he (hx _ z), fun b ob q n he => u.free b ob q n fun z => he (hx b z), fun b ob q he => u.there b ob q fun z => he (hx b z), u.tups, u.frzs, u.tbls⟩
end

def trk (h : Heap) (H : Hp) : List Addr := (List.range h.objs.size).filter fun a => (H a).isSome
def hidT (h : Heap) (H : Hp) : Heap := PySem.W.hideAll h (trk h H)
theorem hidT_size (h : Heap) (H : Hp) : (hidT h H).objs.size = h.objs.size := PySem.W.hideAll_size _ _
theorem hidT_get {h : Heap} {H : Hp} {b : Addr} {o : Obj} (e : h.get? b = some o) (n : H b = none) : (hidT h H).get? b = some o :=
  PySem.W.hideAll_get _ e fun hm => by
    have q : (H b).isSome = true := (List.mem_filter.mp hm).2
    rw [n] at q; simp at q
theorem of_hidT {h : Heap} {H : Hp} {b : Addr} {o : Obj} (e : (hidT h H).get? b = some o) : h.get? b = some o ∧ H b = none := by
  have e' : h.get? b = some o := PySem.W.of_hideAll (trk h H) e
  refine ⟨e', ?_⟩
  cases q : H b with
  | none => rfl
  | some x =>
    have hm : b ∈ trk h H := List.mem_filter.mpr ⟨List.mem_range.mpr (Heap.lt_size e'), by simp [q]⟩
    have z : (hidT h H).get? b = none := PySem.W.hideAll_none (trk h H) hm
    rw [z] at e; cases e

def allNews (g h : Heap) (L : Addr) : List (Addr × Obj) := (List.range h.objs.size).filterMap fun a => if a = L ∨ (g.get? a).isSome = true then none else (h.get? a).map fun o => (a, o)
def rest (g h : Heap) (L d : Addr) : List (Addr × Obj) := (allNews g h L).filter fun p => decide (p.1 ≠ d)
end L2

namespace L2
open PySem PySem.Spec PyProof.Rows

/-- the module's facts, over the base: the heap at the law's entry without what is tracked there -/
structure Mod (K : PySem.W.Frag) (mg : Str → Option Value) (base : Heap) : Prop where
  kin : K.In base
  glob : base.Ns mainGlobals mg
  blt : ∃ mb, base.Ns builtinsNs mb ∧ ∀ x : Str, x ≠ "__name__" → mb x = bootBuiltins x
  nolimit : base.NoLimit

/-- the context: a def's body (or a comprehension's block) running. base: fixed through the whole law; s₀, H₀: the entry; outer: the frames whose slots others may change (a def's callers); stack: all frames that run;
   ex: iterators that were made ahead of the entry and are walked here (a comprehension's); fn: the names whose cells were made at the entry (a def: all; a comprehension's block: its own); calm: not within an except suite; pn: pins that every state bears; xe: what is wanted of an exception that leaves the code -/
structure Cx where
  prog : Program
  w : World
  K : PySem.W.Frag
  mg : Str → Option Value
  base : Heap
  A : Around
  N : List Str
  s_0 : Shared
  H_0 : Hp
  env : Env
  outer : List Env
  stack : List Env
  ex : List Addr
  fn : Str → Bool
  calm : Bool
  pn : List (Addr × Obj)
  xe : Value → Shared → Prop
/-- the callers' frames -/
def frs (l : List Env) : List Addr := l.filterMap (·.frame)
abbrev Cx.fs (X : Cx) : List Addr := frs X.outer

def Vis (sc : Scope) (x : Str) : Prop := sc.names.lookup x = some .local ∨ sc.names.lookup x = some .cell ∨ sc.names.lookup x = some .free
def Loc (sc : Scope) (x : Str) : Prop := sc.names.lookup x = some .local ∨ sc.names.lookup x = some .cell
def Look (env : Env) (h : Heap) (m : Str → Option Value) (x : Str) (u : Value) : Prop :=
  (env.kindOf x = some .local ∧ m x = some u) ∨ ((env.kindOf x = some .cell ∨ env.kindOf x = some .free) ∧ ∃ c, env.cells.lookup x = some c ∧ h.IsCell c (some u))

structure Cx.Ok (X : Cx) : Prop where
  mod : Mod X.K X.mg X.base
  kind : X.env.scope.kind = .function
  glob : X.env.globals = mainGlobals
  blt : X.env.builtins = builtinsNs
  above : X.s_0.heap.objs.size ≤ X.env.locals
  inj : ∀ x y c, X.env.cells.lookup x = some c → X.env.cells.lookup y = some c → x = y
  has : ∀ x, (X.env.kindOf x = some .cell ∨ X.env.kindOf x = some .free) → ∃ c, X.env.cells.lookup x = some c
  cab : ∀ x c, X.fn x = true → X.env.cells.lookup x = some c → X.s_0.heap.objs.size ≤ c
  hd : X.calm = true → X.A.handled = none
  frames : X.A.frames = some X.stack
  stk : X.stack = X.outer ∨ (X.stack = X.env :: X.outer ∧ X.env.frame = some X.env.locals)
  exf : ∀ b ∈ X.ex, b ≠ X.env.locals ∧ ∀ x c, X.env.cells.lookup x = some c → c ≠ b
  bs : ∀ b o, X.base.get? b = some o → X.s_0.heap.get? b = some o ∧ X.H_0 b = none
  bsz : X.base.objs.size ≤ X.s_0.heap.objs.size
  noex : ∀ b o, X.base.get? b = some o → b ∉ X.ex
  exfs : ∀ b ∈ X.ex, b ∉ X.fs
  funs : X.s_0.heap.FunFrames X.base X.outer
  frf : ∀ b ∈ X.fs, X.H_0 b = none

structure Inv (X : Cx) (pins : List (Addr × Obj)) (σ : List (Option V)) (H : Hp) (s : Shared) : Prop where
  ok : X.Ok
  os : s.os = X.s_0.os
  bare : AllBare s.gens
  base : Un X.fs X.ex X.H_0 H X.s_0.heap s.heap
  loc : ∃ m, s.heap.Ns X.env.locals m ∧ ∀ (i : Nat) (x : Str) (v : V), X.N[i]? = some x → σ[i]? = some (some v) → Vis X.env.scope x → ∃ u, RelV v u ∧ Look X.env s.heap m x u
  cell : ∀ x c, X.env.cells.lookup x = some c → ∃ v, s.heap.IsCell c v
  free : H X.env.locals = none
  freeC : ∀ x c, X.env.cells.lookup x = some c → H c = none
  pin : ∀ p ∈ X.pn ++ pins, s.heap.get? p.1 = some p.2 ∧ H p.1 = none ∧ p.1 ≠ X.env.locals ∧ p.1 ∉ X.fs ∧ ∀ v, p.2.data ≠ .cell v
  hok : HOk X.prog X.w H s.heap
  len : σ.length = X.N.length

section
variable {X : Cx} {pins : List (Addr × Obj)} {σ : List (Option V)} {H H' : Hp} {s : Shared} {h' : Heap}

theorem Cx.Ok.nofr (ok : X.Ok) {b : Addr} {o : Obj} (e : X.base.get? b = some o) : b ∉ X.fs := fun hb => by
  have := (ok.funs.mem hb).1
  rw [e] at this; cases this
theorem Inv.bs (I : Inv X pins σ H s) : ∀ b o, X.base.get? b = some o → s.heap.get? b = some o ∧ H b = none := fun b o e =>
  ⟨I.base.keep b o (I.ok.bs b o e).1 (I.ok.bs b o e).2 (I.ok.nofr e) (I.ok.noex b o e), I.base.free b o (I.ok.bs b o e).1 (I.ok.bs b o e).2 (I.ok.noex b o e)⟩
theorem Inv.bk (I : Inv X pins σ H s) : ∀ b o, X.base.get? b = some o → s.heap.get? b = some o := fun b o e => (I.bs b o e).1
theorem Inv.mod (I : Inv X pins σ H s) : Mod X.K X.mg X.base := I.ok.mod
theorem Inv.kIn (I : Inv X pins σ H s) : X.K.In s.heap := I.ok.mod.kin.keeps I.bk
theorem Inv.nolimit (I : Inv X pins σ H s) : s.heap.NoLimit := I.ok.mod.nolimit.keeps I.bk
theorem Inv.lt (I : Inv X pins σ H s) : X.env.locals < s.heap.objs.size := let ⟨_, hn, _⟩ := I.loc; hn.lt
theorem Inv.sz (I : Inv X pins σ H s) : X.s_0.heap.objs.size ≤ s.heap.objs.size := Nat.le_trans I.ok.above (Nat.le_of_lt I.lt)
theorem Inv.nofs (I : Inv X pins σ H s) {a : Addr} (h : s.heap.objs.size ≤ a) : a ∉ X.fs := fun hb => by
  obtain ⟨_, o, ho, _⟩ := I.ok.funs.mem hb
  exact absurd (Nat.lt_of_lt_of_le (Heap.lt_size ho) (Nat.le_trans I.sz h)) (Nat.lt_irrefl _)
theorem Inv.cne (I : Inv X pins σ H s) : ∀ x c, X.env.cells.lookup x = some c → c ≠ X.env.locals := fun x c e z => by
  obtain ⟨v, o, ho, hd⟩ := I.cell x c e
  obtain ⟨m, ⟨o', es, ep, ho', hd', _⟩, _⟩ := I.loc
  rw [z, ho'] at ho; cases ho; rw [hd'] at hd; cases hd
theorem Inv.funs (I : Inv X pins σ H s) : s.heap.FunFrames X.base X.outer := by
  have all : ∀ (l : List Env), (∀ b ∈ frs l, b ∈ X.fs) → X.s_0.heap.FunFrames X.base l → s.heap.FunFrames X.base l := by
    intro l
    induction l with
    | nil => intro _ _; trivial
    | cons env r ih =>
      intro hs hl
      obtain ⟨hk, ⟨L, o, hf, hn, ho, hd⟩, hr⟩ := hl
      have hL : L ∈ X.fs := hs L (by unfold frs; rw [List.filterMap_cons, hf]; exact List.mem_cons_self)
      obtain ⟨sl, e⟩ := I.base.slot L o ho (I.ok.frf L hL) hL fun z => I.ok.exfs L z hL
      exact ⟨hk, ⟨L, _, hf, hn, e, hd⟩, ih (fun b hb => hs b (by unfold frs; rw [List.filterMap_cons, hf]; exact List.mem_cons_of_mem _ hb)) hr⟩
  exact all X.outer (fun _ hb => hb) I.ok.funs

/-- the frames that run, for a call -/
theorem Inv.stack (I : Inv X pins σ H s) : s.heap.FunFrames X.base X.stack := by
  rcases I.ok.stk with e | ⟨e, hf⟩
  · rw [e]; exact I.funs
  · rw [e]
    obtain ⟨m, hn, _⟩ := I.loc
    refine .cons (by rw [I.ok.kind]; decide) hf hn ?_ I.funs
    exact Heap.get?_none_of_le (Nat.le_trans I.ok.bsz I.ok.above)
theorem Inv.stkSub (I : Inv X pins σ H s) : ∀ b ∈ frs X.stack, b ∈ X.env.locals :: X.fs := fun b hb => by
  rcases I.ok.stk with e | ⟨e, hf⟩
  · rw [e] at hb; exact List.mem_cons_of_mem _ hb
  · rw [e] at hb
    unfold frs at hb
    rw [List.filterMap_cons, hf] at hb
    exact hb
theorem Inv.stkFree (I : Inv X pins σ H s) : ∀ b ∈ frs X.stack, H b = none := fun b hb => by
  rcases List.mem_cons.mp (I.stkSub b hb) with e | hb
  · rw [e]; exact I.free
  · obtain ⟨_, o, ho, _⟩ := I.ok.funs.mem hb
    exact I.base.free b o ho (I.ok.frf b hb) fun z => I.ok.exfs b z hb

/-- THE STEP: the untracked objects but the frame and the records at ch are kept (the callers' frames up to slots), the frame's map is kept, the new abstract heap is held -/
theorem Inv.step {g' : Array GenState} {t' : Nat} {d' : Drawn} {ch : List Addr} (I : Inv X pins σ H s)
    (hch : ∀ b ∈ ch, (b ∈ X.ex ∨ X.s_0.heap.objs.size ≤ b) ∧ b ≠ X.env.locals ∧ (∀ x c, X.env.cells.lookup x = some c → c ≠ b) ∧ ∀ p ∈ X.pn ++ pins, p.1 ≠ b)
    (keep : ∀ b o, b ≠ X.env.locals → b ∉ X.fs → b ∉ ch → s.heap.get? b = some o → H b = none → h'.get? b = some o)
    (slot : ∀ b o, b ≠ X.env.locals → b ∈ X.fs → b ∉ ch → s.heap.get? b = some o → H b = none → ∃ sl, h'.get? b = some { o with slots := sl }) (free : ∀ b o, b ∉ ch → s.heap.get? b = some o → H b = none → H' b = none)
    (there : ∀ b o, b ∉ ch → s.heap.get? b = some o → ∃ o', h'.get? b = some o')
    (tups : ∀ b xs, H b = some (.tup xs) → H' b = some (.tup xs)) (frzs : ∀ b o u, H b = some (.frz o u) → H' b = some (.frz o u)) (tbls : ∀ b ps, H b = some (.tbl ps) → ∃ more, H' b = some (.tbl (ps ++ more)))
    (ns : ∀ m, s.heap.Ns X.env.locals m → h'.Ns X.env.locals m) (hok : HOk X.prog X.w H' h') (hg : AllBare g') :
    Inv X pins σ H' { s with heap := h', gens := g', drawn := d', toks := t' } := by
  have neL : ∀ b o, X.s_0.heap.get? b = some o → b ≠ X.env.locals := fun b o e => Nat.ne_of_lt (Nat.lt_of_lt_of_le (Heap.lt_size e) I.ok.above)
  have neC : ∀ b o, X.s_0.heap.get? b = some o → b ∉ X.ex → b ∉ ch := fun b o e hx hb => by
    rcases (hch b hb).1 with z | z
    · exact hx z
    · exact absurd (Nat.lt_of_lt_of_le (Heap.lt_size e) z) (Nat.lt_irrefl _)
  have cellK : ∀ x c, X.env.cells.lookup x = some c → ∀ v, s.heap.IsCell c v → h'.IsCell c v := fun x c e v ⟨o, ho, hd⟩ => by
    have nch : c ∉ ch := fun z => (hch c z).2.2.1 x c e rfl
    by_cases hc : c ∈ X.fs
    · obtain ⟨sl, q⟩ := slot c o (I.cne x c e) hc nch ho (I.freeC x c e)
      exact ⟨_, q, hd⟩
    · exact ⟨o, keep c o (I.cne x c e) hc nch ho (I.freeC x c e), hd⟩
  refine ⟨I.ok, I.os, hg, ⟨fun b o e n hb hx => ?_, fun b o e n hb hx => ?_, fun b o e n hx => ?_, fun b o e hx => ?_, fun b xs e => tups b xs (I.base.tups b xs e), fun b o xs e => frzs b o xs (I.base.frzs b o xs e), fun b ps e => ?_⟩, ?_, fun x c e => ?_, ?_, fun x c e => ?_, fun p hp => ?_, hok, I.len⟩
  · exact keep b o (neL b o e) hb (neC b o e hx) (I.base.keep b o e n hb hx) (I.base.free b o e n hx)
  · obtain ⟨sl, e1⟩ := I.base.slot b o e n hb hx
    obtain ⟨sl', e2⟩ := slot b _ (neL b o e) hb (neC b o e hx) e1 (I.base.free b o e n hx)
    exact ⟨sl', e2⟩
  · obtain ⟨o', e1⟩ := I.base.there b o e hx
    exact free b o' (neC b o e hx) e1 (I.base.free b o e n hx)
  · obtain ⟨o', e1⟩ := I.base.there b o e hx
    exact there b o' (neC b o e hx) e1
  · obtain ⟨m1, e1⟩ := I.base.tbls b ps e
    obtain ⟨m2, e2⟩ := tbls b _ e1
    exact ⟨m1 ++ m2, by rw [e2, Array.append_assoc]⟩
  · obtain ⟨m, hn, hl⟩ := I.loc
    refine ⟨m, ns m hn, fun i x v e1 e2 e3 => ?_⟩
    obtain ⟨u, r, l⟩ := hl i x v e1 e2 e3
    refine ⟨u, r, ?_⟩
    rcases l with l | ⟨k, c, e, z⟩
    · exact .inl l
    · exact .inr ⟨k, c, e, cellK x c e _ z⟩
  · obtain ⟨v, z⟩ := I.cell x c e
    exact ⟨v, cellK x c e v z⟩
  · obtain ⟨m, ⟨o, _, _, ho, _⟩, _⟩ := I.loc
    exact free _ o (fun z => (hch _ z).2.1 rfl) ho I.free
  · obtain ⟨v, o, ho, hd⟩ := I.cell x c e
    exact free c o (fun z => (hch c z).2.2.1 x c e rfl) ho (I.freeC x c e)
  · obtain ⟨e, n, ne, nf, d⟩ := I.pin p hp
    have nch : p.1 ∉ ch := fun z => (hch p.1 z).2.2.2 p hp rfl
    exact ⟨keep p.1 p.2 ne nf nch e n, free p.1 p.2 nch e n, ne, nf, d⟩
/-- .. where the frame's own object is kept too -/
theorem Inv.un {t' : Nat} (I : Inv X pins σ H s) (u : Un X.fs [] H H' s.heap h') (hok : HOk X.prog X.w H' h') : Inv X pins σ H' { s with heap := h', toks := t' } := by
  obtain ⟨m, ⟨o, es, ep, ho, r⟩, _⟩ := id I.loc
  obtain ⟨sl, hL⟩ := u.any ho I.free (by simp)
  exact I.step (g' := s.gens) (d' := s.drawn) (ch := []) (fun _ z => nomatch z) (fun b o _ hb _ e n => u.keep b o e n hb (by simp)) (fun b o _ hb _ e n => u.slot b o e n hb (by simp)) (fun b o _ e n => u.free b o e n (by simp)) (fun b o _ e => u.there b o e (by simp)) u.tups u.frzs u.tbls (fun m' hm => by
    obtain ⟨o', es', ep', ho', r'⟩ := hm
    rw [ho] at ho'; cases ho'
    exact ⟨_, es', ep', hL, r'⟩) hok I.bare
/-- behind a call (or a comprehension's block): the slots of this frame may have changed too, the records at ch may have turned -/
theorem Inv.call {g' : Array GenState} {t' : Nat} {d' : Drawn} {ch : List Addr} (I : Inv X pins σ H s) (u : Un (frs X.stack) ch H H' s.heap h') (hok : HOk X.prog X.w H' h') (hg : AllBare g')
    (hch : ∀ b ∈ ch, (b ∈ X.ex ∨ X.s_0.heap.objs.size ≤ b) ∧ b ≠ X.env.locals ∧ (∀ x c, X.env.cells.lookup x = some c → c ≠ b) ∧ ∀ p ∈ X.pn ++ pins, p.1 ≠ b) :
    Inv X pins σ H' { s with heap := h', gens := g', drawn := d', toks := t' } := by
  obtain ⟨m, ⟨o, es, ep, ho, r⟩, _⟩ := id I.loc
  obtain ⟨sl, hL⟩ := u.any ho I.free fun z => (hch _ z).2.1 rfl
  exact I.step (ch := ch) hch (fun b o hL hb hc e n => u.keep b o e n (fun z => (List.mem_cons.mp (I.stkSub b z)).elim hL hb) hc) (fun b o _ _ hc e n => u.any e n hc) (fun b o hc e n => u.free b o e n hc) (fun b o hc e => u.there b o e hc) u.tups u.frzs u.tbls (fun m' hm => by
    obtain ⟨o', es', ep', ho', r'⟩ := hm
    rw [ho] at ho'; cases ho'
    exact ⟨_, es', ep', hL, r'⟩) hok hg
/-- an untracked record of ours (an iterator) has turned -/
theorem Inv.turned {t' : Nat} {it : Addr} (I : Inv X pins σ H s) (k : ∀ b o, b ≠ it → s.heap.get? b = some o → h'.get? b = some o) (hn : H it = none) (hL : it ≠ X.env.locals)
    (h1 : it ∈ X.ex ∨ X.s_0.heap.objs.size ≤ it) (h2 : ∀ x c, X.env.cells.lookup x = some c → c ≠ it) (h3 : ∀ p ∈ X.pn ++ pins, p.1 ≠ it) : Inv X pins σ H { s with heap := h', toks := t' } := by
  have nit : ∀ b u, H b = some u → b ≠ it := fun b u e z => by rw [z, hn] at e; cases e
  refine I.step (g' := s.gens) (d' := s.drawn) (ch := [it]) (fun b hb => ?_) (fun b o _ _ hc e _ => k b o (fun z => hc (by simp [z])) e) (fun b o _ _ hc e _ => ⟨o.slots, k b o (fun z => hc (by simp [z])) e⟩) (fun _ _ _ _ n => n)
    (fun b o hc e => ⟨o, k b o (fun z => hc (by simp [z])) e⟩) (fun _ _ e => e) (fun _ _ _ e => e) (fun b ps e => ⟨#[], by rw [e]; simp⟩) (fun m hm => ?_) (fun b u e => ?_) I.bare
  · have e : b = it := by simpa using hb
    subst e
    exact ⟨h1, hL, h2, h3⟩
  · obtain ⟨o, es, ep, ho, r⟩ := hm
    exact ⟨o, es, ep, k _ o (Ne.symm hL) ho, r⟩
  · refine (I.hok b u e).stay (fun c v hc q => k c v ?_ q) (fun _ q => q) fun _ _ q => q
    rcases hc with z | z
    · rw [z]; exact nit b u e
    · exact nit c _ z
theorem Inv.tok (I : Inv X pins σ H s) (t : Nat) : Inv X pins σ H { s with toks := t } := I.un (h' := s.heap) (t' := t) Un.refl I.hok
/-- all objects kept -/
theorem Inv.kept {t' : Nat} (I : Inv X pins σ H s) (k : ∀ b u, s.heap.get? b = some u → h'.get? b = some u) : Inv X pins σ H { s with heap := h', toks := t' } := I.un (Un.kept k) (I.hok.kept k)
/-- a new object laid and tracked -/
theorem Inv.laid {a : Addr} {o : HO} {t' : Nat} (I : Inv X pins σ H s) (k : ∀ b u, s.heap.get? b = some u → h'.get? b = some u) (hp : s.heap.objs.size ≤ a) (new : ObjOk X.prog X.w (upd H a o) h' a o) :
    Inv X pins σ (upd H a o) { s with heap := h', toks := t' } := I.un (Un.laid k hp (I.hok.fresh hp)) (I.hok.laid k hp new)
/-- an object written -/
theorem Inv.write {x e : Addr} {o : HO} {t' : Nat} (I : Inv X pins σ H s) (mu : Mut (H x)) (he : e = x ∨ H e = some (.own x)) (k : ∀ b u, b ≠ e → s.heap.get? b = some u → h'.get? b = some u) (heo : ∃ u, h'.get? e = some u)
    (new : ObjOk X.prog X.w (upd H x o) h' x o) : Inv X pins σ (upd H x o) { s with heap := h', toks := t' } := I.un (Un.write mu he k heo) (I.hok.write mu he k heo new)
/-- forgetting slots, pins -/
theorem Inv.weak {σ' : List (Option V)} (I : Inv X pins σ H s) (hl : σ'.length = σ.length) (w : ∀ (i : Nat) v, σ'[i]? = some (some v) → σ[i]? = some (some v)) : Inv X pins σ' H s :=
  ⟨I.ok, I.os, I.bare, I.base, let ⟨m, hn, hl'⟩ := I.loc; ⟨m, hn, fun i x v e1 e2 e3 => hl' i x v e1 (w i v e2) e3⟩, I.cell, I.free, I.freeC, I.pin, I.hok, hl.trans I.len⟩
theorem Inv.pins_of {pins' : List (Addr × Obj)} (I : Inv X pins σ H s) (h : ∀ p ∈ pins', s.heap.get? p.1 = some p.2 ∧ H p.1 = none ∧ p.1 ≠ X.env.locals ∧ p.1 ∉ X.fs ∧ ∀ v, p.2.data ≠ .cell v) : Inv X pins' σ H s :=
  ⟨I.ok, I.os, I.bare, I.base, I.loc, I.cell, I.free, I.freeC, fun p hp => (List.mem_append.mp hp).elim (fun z => I.pin p (List.mem_append_left _ z)) (h p), I.hok, I.len⟩

theorem nodup_ix {N : List Str} (hN : N.Nodup) {i j : Nat} {x : Str} (a : N[i]? = some x) (b : N[j]? = some x) : i = j := by
  obtain ⟨h1, e1⟩ := List.getElem?_eq_some_iff.mp a
  obtain ⟨h2, e2⟩ := List.getElem?_eq_some_iff.mp b
  exact (List.getElem_inj hN).mp (e1.trans e2.symm)

/-- a name is stored; what changed -/
theorem store_ok2 {M : Model} {A : Around} {E : Value → Shared → Prop} {i : Nat} {x : Str} {v : V} {u : Value} {Q : Unit → Shared → Prop} (I : Inv X pins σ H s) (hN : X.N.Nodup) (hi : X.N[i]? = some x) (hx : Loc X.env.scope x) (r : RelV v u)
    (h : ∀ s', Inv X pins (σ.set i (some v)) H s' → (∃ a, Heap.SameBut a s.heap s'.heap ∧ (a = X.env.locals ∨ X.env.cells.lookup x = some a)) → Q () s') (hf : X.fn x = true ∨ X.env.scope.names.lookup x = some .local := by first | exact .inl rfl | exact .inr rfl | assumption) : wpAny M A (storeName X.env x u) Q E s := by
  obtain ⟨m, hn, hl⟩ := id I.loc
  have hcls : (X.env.scope.kind == .class || (X.env.scope.kind == .module && X.env.locals != X.env.globals)) = false := by rw [I.ok.kind]; rfl
  have hiσ : i < σ.length := by rw [I.len]; exact (List.getElem?_eq_some_iff.mp hi).1
  have cne := I.cne
  have tracked : ∀ {a : Addr} {h' : Heap}, (∃ o, s.heap.get? a = some o ∧ H a = none) → Heap.SameBut a s.heap h' → HOk X.prog X.w H h' := fun {a h'} ha hs b ob e => by
    obtain ⟨_, _, hfree⟩ := ha
    refine (I.hok b ob e).stay (fun c w' hc q => (hs.2 c ?_).trans q) (fun _ q => q) fun _ _ q => q
    rintro rfl
    rcases hc with rfl | hc
    · rw [hfree] at e; cases e
    · rw [hfree] at hc; cases hc
  rcases hx with hk | hk
  · refine wpAny_storeName_local hk hn (fun h' hn' hs => ?_) hcls
    obtain ⟨oL, _, _, hoL, _⟩ := id hn
    refine h _ ⟨I.ok, I.os, I.bare, ⟨fun b o e n hb hx => ?_, fun b o e n hb hx => ?_, I.base.free, fun b o e hx => ?_, I.base.tups, I.base.frzs, I.base.tbls⟩, ⟨_, hn', fun j y v' e1 e2 e3 => ?_⟩, fun y c e => ?_, I.free, I.freeC, fun p hp => ?_, tracked ⟨oL, hoL, I.free⟩ hs, by simpa using I.len⟩ ⟨_, hs, .inl rfl⟩
    · exact (hs.2 b (Nat.ne_of_lt (Nat.lt_of_lt_of_le (Heap.lt_size e) I.ok.above))).trans (I.base.keep b o e n hb hx)
    · obtain ⟨sl, e1⟩ := I.base.slot b o e n hb hx
      exact ⟨sl, (hs.2 b (Nat.ne_of_lt (Nat.lt_of_lt_of_le (Heap.lt_size e) I.ok.above))).trans e1⟩
    · obtain ⟨o', e1⟩ := I.base.there b o e hx
      exact ⟨o', (hs.2 b (Nat.ne_of_lt (Nat.lt_of_lt_of_le (Heap.lt_size e) I.ok.above))).trans e1⟩
    · by_cases hj : j = i
      · subst hj
        rw [hi] at e1; cases e1
        rw [List.getElem?_set_self hiσ] at e2
        cases e2
        exact ⟨u, r, .inl ⟨hk, by simp⟩⟩
      · rw [List.getElem?_set_ne (Ne.symm hj)] at e2
        obtain ⟨u', r', q⟩ := hl j y v' e1 e2 e3
        refine ⟨u', r', ?_⟩
        rcases q with ⟨k, e⟩ | ⟨k, c, e, z⟩
        · refine .inl ⟨k, ?_⟩
          have : y ≠ x := fun e => hj (nodup_ix hN e1 (e ▸ hi))
          simp [this, e]
        · exact .inr ⟨k, c, e, z.sameBut hs (cne y c e)⟩
    · obtain ⟨w', z⟩ := I.cell y c e
      exact ⟨w', z.sameBut hs (cne y c e)⟩
    · obtain ⟨e, n, ne, nf, d⟩ := I.pin p hp
      exact ⟨(hs.2 p.1 ne).trans e, n, ne, nf, d⟩
  · have hfn : X.fn x = true := by
      rcases hf with z | z
      · exact z
      · rw [z] at hk; cases hk
    obtain ⟨c, hc⟩ := I.ok.has x (.inl hk)
    obtain ⟨w', z⟩ := I.cell x c hc
    refine wpAny_storeName_cell I.ok.kind hk hc z (fun h' hc' hs => ?_)
    obtain ⟨oc, hoc, hocd⟩ := id z
    refine h { s with heap := h' } ⟨I.ok, I.os, I.bare, ⟨fun b o e n hb hx => ?_, fun b o e n hb hx => ?_, I.base.free, fun b o e hx => ?_, I.base.tups, I.base.frzs, I.base.tbls⟩, ⟨m, hn.sameBut hs (Ne.symm (cne x c hc)), fun j y v' e1 e2 e3 => ?_⟩, fun y c' e => ?_, I.free, I.freeC, fun p hp => ?_, tracked ⟨oc, hoc, I.freeC x c hc⟩ hs, by simpa using I.len⟩ ⟨c, hs, .inr hc⟩
    · exact (hs.2 b (Nat.ne_of_lt (Nat.lt_of_lt_of_le (Heap.lt_size e) (I.ok.cab x c hfn hc)))).trans (I.base.keep b o e n hb hx)
    · obtain ⟨sl, e1⟩ := I.base.slot b o e n hb hx
      exact ⟨sl, (hs.2 b (Nat.ne_of_lt (Nat.lt_of_lt_of_le (Heap.lt_size e) (I.ok.cab x c hfn hc)))).trans e1⟩
    · obtain ⟨o', e1⟩ := I.base.there b o e hx
      exact ⟨o', (hs.2 b (Nat.ne_of_lt (Nat.lt_of_lt_of_le (Heap.lt_size e) (I.ok.cab x c hfn hc)))).trans e1⟩
    · by_cases hj : j = i
      · subst hj
        rw [hi] at e1; cases e1
        rw [List.getElem?_set_self hiσ] at e2
        cases e2
        exact ⟨u, r, .inr ⟨.inl hk, c, hc, hc'⟩⟩
      · rw [List.getElem?_set_ne (Ne.symm hj)] at e2
        obtain ⟨u', r', q⟩ := hl j y v' e1 e2 e3
        refine ⟨u', r', ?_⟩
        rcases q with q | ⟨k, c', e, z'⟩
        · exact .inl q
        · refine .inr ⟨k, c', e, z'.sameBut hs ?_⟩
          rintro rfl
          exact hj (nodup_ix hN e1 (I.ok.inj _ _ _ e hc ▸ hi))
    · by_cases hcc : c' = c
      · subst hcc; exact ⟨_, hc'⟩
      · obtain ⟨w2, z2⟩ := I.cell y c' e
        exact ⟨w2, z2.sameBut hs hcc⟩
    · obtain ⟨e, n, ne, nf, d⟩ := I.pin p hp
      refine ⟨(hs.2 p.1 ?_).trans e, n, ne, nf, d⟩
      intro q
      rw [q, hoc] at e
      have q' : oc = p.2 := Option.some.inj e
      exact d w' (by rw [← q']; exact hocd)
theorem store_ok {M : Model} {A : Around} {E : Value → Shared → Prop} {i : Nat} {x : Str} {v : V} {u : Value} {Q : Unit → Shared → Prop} (I : Inv X pins σ H s) (hN : X.N.Nodup) (hi : X.N[i]? = some x) (hx : Loc X.env.scope x) (r : RelV v u)
    (h : ∀ s', Inv X pins (σ.set i (some v)) H s' → Q () s') (hf : X.fn x = true ∨ X.env.scope.names.lookup x = some .local := by first | exact .inl rfl | exact .inr rfl | assumption) : wpAny M A (storeName X.env x u) Q E s :=
  store_ok2 I hN hi hx r (fun s' I' _ => h s' I') hf
/-- behind a call or a block, the state as it is -/
theorem Inv.call' {s' : Shared} {ch : List Addr} (I : Inv X pins σ H s) (ho : s'.os = s.os) (u : Un (frs X.stack) ch H H' s.heap s'.heap) (hok : HOk X.prog X.w H' s'.heap) (hg : AllBare s'.gens)
    (hch : ∀ b ∈ ch, (b ∈ X.ex ∨ X.s_0.heap.objs.size ≤ b) ∧ b ≠ X.env.locals ∧ (∀ x c, X.env.cells.lookup x = some c → c ≠ b) ∧ ∀ p ∈ X.pn ++ pins, p.1 ≠ b) : Inv X pins σ H' s' := by
  obtain ⟨h', g', d', t', o'⟩ := s'
  have e : o' = s.os := ho
  subst e
  exact I.call (g' := g') (t' := t') (d' := d') u hok hg hch
end

/-- an exception: its class, its own dict's address (where it has one), the abstract heap behind it -/
abbrev XK := Value → Option Addr → Hp → Prop
abbrev St := List (Option V)
abbrev VK := V → Hp → Prop
/-- an expression's reading; a test's; an argument list's -/
abbrev TE := St → Hp → VK → Prop
abbrev TT := St → Hp → (Bool → Hp → Prop) → Prop
abbrev TA := St → Hp → (List V → Hp → Prop) → Prop
/-- what is wanted behind a statement -/
structure Ends where
  nx : St → Hp → Prop
  rt : VK
  bk : St → Hp → Prop := fun _ _ => False
  ct : St → Hp → Prop := fun _ _ => False
abbrev TS := Ends → St → Hp → Prop

def EP (X : Cx) (pins : List (Addr × Obj)) (σ : St) (Q : VK) (u : Value) (s' : Shared) : Prop := ∃ v H', Inv X pins σ H' s' ∧ RelV v u ∧ Q v H'
def TP (X : Cx) (pins : List (Addr × Obj)) (σ : St) (Q : Bool → Hp → Prop) (b : Bool) (s' : Shared) : Prop := ∃ H', Inv X pins σ H' s' ∧ Q b H'
def AP (X : Cx) (pins : List (Addr × Obj)) (σ : St) (Q : List V → Hp → Prop) (us : List Value) (s' : Shared) : Prop := ∃ vs H', Inv X pins σ H' s' ∧ Vals vs us ∧ Q vs H'
def SP (X : Cx) (pins : List (Addr × Obj)) (D : Ends) (f : Flow) (s' : Shared) : Prop :=
  match f with
  | .next => ∃ σ' H', Inv X pins σ' H' s' ∧ D.nx σ' H'
  | .brk => ∃ σ' H', Inv X pins σ' H' s' ∧ D.bk σ' H'
  | .cont => ∃ σ' H', Inv X pins σ' H' s' ∧ D.ct σ' H'
  | .ret u => ∃ v σ' H', Inv X pins σ' H' s' ∧ RelV v u ∧ D.rt v H'

def PE (X : Cx) (e : Expr) (t : TE) : Prop :=
  ∀ (pins : List (Addr × Obj)) (s : Shared) (σ : St) (H : Hp) (Q : VK), Inv X pins σ H s → t σ H Q → wpAny (model X.prog X.w) X.A (eval e X.env) (EP X pins σ Q) X.xe s
def PT (X : Cx) (e : Expr) (t : TT) : Prop :=
  ∀ (pins : List (Addr × Obj)) (s : Shared) (σ : St) (H : Hp) (Q : Bool → Hp → Prop), Inv X pins σ H s → t σ H Q → wpAny (model X.prog X.w) X.A (isTrue e X.env (eval e X.env)) (TP X pins σ Q) X.xe s
/-- a test whatever its 'whole' is (and, or) -/
def PW (X : Cx) (e : Expr) (t : TT) : Prop :=
  ∀ (whole : Sem Value) (pins : List (Addr × Obj)) (s : Shared) (σ : St) (H : Hp) (Q : Bool → Hp → Prop), Inv X pins σ H s → t σ H Q → wpAny (model X.prog X.w) X.A (isTrue e X.env whole) (TP X pins σ Q) X.xe s
theorem PW.pt {X : Cx} {e : Expr} {t : TT} (h : PW X e t) : PT X e t := h _
/-- an argument list (no star), from the left -/
def PA (X : Cx) (es : List Expr) (t : TA) : Prop :=
  ∀ (pos : Pos) (pins : List (Addr × Obj)) (s : Shared) (σ : St) (H : Hp) (Q : List V → Hp → Prop), Inv X pins σ H s → t σ H Q → wpAny (model X.prog X.w) X.A (spliced (backTo pos (starEach es X.env))) (AP X pins σ Q) X.xe s
def PS (X : Cx) (st : Stmt) (t : TS) : Prop :=
  ∀ (pins : List (Addr × Obj)) (s : Shared) (σ : St) (H : Hp) (D : Ends), Inv X pins σ H s → t D σ H → wpAny (model X.prog X.w) X.A (exec st X.env) (SP X pins D) X.xe s
def PSs (X : Cx) (st : List Stmt) (t : TS) : Prop :=
  ∀ (pins : List (Addr × Obj)) (s : Shared) (σ : St) (H : Hp) (D : Ends), Inv X pins σ H s → t D σ H → wpAny (model X.prog X.w) X.A (execs st X.env) (SP X pins D) X.xe s
/-- weaken the end -/
theorem thn {α : Type} {t : Sem α} {Q Q' : α → Shared → Prop} {M : Model} {A : Around} {E : Value → Shared → Prop} {s : Shared} (h : wpAny M A t Q E s) (hQ : ∀ a s, Q a s → Q' a s) : wpAny M A t Q' E s := wpAny_mono h hQ fun _ _ x => x
end L2

namespace L2
open PySem PySem.Spec PyProof.Rows
section
variable {X : Cx}

def tVar (i : Nat) : TE := fun σ H Q => ∃ v, σ[i]? = some (some v) ∧ Q v H
def tC (v : V) : TE := fun _ H Q => Q v H
theorem pe_var {i : Nat} {x : Str} {pos : Pos} (hN : X.N[i]? = some x) (hv : Vis X.env.scope x) (hd : (x == ("__debug__" : Str)) = false := by decide) (hcd : (x == ("__classdict__" : Str)) = false := by decide) : PE X (.Name x pos) (tVar i) := by
  intro pins s σ H Q I h
  obtain ⟨v, e, h⟩ := h
  obtain ⟨m, hn, hl⟩ := I.loc
  obtain ⟨u, r, l⟩ := hl i x v hN e hv
  have fin : EP X pins σ Q u s := ⟨v, H, I, r, h⟩
  rcases l with ⟨hk, hm⟩ | ⟨hk, c, hc, hcell⟩
  · exact wpAny_Name (wpAny_loadName_local I.ok.kind hk hn hm fin) hd
  · rcases hk with hk | hk
    · exact wpAny_Name (wpAny_loadName_cell I.ok.kind hk hc hcell fin) hd
    · exact wpAny_Name (wpAny_loadName_free I.ok.kind hk hc hcell fin hcd) hd
theorem pe_int {i j pos} : PE X (.Constant (.int i) j pos) (tC (.int i)) := fun _ _ _ H _ I h => wpAny_Constant_int ⟨.int i, H, I.tok _, ⟨_, rfl⟩, h⟩
theorem pe_bl {b j pos} : PE X (.Constant (.bool b) j pos) (tC (.bl b)) := fun _ _ _ H _ I h => Constant_bool ⟨.bl b, H, I, rfl, h⟩
theorem pe_non {j pos} : PE X (.Constant .none j pos) (tC .non) := fun _ _ _ H _ I h => Constant_none ⟨.non, H, I, rfl, h⟩

/-- a global name of the def -/
def Gl (X : Cx) (x : Str) : Prop := X.env.kindOf x = some .globalImplicit
theorem ld_glob {E : Value → Shared → Prop} {pins : List (Addr × Obj)} {s : Shared} {σ : St} {H : Hp} {x : Str} {u : Value} {pos : Pos} {Q : Value → Shared → Prop} (I : Inv X pins σ H s) (hg : Gl X x) (hm : X.mg x = some u) (h : Q u s)
    (hd : (x == ("__debug__" : Str)) = false := by decide) : wpAny (model X.prog X.w) X.A (eval (.Name x pos) X.env) Q E s :=
  Calls.Name_function_global I.ok.kind hg (Calls.loadGlobal_global (by rw [I.ok.glob]; exact I.mod.glob.keeps I.bk) hm h) hd
theorem ld_blt {E : Value → Shared → Prop} {pins : List (Addr × Obj)} {s : Shared} {σ : St} {H : Hp} {x : Str} {u : Value} {pos : Pos} {Q : Value → Shared → Prop} (I : Inv X pins σ H s) (hg : Gl X x) (hm : X.mg x = none) (hv : bootBuiltins x = some u) (h : Q u s)
    (hn : x ≠ "__name__" := by decide) (hd : (x == ("__debug__" : Str)) = false := by decide) : wpAny (model X.prog X.w) X.A (eval (.Name x pos) X.env) Q E s := by
  obtain ⟨mb, h1, h2⟩ := I.mod.blt
  exact Calls.Name_function_global I.ok.kind hg (Calls.loadGlobal_builtin (by rw [I.ok.glob]; exact I.mod.glob.keeps I.bk) hm (by rw [I.ok.blt]; exact h1.keeps I.bk) ((h2 x hn).trans hv) h) hd
/-- a module's constant, a class, a function, as a value -/
theorem pe_glob {x : Str} {v : V} {u : Value} {pos : Pos} (hg : Gl X x) (hm : X.mg x = some u) (r : RelV v u) (hd : (x == ("__debug__" : Str)) = false := by decide) : PE X (.Name x pos) (tC v) :=
  fun _ _ _ H _ I h => ld_glob I hg hm ⟨v, H, I, r, h⟩ hd

variable {a b : Expr} {ta tb : TE} {pos : Pos}

/-- a comparison as a value, as a test -/
def tB (t : TE) : TT := fun σ H Q => t σ H fun x H1 => ∃ c, x = .bl c ∧ Q c H1
/-- an expression whose value is a bool, as a test -/
theorem pt_val {e : Expr} {t : TE} (h : PE X e t) (he : ∀ whole, isTrue e X.env whole = (do let v ← whole; standAt e.pos; holding [v] (truthy v)) := by intro _; rfl) : PT X e (tB t) := by
  intro pins s σ H Q I hw
  refine isTrue_plain (thn (h pins s σ H _ I hw) fun v s1 ⟨x, H1, I1, r1, q1⟩ => ?_) (he _)
  obtain ⟨d, rfl, q⟩ := q1
  cases r1
  exact wpAny_truthy_bool ⟨H1, I1, q⟩

variable {tA tB' : TT} {rest : List Expr}
def tOr (t u : TT) : TT := fun σ H Q => t σ H fun c H1 => if c = true then Q true H1 else u σ H1 Q
def tNot (t : TT) : TT := fun σ H Q => t σ H fun c H1 => Q (!c) H1
theorem pw_or1 (ha : PT X a tA) : PW X (.BoolOp .Or [a] pos) tA := by
  intro wh pins s σ H Q I h
  refine isTrue_or (thn (ha pins s σ H Q I h) fun c s1 e => ?_)
  cases c with
  | false => exact isTrue_or_nil e
  | true => exact e
theorem pw_or (ha : PT X a tA) (hb : PW X (.BoolOp .Or (b :: rest) pos) tB') : PW X (.BoolOp .Or (a :: b :: rest) pos) (tOr tA tB') := by
  intro wh pins s σ H Q I h
  refine isTrue_or (thn (ha pins s σ H _ I h) fun c s1 ⟨H1, I1, q1⟩ => ?_)
  cases c with
  | true => exact ⟨H1, I1, q1⟩
  | false => exact hb wh pins s1 σ H1 Q I1 q1
theorem pt_not (ha : PT X a tA) : PT X (.UnaryOp .Not a pos) (tNot tA) := by
  intro pins s σ H Q I h
  exact isTrue_not (ha pins s σ H (fun c H1 => Q (!c) H1) I h)
end
end L2

namespace L2
open PySem PySem.Spec PyProof.Rows

def SqL (K : PySem.W.Frag) (H : Hp) (a : Addr) (xs : List V) : Prop :=
  Rd H a (.lst xs) ∨
    ∃ (o : Obj) (its : Array Value) (n : Nat), K.lookup a = some o ∧ o.cls = .type "list" ∧ o.dict = none ∧ o.data = .seq its n ∧ its.size ≤ sizeLine ∧ Vals xs its.toList
def SqT (K : PySem.W.Frag) (H : Hp) (a : Addr) (xs : List V) : Prop :=
  Rd H a (.tup xs) ∨
    ∃ (o : Obj) (its : Array Value) (n : Nat), K.lookup a = some o ∧ o.cls = .type "tuple" ∧ o.data = .seq its n ∧ its.size ≤ sizeLine ∧ Vals xs its.toList
def absV : Value → Option V
  | .none => some .non
  | .bool b => some (.bl b)
  | .int i _ => some (.int i)
  | .str x _ => some (.str x)
  | .bytes b _ => some (.byt b)
  | .float b _ => some (.flt b)
  | .ref a => some (.ref a)
  | .type n => some (.ty n)
  | _ => none
theorem RelV.abs {x : V} {u : Value} (r : RelV x u) : absV u = some x := by
  cases x with
  | non => cases r; rfl
  | bl _ => cases r; rfl
  | int _ => obtain ⟨t, rfl⟩ := r; rfl
  | str _ => obtain ⟨t, rfl⟩ := r; rfl
  | byt _ => obtain ⟨t, rfl⟩ := r; rfl
  | flt _ => obtain ⟨t, rfl⟩ := r; rfl
  | ref _ => cases r; rfl
  | ty _ => cases r; rfl
theorem RelV.inj {x y : V} {u : Value} (r : RelV x u) (q : RelV y u) : x = y := Option.some.inj (r.abs.symm.trans q.abs)
theorem Vals.inj : ∀ {xs ys : List V} {us : List Value}, Vals xs us → Vals ys us → xs = ys
  | _, _, _, .nil, .nil => rfl
  | _, _, _, .cons r t, .cons r' t' => by rw [r.inj r', Vals.inj t t']
section
variable {X : Cx} {pins : List (Addr × Obj)} {σ : St} {H : Hp} {s : Shared} {a : Addr} {xs ys : List V}
theorem SqL.of {K : PySem.W.Frag} (h : H a = some (.lst xs)) : SqL K H a xs := .inl (.inl h)
theorem SqT.of {K : PySem.W.Frag} (h : H a = some (.tup xs)) : SqT K H a xs := .inl (.inl h)
theorem Inv.list (I : Inv X pins σ H s) (h : SqL X.K H a xs) : ∃ its : List Value, Vals xs its ∧ PlainL s.heap a its.toArray ∧ xs.length ≤ sizeLine := by
  rcases h with h | ⟨o, its, n, hk, hc, hd, hs, hz, r⟩
  · obtain ⟨z, its, n, r, e⟩ := h.ok I.hok
    exact ⟨its, r, ⟨_, n, e, rfl, rfl, rfl⟩, z⟩
  · refine ⟨its.toList, r, ⟨o, n, I.kIn a o hk, hc, hd, by simpa using hs⟩, ?_⟩
    have e := r.length
    simp only [Array.length_toList] at e
    omega
theorem Inv.tuple (I : Inv X pins σ H s) (h : SqT X.K H a xs) : ∃ its : List Value, Vals xs its ∧ IsTup s.heap a its.toArray ∧ xs.length ≤ sizeLine := by
  rcases h with h | ⟨o, its, n, hk, hc, hs, hz, r⟩
  · obtain ⟨z, its, r, p⟩ := h.ok I.hok
    exact ⟨its, r, p, z⟩
  · refine ⟨its.toList, r, ⟨o, I.kIn a o hk, hc, n, by simpa using hs⟩, ?_⟩
    have e := r.length
    simp only [Array.length_toList] at e
    omega
theorem Inv.list_inj (I : Inv X pins σ H s) (h : SqL X.K H a xs) (h' : SqL X.K H a ys) : xs = ys := by
  obtain ⟨its, r, ⟨o, n, e, _, _, d⟩, _⟩ := I.list h
  obtain ⟨its', r', ⟨o', n', e', _, _, d'⟩, _⟩ := I.list h'
  rw [e] at e'; cases e'
  rw [d] at d'
  injection d' with d1 _
  have : its = its' := by simpa using congrArg Array.toList d1
  subst this
  exact r.inj r'
end

abbrev Cx.wish (X : Cx) (E : Value → Shared → Prop) : Cx := { X with xe := E }
/-- no exception leaves -/
abbrev Cx.nox (X : Cx) : Cx := X.wish fun _ _ => False
theorem Cx.Ok.wish {X : Cx} (ok : X.Ok) (E : Value → Shared → Prop) : (X.wish E).Ok :=
  ⟨ok.mod, ok.kind, ok.glob, ok.blt, ok.above, ok.inj, ok.has, ok.cab, ok.hd, ok.frames, ok.stk, ok.exf, ok.bs, ok.bsz, ok.noex, ok.exfs, ok.funs, ok.frf⟩
theorem Cx.Ok.unwish {X : Cx} {E : Value → Shared → Prop} (ok : (X.wish E).Ok) : X.Ok :=
  ⟨ok.mod, ok.kind, ok.glob, ok.blt, ok.above, ok.inj, ok.has, ok.cab, ok.hd, ok.frames, ok.stk, ok.exf, ok.bs, ok.bsz, ok.noex, ok.exfs, ok.funs, ok.frf⟩
section
variable {X : Cx} {pins : List (Addr × Obj)} {σ : St} {H : Hp} {s : Shared} {E : Value → Shared → Prop}
theorem Inv.wish (I : Inv X pins σ H s) (E : Value → Shared → Prop) : Inv (X.wish E) pins σ H s := ⟨I.ok.wish E, I.os, I.bare, I.base, I.loc, I.cell, I.free, I.freeC, I.pin, I.hok, I.len⟩
theorem Inv.unwish (I : Inv (X.wish E) pins σ H s) : Inv X pins σ H s := ⟨I.ok.unwish, I.os, I.bare, I.base, I.loc, I.cell, I.free, I.freeC, I.pin, I.hok, I.len⟩
theorem SP.unwish {D : Ends} {f : Flow} {s' : Shared} (h : SP (X.wish E) pins D f s') : SP X pins D f s' := by
  cases f with
  | next => obtain ⟨σ', H', I, q⟩ := h; exact ⟨σ', H', I.unwish, q⟩
  | brk => obtain ⟨σ', H', I, q⟩ := h; exact ⟨σ', H', I.unwish, q⟩
  | cont => obtain ⟨σ', H', I, q⟩ := h; exact ⟨σ', H', I.unwish, q⟩
  | ret u => obtain ⟨v, σ', H', I, r, q⟩ := h; exact ⟨v, σ', H', I.unwish, r, q⟩
theorem PE.nox {e : Expr} {t : TE} (h : PE X.nox e t) : PE X e t := fun pins s σ H Q I hw =>
  wpAny_mono (h pins s σ H Q (I.wish _) hw) (fun _ _ ⟨v, H', I', r, q⟩ => ⟨v, H', I'.unwish, r, q⟩) fun _ _ z => False.elim z
theorem PT.nox {e : Expr} {t : TT} (h : PT X.nox e t) : PT X e t := fun pins s σ H Q I hw =>
  wpAny_mono (h pins s σ H Q (I.wish _) hw) (fun _ _ ⟨H', I', q⟩ => ⟨H', I'.unwish, q⟩) fun _ _ z => False.elim z
theorem PSs.nox {st : List Stmt} {t : TS} (h : PSs X.nox st t) : PSs X st t := fun pins s σ H D I hw =>
  wpAny_mono (h pins s σ H D (I.wish _) hw) (fun _ _ q => q.unwish) fun _ _ z => False.elim z
end

section
variable {X : Cx} {st : Stmt} {rest : List Stmt} {t u : TS} {e : Expr} {te : TE} {pos : Pos}
def tNext : TS := fun D σ H => D.nx σ H
def tSeq (t u : TS) : TS := fun D σ H => t { D with nx := u D } σ H
theorem pss_nil : PSs X [] tNext := fun _ _ σ H _ I h => wpAny_execs_nil ⟨σ, H, I, h⟩
theorem pss_cons (h1 : PS X st t) (h2 : PSs X rest u) : PSs X (st :: rest) (tSeq t u) := by
  intro pins s σ H D I h
  refine wpAny_execs_cons (thn (h1 pins s σ H { D with nx := u D } I h) fun f s1 q => ?_)
  cases f with
  | next =>
    obtain ⟨σ', H', I', q⟩ := q
    exact h2 pins s1 σ' H' D I' q
  | ret v => exact q
  | brk => exact q
  | cont => exact q
theorem pss_one (h1 : PS X st t) : PSs X [st] t := by
  intro pins s σ H D I h
  refine wpAny_execs_cons (thn (h1 pins s σ H D I h) fun f s1 q => ?_)
  cases f with
  | next => exact wpAny_execs_nil q
  | ret v => exact q
  | brk => exact q
  | cont => exact q
/-- in a def's body nothing is shown -/
theorem Inv.quiet {pins : List (Addr × Obj)} {σ : St} {H : Hp} {s : Shared} (I : Inv X pins σ H s) : interactive X.env = false := by simp [interactive, I.ok.kind]
/-- an expression whose value is dropped -/
def tDrop (te : TE) : TS := fun D σ H => te σ H fun _ H1 => D.nx σ H1
theorem ps_expr (he : PE X e te) (hs : swapsWith e none pos.line X.env = pure false := by rfl) : PS X (.Expr e pos) (tDrop te) := by
  intro pins s σ H D I h
  exact wpAny_Expr_any (thn (he pins s σ H _ I h) fun v s1 ⟨x, H1, I1, r1, q1⟩ => ⟨σ, H1, I1, q1⟩) I.quiet hs
def tRet (te : TE) : TS := fun D σ H => te σ H D.rt
theorem ps_ret (he : PE X e te) : PS X (.Return (some e) pos) (tRet te) := by
  intro pins s σ H D I h
  exact wpAny_Return_some (thn (he pins s σ H _ I h) fun v s1 ⟨x, H1, I1, r1, q1⟩ => ⟨x, σ, H1, I1, r1, q1⟩)
def tIfS (c : TT) (t u : TS) : TS := fun D σ H => c σ H fun b H1 => if b = true then t D σ H1 else u D σ H1
theorem ps_if {c : Expr} {a b : List Stmt} {tc : TT} (hc : PT X c tc) (ha : PSs X a t) (hb : PSs X b u) : PS X (.If c a b pos) (tIfS tc t u) := by
  intro pins s σ H D I h
  refine wpAny_If (thn (hc pins s σ H _ I h) fun d s1 ⟨H1, I1, q1⟩ => ?_)
  cases d with
  | true => exact ha pins s1 σ H1 D I1 q1
  | false => exact hb pins s1 σ H1 D I1 q1
end

abbrev TG := V → St → Hp → (St → Hp → Prop) → Prop
abbrev TGs := List V → St → Hp → (St → Hp → Prop) → Prop
def PG (X : Cx) (target : Expr) (t : TG) : Prop :=
  ∀ (pins : List (Addr × Obj)) (s : Shared) (σ : St) (H : Hp) (v : V) (u : Value) (Q : St → Hp → Prop), Inv X pins σ H s → RelV v u → t v σ H Q →
    wpAny (model X.prog X.w) X.A (assign target X.env u) (fun _ s' => ∃ σ' H', Inv X pins σ' H' s' ∧ Q σ' H') X.xe s
/-- several targets, one after another -/
def PGs (X : Cx) (ts : List Expr) (t : TGs) : Prop :=
  ∀ (pins : List (Addr × Obj)) (s : Shared) (σ : St) (H : Hp) (vs : List V) (us : List Value) (Q : St → Hp → Prop), Inv X pins σ H s → Vals vs us → t vs σ H Q →
    wpAny (model X.prog X.w) X.A (assignInOrder ((assignEach ts X.env).map (·.2)) us) (fun _ s' => ∃ σ' H', Inv X pins σ' H' s' ∧ Q σ' H') X.xe s
/-- a op= b, by values -/
abbrev TIp := V → V → Hp → VK → Prop
def PIp (X : Cx) (op : Operator) (t : TIp) : Prop :=
  ∀ (pins : List (Addr × Obj)) (s : Shared) (σ : St) (H : Hp) (x y : V) (v u : Value) (Q : VK), Inv X pins σ H s → RelV x v → RelV y u → t x y H Q →
    wpAny (model X.prog X.w) X.A (inplaceOp op v u) (EP X pins σ Q) X.xe s
section
variable {X : Cx} {pos : Pos}
def gName (i : Nat) : TG := fun v σ H Q => Q (σ.set i (some v)) H
theorem pg_name {i : Nat} {x : Str} (hN : X.N.Nodup) (hi : X.N[i]? = some x) (hx : Loc X.env.scope x) (hf : X.fn x = true ∨ X.env.scope.names.lookup x = some .local := by first | exact .inl rfl | exact .inr rfl | assumption) : PG X (.Name x pos) (gName i) := by
  intro pins s σ H v u Q I r h
  exact wpAny_assign_Name (store_ok I hN hi hx r (fun s' I' => ⟨_, H, I', h⟩) hf)
def gNil : TGs := fun vs σ H Q => vs = [] ∧ Q σ H
def gCons (t : TG) (u : TGs) : TGs := fun vs σ H Q => ∃ v r, vs = v :: r ∧ t v σ H fun σ' H' => u r σ' H' Q
theorem pgs_nil : PGs X [] gNil := by
  intro pins s σ H vs us Q I r h
  obtain ⟨e, h⟩ := h
  subst e
  cases r
  exact assignInOrder_nil ⟨σ, H, I, h⟩
theorem pgs_cons {e : Expr} {es : List Expr} {t : TG} {u : TGs} (h1 : PG X e t) (h2 : PGs X es u)
    (hs : (assignEach (e :: es) X.env).map (·.2) = assign e X.env :: (assignEach es X.env).map (·.2) := by rfl) : PGs X (e :: es) (gCons t u) := by
  intro pins s σ H vs us Q I r h
  obtain ⟨v, vr, e1, h⟩ := h
  subst e1
  cases r with
  | cons r rr =>
    rw [hs]
    refine assignInOrder_cons (thn (h1 pins s σ H _ _ _ I r h) fun _ s1 ⟨σ1, H1, I1, q1⟩ => ?_)
    exact h2 pins s1 σ1 H1 _ _ Q I1 rr q1
/-- (a, b, ..) = a tuple of that length -/
def gTup (K : PySem.W.Frag) (n : Nat) (t : TGs) : TG := fun v σ H Q => ∃ a xs, v = .ref a ∧ SqT K H a xs ∧ xs.length = n ∧ t xs σ H Q
theorem pg_tup {es : List Expr} {k : Nat} {t : TGs} {n : Nat} (hc : X.calm = true) (h : PGs X es t)
    (hn : (assignEach es X.env).length = n := by rfl) (hst : (assignEach es X.env).findIdx? (·.1) = none := by rfl) : PG X (.Tuple es k pos) (gTup X.K n t) := by
  intro pins s σ H v u Q I r hw
  obtain ⟨a, xs, e1, hq, hl, hw⟩ := hw
  subst e1
  cases r
  obtain ⟨its, rv, ht, hz⟩ := I.tuple hq
  refine assign_Tuple_tuple (I.ok.hd hc) ht (by simp [hn, ← hl, rv.length]) hst fun h' hx => ?_
  have I1 : Inv X pins σ H { s with heap := h' } := I.kept (t' := s.toks) fun b o e => hx b o (Nat.ne_of_lt (Heap.lt_size e)) e
  exact h pins _ σ H xs _ Q I1 (by simpa using rv) hw
/-- target = value -/
def tAsg (te : TE) (g : TG) : TS := fun D σ H => te σ H fun x H1 => g x σ H1 D.nx
/-- name = value -/
theorem ps_set {i : Nat} {x : Str} {e : Expr} {te : TE} {pos' : Pos} (hN : X.N.Nodup) (hi : X.N[i]? = some x) (hx : Loc X.env.scope x) (he : PE X e te) (hs : swapsWith e (some (.Name x pos')) pos.line X.env = pure false := by rfl) (hf : X.fn x = true ∨ X.env.scope.names.lookup x = some .local := by first | exact .inl rfl | exact .inr rfl | assumption) :
    PS X (.Assign [.Name x pos'] e pos) (tAsg te (gName i)) := by
  intro pins s σ H D I h
  refine wpAny_Assign_Name (thn (he pins s σ H _ I h) fun v s1 ⟨y, H1, I1, r1, q1⟩ => ?_) hs
  exact store_ok I1 hN hi hx r1 (fun s2 I2 => ⟨_, H1, I2, q1⟩) hf
/-- name op= e -/
def tAug (i : Nat) (te : TE) (ti : TIp) : TS := fun D σ H => ∃ x, σ[i]? = some (some x) ∧ te σ H fun y H1 => ti x y H1 fun z H2 => D.nx (σ.set i (some z)) H2
theorem ps_aug {i : Nat} {x : Str} {e : Expr} {te : TE} {op : Operator} {ti : TIp} {pos' : Pos} (hN : X.N.Nodup) (hi : X.N[i]? = some x) (hx : Loc X.env.scope x) (he : PE X e te) (ho : PIp X op ti) (hf : X.fn x = true ∨ X.env.scope.names.lookup x = some .local := by first | exact .inl rfl | exact .inr rfl | assumption) :
    PS X (.AugAssign (.Name x pos') op e pos) (tAug i te ti) := by
  intro pins s σ H D I h
  obtain ⟨v, e1, h⟩ := h
  obtain ⟨m, hn, hl⟩ := I.loc
  have vis : Vis X.env.scope x := by rcases hx with k | k; exact .inl k; exact .inr (.inl k)
  obtain ⟨u, r, l⟩ := hl i x v hi e1 vis
  refine wpAny_AugAssign_Name ?_
  have go : wpAny (model X.prog X.w) X.A (eval e X.env) (fun w s₂ => wpAny (model X.prog X.w) X.A (inplaceOp op u w) (fun r s₃ => wpAny (model X.prog X.w) X.A (storeName X.env x r) (fun _ => SP X pins D .next) X.xe s₃) X.xe s₂) X.xe s := by
    refine thn (he pins s σ H _ I h) fun w s1 ⟨y, H1, I1, r1, q1⟩ => ?_
    refine thn (ho pins s1 σ H1 v y u w _ I1 r r1 q1) fun z s2 ⟨zv, H2, I2, r2, q2⟩ => ?_
    exact store_ok I2 hN hi hx r2 (fun s3 I3 => ⟨_, H2, I3, q2⟩) hf
  rcases l with ⟨hk, hm⟩ | ⟨hk, c, hc, hcell⟩
  · exact wpAny_loadName_local I.ok.kind hk hn hm go
  · rcases hk with hk | hk
    · exact wpAny_loadName_cell I.ok.kind hk hc hcell go
    · rcases hx with k | k
      · have : X.env.scope.names.lookup x = some .free := hk
        rw [k] at this; cases this
      · have : X.env.scope.names.lookup x = some .free := hk
        rw [k] at this; cases this
end

section
variable {X : Cx} {pos : Pos}
end

/-- at turn i: it yields x (the heap may grow), or it stops -/
structure It where
  go : Nat → Hp → Prop
  yld : Nat → Hp → V → Hp → Prop
  stop : Nat → Hp → Prop
/-- the iterator's own objects may turn: they are not the frame's, not pinned, younger than the entry (or a comprehension's own) -/
def FpOk (X : Cx) (pins : List (Addr × Obj)) (H : Hp) (b : Addr) : Prop :=
  H b = none ∧ b ≠ X.env.locals ∧ b ∉ X.fs ∧ (b ∈ X.ex ∨ X.s_0.heap.objs.size ≤ b) ∧ (∀ x c, X.env.cells.lookup x = some c → c ≠ b) ∧ ∀ p ∈ X.pn ++ pins, p.1 ≠ b
theorem Inv.fpOk {X : Cx} {pins : List (Addr × Obj)} {σ : St} {H H' : Hp} {s : Shared} {b : Addr} (I : Inv X pins σ H s) (hb : s.heap.objs.size ≤ b) (hn : H' b = none) : FpOk X pins H' b := by
  refine ⟨hn, Nat.ne_of_gt (Nat.lt_of_lt_of_le I.lt hb), I.nofs hb, .inr (Nat.le_trans I.sz hb), fun x c e z => ?_, fun p hp z => ?_⟩
  · obtain ⟨v, q⟩ := I.cell x c e
    exact absurd (Nat.lt_of_lt_of_le q.lt (by rw [z]; exact hb)) (Nat.lt_irrefl _)
  · exact absurd (Nat.lt_of_lt_of_le (Heap.lt_size (I.pin p hp).1) (by rw [z]; exact hb)) (Nat.lt_irrefl _)
structure Turn (P : Program) (w : World) (K : PySem.W.Frag) (tg : Expr) (J : It) (fp : List Addr) (it : Addr) (tn : Nat → Heap → Prop) : Prop where
  mem : it ∈ fp
  obj : ∀ i h, tn i h → ∀ b ∈ fp, ∃ o, h.get? b = some o ∧ ∀ v, o.data ≠ .cell v
  keep : ∀ i h h', tn i h → (∀ b ∈ fp, ∀ o, h.get? b = some o → h'.get? b = some o) → tn i h'
  item : ∀ (X : Cx), X.prog = P → X.w = w → X.K = K → X.calm = true → ∀ (i : Nat) (pins : List (Addr × Obj)) (s : Shared) (σ : St) (H : Hp) (E : Value → Shared → Prop), Inv X pins σ H s → (∀ b ∈ fp, FpOk X pins H b) → tn i s.heap → J.go i H →
    wpAny (model P w) X.A (pyNext (.ref it)) (fun r s1 => ∃ u, r = some u ∧
      wpAny (model P w) X.A (letOwnedTupleGo tg (.ref it) u) (fun _ s2 => ∃ x H', Inv X pins σ H' s2 ∧ RelV x u ∧ J.yld i H x H' ∧ tn (i + 1) s2.heap ∧ ∀ b ∈ fp, H' b = none) E s1) E s
  done : ∀ (X : Cx), X.prog = P → X.w = w → X.K = K → X.calm = true → ∀ (i : Nat) (pins : List (Addr × Obj)) (s : Shared) (σ : St) (H : Hp) (E : Value → Shared → Prop), Inv X pins σ H s → (∀ b ∈ fp, FpOk X pins H b) → tn i s.heap → J.stop i H →
    wpAny (model P w) X.A (pyNext (.ref it)) (fun r s1 => r = none ∧ Inv X pins σ H s1) E s
  self : ∀ (A : Around) (i : Nat) (s : Shared) (Q : Value → Shared → Prop) (E : Value → Shared → Prop), tn i s.heap → Q (.ref it) s → wpAny (model P w) A (pyIter (.ref it)) Q E s
abbrev TI := St → Hp → (It → Hp → Prop) → Prop
/-- an iterator has come -/
def PIE (X : Cx) (pins : List (Addr × Obj)) (σ : St) (tg : Expr) (R : It → Hp → Prop) (itv : Value) (s2 : Shared) : Prop :=
  ∃ (it : Addr) (fp : List Addr) (tn : Nat → Heap → Prop) (J : It) (H' : Hp), itv = .ref it ∧ Inv X pins σ H' s2 ∧ Turn X.prog X.w X.K tg J fp it tn ∧ tn 0 s2.heap ∧ (∀ b ∈ fp, FpOk X pins H' b) ∧ R J H'
def PI (X : Cx) (tg iter : Expr) (wi : TI) : Prop :=
  ∀ (pins : List (Addr × Obj)) (s : Shared) (σ : St) (H : Hp) (R : It → Hp → Prop), Inv X pins σ H s → wi σ H R →
    wpAny (model X.prog X.w) X.A (eval iter X.env) (fun v s1 => wpAny (model X.prog X.w) X.A (pyIter v) (PIE X pins σ tg R) X.xe s1) X.xe s

/-- the step ahead of the store is nothing for an iterator that keeps no tuple -/
theorem go_of {M : Model} {A : Around} {E : Value → Shared → Prop} {s : Shared} {tg : Expr} {it : Addr} {u : Value} {o : Obj} {n : String} {vs : Array Value} {Q : Unit → Shared → Prop} (ho : s.heap.get? it = some o) (hc : o.cls = .type n) (hd : o.data = .fields vs)
    (hn : ["enumerate", "zip", "dict_itemiterator", "dict_reverseitemiterator", "odict_iterator", "itertools.zip_longest", "itertools.pairwise"].contains n = false) (hQ : Q () s) : wpAny M A (letOwnedTupleGo tg (.ref it) u) Q E s := by
  unfold letOwnedTupleGo
  cases tg <;> first
    | exact wpAny_pure hQ
    | (cases u <;> first
        | exact wpAny_pure hQ
        | (refine wpAny_bind (wpAny_load ho ?_)
           rw [hc, hd]
           show wpAny M A (if (["enumerate", "zip", "dict_itemiterator", "dict_reverseitemiterator", "odict_iterator", "itertools.zip_longest", "itertools.pairwise"].contains n && vs[0]? == some (rawInt _)) = true then _ else _) Q E s
           rw [if_neg (by intro h; rw [hn, Bool.false_and] at h; cases h)]
           exact wpAny_pure hQ))

/-- the list at a, as it stands at each turn (a loop may append to it) -/
def Itl (K : PySem.W.Frag) (a : Addr) : It :=
  ⟨fun i H => ∃ xs x, SqL K H a xs ∧ xs[i]? = some x, fun i H x H' => H' = H ∧ ∀ xs, SqL K H a xs → xs[i]? = some x, fun i H => ∃ xs, SqL K H a xs ∧ xs.length ≤ i⟩
/-- lo, lo + 1, .. (n of them) -/
def Itr (lo : Int) (n : Nat) : It := ⟨fun i _ => i < n, fun i H x H' => H' = H ∧ x = .int (lo + i), fun i _ => n ≤ i⟩
theorem turn_list {P : Program} {w : World} {K : PySem.W.Frag} {tg : Expr} (a it : Addr) : Turn P w K tg (Itl K a) [it] it (fun i h => h.IsListIter it a i) where
  mem := by simp
  obj := fun i h st b hb => by
    have e : b = it := by simpa using hb
    subst e
    obtain ⟨o, e, c, d⟩ := st
    exact ⟨o, e, fun v z => by rw [d] at z; cases z⟩
  keep := fun i h h' st k => st.at fun o e => k it (by simp) o e
  item := by
    intro X hP hw hK hc i pins s σ H E I hf st hg
    subst hP hw hK
    obtain ⟨xs, x, hq, hx⟩ := hg
    obtain ⟨its, rv, p, hz⟩ := I.list hq
    obtain ⟨u, hu, ru⟩ := rv.get hx
    obtain ⟨f0, f1, f2, f3, f4, f5⟩ := hf it (by simp)
    refine wpAny_pyNext_list_item st p.isList (x := u) (by simpa using hu) fun h' st' sb => ?_
    have I1 : Inv X pins σ H { s with heap := h' } := I.turned (t' := s.toks) (fun b o hb e => (sb.2 b hb).trans e) f0 f1 f3 f4 f5
    obtain ⟨o, e, c, d⟩ := id st'
    exact ⟨u, rfl, go_of (s := { s with heap := h' }) e c d (by decide) ⟨x, H, I1, ru, ⟨rfl, fun ys hy => by rw [I.list_inj hy hq]; exact hx⟩, st', fun b hb => (hf b hb).1⟩⟩
  done := by
    intro X hP hw hK hc i pins s σ H E I hf st hg
    subst hP hw hK
    obtain ⟨xs, hq, hx⟩ := hg
    obtain ⟨its, rv, p, hz⟩ := I.list hq
    obtain ⟨f0, f1, f2, f3, f4, f5⟩ := hf it (by simp)
    have hl := rv.length
    exact wpAny_pyNext_list_end (I.ok.hd hc) st p.isList (by simp; omega) fun h' eb => ⟨rfl, I.turned (t' := s.toks) (fun b o hb e => eb b o hb e) f0 f1 f3 f4 f5⟩
  self := fun _ _ _ _ _ st h => wpAny_pyIter_listiter st h
theorem turn_range {P : Program} {w : World} {K : PySem.W.Frag} {tg : Expr} (it : Addr) (lo : Int) (n : Nat) : Turn P w K tg (Itr lo n) [it] it (fun i h => IsRangeIter h it (lo + (i : Nat) * 1) ((n : Int) - (i : Nat)) 1) where
  mem := by simp
  obj := fun i h st b hb => by
    have e : b = it := by simpa using hb
    subst e
    exact ⟨_, st, fun v z => by
      have z' : Data.fields _ = Data.cell v := z
      cases z'⟩
  keep := fun i h h' st k => k it (by simp) _ st
  item := by
    intro X hP hw hK hc i pins s σ H E I hf st hg
    subst hP hw hK
    obtain ⟨f0, f1, f2, f3, f4, f5⟩ := hf it (by simp)
    have W := Walks.range (prog := X.prog) (w := X.w) (I.ok.hd hc) it lo 1 n
    refine W.item i s _ _ hg st fun v h' tk hv st' kk => ?_
    obtain ⟨t, rfl⟩ := hv
    have I1 : Inv X pins σ H { s with heap := h', toks := tk } := I.turned (fun b o hb e => kk b o (by simpa using hb) e) f0 f1 f3 f4 f5
    refine ⟨_, rfl, go_of (s := { s with heap := h', toks := tk }) (n := "range_iterator") st' rfl rfl (by decide) ⟨.int (lo + i), H, I1, ⟨t, ?_⟩, ⟨rfl, rfl⟩, st', fun b hb => (hf b hb).1⟩⟩
    rw [Int.mul_one]
  done := by
    intro X hP hw hK hc i pins s σ H E I hf st hg
    subst hP hw hK
    obtain ⟨f0, f1, f2, f3, f4, f5⟩ := hf it (by simp)
    exact wpAny_pyNext_range_end (I.ok.hd hc) st (by have : n ≤ i := hg; omega) fun h' eb => ⟨rfl, I.turned (t' := s.toks) (fun b o hb e => eb b o hb e) f0 f1 f3 f4 f5⟩
  self := fun _ _ _ _ _ st h => wpAny_pyIter_rangeiter st h
end L2

namespace L2
open PySem PySem.Spec PyProof.Rows
section
variable {X : Cx} {tg : Expr}
def iList (K : PySem.W.Frag) (tl : TE) : TI := fun σ H R => tl σ H fun x H1 => ∃ a, x = .ref a ∧ (∃ xs, SqL K H1 a xs) ∧ R (Itl K a) H1
theorem pi_list {l : Expr} {tl : TE} (hl : PE X l tl) : PI X tg l (iList X.K tl) := by
  intro pins s σ H R I h
  refine thn (hl pins s σ H _ I h) fun v s1 ⟨x, H1, I1, r1, q1⟩ => ?_
  obtain ⟨a, e, ⟨xs, hq⟩, q⟩ := q1
  subst e
  cases r1
  obtain ⟨its, rv, p, hz⟩ := I1.list hq
  refine wpAny_pyIter_list p.isList ?_
  refine ⟨s1.heap.objs.size, [s1.heap.objs.size], _, _, H1, rfl, I1.kept (t' := s1.toks) fun b o e => Heap.get?_push_of_some _ e, turn_list a _, ⟨_, Heap.get?_push_size _ rfl, rfl, rfl⟩, fun b hb => ?_, q⟩
  have e : b = s1.heap.objs.size := by simpa using hb
  subst e
  exact I1.fpOk (Nat.le_refl _) (I1.hok.fresh (Nat.le_refl _))
/-- a range object just made, walked -/
theorem range_it {pins : List (Addr × Obj)} {σ : St} {H : Hp} {s : Shared} {R : It → Hp → Prop} {E : Value → Shared → Prop} {lo hi : Int} {t u v : Tok} {tk : Nat} (I : Inv X pins σ H s) (h1 : -(2 ^ 62) ≤ lo) (h2 : lo < 2 ^ 62) (h3 : -(2 ^ 62) ≤ hi) (h4 : hi < 2 ^ 62)
    (q : R (Itr lo (hi - lo).toNat) H) : wpAny (model X.prog X.w) X.A (pyIter (.ref s.heap.objs.size)) (PIE X pins σ tg R) E { s with heap := s.heap.push { cls := .type "range", data := .fields #[.int lo t, .int hi u, .int 1 v] }, toks := tk } := by
  refine wpAny_pyIter_range (IsRange.new ..) (small_one h1 h2 h3 h4) ?_
  have I1 : Inv X pins σ H { s with heap := s.heap.push { cls := .type "range", data := .fields #[.int lo t, .int hi u, .int 1 v] }, toks := tk } := I.kept fun b o e => Heap.get?_push_of_some _ e
  refine ⟨(s.heap.push { cls := .type "range", data := .fields #[.int lo t, .int hi u, .int 1 v] }).objs.size, [(s.heap.push { cls := .type "range", data := .fields #[.int lo t, .int hi u, .int 1 v] }).objs.size], _, _, H, rfl,
    I1.kept (t' := tk) fun b o e => Heap.get?_push_of_some _ e, turn_range _ lo (hi - lo).toNat, ?_, fun b hb => ?_, q⟩
  · have e1 : lo + ((0 : Nat) : Int) * 1 = lo := by simp
    have e2 : (((hi - lo).toNat : Nat) : Int) - ((0 : Nat) : Int) = Builtin.Range.rangeSize lo hi 1 := by rw [rangeSize_one]; split <;> omega
    show IsRangeIter _ _ (lo + ((0 : Nat) : Int) * 1) ((((hi - lo).toNat : Nat) : Int) - ((0 : Nat) : Int)) 1
    rw [e1, e2]
    exact Heap.get?_push_size _ rfl
  · have e : b = (s.heap.push { cls := .type "range", data := .fields #[.int lo t, .int hi u, .int 1 v] }).objs.size := by simpa using hb
    subst e
    exact I1.fpOk (Nat.le_refl _) (I1.hok.fresh (Nat.le_refl _))
def iRng1 (ta : TA) : TI := fun σ H R => ta σ H fun vs H1 => ∃ j : Int, vs = [.int j] ∧ -(2 ^ 62) ≤ j ∧ j < 2 ^ 62 ∧ R (Itr 0 j.toNat) H1
theorem pi_range1 {a : Expr} {ta : TA} {p pos : Pos} (hg : Gl X "range") (hm : X.mg "range" = none) (ha : PA X [a] ta) (hs : starEach [a] X.env = [(false, eval a X.env)] := by rfl) : PI X tg (.Call (.Name "range" p) [a] [] pos) (iRng1 ta) := by
  intro pins s σ H R I h
  refine Call_ (ld_blt I hg hm boot_range (PyProof.Rows.callWith_type1 (thn (ha pos pins s σ H _ I h) fun us s1 ⟨vs, H1, I1, r1, q1⟩ => ?_) hs rfl))
  obtain ⟨j, e, q1, q2, q⟩ := q1
  subst e
  cases r1 with
  | cons r rr =>
    cases rr
    obtain ⟨t, rfl⟩ := r
    exact call_range_1 (range_it I1 (by omega) (by omega) q1 q2 (by simpa using q))

/-- W: the invariant by the turn and a measure; N: what the body is to reach -/
def tFor (wi : TI) (g : TG) (tb : TS) : TS := fun D σ H => wi σ H fun J H1 => ∃ W : Nat → Nat → St → Hp → Prop, (∃ m, W 0 m σ H1) ∧ ∀ i m σ H, W i m σ H →
  (J.stop i H ∧ D.nx σ H) ∨ (J.go i H ∧ ∃ N : St → Hp → Prop, (∀ σ' H', N σ' H' → ∃ m', m' < m ∧ W (i + 1) m' σ' H') ∧ ∀ x H', J.yld i H x H' → g x σ H' fun σ2 H2 => tb { D with nx := N, ct := N, bk := D.nx } σ2 H2)
/-- the records at fp as they stand -/
def pinsAt (fp : List Addr) (h : Heap) : List (Addr × Obj) := fp.filterMap fun b => (h.get? b).map fun o => (b, o)
theorem mem_pinsAt {fp : List Addr} {h : Heap} {b : Addr} {o : Obj} (hb : b ∈ fp) (e : h.get? b = some o) : (b, o) ∈ pinsAt fp h := List.mem_filterMap.mpr ⟨b, hb, by rw [e]; rfl⟩
theorem of_pinsAt {fp : List Addr} {h : Heap} {p : Addr × Obj} (hp : p ∈ pinsAt fp h) : p.1 ∈ fp ∧ h.get? p.1 = some p.2 := by
  obtain ⟨b, hb, e⟩ := List.mem_filterMap.mp hp
  cases q : h.get? b with
  | none => rw [q] at e; cases e
  | some o =>
    rw [q] at e
    have e' : (b, o) = p := Option.some.inj e
    subst e'
    exact ⟨hb, q⟩
theorem Inv.pinned {pins : List (Addr × Obj)} {σ : St} {H : Hp} {s : Shared} {fp : List Addr} (I : Inv X pins σ H s) (hf : ∀ b ∈ fp, FpOk X pins H b) (ho : ∀ b ∈ fp, ∃ o, s.heap.get? b = some o ∧ ∀ v, o.data ≠ .cell v) : Inv X (pins ++ pinsAt fp s.heap) σ H s :=
  I.pins_of fun p hp => (List.mem_append.mp hp).elim (fun z => I.pin p (List.mem_append_right _ z)) fun z => by
    obtain ⟨hb, e⟩ := of_pinsAt z
    obtain ⟨f0, f1, f2, _⟩ := hf p.1 hb
    obtain ⟨o, e', d⟩ := ho p.1 hb
    rw [e] at e'; cases e'
    exact ⟨e, f0, f1, f2, d⟩
theorem Inv.unpinned {pins pl : List (Addr × Obj)} {σ : St} {H : Hp} {s : Shared} (I : Inv X (pins ++ pl) σ H s) : Inv X pins σ H s := I.pins_of fun p hp => I.pin p (List.mem_append_right _ (List.mem_append_left _ hp))
theorem ps_for {iter : Expr} {body : List Stmt} {wi : TI} {g : TG} {tb : TS} {pos : Pos} (hp : PassesOwn (model X.prog X.w) X.A X.env X.xe) (hc : X.calm = true) (hi : PI X tg iter wi) (hg : PG X tg g) (hb : PSs X body tb)
    (hs : ∀ x, foldedSetIterable iter X.env x = pure x := by intro _; rfl) : PS X (.For tg iter body [] pos) (tFor wi g tb) := by
  intro pins s σ H D I h
  refine wpAny_For (thn (hi pins s σ H _ I h) fun v s1 h1 => thn h1 fun itv s2 h2 => ?_) hs
  obtain ⟨it, fp, tn, J, H2, e, I2, T, st2, f2, W, ⟨m0, w0⟩, turn⟩ := h2
  subst e
  -- what stays true of the iterator's objects through the loop
  have stat : ∀ {H' : Hp}, (∀ b ∈ fp, H' b = none) → ∀ b ∈ fp, FpOk X pins H' b := fun hn b hb => ⟨hn b hb, (f2 b hb).2⟩
  refine codeAny_forLoop_any (fun n s' => ∃ i σ' H', Inv X pins σ' H' s' ∧ tn i s'.heap ∧ (∀ b ∈ fp, H' b = none) ∧ W i n σ' H') ?_ m0 ⟨0, σ, H2, I2, st2, fun b hb => (f2 b hb).1, w0⟩
  rintro n s3 ⟨i, σ3, H3, I3, st3, fr3, w3⟩
  rcases turn i n σ3 H3 w3 with ⟨stop, qn⟩ | ⟨go, N, hN, step⟩
  · refine wpAny_passesOwn hp (thn (T.done X rfl rfl rfl hc i pins s3 σ3 H3 X.xe I3 (stat fr3) st3 stop) fun r s4 ⟨hr, I4⟩ => ?_)
    subst hr
    exact wpAny_execs_nil ⟨σ3, H3, I4, qn⟩
  · refine wpAny_passesOwn hp (thn (T.item X rfl rfl rfl hc i pins s3 σ3 H3 X.xe I3 (stat fr3) st3 go) fun r s4 ⟨u, hr, h4⟩ => ?_)
    subst hr
    refine wpAny_passesOwn hp (thn h4 fun _ s5 ⟨x, H5, I5, r5, y5, st5, fr5⟩ => ?_)
    have I5' := I5.pinned (stat fr5) (T.obj _ _ st5)
    refine wpAny_passesOwn hp (thn (hg _ s5 σ3 H5 x u _ I5' r5 (step x H5 y5)) fun _ s6 ⟨σ6, H6, I6, q6⟩ => ?_)
    refine wpAny_passesOwn hp (thn (hb _ s6 σ6 H6 _ I6 q6) fun f s7 q7 => ?_)
    have again : ∀ {σ7 : St} {H7 : Hp}, Inv X (pins ++ pinsAt fp s5.heap) σ7 H7 s7 → N σ7 H7 → ∃ m, m < n ∧ ∃ i σ' H', Inv X pins σ' H' s7 ∧ tn i s7.heap ∧ (∀ b ∈ fp, H' b = none) ∧ W i m σ' H' := fun {σ7 H7} I7 n7 => by
      obtain ⟨m', hm, w7⟩ := hN σ7 H7 n7
      refine ⟨m', hm, i + 1, σ7, H7, I7.unpinned, T.keep _ _ _ st5 fun b hb o e => (I7.pin (b, o) (List.mem_append_right _ (List.mem_append_right _ (mem_pinsAt hb e)))).1, fun b hb => ?_, w7⟩
      obtain ⟨o, e, d⟩ := T.obj _ _ st5 b hb
      exact (I7.pin (b, o) (List.mem_append_right _ (List.mem_append_right _ (mem_pinsAt hb e)))).2.1
    cases f with
    | next => obtain ⟨σ7, H7, I7, n7⟩ := q7; exact again I7 n7
    | cont => obtain ⟨σ7, H7, I7, n7⟩ := q7; exact again I7 n7
    | brk => obtain ⟨σ7, H7, I7, q7⟩ := q7; exact ⟨σ7, H7, I7.unpinned, q7⟩
    | ret v => obtain ⟨x7, σ7, H7, I7, r7, q7⟩ := q7; exact ⟨x7, σ7, H7, I7.unpinned, r7, q7⟩
end

/-- over a list that the body leaves as it is -/
theorem for_list {K : PySem.W.Frag} {a : Addr} {xs : List V} {g : TG} {tb : TS} {D : Ends} {σ : St} {H : Hp} (Pv : Nat → St → Hp → Prop) (h0 : Pv 0 σ H) (hl : ∀ i σ H, i ≤ xs.length → Pv i σ H → SqL K H a xs)
    (hs : ∀ i x σ H, xs[i]? = some x → Pv i σ H → g x σ H fun σ2 H2 => tb { D with nx := Pv (i + 1), ct := Pv (i + 1), bk := D.nx } σ2 H2) (hd : ∀ σ H, Pv xs.length σ H → D.nx σ H) :
    ∃ W : Nat → Nat → St → Hp → Prop, (∃ m, W 0 m σ H) ∧ ∀ i m σ H, W i m σ H →
      ((Itl K a).stop i H ∧ D.nx σ H) ∨ ((Itl K a).go i H ∧ ∃ N : St → Hp → Prop, (∀ σ' H', N σ' H' → ∃ m', m' < m ∧ W (i + 1) m' σ' H') ∧ ∀ x H', (Itl K a).yld i H x H' → g x σ H' fun σ2 H2 => tb { D with nx := N, ct := N, bk := D.nx } σ2 H2) := by
  refine ⟨fun i m σ H => m = xs.length - i ∧ i ≤ xs.length ∧ Pv i σ H, ⟨xs.length, by simp, Nat.zero_le _, h0⟩, ?_⟩
  rintro i m σ H ⟨rfl, hi, p⟩
  have q := hl i σ H hi p
  by_cases hlt : i < xs.length
  · refine .inr ⟨⟨xs, xs[i], q, by simp [hlt]⟩, Pv (i + 1), fun σ' H' p' => ⟨xs.length - (i + 1), by omega, rfl, hlt, p'⟩, fun x H' y => ?_⟩
    obtain ⟨e, y⟩ := y
    subst e
    exact hs i x σ _ (y xs q) p
  · have e : i = xs.length := by omega
    subst e
    exact .inl ⟨⟨xs, q, Nat.le_refl _⟩, hd σ H p⟩
theorem for_range {lo : Int} {n : Nat} {g : TG} {tb : TS} {D : Ends} {σ : St} {H : Hp} (Pv : Nat → St → Hp → Prop) (h0 : Pv 0 σ H)
    (hs : ∀ i σ H, i < n → Pv i σ H → g (.int (lo + i)) σ H fun σ2 H2 => tb { D with nx := Pv (i + 1), ct := Pv (i + 1), bk := D.nx } σ2 H2) (hd : ∀ σ H, Pv n σ H → D.nx σ H) :
    ∃ W : Nat → Nat → St → Hp → Prop, (∃ m, W 0 m σ H) ∧ ∀ i m σ H, W i m σ H →
      ((Itr lo n).stop i H ∧ D.nx σ H) ∨ ((Itr lo n).go i H ∧ ∃ N : St → Hp → Prop, (∀ σ' H', N σ' H' → ∃ m', m' < m ∧ W (i + 1) m' σ' H') ∧ ∀ x H', (Itr lo n).yld i H x H' → g x σ H' fun σ2 H2 => tb { D with nx := N, ct := N, bk := D.nx } σ2 H2) := by
  refine ⟨fun i m σ H => m = n - i ∧ i ≤ n ∧ Pv i σ H, ⟨n, by simp, Nat.zero_le _, h0⟩, ?_⟩
  rintro i m σ H ⟨rfl, hi, p⟩
  by_cases hlt : i < n
  · refine .inr ⟨hlt, Pv (i + 1), fun σ' H' p' => ⟨n - (i + 1), by omega, rfl, hlt, p'⟩, fun x H' y => ?_⟩
    obtain ⟨e, y⟩ := y
    subst e y
    exact hs i σ _ hlt p
  · have e : i = n := by omega
    subst e
    exact .inl ⟨Nat.le_refl _, hd σ H p⟩
end L2

namespace L2
open PySem PySem.Spec PyProof.Rows

abbrev R2 := V → V → Hp → VK → Prop
/-- a two-place operation on values: f is binaryOp op, inplaceOp op or compareOp op -/
def OpR (X : Cx) (f : Value → Value → Sem Value) (r : R2) : Prop :=
  ∀ (pins : List (Addr × Obj)) (s : Shared) (σ : St) (H : Hp) (x y : V) (v u : Value) (Q : VK), Inv X pins σ H s → RelV x v → RelV y u → r x y H Q →
    wpAny (model X.prog X.w) X.A (f v u) (EP X pins σ Q) X.xe s
/-- a call of a value that is known (a builtin, a type) with values -/
def CallR (X : Cx) (f : Value) (r : List V → Hp → VK → Prop) : Prop :=
  ∀ (pins : List (Addr × Obj)) (s : Shared) (σ : St) (H : Hp) (xs : List V) (us : List Value) (Q : VK), Inv X pins σ H s → Vals xs us → r xs H Q →
    wpAny (model X.prog X.w) X.A (call f us) (EP X pins σ Q) X.xe s
/-- a value's truth -/
def TruR (X : Cx) (r : V → Hp → (Bool → Hp → Prop) → Prop) : Prop :=
  ∀ (pins : List (Addr × Obj)) (s : Shared) (σ : St) (H : Hp) (x : V) (v : Value) (Q : Bool → Hp → Prop), Inv X pins σ H s → RelV x v → r x H Q →
    wpAny (model X.prog X.w) X.A (truthy v) (TP X pins σ Q) X.xe s

def tOp (r : R2) (ta tb : TE) : TE := fun σ H Q => ta σ H fun x H1 => tb σ H1 fun y H2 => r x y H2 Q
/-- ints in, under C, and a value out -/
def rI (C : Int → Int → Prop) (g : Int → Int → V) : R2 := fun x y H Q => ∃ i j, x = .int i ∧ y = .int j ∧ C i j ∧ Q (g i j) H
def rI0 (g : Int → Int → V) : R2 := fun x y H Q => ∃ i j, x = .int i ∧ y = .int j ∧ Q (g i j) H

section
variable {X : Cx} {a b c : Expr} {ta tb tc : TE} {pos : Pos}

theorem binT (ha : PE X a ta) (hb : PE X b tb) {pins : List (Addr × Obj)} {s : Shared} {σ : St} {H : Hp} {R : V → V → Hp → Prop} (I : Inv X pins σ H s)
    (h : ta σ H fun x H1 => tb σ H1 fun y H2 => R x y H2) {Q : Value → Shared → Prop} {f : Value → Value → Sem Value}
    (hf : ∀ v u s2 x y H2, Inv X pins σ H2 s2 → RelV x v → RelV y u → R x y H2 → wpAny (model X.prog X.w) X.A (f v u) Q X.xe s2) :
    wpAny (model X.prog X.w) X.A (eval a X.env) (fun v s₁ => wpAny (model X.prog X.w) X.A (eval b X.env) (fun u s₂ => wpAny (model X.prog X.w) X.A (f v u) Q X.xe s₂) X.xe s₁) X.xe s := by
  refine thn (ha pins s σ H _ I h) fun v s1 ⟨x, H1, I1, r1, q1⟩ => ?_
  refine thn (hb pins s1 σ H1 _ I1 q1) fun u s2 ⟨y, H2, I2, r2, q2⟩ => ?_
  exact hf v u s2 x y H2 I2 r1 r2 q2

theorem pe_op {op : Operator} {r : R2} (ho : OpR X (binaryOp op) r) (ha : PE X a ta) (hb : PE X b tb) : PE X (.BinOp a op b pos) (tOp r ta tb) := by
  intro pins s σ H Q I h
  exact wpAny_BinOp (binT ha hb I h fun v u s2 x y H2 I2 rx ry q => ho pins s2 σ H2 x y v u Q I2 rx ry q)

theorem opI {f : Value → Value → Sem Value} {C : Int → Int → Prop} {g : Int → Int → Int}
    (rule : ∀ (i j : Int) (t u : Tok) (s : Shared) (Q : Value → Shared → Prop) (E : Value → Shared → Prop), C i j → Q (.int (g i j) s.toks) { s with toks := s.toks + 1 } → wpAny (model X.prog X.w) X.A (f (.int i t) (.int j u)) Q E s) :
    OpR X f (rI C fun i j => .int (g i j)) := by
  intro pins s σ H x y v u Q I rx ry h
  obtain ⟨i, j, rfl, rfl, hc, q⟩ := h
  obtain ⟨t, rfl⟩ := rx
  obtain ⟨t', rfl⟩ := ry
  exact rule i j t t' s _ _ hc ⟨.int (g i j), H, I.tok _, ⟨_, rfl⟩, q⟩
theorem opI0 {f : Value → Value → Sem Value} {g : Int → Int → Int}
    (rule : ∀ (i j : Int) (t u : Tok) (s : Shared) (Q : Value → Shared → Prop) (E : Value → Shared → Prop), Q (.int (g i j) s.toks) { s with toks := s.toks + 1 } → wpAny (model X.prog X.w) X.A (f (.int i t) (.int j u)) Q E s) :
    OpR X f (rI0 fun i j => .int (g i j)) := by
  intro pins s σ H x y v u Q I rx ry h
  obtain ⟨i, j, rfl, rfl, q⟩ := h
  obtain ⟨t, rfl⟩ := rx
  obtain ⟨t', rfl⟩ := ry
  exact rule i j t t' s _ _ ⟨.int (g i j), H, I.tok _, ⟨_, rfl⟩, q⟩
theorem opB0 {f : Value → Value → Sem Value} {g : Int → Int → Bool}
    (rule : ∀ (i j : Int) (t u : Tok) (s : Shared) (Q : Value → Shared → Prop) (E : Value → Shared → Prop), Q (.bool (g i j)) s → wpAny (model X.prog X.w) X.A (f (.int i t) (.int j u)) Q E s) :
    OpR X f (rI0 fun i j => .bl (g i j)) := by
  intro pins s σ H x y v u Q I rx ry h
  obtain ⟨i, j, rfl, rfl, q⟩ := h
  obtain ⟨t, rfl⟩ := rx
  obtain ⟨t', rfl⟩ := ry
  exact rule i j t t' s _ _ ⟨.bl (g i j), H, I, rfl, q⟩

def CPow (i j : Int) : Prop := 0 ≤ j ∧ j ≤ 1000000 ∧ i.natAbs < 2 ^ 64
def CMul (i j : Int) : Prop := (-(2 ^ 64) < i ∧ i < 2 ^ 64) ∨ (-(2 ^ 64) < j ∧ j < 2 ^ 64)
theorem CMul.ok {i j : Int} (h : CMul i j) : IntMulOk i j := by
  rcases h with ⟨h1, h2⟩ | ⟨h1, h2⟩
  · exact .of_left (intBits_le_64 h1 h2)
  · exact .of_right (intBits_le_64 h1 h2)
theorem two_pow_nn (k : Nat) : (0 : Int) ≤ 2 ^ k := by
  rw [two_pow_cast]
  exact Int.natCast_nonneg _

theorem op_add : OpR X (binaryOp .Add) (rI0 fun i j => .int (i + j)) := opI0 fun _ _ _ _ _ _ _ q => add_int q
theorem op_mul : OpR X (binaryOp .Mult) (rI CMul fun i j => .int (i * j)) := opI fun _ _ _ _ _ _ _ hc q => mul_int q hc.ok
theorem op_shl : OpR X (binaryOp .LShift) (rI CPow fun i j => .int (i * 2 ^ j.toNat)) := opI fun _ _ _ _ _ _ _ hc q => lshift_int_small hc.1 hc.2.1 hc.2.2 q
theorem op_shr : OpR X (binaryOp .RShift) (rI (fun _ j => 0 ≤ j) fun i j => .int (i / 2 ^ j.toNat)) := opI fun i j _ _ _ _ _ hc q =>
  rshift_int hc (by rw [Int.fdiv_eq_ediv_of_nonneg i (two_pow_nn _)]; exact q)
theorem op_and : OpR X (binaryOp .BitAnd) (rI0 fun i j => .int (Builtin.bitAnd i j)) := opI0 fun _ _ _ _ _ _ _ q => and_int q
theorem op_or : OpR X (binaryOp .BitOr) (rI0 fun i j => .int (Builtin.bitOr i j)) := opI0 fun _ _ _ _ _ _ _ q => or_int q

theorem iop_mul : OpR X (inplaceOp .Mult) (rI CMul fun i j => .int (i * j)) := opI fun _ _ _ _ _ _ _ hc q => imul_int q hc.ok
theorem iop_and : OpR X (inplaceOp .BitAnd) (rI0 fun i j => .int (Builtin.bitAnd i j)) := opI0 fun _ _ _ _ _ _ _ q => iand_int q
theorem iop_or : OpR X (inplaceOp .BitOr) (rI0 fun i j => .int (Builtin.bitOr i j)) := opI0 fun _ _ _ _ _ _ _ q => ior_int q

end

/-- the scalars that == tells apart as data does -/
def scal : V → V → Bool
  | .non, .non => true | .non, .int _ => true | .int _, .non => true | .non, .bl _ => true | .bl _, .non => true | .non, .str _ => true | .str _, .non => true
  | .int _, .int _ => true | .bl _, .bl _ => true | .str _, .str _ => true | .byt _, .byt _ => true
  | .int _, .str _ => true | .str _, .int _ => true | .bl _, .str _ => true | .str _, .bl _ => true
  | _, _ => false
def rEq : R2 := fun x y H Q => scal x y = true ∧ Q (.bl (decide (x = y))) H
def rNe : R2 := fun x y H Q => scal x y = true ∧ Q (.bl (!decide (x = y))) H

theorem dec_int {i j : Int} : decide (V.int i = V.int j) = (i == j) := by
  rw [Bool.eq_iff_iff]
  simp
theorem dec_bl {i j : Bool} : decide (V.bl i = V.bl j) = (i == j) := by
  rw [Bool.eq_iff_iff]
  simp
theorem dec_str {i j : Str} : decide (V.str i = V.str j) = (i == j) := by
  rw [Bool.eq_iff_iff]
  simp
theorem dec_byt {i j : Array UInt8} : decide (V.byt i = V.byt j) = (i.toList == j.toList) := by
  rw [Bool.eq_iff_iff]
  cases i
  cases j
  simp

section
variable {X : Cx} {a b c : Expr} {ta tb tc : TE} {pos : Pos}
theorem fin_bl {pins : List (Addr × Obj)} {σ : St} {H : Hp} {s : Shared} {Q : VK} {k k' : Bool} (I : Inv X pins σ H s) (q : Q (.bl k) H) (e : k = k') : EP X pins σ Q (.bool k') s := by
  subst e
  exact ⟨.bl k, H, I, rfl, q⟩
theorem op_eq : OpR X (compareOp .Eq) rEq := by
  intro pins s σ H x y v u Q I rx ry h
  obtain ⟨hs, q⟩ := h
  cases x with
  | non =>
    cases rx
    cases y with
    | non => cases ry; exact PySem.EqNone.eq_none_none (fin_bl I q (by simp))
    | bl j => cases ry; exact PySem.EqNone.eq_none_bool (fin_bl I q (by simp))
    | int j => obtain ⟨t', rfl⟩ := ry; exact PySem.EqNone.eq_none_int (fin_bl I q (by simp))
    | str j => obtain ⟨t', rfl⟩ := ry; exact PySem.EqNone.eq_none_str (fin_bl I q (by simp))
    | _ => exact absurd (show false = true from hs) Bool.false_ne_true
  | bl i =>
    cases rx
    cases y with
    | non => cases ry; exact PySem.EqNone.eq_bool_none (fin_bl I q (by simp))
    | bl j => cases ry; exact eq_bool (fin_bl I q dec_bl)
    | str j => obtain ⟨t', rfl⟩ := ry; exact PySem.EqMixed.eq_bool_str (fin_bl I q (by simp))
    | _ => exact absurd (show false = true from hs) Bool.false_ne_true
  | int i =>
    obtain ⟨t, rfl⟩ := rx
    cases y with
    | non => cases ry; exact PySem.EqNone.eq_int_none (fin_bl I q (by simp))
    | int j => obtain ⟨t', rfl⟩ := ry; exact eq_int (fin_bl I q dec_int)
    | str j => obtain ⟨t', rfl⟩ := ry; exact PySem.EqMixed.eq_int_str (fin_bl I q (by simp))
    | _ => exact absurd (show false = true from hs) Bool.false_ne_true
  | str i =>
    obtain ⟨t, rfl⟩ := rx
    cases y with
    | non => cases ry; exact PySem.EqNone.eq_str_none (fin_bl I q (by simp))
    | bl j => cases ry; exact PySem.EqMixed.eq_str_bool (fin_bl I q (by simp))
    | int j => obtain ⟨t', rfl⟩ := ry; exact PySem.EqMixed.eq_str_int (fin_bl I q (by simp))
    | str j => obtain ⟨t', rfl⟩ := ry; exact eq_str (fin_bl I q dec_str)
    | _ => exact absurd (show false = true from hs) Bool.false_ne_true
  | byt i =>
    obtain ⟨t, rfl⟩ := rx
    cases y with
    | byt j => obtain ⟨t', rfl⟩ := ry; exact PySem.W.eq_bytes (fin_bl I q dec_byt)
    | _ => exact absurd (show false = true from hs) Bool.false_ne_true
  | _ => cases y <;> exact absurd (show false = true from hs) Bool.false_ne_true
theorem op_ne : OpR X (compareOp .NotEq) rNe := by
  intro pins s σ H x y v u Q I rx ry h
  obtain ⟨hs, q⟩ := h
  cases x with
  | non =>
    cases rx
    cases y with
    | non => cases ry; exact PySem.EqNone.ne_none_none (fin_bl I q (by simp))
    | bl j => cases ry; exact PySem.EqNone.ne_none_bool (fin_bl I q (by simp))
    | int j => obtain ⟨t', rfl⟩ := ry; exact PySem.EqNone.ne_none_int (fin_bl I q (by simp))
    | str j => obtain ⟨t', rfl⟩ := ry; exact PySem.EqNone.ne_none_str (fin_bl I q (by simp))
    | _ => exact absurd (show false = true from hs) Bool.false_ne_true
  | bl i =>
    cases rx
    cases y with
    | non => cases ry; exact PySem.EqNone.ne_bool_none (fin_bl I q (by simp))
    | bl j => cases ry; exact ne_bool (fin_bl I q (congrArg not dec_bl))
    | str j => obtain ⟨t', rfl⟩ := ry; exact PySem.EqMixed.ne_bool_str (fin_bl I q (by simp))
    | _ => exact absurd (show false = true from hs) Bool.false_ne_true
  | int i =>
    obtain ⟨t, rfl⟩ := rx
    cases y with
    | non => cases ry; exact PySem.EqNone.ne_int_none (fin_bl I q (by simp))
    | int j => obtain ⟨t', rfl⟩ := ry; exact ne_int (fin_bl I q (congrArg not dec_int))
    | str j => obtain ⟨t', rfl⟩ := ry; exact PySem.EqMixed.ne_int_str (fin_bl I q (by simp))
    | _ => exact absurd (show false = true from hs) Bool.false_ne_true
  | str i =>
    obtain ⟨t, rfl⟩ := rx
    cases y with
    | non => cases ry; exact PySem.EqNone.ne_str_none (fin_bl I q (by simp))
    | bl j => cases ry; exact PySem.EqMixed.ne_str_bool (fin_bl I q (by simp))
    | int j => obtain ⟨t', rfl⟩ := ry; exact PySem.EqMixed.ne_str_int (fin_bl I q (by simp))
    | str j => obtain ⟨t', rfl⟩ := ry; exact ne_str (fin_bl I q (congrArg not dec_str))
    | _ => exact absurd (show false = true from hs) Bool.false_ne_true
  | byt i =>
    obtain ⟨t, rfl⟩ := rx
    cases y with
    | byt j => obtain ⟨t', rfl⟩ := ry; exact PySem.W.ne_bytes (fin_bl I q (congrArg not dec_byt))
    | _ => exact absurd (show false = true from hs) Bool.false_ne_true
  | _ => cases y <;> exact absurd (show false = true from hs) Bool.false_ne_true

theorem op_lt : OpR X (compareOp .Lt) (rI0 fun i j => .bl (decide (i < j))) := opB0 fun _ _ _ _ _ _ _ q => lt_int q
theorem op_le : OpR X (compareOp .LtE) (rI0 fun i j => .bl (decide (i ≤ j))) := opB0 fun _ _ _ _ _ _ _ q => le_int q
theorem op_gt : OpR X (compareOp .Gt) (rI0 fun i j => .bl (decide (j < i))) := opB0 fun _ _ _ _ _ _ _ q => gt_int q

/-- is None, is not None: the right side a value none -/
theorem op_isN : OpR X (compareOp .Is) (fun x y H Q => y = .non ∧ Q (.bl (decide (x = .non))) H) := by
  intro pins s σ H x y v u Q I rx ry h
  obtain ⟨rfl, q⟩ := h
  cases ry
  refine is_none_gen (fin_bl I q ?_)
  cases x <;> first
    | (cases rx; rfl)
    | (obtain ⟨t, rfl⟩ := rx; rfl)
theorem op_notN : OpR X (compareOp .IsNot) (fun x y H Q => y = .non ∧ Q (.bl (!decide (x = .non))) H) := by
  intro pins s σ H x y v u Q I rx ry h
  obtain ⟨rfl, q⟩ := h
  cases ry
  refine isnot_none_gen (fin_bl I q ?_)
  cases x <;> first
    | (cases rx; rfl)
    | (obtain ⟨t, rfl⟩ := rx; rfl)

/-- two rules for one operation: by cases -/
theorem OpR.or {f : Value → Value → Sem Value} {r r' : R2} (h : OpR X f r) (h' : OpR X f r') : OpR X f (fun x y H Q => r x y H Q ∨ r' x y H Q) := by
  intro pins s σ H x y v u Q I rx ry q
  rcases q with q | q
  · exact h pins s σ H x y v u Q I rx ry q
  · exact h' pins s σ H x y v u Q I rx ry q

theorem nomark (b : Expr) {op : CmpOp} (h : op ≠ .In := by decide) (h2 : op ≠ .NotIn := by decide) : behindInMarks op b = false := by
  have e1 : (op == CmpOp.In) = false := by cases op <;> first | rfl | exact absurd rfl h
  have e2 : (op == CmpOp.NotIn) = false := by cases op <;> first | rfl | exact absurd rfl h2
  cases b <;> simp [behindInMarks, e1, e2]
/-- a comparison as a value; hm: nomark b, or (for in, not in) by with_unfolding_all rfl -/
theorem pe_cmpR {op : CmpOp} {r : R2} (ho : OpR X (compareOp op) r) (ha : PE X a ta) (hb : PE X b tb) (hm : behindInMarks op b = false) : PE X (.Compare a [op] [b] pos) (tOp r ta tb) := by
  intro pins s σ H Q I h
  exact wpAny_Compare1 (binT ha hb I h fun v u s2 x y H2 I2 rx ry q => ho pins s2 σ H2 x y v u Q I2 rx ry q) hm
/-- a reading of a value as a test -/
def tTest (t : TE) : TT := fun σ H Q => t σ H fun x H' => ∃ k, x = .bl k ∧ Q k H'
theorem pt_cmpR {op : CmpOp} {r : R2} (ho : OpR X (compareOp op) r) (ha : PE X a ta) (hb : PE X b tb) (hm : behindInMarks op b = false) : PT X (.Compare a [op] [b] pos) (tTest (tOp r ta tb)) := by
  intro pins s σ H Q I h
  refine wpAny_isTrue_Compare1 (thn (ha pins s σ H _ I h) fun v s1 ⟨x, H1, I1, r1, q1⟩ => thn (hb pins s1 σ H1 _ I1 q1) fun u s2 ⟨y, H2, I2, r2, q2⟩ =>
    thn (ho pins s2 σ H2 x y v u _ I2 r1 r2 q2) fun c s3 ⟨z, H3, I3, r3, k, e, q3⟩ => ?_) hm
  subst e
  cases r3
  exact wpAny_truthy_bool ⟨H3, I3, q3⟩
/-- a op1 b op2 c -/
def tChain (r r' : R2) (ta tb tc : TE) : TE := fun σ H Q => ta σ H fun x H1 => tb σ H1 fun y H2 => r x y H2 fun z H3 => ∃ k, z = .bl k ∧
  (if k = true then tc σ H3 fun w' H4 => r' y w' H4 Q else Q (.bl false) H3)
theorem pe_chain {op op' : CmpOp} {r r' : R2} (ho : OpR X (compareOp op) r) (ho' : OpR X (compareOp op') r') (ha : PE X a ta) (hb : PE X b tb) (hc : PE X c tc)
    (hm : lastMarks [op, op'] [b, c] = false := by with_unfolding_all rfl) : PE X (.Compare a [op, op'] [b, c] pos) (tChain r r' ta tb tc) := by
  intro pins s σ H Q I h
  refine Compare_chain (thn (ha pins s σ H _ I h) fun v s1 ⟨x, H1, I1, r1, q1⟩ => chain_link (thn (hb pins s1 σ H1 _ I1 q1) fun u s2 ⟨y, H2, I2, r2, q2⟩ =>
    thn (ho pins s2 σ H2 x y v u _ I2 r1 r2 q2) fun d s3 ⟨z, H3, I3, r3, k, e, q3⟩ => ?_)) hm
  subst e
  cases r3
  refine wpAny_truthy_bool ?_
  cases k with
  | false => exact ite_ff ⟨.bl false, H3, I3, rfl, q3⟩
  | true => exact ite_tt (chain_last (thn (hc pins s3 σ H3 _ I3 q3) fun w' s4 ⟨z', H4, I4, r4, q4⟩ => ho' pins s4 σ H4 y z' u w' Q I4 r2 r4 q4))
theorem pt_chain {op op' : CmpOp} {r r' : R2} (ho : OpR X (compareOp op) r) (ho' : OpR X (compareOp op') r') (ha : PE X a ta) (hb : PE X b tb) (hc : PE X c tc)
    (hm : lastMarks [op, op'] [b, c] = false := by with_unfolding_all rfl) : PT X (.Compare a [op, op'] [b, c] pos) (tTest (tChain r r' ta tb tc)) := by
  intro pins s σ H Q I h
  refine isTrue_chain (thn (ha pins s σ H _ I h) fun v s1 ⟨x, H1, I1, r1, q1⟩ => test_link (thn (hb pins s1 σ H1 _ I1 q1) fun u s2 ⟨y, H2, I2, r2, q2⟩ =>
    thn (ho pins s2 σ H2 x y v u _ I2 r1 r2 q2) fun d s3 ⟨z, H3, I3, r3, k, e, q3⟩ => ?_)) hm
  subst e
  cases r3
  refine wpAny_truthy_bool ?_
  cases k with
  | false =>
    obtain ⟨k', e', q'⟩ := q3
    cases e'
    exact ite_ff ⟨H3, I3, q'⟩
  | true =>
    refine ite_tt (test_last (thn (hc pins s3 σ H3 _ I3 q3) fun w' s4 ⟨z', H4, I4, r4, q4⟩ => thn (ho' pins s4 σ H4 y z' u w' _ I4 r2 r4 q4) fun d' s5 ⟨z2, H5, I5, r5, k2, e2, q5⟩ => ?_))
    subst e2
    cases r5
    exact wpAny_truthy_bool ⟨H5, I5, q5⟩

/-- a value's truth by the abstract heap -/
def TruV (K : PySem.W.Frag) (x : V) (H : Hp) (k : Bool) : Prop :=
  match x with
  | .non => k = false
  | .bl b => k = b
  | .int i => k = (i != 0)
  | .str y => y.length ≤ sizeLine ∧ k = ((y.length : Int) != 0)
  | .byt y => y.size ≤ sizeLine ∧ k = ((y.size : Int) != 0)
  | .ref p => (∃ xs, SqL K H p xs ∧ k = !xs.isEmpty) ∨ (∃ xs, SqT K H p xs ∧ k = !xs.isEmpty) ∨ ∃ kvs, H p = some (.dK kvs) ∧ k = !kvs.isEmpty
  | _ => False
theorem isEmpty_kv {κ : Type} {kvs : List (κ × V)} {vs : List (κ × Value)} (r : KV kvs vs) : (!vs.isEmpty) = !kvs.isEmpty := by
  cases r <;> rfl
theorem isEmpty_of {xs : List V} {its : List Value} (r : Vals xs its) : (!its.toArray.isEmpty) = !xs.isEmpty := by
  cases r <;> simp
theorem line63 : (sizeLine : Nat) < 2 ^ 63 := by rw [sizeLine_eq]; decide
theorem tru_ok : TruR X (fun x H Q => ∃ k, TruV X.K x H k ∧ Q k H) := by
  intro pins s σ H x v Q I rx h
  obtain ⟨k, e, q⟩ := h
  have hl := line63
  have hs : sizeLine = 16777216 := sizeLine_eq
  cases x with
  | non =>
    cases rx
    have e' : k = false := e
    subst e'
    exact truthy_none ⟨H, I, q⟩
  | bl b =>
    cases rx
    have e' : k = b := e
    subst e'
    exact wpAny_truthy_bool ⟨H, I, q⟩
  | int i =>
    obtain ⟨t, rfl⟩ := rx
    have e' : k = (i != 0) := e
    subst e'
    exact PySem.P.truthy_int ⟨H, I, q⟩
  | str y =>
    obtain ⟨t, rfl⟩ := rx
    obtain ⟨hy, e'⟩ : y.length ≤ sizeLine ∧ k = ((y.length : Int) != 0) := e
    subst e'
    exact PySem.P.truthy_str (by omega) ⟨H, I.tok _, q⟩
  | byt y =>
    obtain ⟨t, rfl⟩ := rx
    obtain ⟨hy, e'⟩ : y.size ≤ sizeLine ∧ k = ((y.size : Int) != 0) := e
    subst e'
    exact PySem.W.truthy_bytes (by omega) ⟨H, I.tok _, q⟩
  | ref p =>
    cases rx
    have e' : (∃ xs, SqL X.K H p xs ∧ k = !xs.isEmpty) ∨ (∃ xs, SqT X.K H p xs ∧ k = !xs.isEmpty) ∨ ∃ kvs, H p = some (.dK kvs) ∧ k = !kvs.isEmpty := e
    rcases e' with ⟨xs, hx, e'⟩ | ⟨xs, hx, e'⟩ | ⟨kvs, hx, e'⟩
    · subst e'
      obtain ⟨its, r, pl, hz⟩ := I.list hx
      have hlen := r.length
      exact wpAny_truthy_list pl.isList (by simp only [List.size_toArray]; omega) ⟨H, I.tok _, by rw [isEmpty_of r]; exact q⟩
    · subst e'
      obtain ⟨its, r, pl, hz⟩ := I.tuple hx
      have hlen := r.length
      exact truthy_tuple pl (by simp only [List.size_toArray]; omega) ⟨H, I.tok _, by rw [isEmpty_of r]; exact q⟩
    · subst e'
      obtain ⟨hz, hS, vs, r, m⟩ : kvs.length ≤ sizeLine ∧ (p == sysModules) = false ∧ ∃ vs, KV kvs vs ∧ s.heap.DictOf (mixKind X.prog X.w) p vs := I.hok p _ hx
      have hlen : kvs.length = vs.length := Paired.length r
      exact wpAny_truthy_dict hS m (by omega) ⟨H, I.tok _, by rw [isEmpty_kv r]; exact q⟩
  | _ => exact (show False from e).elim
/-- any expression whose test is its value's truth (a name, a call, a subscript, a field ..: he by fun _ => rfl) -/
theorem pt_truth (ha : PE X a ta) (he : ∀ whole, isTrue a X.env whole = (do let v ← whole; standAt a.pos; holding [v] (truthy v))) :
    PT X a (fun σ H Q => ta σ H fun x H' => ∃ k, TruV X.K x H' k ∧ Q k H') := by
  intro pins s σ H Q I h
  exact isTrue_plain (thn (ha pins s σ H _ I h) fun v s1 ⟨x, H1, I1, r1, q1⟩ => tru_ok pins s1 σ H1 x v Q I1 r1 q1) (he _)

theorem vals1 {x : V} {us : List Value} (r : Vals [x] us) : ∃ u, us = [u] ∧ RelV x u := by
  cases r with
  | cons r1 r2 => cases r2; exact ⟨_, rfl, r1⟩
end
end L2

namespace L2
open PySem PySem.Spec PyProof.Rows

structure ObjM (h : Heap) (x dx C : Addr) (mA : Str → Option Value) : Prop where
  obj : h.get? x = some (PySem.W.instObj C dx)
  ns : h.Ns1 dx mA
  ne : dx ≠ x

theorem lookIn_ns {h : Heap} {dx : Addr} {mA : Str → Option Value} (n : h.Ns1 dx mA) : ∃ od, h.get? dx = some od ∧ ∀ name, PySem.W.lookIn name od = some (mA name) := by
  obtain ⟨o, es, ep, ho, hd, hk, _, hm⟩ := n
  refine ⟨o, ho, fun name => ?_⟩
  have e := hm name
  unfold nsFind findBy at e
  rw [← Array.find?_toList] at e
  unfold PySem.W.lookIn
  rw [hd]
  dsimp only
  split
  · rename_i y q
    rw [q] at e
    exact congrArg some e
  · rename_i q
    rw [q] at e
    have a : es.toList.any (·.refKey) = false := by
      rw [List.any_eq_false]
      intro y hy
      obtain ⟨z, t, hkey⟩ := hk y (Array.mem_toList_iff.mp hy)
      simp [DictEntry.refKey, hkey]
    have a' : ¬ es.toList.any (·.refKey) = true := by rw [a]; exact Bool.false_ne_true
    rw [if_neg a']
    exact congrArg some e

theorem ObjM.look {h : Heap} {x dx C : Addr} {mA : Str → Option Value} (I : ObjM h x dx C mA) : ∃ od, PySem.W.InstAt h x (PySem.W.instObj C dx) C (some od) ∧ ∀ name, PySem.W.lookIn name od = some (mA name) :=
  let ⟨od, ho, hl⟩ := lookIn_ns I.ns
  ⟨od, ⟨I.obj, rfl, rfl, ho⟩, hl⟩

section
variable {prog : Program} {w : World} {A : Around} {E : Value → Shared → Prop} {s : Shared} {K : PySem.W.Frag} {x dx C f : Addr} {mA : Str → Option Value} {name : Str} {v : Value}

end

theorem RelO.some_of {v : V} {o : Option Value} (r : RelO (some v) o) : ∃ u, o = some u ∧ RelV v u := by
  cases o with
  | none => exact (show False from r).elim
  | some u => exact ⟨u, rfl, r⟩

section
variable {P : Program} {w : World} {H H' : Hp} {h h' : Heap} {a C dx : Addr} {fs fs' : List (Str × V)}
end

structure Cls (K : PySem.W.Frag) (C : Addr) : Prop where
  pg : PySem.W.plainGet K C Str.empty = true
  hd : PySem.W.hasDictIn K C = true
  po : PySem.W.plainOver K C = true
  sa : PySem.W.findIn K (.ref C) "__setattr__" = some (some (.builtin "object.__setattr__"))
theorem Cls.get {K : PySem.W.Frag} {C : Addr} (c : Cls K C) (f : Str) : PySem.W.plainGet K C f = true := c.pg

section
variable {X : Cx} {pins : List (Addr × Obj)} {σ : St} {H : Hp} {s : Shared} {a C dx : Addr} {fs : List (Str × V)} {f : Str} {v : V} {A : Around} {E : Value → Shared → Prop}

/-- a new instance, tracked, without attributes -/
theorem Inv.made (I : Inv X pins σ H s) : Inv X pins σ (upd (upd H s.heap.objs.size (.own (s.heap.objs.size + 1))) (s.heap.objs.size + 1) (.ins C s.heap.objs.size []))
    { s with heap := (s.heap.push PySem.W.emptyDict).push (PySem.W.instObj C s.heap.objs.size) } := by
  have e1 : (s.heap.push PySem.W.emptyDict).get? s.heap.objs.size = some PySem.W.emptyDict := Heap.get?_push_size s.heap rfl
  have e2 : ((s.heap.push PySem.W.emptyDict).push (PySem.W.instObj C s.heap.objs.size)).get? (s.heap.objs.size + 1) = some (PySem.W.instObj C s.heap.objs.size) := by
    have := Heap.get?_push_size (s.heap.push PySem.W.emptyDict) (o := PySem.W.instObj C s.heap.objs.size) rfl
    rwa [Heap.size_push] at this
  have e3 : (s.heap.push PySem.W.emptyDict).Ns s.heap.objs.size (fun _ => none) := ⟨PySem.W.emptyDict, #[], _, e1, rfl, (fun e he => absurd he (by simp)), fun _ => rfl⟩
  have I1 := I.laid (a := s.heap.objs.size) (o := .own (s.heap.objs.size + 1)) (h' := s.heap.push PySem.W.emptyDict) (t' := s.toks) (fun b u q => Heap.get?_push_of_some _ q) (Nat.le_refl _) ⟨_, e1⟩
  refine I1.laid (a := s.heap.objs.size + 1) (o := .ins C s.heap.objs.size []) (t' := s.toks) (fun b u q => Heap.get?_push_of_some _ q) (Nat.le_of_eq (Heap.size_push _ _)) ?_
  have ne : s.heap.objs.size ≠ s.heap.objs.size + 1 := Nat.ne_of_lt (Nat.lt_succ_self _)
  refine ⟨by rw [upd_ne ne, upd_same], Nat.zero_le _, ne, e2, fun _ => none, (Heap.Ns1.of_empty e3).at fun o q => Heap.get?_push_of_some _ q, fun _ => True.intro, fun y hy => absurd rfl hy⟩

end

section
variable {X : Cx} {o e value : Expr} {f : Str} {pos pos' tpos : Pos} {ta tv : TE}

end

section
variable {X : Cx} {pins : List (Addr × Obj)} {σ : St} {H : Hp} {s : Shared} {A : Around} {E : Value → Shared → Prop} {Q : Value → Shared → Prop} {c : Value} {b : Bool}
end
end L2

namespace L2
open PySem PySem.Spec PyProof.Rows

structure Room (k : Nat) (A : Around) : Prop where
  hd : A.handled = none
  dp : A.depth + 3 * k + 5 < recursionLimit
  un : A.units + 16 * k + 200 < cLine
theorem Room.mono {j k : Nat} {A : Around} (r : Room k A) (h : j ≤ k) : Room j A := ⟨r.hd, by have := r.dp; omega, by have := r.un; omega⟩
theorem Room.deeper {k : Nat} {A : Around} (r : Room (k + 1) A) (env : Env) : Room k (A.deeper env) :=
  ⟨r.hd, by have := r.dp; show A.depth + 1 + 3 * k + 5 < _; omega, by have := r.un; show A.units + 3 + 16 * k + 200 < _; omega⟩
theorem Room.in1 {k : Nat} {A : Around} (r : Room (k + 1) A) : Room k A.in1 :=
  ⟨r.hd, by have := r.dp; show A.depth + 3 * k + 5 < _; omega, by have := r.un; show A.units + 1 + 16 * k + 200 < _; omega⟩
theorem make_depth {A : Around} {C : Addr} {us : List Value} {kw : List (Str × Value)} : (A.under (.builtin "type.__call__" ⟨.ref C :: us, kw⟩)).depth = A.depth + 1 := by
  first | rfl | simp [Around.under, Code.weight, Code.isCreation, Code.isGuard, Code.isCaller, Code.frames, Code.isFrame, guardIds]
theorem make_units {A : Around} {C : Addr} {us : List Value} {kw : List (Str × Value)} : (A.under (.builtin "type.__call__" ⟨.ref C :: us, kw⟩)).units = A.units + 1 := by
  first | rfl | simp [Around.under, Code.cUnits, Code.frames, Code.isFrame]
theorem Room.make {k : Nat} {A : Around} (r : Room (k + 1) A) (C : Addr) (us : List Value) (kw : List (Str × Value)) : Room k (A.under (.builtin "type.__call__" ⟨.ref C :: us, kw⟩)) :=
  ⟨r.hd, by have := r.dp; rw [make_depth]; omega, by have := r.un; rw [make_units]; omega⟩
theorem Room.depth {k : Nat} {A : Around} (r : Room k A) : A.depth < recursionLimit := by have := r.dp; omega
theorem Room.units {k : Nat} {A : Around} (r : Room k A) : A.units + 64 < cLine := by have := r.un; omega

def tNil : TA := fun _ H Q => Q [] H
def tCons (ta : TE) (tr : TA) : TA := fun σ H Q => ta σ H fun x H1 => tr σ H1 fun xs H2 => Q (x :: xs) H2
section
variable {X : Cx} {e : Expr} {es : List Expr} {te : TE} {t : TA} {pos : Pos}
theorem pa_nil : PA X [] tNil := fun _ _ _ _ H Q I h => Calls.spliced_nil ⟨[], H, I, .nil, h⟩
theorem pa_cons (ha : PE X e te) (hr : PA X es t) (hs : starEach (e :: es) X.env = (false, eval e X.env) :: starEach es X.env := by rfl) : PA X (e :: es) (tCons te t) := by
  intro pos pins s σ H Q I h
  rw [hs]
  show wpAny _ _ (spliced ((false, eval e X.env) :: backTo pos (starEach es X.env))) _ _ s
  refine Calls.spliced_cons (thn (ha pins s σ H _ I h) fun u s1 ⟨x, H1, I1, r1, q1⟩ => ?_)
  exact thn (hr pos pins s1 σ H1 _ I1 q1) fun us s2 ⟨xs, H2, I2, r2, q2⟩ => ⟨x :: xs, H2, I2, .cons r1 r2, q2⟩

/-- a tuple, a list of written items -/
def tTup (t : TA) : TE := fun σ H Q => t σ H fun xs H1 => xs.length ≤ sizeLine ∧ ∀ p, H1 p = none → Q (.ref p) (upd H1 p (.tup xs))
def tLst (t : TA) : TE := fun σ H Q => t σ H fun xs H1 => xs.length ≤ sizeLine ∧ ∀ p, H1 p = none → Q (.ref p) (upd H1 p (.lst xs))
theorem pe_tup {x1} (h : PA X es t) : PE X (.Tuple es x1 pos) (tTup t) := by
  intro pins s σ H Q I hq
  refine wpAny_Tuple_spliced (thn (h pos pins s σ H _ I hq) fun us s1 ⟨xs, H1, I1, r, z, q⟩ => ⟨by rw [← r.length]; exact z, ?_⟩)
  have hf : H1 s1.heap.objs.size = none := I1.hok.fresh (Nat.le_refl _)
  refine ⟨.ref s1.heap.objs.size, upd H1 s1.heap.objs.size (.tup xs), I1.laid (t' := s1.toks) (fun b u e => Heap.get?_push_of_some _ e) (Nat.le_refl _) ?_, rfl, q _ hf⟩
  exact ⟨z, us, r, ⟨_, Heap.get?_push_size _ rfl, rfl, _, rfl⟩⟩
theorem pe_lst (h : PA X es t) : PE X (.List es pos) (tLst t) := by
  intro pins s σ H Q I hq
  refine wpAny_List_spliced (thn (h pos pins s σ H _ I hq) fun us s1 ⟨xs, H1, I1, r, z, q⟩ => ⟨by rw [← r.length]; exact z, ?_⟩)
  have hf : H1 s1.heap.objs.size = none := I1.hok.fresh (Nat.le_refl _)
  refine ⟨.ref s1.heap.objs.size, upd H1 s1.heap.objs.size (.lst xs), I1.laid (t' := s1.toks) (fun b u e => Heap.get?_push_of_some _ e) (Nat.le_refl _) ?_, rfl, q _ hf⟩
  exact ⟨z, us, 0, r, Heap.get?_push_size _ rfl⟩
end

/-- a def's promise: the bound arguments in the parameters' order, the heap, the wanted end, the wanted exception -/
abbrev Sp := List V → Hp → VK → XK → Prop
/-- how an exception lies behind a call (file 08 gives it): the callers' frames, abstract heap and state ahead of the call, the wish, the exception, the state -/
abbrev CXT := List Env → Hp → Shared → XK → Value → Shared → Prop

/-- the state at a call -/
structure Env0 (P : Program) (w : World) (K : PySem.W.Frag) (mg : Str → Option Value) (base : Heap) (A : Around) (outer : List Env) (s : Shared) (H : Hp) : Prop where
  frames : A.frames = some outer
  mod : Mod K mg base
  bs : ∀ b o, base.get? b = some o → s.heap.get? b = some o ∧ H b = none
  bsz : base.objs.size ≤ s.heap.objs.size
  funs : s.heap.FunFrames base outer
  frf : ∀ b ∈ frs outer, H b = none
  hok : HOk P w H s.heap
  bare : AllBare s.gens
/-- a call's end -/
def CE (outer : List Env) (P : Program) (w : World) (H : Hp) (s : Shared) (Q : VK) (u : Value) (s' : Shared) : Prop :=
  ∃ v H', s'.os = s.os ∧ AllBare s'.gens ∧ Un (frs outer) [] H H' s.heap s'.heap ∧ HOk P w H' s'.heap ∧ RelV v u ∧ Q v H'
def CR (CX : CXT) (outer : List Env) (P : Program) (w : World) (H : Hp) (s : Shared) (Q : VK) (E : XK) (r : Result) (s' : Shared) : Prop :=
  match r with
  | .ok (.ret u) => CE outer P w H s Q u s'
  | .ok _ => False
  | .error e => CX outer H s E e s'
structure FnOk (P : Program) (w : World) (K : PySem.W.Frag) (mg : Str → Option Value) (base : Heap) (CX : CXT) (k : Nat) (f : Addr) (fd : FuncData) (ps : List Str) (sp : Sp) : Prop where
  len : ∀ vs H Q E, sp vs H Q E → vs.length = ps.length
  run : ∀ (A : Around) (outer : List Env) (s : Shared) (H : Hp) (args : Args) (us : List Value) (vs : List V) (Q : VK) (E : XK), Room k A → Env0 P w K mg base A outer s H → BindsTo s fd args (ps.zip us) → Vals vs us → sp vs H Q E →
    codeAny (model P w) A (.call (.ref f) args) (CR CX outer P w H s Q E) s
theorem FnOk.mono {P : Program} {w : World} {K : PySem.W.Frag} {mg : Str → Option Value} {base : Heap} {CX : CXT} {j k : Nat} {f : Addr} {fd : FuncData} {ps : List Str} {sp : Sp} (F : FnOk P w K mg base CX j f fd ps sp) (h : j ≤ k) :
    FnOk P w K mg base CX k f fd ps sp := ⟨F.len, fun A outer s H args us vs Q E hr => F.run A outer s H args us vs Q E (hr.mono h)⟩
/-- a weaker promise -/
theorem FnOk.imp {P : Program} {w : World} {K : PySem.W.Frag} {mg : Str → Option Value} {base : Heap} {CX : CXT} {k : Nat} {f : Addr} {fd : FuncData} {ps : List Str} {sp sp' : Sp} (F : FnOk P w K mg base CX k f fd ps sp)
    (h : ∀ vs H Q E, sp' vs H Q E → sp vs H Q E) : FnOk P w K mg base CX k f fd ps sp' :=
  ⟨fun vs H Q E q => F.len vs H Q E (h _ _ _ _ q), fun A outer s H args us vs Q E hr he hb hv hs => F.run A outer s H args us vs Q E hr he hb hv (h _ _ _ _ hs)⟩

theorem Env0.make {P : Program} {w : World} {K : PySem.W.Frag} {mg : Str → Option Value} {base : Heap} {A : Around} {outer : List Env} {s : Shared} {H : Hp} (e : Env0 P w K mg base A outer s H) (C : Addr) (us : List Value) (kw : List (Str × Value)) :
    Env0 P w K mg base (A.under (.builtin "type.__call__" ⟨.ref C :: us, kw⟩)) outer s H := ⟨by first | exact e.frames | (simpa [Around.under, Code.envs, Code.isFrame, pushEnvs] using e.frames), e.mod, e.bs, e.bsz, e.funs, e.frf, e.hok, e.bare⟩
theorem Env0.in1 {P : Program} {w : World} {K : PySem.W.Frag} {mg : Str → Option Value} {base : Heap} {A : Around} {outer : List Env} {s : Shared} {H : Hp} (e : Env0 P w K mg base A outer s H) :
    Env0 P w K mg base A.in1 outer s H := ⟨e.frames, e.mod, e.bs, e.bsz, e.funs, e.frf, e.hok, e.bare⟩

section
variable {X : Cx} {pins : List (Addr × Obj)} {σ : St} {H : Hp} {s s' : Shared}
/-- from a body: what a callee wants -/
theorem Inv.env0 (I : Inv X pins σ H s) : Env0 X.prog X.w X.K X.mg X.base X.A X.stack s H :=
  ⟨I.ok.frames, I.ok.mod, I.bs, Nat.le_trans I.ok.bsz I.sz, I.stack, I.stkFree, I.hok, I.bare⟩
/-- behind a call -/
theorem Inv.after {Q : VK} {u : Value} (I : Inv X pins σ H s) (h : CE X.stack X.prog X.w H s Q u s') : EP X pins σ Q u s' := by
  obtain ⟨v, H', os, bare, un, hok, r, q⟩ := h
  obtain ⟨hh, g, d, t, os'⟩ := s'
  obtain rfl : os' = s.os := os
  exact ⟨v, H', I.call (h' := hh) (g' := g) (d' := d) (t' := t) (ch := []) un hok bare (fun b z => absurd z (by simp)), r, q⟩
end

/-- f(..): the written arguments, then the defaults dvs; E: what is wanted of an exception -/
def tCall (sp : Sp) (dvs : List V) (E : XK) (t : TA) : TE := fun σ H Q => t σ H fun vs H1 => sp (vs ++ dvs) H1 Q E

/-- how the parameters are bound: us the positional arguments, kw the keywords' values by name, ds the defaults that fill up -/
def Binds (K : PySem.W.Frag) (fd : FuncData) (ps : List Str) (ds : List Value) : Prop :=
  ∀ (s : Shared) (us : List Value), K.In s.heap → (us ++ ds).length = ps.length → BindsTo s fd ⟨us, []⟩ (ps.zip (us ++ ds))
/-- every parameter is given -/
theorem Binds.all {K : PySem.W.Frag} {fd : FuncData} {ps : List Str} (h : ∀ us : List Value, us.length = ps.length → bindArgs fd ⟨us, []⟩ = pure (ps.zip us)) : Binds K fd ps [] := fun s us _ hl => by
  rw [List.append_nil] at hl ⊢
  exact .of_eq (h us hl)

/-- an exception of a callee reaches what this body wants of exceptions -/
def Passes (CX : CXT) (X : Cx) (E : XK) : Prop := ∀ (pins : List (Addr × Obj)) (σ : St) (H : Hp) (s : Shared) (e : Value) (s' : Shared), Inv X pins σ H s → CX X.stack H s E e s' → X.xe e s'

section
variable {X : Cx} {CX : CXT} {k : Nat} {f C : Addr} {fd : FuncData} {ps : List Str} {sp : Sp} {dvs : List V} {ds : List Value} {E : XK} {x m : Str} {p pos apos : Pos} {e o : Expr} {es : List Expr} {ta : TE} {t : TA}

/-- the callee runs -/
theorem run_fn {pins : List (Addr × Obj)} {σ : St} {H : Hp} {s : Shared} {Q : VK} {us : List Value} {vs : List V} (F : FnOk X.prog X.w X.K X.mg X.base CX k f fd ps sp) (hr : Room k X.A) (hb : Binds X.K fd ps ds) (hd : Vals dvs ds) (hx : Passes CX X E)
    (I : Inv X pins σ H s) (r : Vals vs us) (h : sp (vs ++ dvs) H Q E) : wpAny (model X.prog X.w) X.A (call (.ref f) us) (EP X pins σ Q) X.xe s := by
  have r2 : Vals (vs ++ dvs) (us ++ ds) := r.append hd
  have hl : (us ++ ds).length = ps.length := by rw [← r2.length]; exact F.len _ _ _ _ h
  refine wpAny_call (codeAny_mono (F.run X.A X.stack s H ⟨us, []⟩ (us ++ ds) (vs ++ dvs) Q E hr I.env0 (hb s us I.kIn hl) r2 h) fun r s' hq => ?_)
  cases r with
  | error e => exact hx pins σ H s e s' I hq
  | ok fl =>
    cases fl with
    | ret u => exact I.after hq
    | next => exact False.elim hq
    | brk => exact False.elim hq
    | cont => exact False.elim hq

theorem pe_call (F : FnOk X.prog X.w X.K X.mg X.base CX k f fd ps sp) (hr : Room k X.A) (hg : Gl X x) (hm : X.mg x = some (.ref f)) (hk : PySem.W.keepIn X.K (.ref f) = true) (hb : Binds X.K fd ps ds) (hd : Vals dvs ds) (hx : Passes CX X E)
    (ha : PA X (e :: es) t) (hdb : (x == ("__debug__" : Str)) = false := by decide) (he : starEach (e :: es) X.env = (false, eval e X.env) :: starEach es X.env := by rfl) (hpl : (backTo pos (starEach es X.env)).any (·.1) = false := by rfl) :
    PE X (.Call (.Name x p) (e :: es) [] pos) (tCall sp dvs E t) := by
  intro pins s σ H Q I h
  refine wpAny_Call_Name_kw (ld_glob I hg hm ?_ hdb)
  refine PySem.W.callWith_K (h₀ := X.base) I.ok.mod.kin hk (thn (ha pos pins s σ H _ I h) fun us s1 ⟨vs, H1, I1, r, q⟩ => ⟨I1.kIn, ?_⟩) he hpl
  exact run_fn F hr hb hd hx I1 r q

end

section
variable {X : Cx} {CX : CXT} {k : Nat} {f C : Addr} {fd : FuncData} {ps ks : List Str} {sp : Sp} {E : XK} {x m : Str} {p pos apos kpos : Pos} {e o : Expr} {es : List Expr} {kws : List Keyword} {te ta : TE} {t tk : TA} {nm : Option Str}

variable {g : List Value → List Value → List Value} {gV : List V → List V → List V}
end

/-- names: the parameters first -/
structure FnScope (N P : List Str) (sc : Scope) : Prop where
  kind : sc.kind = .function
  co : sc.isCoroutine = false
  gen : sc.isGenerator = false
  nd : N.Nodup
  pre : N.take P.length = P
  par : ∀ x ∈ P, sc.names.lookup x = some .local ∨ sc.names.lookup x = some .cell
  nofree : ∀ y ∈ sc.names, y.2 ≠ .free

theorem bindL_out {kindOf : Str → Option NameKind} {x : Str} : ∀ {binds : List (Str × Value)} {m : Str → Option Value}, (∀ v, (x, v) ∉ binds) → bindL kindOf binds m x = m x
  | [], _, _ => rfl
  | (n, v) :: r, m, h => by
    unfold bindL
    rw [bindL_out fun w hw => h w (List.mem_cons_of_mem _ hw)]
    split
    · have : x ≠ n := by rintro rfl; exact h v List.mem_cons_self
      simp [this]
    · rfl
theorem bindC_out {kindOf : Str → Option NameKind} {x : Str} : ∀ {binds : List (Str × Value)} {m : Str → Option Value}, (∀ v, (x, v) ∉ binds) → bindC kindOf binds m x = m x
  | [], _, _ => rfl
  | (n, v) :: r, m, h => by
    unfold bindC
    rw [bindC_out fun w hw => h w (List.mem_cons_of_mem _ hw)]
    split
    · rfl
    · have : x ≠ n := by rintro rfl; exact h v List.mem_cons_self
      simp [this]
theorem bindL_get {kindOf : Str → Option NameKind} {x : Str} {v : Value} : ∀ {P : List Str} {vs : List Value} {i : Nat} {m : Str → Option Value}, P.Nodup → P[i]? = some x → vs[i]? = some v → kindOf x = some .local →
    bindL kindOf (P.zip vs) m x = some v
  | [], _, _, _, _, h, _, _ => by simp at h
  | _ :: _, [], _, _, _, _, h, _ => by simp at h
  | p :: P, w :: vs, 0, m, nd, h1, h2, hk => by
    simp at h1 h2; subst h1; subst h2
    show bindL kindOf ((p, w) :: P.zip vs) m p = _
    unfold bindL
    rw [bindL_out fun v hv => (List.nodup_cons.mp nd).1 (List.of_mem_zip hv).1, if_pos hk]
    simp
  | p :: P, w :: vs, i + 1, m, nd, h1, h2, hk => by
    show bindL kindOf ((p, w) :: P.zip vs) m x = _
    unfold bindL
    exact bindL_get (i := i) (List.nodup_cons.mp nd).2 (by simpa using h1) (by simpa using h2) hk
theorem bindC_get {kindOf : Str → Option NameKind} {x : Str} {v : Value} : ∀ {P : List Str} {vs : List Value} {i : Nat} {m : Str → Option Value}, P.Nodup → P[i]? = some x → vs[i]? = some v → kindOf x ≠ some .local →
    bindC kindOf (P.zip vs) m x = some v
  | [], _, _, _, _, h, _, _ => by simp at h
  | _ :: _, [], _, _, _, _, h, _ => by simp at h
  | p :: P, w :: vs, 0, m, nd, h1, h2, hk => by
    simp at h1 h2; subst h1; subst h2
    show bindC kindOf ((p, w) :: P.zip vs) m p = _
    unfold bindC
    rw [bindC_out fun v hv => (List.nodup_cons.mp nd).1 (List.of_mem_zip hv).1, if_neg hk]
    simp
  | p :: P, w :: vs, i + 1, m, nd, h1, h2, hk => by
    show bindC kindOf ((p, w) :: P.zip vs) m x = _
    unfold bindC
    exact bindC_get (i := i) (List.nodup_cons.mp nd).2 (by simpa using h1) (by simpa using h2) hk

/-- the names' values at the entry -/
def start (N : List Str) (vs : List V) : St := vs.map some ++ List.replicate (N.length - vs.length) none

/-- the context of a def's body, at its entry; an exception leaves the frame, then lies as CX says -/
def cxOf (CX : CXT) (P : Program) (w : World) (K : PySem.W.Frag) (mg : Str → Option Value) (base : Heap) (N : List Str) (qual : Str) (scope : Scope) (f : Addr) (cd : Value) (A : Around) (outer : List Env) (s : Shared) (H : Hp) (E : XK) : Cx where
  prog := P
  w := w
  K := K
  mg := mg
  base := base
  A := A.deeper (envOfC qual scope s.heap.objs.size f cd)
  N := N
  s_0 := s
  H_0 := H
  env := envOfC qual scope s.heap.objs.size f cd
  outer := outer
  stack := envOfC qual scope s.heap.objs.size f cd :: outer
  ex := []
  calm := true
  fn := fun _ => true
  pn := []
  xe := fun e s' => wpAny (model P w) (A.deeper (envOfC qual scope s.heap.objs.size f cd)) (leaving (envOfC qual scope s.heap.objs.size f cd) e) (fun _ s'' => CX outer H s E e s'') (fun e' s'' => CX outer H s E e' s'') s'

theorem cell_has {sc : Scope} {n : Nat} {x : Str} (h : sc.names.lookup x = some .cell) : ∃ c, (cellsFrom n sc.names []).lookup x = some c := by
  have q := PySem.W.cellsFrom_some sc.names n [] (.inl h)
  exact Option.isSome_iff_exists.mp q

theorem inv_start {CX : CXT} {P : Program} {w : World} {K : PySem.W.Frag} {mg : Str → Option Value} {base : Heap} {N ps : List Str} {qual : Str} {scope : Scope} {f : Addr} {cd : Value} {A : Around} {outer : List Env} {s s1 : Shared} {H : Hp} {E : XK} {us : List Value} {vs : List V}
    (S : FnScope N ps scope) (hd : A.handled = none) (e0 : Env0 P w K mg base A outer s H) (hl : vs.length = ps.length) (r : Vals vs us)
    (x : InCallC s s.heap.objs.size (bindL (envOfC qual scope s.heap.objs.size f cd).kindOf (ps.zip us) fun _ => none) (cellsFrom (s.heap.objs.size + 1) scope.names []) (bindC (envOfC qual scope s.heap.objs.size f cd).kindOf (ps.zip us) fun _ => none) s1) :
    Inv (cxOf CX P w K mg base N qual scope f cd A outer s H E) [] (start N vs) H s1 := by
  have hpl : ps.length ≤ N.length := by have := congrArg List.length S.pre; rw [List.length_take] at this; omega
  obtain ⟨h1, tk, rfl, hk⟩ := x.done
  have noA : ∀ b : Addr, b ∉ (cxOf CX P w K mg base N qual scope f cd A outer s H E).ex := fun b z => absurd (show b ∈ ([] : List Addr) from z) (by simp)
  refine ⟨⟨e0.mod, S.kind, rfl, rfl, Nat.le_refl _, fun y z c h1 h2 => ?_, fun y hy => ?_, fun y c _ h => ?_, fun _ => hd, Around.frames_deeper e0.frames, .inr ⟨rfl, rfl⟩, fun b z => absurd z (noA b), e0.bs, e0.bsz, fun b _ _ => noA b, fun b z => absurd z (noA b), e0.funs, e0.frf⟩,
    rfl, e0.bare, Un.kept hk, ⟨_, x.toInCall.ns, fun i y v h1 h2 h3 => ?_⟩, fun y c h => ⟨_, x.cell y c h⟩, e0.hok.fresh (Nat.le_refl _), fun y c h => ?_, fun p hp => absurd (show p ∈ ([] : List (Addr × Obj)) from hp) (by simp), e0.hok.kept hk, ?_⟩
  · exact name_of_addr x.apart (PySem.mem_of_lookup h1) (PySem.mem_of_lookup h2)
  · have hy : scope.names.lookup y = some .cell ∨ scope.names.lookup y = some .free := hy
    rcases hy with hy | hy
    · exact cell_has hy
    · exact absurd rfl (S.nofree _ (PySem.mem_of_lookup hy))
  · exact Nat.le_of_lt (x.above y c (PySem.mem_of_lookup h))
  · have hi : i < vs.length := by
      unfold start at h2
      by_cases hi : i < vs.length
      · exact hi
      · rw [List.getElem?_append_right (by simpa using hi)] at h2
        rw [List.getElem?_replicate] at h2
        split at h2 <;> cases h2
    have ha : vs[i]? = some v := by
      unfold start at h2
      rw [List.getElem?_append_left (by simpa using hi), List.getElem?_map] at h2
      cases e : vs[i]? with
      | none => rw [e] at h2; cases h2
      | some a => rw [e] at h2; cases h2; rfl
    obtain ⟨u, hu, rv⟩ := r.get ha
    have hp : ps[i]? = some y := by
      rw [← S.pre, List.getElem?_take_of_lt (by omega)]; exact h1
    have ndP : ps.Nodup := by rw [← S.pre]; exact S.nd.sublist (List.take_sublist _ _)
    refine ⟨u, rv, ?_⟩
    rcases S.par y (List.mem_of_getElem? hp) with k | k
    · exact .inl ⟨k, bindL_get ndP hp hu k⟩
    · obtain ⟨c, e⟩ := cell_has (n := s.heap.objs.size + 1) k
      refine .inr ⟨.inl k, c, e, ?_⟩
      have q := x.cell y c e
      rw [bindC_get ndP hp hu (by show scope.names.lookup y ≠ _; rw [k]; decide)] at q
      exact q
  · exact e0.hok.fresh (Nat.le_of_lt (x.above y c (PySem.mem_of_lookup h)))
  · unfold start
    show _ = N.length
    rw [List.length_append, List.length_map, List.length_replicate]
    omega

/-- THE RULE: a def (or a method) of the text, by its body. The body's reading t is chosen for each entry; it is run at the parameters' values -/
theorem fn_of {CX : CXT} {P : Program} {w : World} {K : PySem.W.Frag} {mg : Str → Option Value} {base : Heap} {k : Nat} {f : Addr} {name qual : Str} {params : Arguments} {body : List Stmt} {scope : Scope} {dV kV doc pm cdv ct oc : Value} {an od : Option Addr}
    {osl : Array (Option Value)} {N ps : List Str} {sp : Sp} (lk : K.lookup f = some ⟨oc, od, .func (PySem.W.fnOf name qual params body scope dV kV doc pm an cdv ct), osl⟩) (hcd : PySem.W.codeIn K cdv qual = true) (S : FnScope N ps scope)
    (len : ∀ vs H Q E, sp vs H Q E → vs.length = ps.length)
    (hbody : ∀ (A : Around) (outer : List Env) (s : Shared) (H : Hp) (vs : List V) (Q : VK) (E : XK), Room k (A.deeper (envOfC qual scope s.heap.objs.size f cdv)) → sp vs H Q E →
      ∃ t, PSs (cxOf CX P w K mg base N qual scope f cdv A outer s H E) body t ∧ t { nx := fun _ H' => Q .non H', rt := Q } (start N vs) H) :
    FnOk P w K mg base CX (k + 1) f (PySem.W.fnOf name qual params body scope dV kV doc pm an cdv ct) ps sp := by
  refine ⟨len, fun A outer s H args us vs Q E hr e0 hb r hsp => ?_⟩
  have hl := len _ _ _ _ hsp
  have KX : K.In s.heap := e0.mod.kin.keeps fun b o e => (e0.bs b o e).1
  have lim : s.heap.NoLimit := e0.mod.nolimit.keeps fun b o e => (e0.bs b o e).1
  have hkind : ∀ y ∈ ps.zip us, scope.names.lookup y.1 = some .local ∨ (scope.names.lookup y.1 = some .cell ∧ ((cellsFrom (s.heap.objs.size + 1) scope.names []).lookup y.1).isSome = true) := fun ⟨n, v⟩ hy => by
    rcases S.par n (List.of_mem_zip hy).1 with q | q
    · exact .inl q
    · exact .inr ⟨q, PySem.W.cellsFrom_some _ _ _ (.inl q)⟩
  refine codeAny_call_function hr.depth (KX _ _ lk) rfl S.co S.gen rfl (PySem.W.codeRec_of KX hcd) (hb _ _ _ _ ?_)
  refine wpAny_newFunctionEnv_cells S.kind hkind fun env he s1 x => ?_
  subst he
  refine ⟨lim.keeps x.toInCall.keep, codeAny_func ?_⟩
  obtain ⟨t, ht, hq⟩ := hbody A outer s H vs Q E (hr.deeper _) hsp
  have I : Inv (cxOf CX P w K mg base N qual scope f cdv A outer s H E) [] (start N vs) H s1 := inv_start S hr.hd e0 hl r x
  refine wpAny_mono (ht [] s1 (start N vs) H _ I hq) (fun fl s' hs => ?_) fun e s' hs => hs
  have fin : ∀ {σ' : St} {H' : Hp} {v : V} {u : Value}, Inv (cxOf CX P w K mg base N qual scope f cdv A outer s H E) [] σ' H' s' → RelV v u → Q v H' → CE outer P w H s Q u s' :=
    fun {σ' H' v u} J rv q => ⟨v, H', J.os, J.bare, J.base, J.hok, rv, q⟩
  cases fl with
  | ret u =>
    obtain ⟨v, σ', H', J, rv, q⟩ := hs
    exact fin J rv q
  | next =>
    obtain ⟨σ', H', J, q⟩ := hs
    exact fin (v := V.non) (u := Value.none) J rfl q
  | brk =>
    obtain ⟨_, _, _, q⟩ := hs
    exact False.elim q
  | cont =>
    obtain ⟨_, _, _, q⟩ := hs
    exact False.elim q
end L2

namespace L2
open PySem PySem.Spec PyProof.Rows
section
variable {X : Cx} {x : Str} {p pos : Pos} {e : Expr} {es : List Expr} {t : TA} {id T : String} {r : List V → Hp → VK → Prop}

def tCB (r : List V → Hp → VK → Prop) (t : TA) : TE := fun σ H Q => t σ H fun vs H1 => r vs H1 Q
/-- f(e, ..), f a built-in function -/
theorem pe_callB (hc : CallR X (.builtin id) r) (hg : Gl X x) (hm : X.mg x = none) (hv : bootBuiltins x = some (.builtin id)) (ha : PA X (e :: es) t) (hn : x ≠ "__name__" := by decide) (hdb : (x == ("__debug__" : Str)) = false := by decide)
    (he : starEach (e :: es) X.env = (false, eval e X.env) :: starEach es X.env := by rfl) (hpl : (backTo pos (starEach es X.env)).any (·.1) = false := by rfl) : PE X (.Call (.Name x p) (e :: es) [] pos) (tCB r t) := by
  intro pins s σ H Q I h
  refine wpAny_Call_Name_kw (ld_blt I hg hm hv ?_ hn hdb)
  exact PyProof.Rows.callWith_builtin1 (thn (ha pos pins s σ H _ I h) fun us s1 ⟨vs, H1, I1, r1, q1⟩ => hc pins s1 σ H1 vs us Q I1 r1 q1) he hpl
end
end L2

namespace HT
open PySem PyProof.Rows

/-- t < u of tuples of ints -/
def lexLt : List Int → List Int → Bool
  | [], [] => false
  | [], _ :: _ => true
  | _ :: _, [] => false
  | x :: xs, y :: ys => if x = y then lexLt xs ys else decide (x < y)
theorem lexLt_cons (x y : Int) (xs ys : List Int) : lexLt (x :: xs) (y :: ys) = if x = y then lexLt xs ys else decide (x < y) := rfl

theorem eqAt_int (A : Around) (s : Shared) (a : Int) (t : Tok) (c : Int) (u : Tok) : ∃ e, SeqAt.EqAt A s (.int a t) (.int c u) e ∧ (e = true ↔ a = c) :=
  ⟨(a == c), SeqAt.EqAt.int_int a t c u, by simp⟩
theorem rcLt_int (A : Around) (s : Shared) (a : Int) (t : Tok) (c : Int) (u : Tok) (prog : Program) (w : World) (E : Value → Shared → Prop) (Q : Value → Shared → Prop) (h : Q (.bool (decide (a < c))) s) :
    wpAny (model prog w) A (richCompare .Lt (.int a t) (.int c u)) Q E s :=
  (PyProof.Rows.lt_int h : wpAny (model prog w) A (compareOp .Lt (.int a t) (.int c u)) Q E s)

section
open PySem.SeqAt
open PySem.AutoSeq1 (wpAny_loadPart')
open PySem.MeetsSeq PySem.MeetsSeq2 PySem.MeetsSeq3

end

section
variable {prog : Program} {w : World} {A : Around} {E : Value → Shared → Prop} {s : Shared}

/-- a slice's bound as a place among n (d where it is left out) -/
def sIx (n d : Nat) : Option Int → Nat
  | none => d
  | some v => if v < 0 then (v + (n : Int)).toNat else min v.toNat n
theorem sIx_nat (n d k : Nat) : sIx n d (some (k : Int)) = min k n := by
  show (if (k : Int) < 0 then ((k : Int) + (n : Int)).toNat else min (k : Int).toNat n) = min k n
  rw [if_neg (by omega), Int.toNat_natCast]

end
end HT

namespace L2
open PySem PySem.Spec PyProof.Rows

abbrev TO := St → Hp → (Option Int → Hp → Prop) → Prop
/-- a slice's part (left out, or an int) -/
def PO (X : Cx) (e : Option Expr) (t : TO) : Prop :=
  ∀ (pins : List (Addr × Obj)) (s : Shared) (σ : St) (H : Hp) (Q : Option Int → Hp → Prop), Inv X pins σ H s → t σ H Q →
    wpAny (model X.prog X.w) X.A (evalPart e X.env) (fun u s' => ∃ o H', Inv X pins σ H' s' ∧ IsPart u o ∧ Q o H') X.xe s
def tPart (t : TE) : TO := fun σ H Q => t σ H fun x H1 => ∃ i, x = .int i ∧ Q (some i) H1

section
variable {X : Cx} {e : Expr} {te : TE} {lo hi : Option Expr} {tl th : TO} {pos p2 : Pos}

theorem po_some (h : PE X e te) : PO X (some e) (tPart te) := by
  intro pins s σ H Q I hw
  rw [evalPart_some]
  refine thn (h pins s σ H _ I hw) fun u s1 ⟨x, H1, I1, r1, q1⟩ => ?_
  obtain ⟨i, rfl, q⟩ := q1
  obtain ⟨t, rfl⟩ := r1
  exact ⟨some i, H1, I1, .int i t, q⟩

/-- what a slice of a value is, by values: the slice object stands at sl -/
def SlR (X : Cx) (r : V → Option Int → Option Int → Hp → VK → Prop) : Prop :=
  ∀ (pins : List (Addr × Obj)) (s : Shared) (σ : St) (H : Hp) (x : V) (v vl vu : Value) (lo hi : Option Int) (sl : Addr) (Q : VK), Inv X pins σ H s → RelV x v → s.heap.IsSliceOf sl vl vu .none → IsPart vl lo → IsPart vu hi → r x lo hi H Q →
    ∃ T id, typeLookup (.type T) "__getitem__" = pure (some (.builtin id)) ∧ s.TypeIs v T ∧ wpAny (model X.prog X.w) X.A (getItem v (.ref sl)) (EP X pins σ Q) X.xe s
theorem SlR.or {r r' : V → Option Int → Option Int → Hp → VK → Prop} (h : SlR X r) (h' : SlR X r') : SlR X (fun x lo hi H Q => r x lo hi H Q ∨ r' x lo hi H Q) := by
  intro pins s σ H x v vl vu lo hi sl Q I rx hs pl pu q
  rcases q with q | q
  · exact h pins s σ H x v vl vu lo hi sl Q I rx hs pl pu q
  · exact h' pins s σ H x v vl vu lo hi sl Q I rx hs pl pu q
def tSl (r : V → Option Int → Option Int → Hp → VK → Prop) (te : TE) (tl th : TO) : TE := fun σ H Q => te σ H fun x H1 => tl σ H1 fun l H2 => th σ H2 fun u H3 => r x l u H3 Q
/-- a[lo:hi], any a -/
theorem pe_slice {r : V → Option Int → Option Int → Hp → VK → Prop} (hr : SlR X r) (he : PE X e te) (hl : PO X lo tl) (hu : PO X hi th) : PE X (.Subscript e (.Slice lo hi none p2) pos) (tSl r te tl th) := by
  intro pins s σ H Q I h
  refine Subscript_ (thn (he pins s σ H _ I h) fun v s1 ⟨x, H1, I1, r1, q1⟩ => ?_)
  refine wpAny_Slice (thn (hl pins s1 σ H1 _ I1 q1) fun vl s2 ⟨l, H2, I2, pl, q2⟩ => thn (hu pins s2 σ H2 _ I2 q2) fun vu s3 ⟨u, H3, I3, pu, q3⟩ => ?_)
  rw [evalPart_none]
  refine wpAny_pure ?_
  have I4 : Inv X pins σ H3 { s3 with heap := s3.heap.push { cls := .type "slice", data := .fields #[vl, vu, .none] } } := I3.kept (t' := s3.toks) fun b ob q => Heap.get?_push_of_some _ q
  obtain ⟨T, id, hT, ht, hg⟩ := hr pins { s3 with heap := s3.heap.push { cls := .type "slice", data := .fields #[vl, vu, .none] } } σ H3 x v vl vu l u s3.heap.objs.size Q I4 r1 (Heap.IsSliceOf.new ..) pl pu q3
  show wpAny (model X.prog X.w) X.A (subscriptTail e (.Slice lo hi none p2) v (.ref s3.heap.objs.size)) (EP X pins σ Q) X.xe { s3 with heap := s3.heap.push { cls := .type "slice", data := .fields #[vl, vu, .none] } }
  exact tail_any (ops := [.ref s3.heap.objs.size, v]) ht hT hg (by with_unfolding_all rfl)

/-- the items of xs[lo:hi] -/
def cutV (xs : List V) (lo hi : Option Int) : List V := (xs.drop (HT.sIx xs.length 0 lo)).take (HT.sIx xs.length xs.length hi - HT.sIx xs.length 0 lo)
theorem cutV_length (xs : List V) (lo hi : Option Int) : (cutV xs lo hi).length ≤ xs.length := by
  unfold cutV
  rw [List.length_take, List.length_drop]
  omega

end
end L2

namespace L2
open PySem PySem.Spec PyProof.Rows

/-- the place that an index of any sign means -/
def ixN (n : Nat) (i : Int) : Option Nat := if 0 ≤ i then (if i < n then some i.toNat else none) else if -(n : Int) ≤ i then some (i + n).toNat else none
def atI {α : Type} (xs : List α) (i : Int) : Option α := (ixN xs.length i).bind fun j => xs[j]?
theorem ixN_seq {n : Nat} {i : Int} {j : Nat} (h : ixN n i = some j) : seqIndex? i n = some j ∧ j < n ∧ -(n : Int) ≤ i ∧ i < n := by
  unfold ixN at h
  by_cases h0 : 0 ≤ i
  · rw [if_pos h0] at h
    by_cases h1 : i < n
    · rw [if_pos h1] at h
      have e : i.toNat = j := Option.some.inj h
      exact ⟨by rw [seqIndex_of h0 h1, e], by omega, by omega, h1⟩
    · rw [if_neg h1] at h; cases h
  · rw [if_neg h0] at h
    by_cases h1 : -(n : Int) ≤ i
    · rw [if_pos h1] at h
      have e : (i + n).toNat = j := Option.some.inj h
      exact ⟨by rw [seqIndex_neg (by omega) h1, e], by omega, h1, by omega⟩
    · rw [if_neg h1] at h; cases h
theorem atI_get {α : Type} {xs : List α} {i : Int} {v : α} (h : atI xs i = some v) : ∃ j, seqIndex? i xs.length = some j ∧ xs[j]? = some v ∧ j < xs.length ∧ -(xs.length : Int) ≤ i ∧ i < xs.length := by
  unfold atI at h
  cases e : ixN xs.length i with
  | none => rw [e] at h; cases h
  | some j =>
    rw [e] at h
    obtain ⟨h1, h2, h3, h4⟩ := ixN_seq e
    exact ⟨j, h1, h, h2, h3, h4⟩
theorem atI_nat {α : Type} {xs : List α} {j : Nat} {v : α} (h : xs[j]? = some v) : atI xs (j : Int) = some v := by
  have hj : j < xs.length := (List.getElem?_eq_some_iff.mp h).1
  have e : ixN xs.length (j : Int) = some j := by
    unfold ixN
    rw [if_pos (by omega), if_pos (by omega)]; simp
  unfold atI; rw [e]; exact h

/-- what stands as an index of a plain subscript -/
def PlainIx (b : Expr) : Prop := ∀ o i, subscripted b false o i = operate [o, i] (getItem o i)
/-- a subscript by values -/
def IxR (X : Cx) (r : R2) : Prop :=
  ∀ (value slice : Expr) (pins : List (Addr × Obj)) (s : Shared) (σ : St) (H : Hp) (x y : V) (v u : Value) (Q : VK), Inv X pins σ H s → RelV x v → RelV y u → r x y H Q →
    subscripted slice false v u = operate [v, u] (getItem v u) → wpAny (model X.prog X.w) X.A (subscriptTail value slice v u) (EP X pins σ Q) X.xe s
/-- a call of a builtin's method by values: the receiver, the arguments -/
def MtR (X : Cx) (id : String) (r : V → List V → Hp → VK → Prop) : Prop :=
  ∀ (pins : List (Addr × Obj)) (s : Shared) (σ : St) (H : Hp) (x : V) (xs : List V) (v : Value) (us : List Value) (Q : VK), Inv X pins σ H s → RelV x v → Vals xs us → r x xs H Q →
    wpAny (model X.prog X.w) X.A (call (.builtin id) (v :: us)) (EP X pins σ Q) X.xe s
section
variable {X : Cx} {a b : Expr} {ta tb : TE} {pos : Pos}
theorem IxR.or {r r' : R2} (h : IxR X r) (h' : IxR X r') : IxR X (fun x y H Q => r x y H Q ∨ r' x y H Q) := by
  intro value slice pins s σ H x y v u Q I rx ry q hs
  rcases q with q | q
  · exact h value slice pins s σ H x y v u Q I rx ry q hs
  · exact h' value slice pins s σ H x y v u Q I rx ry q hs
theorem MtR.or {id : String} {r r' : V → List V → Hp → VK → Prop} (h : MtR X id r) (h' : MtR X id r') : MtR X id (fun x xs H Q => r x xs H Q ∨ r' x xs H Q) := by
  intro pins s σ H x xs v us Q I rx rs q
  rcases q with q | q
  · exact h pins s σ H x xs v us Q I rx rs q
  · exact h' pins s σ H x xs v us Q I rx rs q
/-- a[b] -/
theorem pe_ix {r : R2} (hr : IxR X r) (ha : PE X a ta) (hb : PE X b tb) (hs : PlainIx b) : PE X (.Subscript a b pos) (tOp r ta tb) := by
  intro pins s σ H Q I h
  exact Subscript_ (binT ha hb I h fun v u s2 x y H2 I2 rx ry q => hr a b pins s2 σ H2 x y v u Q I2 rx ry q (hs _ _))

def rIxL (K : PySem.W.Frag) : R2 := fun x y H Q => ∃ p xs i v, x = .ref p ∧ y = .int i ∧ SqL K H p xs ∧ atI xs i = some v ∧ Q v H
def rIxT (K : PySem.W.Frag) : R2 := fun x y H Q => ∃ p xs i v, x = .ref p ∧ y = .int i ∧ SqT K H p xs ∧ atI xs i = some v ∧ Q v H
theorem ix_list : IxR X (rIxL X.K) := by
  intro value slice pins s σ H x y v u Q I rx ry h hs
  obtain ⟨p, xs, i, z, rfl, rfl, hq, he, q⟩ := h
  cases rx
  obtain ⟨t, rfl⟩ := ry
  obtain ⟨its, r, pl, hz⟩ := I.list hq
  obtain ⟨j, h1, h2, h3, h4, h5⟩ := atI_get he
  obtain ⟨w, ew, rw'⟩ := r.get h2
  have hl := r.length
  have hn := line63
  have fin : EP X pins σ Q w s := ⟨z, H, I, rw', q⟩
  by_cases h0 : 0 ≤ i
  · have hj : i.toNat = j := by
      rw [seqIndex_of h0 h5] at h1
      exact Option.some.inj h1
    exact item_listR pl.isList h0 (by omega) (by rw [hj]; simpa using ew) fin hs
  · have hj : (i + (its.toArray.size : Int)).toNat = j := by
      rw [seqIndex_neg (by omega) h4] at h1
      rw [List.size_toArray, ← hl]
      exact Option.some.inj h1
    exact subscriptTail_builtinR (x := w) pl.isList.typeIs slot_list_getitem.lookup
      (wpAny_getItem_list_neg (Q := fun r s' => r = w ∧ EP X pins σ Q r s') pl.isList (by omega) (by rw [List.size_toArray] <;> omega) (by omega) (by rw [hj]; simpa using ew) ⟨rfl, fin⟩) hs
theorem ix_tup : IxR X (rIxT X.K) := by
  intro value slice pins s σ H x y v u Q I rx ry h hs
  obtain ⟨p, xs, i, z, rfl, rfl, hq, he, q⟩ := h
  cases rx
  obtain ⟨t, rfl⟩ := ry
  obtain ⟨its, r, pl, hz⟩ := I.tuple hq
  obtain ⟨j, h1, h2, h3, h4, h5⟩ := atI_get he
  obtain ⟨w, ew, rw'⟩ := r.get h2
  have hl := r.length
  have hn := line63
  have fin : EP X pins σ Q w s := ⟨z, H, I, rw', q⟩
  exact subscriptTail_builtinR (x := w) pl.typeIs slot_tuple_getitem.lookup
    (getItem_tuple (j := j) (Q := fun r s' => r = w ∧ EP X pins σ Q r s') pl (by omega) (by omega) (by rw [List.size_toArray, ← hl]; exact h1) (by simpa using ew) ⟨rfl, fin⟩) hs

theorem Inv.lst {pins : List (Addr × Obj)} {σ : St} {H : Hp} {s : Shared} {p : Addr} {xs : List V} (I : Inv X pins σ H s) (h : H p = some (.lst xs)) :
    ∃ (its : List Value) (n : Nat), Vals xs its ∧ s.heap.get? p = some { cls := .type "list", data := .seq its.toArray n } ∧ xs.length ≤ sizeLine := by
  obtain ⟨z, its, n, r, e⟩ := I.hok p _ h
  exact ⟨its, n, r, e, z⟩

theorem slice_bounds (lo hi : Option Int) (n : Nat) : (sliceBounds lo hi none n).1 = ((HT.sIx n 0 lo : Nat) : Int) ∧ (sliceBounds lo hi none n).2.1 = ((HT.sIx n n hi : Nat) : Int) ∧ (sliceBounds lo hi none n).2.2 = 1 := by
  refine ⟨?_, ?_, rfl⟩
  · cases lo with
    | none => simp [sliceBounds, HT.sIx]
    | some i =>
      simp only [sliceBounds, HT.sIx, Option.getD_none, show (1 : Int) > 0 by decide, if_true]
      by_cases h : i < 0
      · simp only [h, if_true] <;> omega
      · simp only [h, if_false] <;> omega
  · cases hi with
    | none => simp [sliceBounds, HT.sIx]
    | some i =>
      simp only [sliceBounds, HT.sIx, Option.getD_none, show (1 : Int) > 0 by decide, if_true]
      by_cases h : i < 0
      · simp only [h, if_true] <;> omega
      · simp only [h, if_false] <;> omega
theorem slicePick_cut (its : List Value) (lo hi : Option Int) : slicePick its.toArray lo hi none = ((its.drop (HT.sIx its.length 0 lo)).take (HT.sIx its.length its.length hi - HT.sIx its.length 0 lo)).toArray := by
  obtain ⟨h1, h2, h3⟩ := slice_bounds lo hi its.toArray.size
  unfold slicePick
  rw [h1, h2, h3]
  simp only [sliceRange_one, pick_run, List.size_toArray] <;> rfl
/-- xs[lo:hi] of a list: a new list -/
def rSlL (K : PySem.W.Frag) : V → Option Int → Option Int → Hp → VK → Prop := fun x lo hi H Q => ∃ a xs, x = .ref a ∧ SqL K H a xs ∧ ∀ p, H p = none → Q (.ref p) (upd H p (.lst (cutV xs lo hi)))
theorem sl_list : SlR X (rSlL X.K) := by
  intro pins s σ H x v vl vu lo hi sl Q I rx hs pl pu h
  obtain ⟨a, xs, rfl, hx, q⟩ := h
  cases rx
  obtain ⟨its, r, ht, hz⟩ := I.list hx
  have hlen := r.length
  refine ⟨"list", _, slot_list_getitem.lookup, ht.isList.typeIs, ?_⟩
  refine wpAny_getItem_list_slice ht.isList hs pl pu .none (by simp) ?_ (by rw [List.size_toArray] <;> omega)
  rw [slicePick_cut, ← hlen]
  refine ⟨.ref s.heap.objs.size, _, I.laid (t' := s.toks) (o := .lst (cutV xs lo hi)) (fun b ob q => Heap.get?_push_of_some _ q) (Nat.le_refl _) ?_, rfl, q _ (I.hok.fresh (Nat.le_refl _))⟩
  exact ⟨Nat.le_trans (cutV_length xs lo hi) hz, _, 0, (r.drop (HT.sIx xs.length 0 lo)).take (HT.sIx xs.length xs.length hi - HT.sIx xs.length 0 lo), Heap.get?_push_size _ rfl⟩

def flatV : V → Bool
  | .non => true
  | .bl _ => true
  | .int _ => true
  | .str _ => true
  | _ => false
/-- == of flat values -/
def eqV : V → V → Bool
  | .non, .non => true
  | .bl a, .bl b => a == b
  | .bl a, .int b => (if a then 1 else 0) == b
  | .int a, .bl b => a == (if b then 1 else 0)
  | .int a, .int b => a == b
  | .str a, .str b => a == b
  | _, _ => false
theorem eqAt_V {A : Around} {s : Shared} {y x : V} {u v : Value} (ry : RelV y u) (rx : RelV x v) (fy : flatV y = true) (fx : flatV x = true) : SeqAt.EqAt A s u v (eqV y x) := by
  cases y with
  | non =>
    cases ry
    cases x with
    | non => cases rx; exact SeqAt.EqAt.same _
    | bl b => cases rx; exact SeqAt.EqAt.none_bool b
    | int b => obtain ⟨t, rfl⟩ := rx; exact SeqAt.EqAt.none_int b t
    | str b => obtain ⟨t, rfl⟩ := rx; exact SeqAt.EqAt.none_str b t
    | _ => exact absurd (show false = true from fx) Bool.false_ne_true
  | bl a =>
    cases ry
    cases x with
    | non => cases rx; exact SeqAt.EqAt.bool_none a
    | bl b => cases rx; exact SeqAt.EqAt.bool_bool a b
    | int b => obtain ⟨t, rfl⟩ := rx; exact SeqAt.EqAt.bool_int a b t
    | str b => obtain ⟨t, rfl⟩ := rx; exact SeqAt.EqAt.bool_str a b t
    | _ => exact absurd (show false = true from fx) Bool.false_ne_true
  | int a =>
    obtain ⟨t', rfl⟩ := ry
    cases x with
    | non => cases rx; exact SeqAt.EqAt.int_none a t'
    | bl b => cases rx; exact SeqAt.EqAt.int_bool a t' b
    | int b => obtain ⟨t, rfl⟩ := rx; exact SeqAt.EqAt.int_int a t' b t
    | str b => obtain ⟨t, rfl⟩ := rx; exact SeqAt.EqAt.int_str a t' b t
    | _ => exact absurd (show false = true from fx) Bool.false_ne_true
  | str a =>
    obtain ⟨t', rfl⟩ := ry
    cases x with
    | non => cases rx; exact SeqAt.EqAt.str_none a t'
    | bl b => cases rx; exact SeqAt.EqAt.str_bool a t' b
    | int b => obtain ⟨t, rfl⟩ := rx; exact SeqAt.EqAt.str_int a t' b t
    | str b => obtain ⟨t, rfl⟩ := rx; exact SeqAt.EqAt.str_str a t' b t
    | _ => exact absurd (show false = true from fx) Bool.false_ne_true
  | _ => exact absurd (show false = true from fy) Bool.false_ne_true
/-- the items' answers, read off the values (a value's own answer does not lean on its token) -/
def eqU (x : V) (u : Value) : Bool := match u with
  | .none => eqV .non x
  | .bool b => eqV (.bl b) x
  | .int i _ => eqV (.int i) x
  | .str z _ => eqV (.str z) x
  | _ => false
theorem eqU_of {x y : V} {u : Value} (r : RelV y u) (f : flatV y = true) : eqU x u = eqV y x := by
  cases y with
  | non => cases r; rfl
  | bl b => cases r; rfl
  | int i => obtain ⟨t, rfl⟩ := r; rfl
  | str z => obtain ⟨t, rfl⟩ := r; rfl
  | _ => exact absurd (show false = true from f) Bool.false_ne_true
theorem any_eqU {x : V} : ∀ {xs : List V} {us : List Value}, Vals xs us → xs.all flatV = true → us.any (eqU x) = xs.any fun y => eqV y x
  | _, _, .nil, _ => rfl
  | y :: xs, u :: us, .cons r t, f => by
    rw [List.all_cons, Bool.and_eq_true] at f
    rw [List.any_cons, List.any_cons, eqU_of r f.1, any_eqU t f.2]
theorem mem_eqAt {A : Around} {s : Shared} {x : V} {v : Value} (rx : RelV x v) (fx : flatV x = true) : ∀ {xs : List V} {us : List Value}, Vals xs us → xs.all flatV = true → ∀ u ∈ us, SeqAt.EqAt A s u v (eqU x u)
  | _, _, .nil, _ => fun u hu => by cases hu
  | y :: xs, u :: us, .cons r t, f => fun u' hu => by
    rw [List.all_cons, Bool.and_eq_true] at f
    rcases List.mem_cons.mp hu with rfl | hu
    · rw [eqU_of r f.1]; exact eqAt_V r rx f.1 fx
    · exact mem_eqAt rx fx t f.2 u' hu
def inV (x : V) (xs : List V) : Bool := xs.any fun y => eqV y x
/-- x in a list or tuple of flat items -/
def rIn (K : PySem.W.Frag) (neg : Bool) : R2 := fun x y H Q => ∃ p xs, y = .ref p ∧ (SqL K H p xs ∨ SqT K H p xs) ∧ flatV x = true ∧ xs.all flatV = true ∧ Q (.bl (if neg then !inV x xs else inV x xs)) H
theorem op_in_seq : OpR X (compareOp .In) (rIn X.K false) := by
  intro pins s σ H x y v u Q I rx ry h
  obtain ⟨p, xs, rfl, hq, fx, fs, q⟩ := h
  cases ry
  rcases hq with hq | hq
  · obtain ⟨its, r, pl, hz⟩ := I.list hq
    refine SeqAt.in_listAt (eqU x) pl.isList (fun w hw => mem_eqAt rx fx r fs w (by simpa using hw)) ⟨.bl _, H, I, rfl, ?_⟩
    rw [show its.toArray.any (eqU x) = its.any (eqU x) by simp, any_eqU r fs]
    exact q
  · obtain ⟨its, r, pl, hz⟩ := I.tuple hq
    refine SeqAt.in_tupleAt (eqU x) pl (fun w hw => mem_eqAt rx fx r fs w (by simpa using hw)) ⟨.bl _, H, I, rfl, ?_⟩
    rw [show its.toArray.any (eqU x) = its.any (eqU x) by simp, any_eqU r fs]
    exact q

theorem call_len_seq : CallR X (.builtin "len") (fun xs H Q => ∃ p ys, xs = [.ref p] ∧ (SqL X.K H p ys ∨ SqT X.K H p ys) ∧ Q (.int ys.length) H) := by
  intro pins s σ H xs us Q I r h
  obtain ⟨p, ys, rfl, hq, q⟩ := h
  obtain ⟨u, rfl, rx⟩ := vals1 r
  cases rx
  have hn := line63
  rcases hq with hq | hq
  · obtain ⟨its, r', pl, hz⟩ := I.list hq
    have hlen := r'.length
    exact Calls.call_len_list pl.isList (by simp only [List.size_toArray] <;> omega) ⟨.int ys.length, H, I.tok _, ⟨s.toks + 1, by rw [List.size_toArray, hlen]⟩, q⟩
  · obtain ⟨its, r', pl, hz⟩ := I.tuple hq
    have hlen := r'.length
    exact len_tuple pl (by simp only [List.size_toArray] <;> omega) ⟨.int ys.length, H, I.tok _, ⟨s.toks + 1, by rw [List.size_toArray, hlen]⟩, q⟩
theorem CallR.or {f : Value} {r r' : List V → Hp → VK → Prop} (h : CallR X f r) (h' : CallR X f r') : CallR X f (fun xs H Q => r xs H Q ∨ r' xs H Q) := by
  intro pins s σ H xs us Q I rs q
  rcases q with q | q
  · exact h pins s σ H xs us Q I rs q
  · exact h' pins s σ H xs us Q I rs q

/-- the value is of that builtin type -/
def tyV (K : PySem.W.Frag) (T : String) (x : V) (H : Hp) : Prop := match x with
  | .str _ => T = "str"
  | .int _ => T = "int"
  | .ref p => (T = "list" ∧ ∃ xs, SqL K H p xs) ∨ (T = "tuple" ∧ ∃ o, K.lookup p = some o ∧ o.cls = .type "tuple" ∧ o.dict = none) ∨
      (T = "dict" ∧ ((∃ kvs, H p = some (.dK kvs)) ∨ ∃ kvs, H p = some (.dT kvs))) ∨ (T = "set" ∧ ∃ S n, H p = some (.set S n))
  | _ => False
theorem tyV_is {pins : List (Addr × Obj)} {σ : St} {H : Hp} {s : Shared} {T : String} {x : V} {v : Value} (I : Inv X pins σ H s) (r : RelV x v) (ty : tyV X.K T x H) :
    s.TypeIs v T ∧ ∀ a, v = .ref a → ∃ ob, s.heap.get? a = some ob ∧ ob.dict = none := by
  cases x with
  | str z =>
    obtain ⟨t, rfl⟩ := r
    cases (show T = "str" from ty)
    exact ⟨typeIs_str s z t, fun _ e => nomatch e⟩
  | int i =>
    obtain ⟨t, rfl⟩ := r
    cases (show T = "int" from ty)
    exact ⟨typeIs_int s i t, fun _ e => nomatch e⟩
  | ref p =>
    cases r
    rcases ty with ⟨rfl, xs, hq⟩ | ⟨rfl, o, hk, hc, hd⟩ | ⟨rfl, hk⟩ | ⟨rfl, S, n, hk⟩
    · obtain ⟨its, _, pl, _⟩ := I.list hq
      refine ⟨pl.isList.typeIs, fun a e => ?_⟩
      cases e
      obtain ⟨o, n, e, c, hd, _⟩ := pl
      exact ⟨o, e, hd⟩
    · refine ⟨⟨o, I.kIn p o hk, hc⟩, fun a e => ?_⟩
      cases e
      exact ⟨o, I.kIn _ o hk, hd⟩
    · have z : ∃ o, s.heap.get? p = some o ∧ o.ExactDict := by
        rcases hk with ⟨kvs, hk⟩ | ⟨kvs, hk⟩
        · obtain ⟨_, _, _, _, o, _, _, e, ex, _⟩ := I.hok p _ hk
          exact ⟨o, e, ex⟩
        · obtain ⟨_, _, _, _, o, _, _, e, ex, _⟩ := I.hok p _ hk
          exact ⟨o, e, ex⟩
      obtain ⟨o, e, ex⟩ := z
      refine ⟨⟨o, e, ex.1⟩, fun a e2 => ?_⟩
      cases e2
      exact ⟨o, e, ex.2.1⟩
    · obtain ⟨o, _, _, _, e, ex, _⟩ := I.hok p _ hk
      refine ⟨⟨o, e, ex.1⟩, fun a e2 => ?_⟩
      cases e2
      exact ⟨o, e, ex.2.1⟩
  | _ => exact False.elim ty
def tBM (K : PySem.W.Frag) (T : String) (r : V → List V → Hp → VK → Prop) (to : TE) (t : TA) : TE := fun σ H Q => to σ H fun x H1 => tyV K T x H1 ∧ t σ H1 fun xs H2 => r x xs H2 Q
variable {o e : Expr} {es : List Expr} {to : TE} {t : TA} {name : Str} {apos cpos : Pos} {T id : String} {r : V → List V → Hp → VK → Prop}
theorem pe_bm (pa : PlainAttrs T) (slot : Slot T name id) (hty : typeOf (.builtin id) = pure (.type "method_descriptor")) (hm : MtR X id r) (ho : PE X o to) (ha : PA X (e :: es) t)
    (hbase : attributeBase o name X.env (eval o X.env) = eval o X.env := by rfl)
    (hfew : ((backTo cpos (starEach (e :: es) X.env)).all (fun x => !x.1) && (backToKw cpos (keywordEach [] X.env)).all (fun x => x.1.isSome)
      && decide ((e :: es).length + ([] : List Keyword).length + (if ([] : List Keyword).isEmpty then 0 else 1) < 30)) = true := by rfl)
    (hline : (apos.endLine == cpos.line) = true := by rfl) (hs : starEach (e :: es) X.env = (false, eval e X.env) :: starEach es X.env := by rfl) (hplain : (backTo cpos (starEach es X.env)).any (·.1) = false := by rfl) :
    PE X (.Call (.Attribute o name apos) (e :: es) [] cpos) (tBM X.K T r to t) := by
  intro pins s σ H Q I h
  refine wpAny_Call_method_late hbase hfew hline rfl (thn (ho pins s σ H _ I h) fun v s1 ⟨x, H1, I1, r1, ty, q1⟩ => ?_)
  obtain ⟨h1, h2⟩ := tyV_is I1 r1 ty
  refine ⟨T, id, pa, slot, hty, h1, h2, ?_⟩
  have hA := ha cpos pins s1 σ H1 _ I1 q1
  rw [hs] at hA ⊢
  refine Calls.callWith_builtin (by show (false || (backTo cpos (starEach es X.env)).any (·.1)) = false; rw [hplain] <;> rfl) (Calls.evalArgs_plain ?_)
  exact thn hA fun us s2 ⟨vs, H2, I2, r2, q2⟩ => hm pins s2 σ H2 x vs v us Q I2 r1 r2 q2
end
end L2

namespace L2
open PySem PySem.Spec PyProof.Rows

def MtM (X : Cx) (id : String) (r : V → List V → Hp → VK → Prop) : Prop :=
  ∀ (pins : List (Addr × Obj)) (s : Shared) (σ : St) (H : Hp) (x : V) (xs : List V) (v : Value) (us : List Value) (Q : VK), Inv X pins σ H s → RelV x v → Vals xs us → r x xs H Q →
    wpAny (model X.prog X.w) X.A (call (.builtin id) (v :: us)) (EP X pins σ Q) X.xe s

theorem Vals.one : ∀ {x : V} {us : List Value}, Vals [x] us → ∃ u, us = [u] ∧ RelV x u
  | _, _, .cons r .nil => ⟨_, rfl, r⟩
theorem Vals.two : ∀ {x y : V} {us : List Value}, Vals [x, y] us → ∃ u v, us = [u, v] ∧ RelV x u ∧ RelV y v
  | _, _, _, .cons r (.cons q .nil) => ⟨_, _, rfl, r, q⟩
theorem Vals.zero : ∀ {us : List Value}, Vals [] us → us = []
  | _, .nil => rfl
theorem Vals.reverse {xs : List V} {us : List Value} (h : Vals xs us) : Vals xs.reverse us.reverse := by
  induction h with
  | nil => exact .nil
  | cons r t ih => rw [List.reverse_cons, List.reverse_cons]; exact Vals.append ih (.cons r .nil)

section
variable {X : Cx} {pins : List (Addr × Obj)} {σ : St} {H : Hp} {s : Shared} {l b : Addr} {xs ys zs : List V}

theorem Inv.lset {its its' : List Value} {n : Nat} {f : Array Value → Array Value} {t' : Nat} (I : Inv X pins σ H s) (hH : H l = some (.lst xs))
    (e : s.heap.get? l = some { cls := .type "list", data := .seq its.toArray n }) (hf : f its.toArray = its'.toArray) (hv : Vals ys its') (hz : ys.length ≤ sizeLine) :
    Inv X pins σ (upd H l (.lst ys)) { s with heap := s.heap.update l (Obj.mapSeq f), toks := t' } := by
  have q := PySem.IsL.update e f
  rw [hf] at q
  refine I.write (x := l) (e := l) (by rw [hH]; exact trivial) (.inl rfl) (fun b' u hb hu => (Heap.get?_update_other s.heap (Obj.mapSeq f) (Ne.symm hb)).trans hu) ⟨_, q⟩ ?_
  exact ⟨hz, its', _, hv, q⟩
theorem Inv.lnew {its : List Value} {t' : Nat} (I : Inv X pins σ H s) (hv : Vals ys its) (hz : ys.length ≤ sizeLine) :
    Inv X pins σ (upd H s.heap.objs.size (.lst ys)) { s with heap := s.heap.push { cls := .type "list", data := .seq its.toArray }, toks := t' } :=
  I.laid (fun _ _ q => Heap.get?_push_of_some _ q) (Nat.le_refl _) ⟨hz, its, 0, hv, Heap.get?_push_size _ rfl⟩
theorem Inv.fresh (I : Inv X pins σ H s) : H s.heap.objs.size = none := I.hok.fresh (Nat.le_refl _)
theorem Inv.lstM (I : Inv X pins σ H s) (hH : H l = some (.lst xs)) : xs.length ≤ sizeLine ∧ ∃ (its : List Value) (n : Nat), Vals xs its ∧ xs.length = its.length ∧ s.heap.get? l = some { cls := .type "list", data := .seq its.toArray n } := by
  obtain ⟨z, its, n, r, e⟩ := I.hok l _ hH
  exact ⟨z, its, n, r, r.length, e⟩

theorem notLongL {n : Nat} (h : n ≤ sizeLine) : Builtin.List.listTooLong n = false := by
  unfold Builtin.List.listTooLong
  exact decide_eq_false (by omega)
end

section
variable {X : Cx}

def rAppend : V → List V → Hp → VK → Prop := fun x vs H Q => ∃ l xs y, x = .ref l ∧ vs = [y] ∧ H l = some (.lst xs) ∧ xs.length < sizeLine ∧ Q .non (upd H l (.lst (xs ++ [y])))
theorem mt_append : MtM X "list.append" rAppend := by
  intro pins s σ H x vs v us Q I rx rv h
  obtain ⟨l, xs, y, rfl, rfl, hH, hz, q⟩ := h
  cases rx
  obtain ⟨u, rfl, ru⟩ := rv.one
  obtain ⟨z, its, n, r, hl, e⟩ := I.lstM hH
  refine call_meets F.slot_list_append ⟨_, e, rfl⟩ F.entry_list_append (F.args_list_append_2 _ _) (PySem.list_append l its.toArray n u (by rw [List.size_toArray]; omega)) ⟨e, ?_⟩
  refine ⟨.non, _, I.lset (its' := its ++ [u]) hH e (by simp) (r.append (.cons ru .nil)) ?_, rfl, q⟩
  rw [List.length_append, List.length_singleton]
  omega

def rExtend : V → List V → Hp → VK → Prop := fun x vs H Q => ∃ l b xs zs, x = .ref l ∧ vs = [.ref b] ∧ H l = some (.lst xs) ∧ H b = some (.lst zs) ∧ xs.length + zs.length ≤ sizeLine ∧ Q .non (upd H l (.lst (xs ++ zs)))
theorem mt_extend : MtM X "list.extend" rExtend := by
  intro pins s σ H x vs v us Q I rx rv h
  obtain ⟨l, b, xs, zs, rfl, rfl, hH, hB, hz, q⟩ := h
  cases rx
  obtain ⟨u, rfl, ru⟩ := rv.one
  cases ru
  obtain ⟨z, its, n, r, hl, e⟩ := I.lstM hH
  obtain ⟨z2, its2, n2, r2, hl2, e2⟩ := I.lstM hB
  have hsz : its.toArray.size + its2.toArray.size ≤ sizeLine := by rw [List.size_toArray, List.size_toArray]; omega
  have hlong : ¬ (!its.toArray.isEmpty && Builtin.List.listTooLong (its.toArray.size + its2.toArray.size)) = true := by
    rw [notLongL hsz, Bool.and_false]
    exact Bool.false_ne_true
  refine call_meets F.slot_list_extend ⟨_, e, rfl⟩ F.entry_list_extend (F.args_list_extend_2 _ _)
    (AutoSeq1.list_extend_list_list_0 l its.toArray n b its2.toArray n2 hlong (by rw [List.size_toArray]; omega) (by omega)) ⟨e, e2, ?_⟩
  refine ⟨.non, _, I.lset (its' := its ++ its2) hH e (by simp) (r.append r2) ?_, rfl, q⟩
  rw [List.length_append]
  omega

def rCat : R2 := fun x y H Q => ∃ l b xs zs, x = .ref l ∧ y = .ref b ∧ H l = some (.lst xs) ∧ H b = some (.lst zs) ∧ xs.length + zs.length ≤ sizeLine ∧ ∀ p, H p = none → Q (.ref p) (upd H p (.lst (xs ++ zs)))
theorem op_cat : OpR X (binaryOp .Add) rCat := by
  intro pins s σ H x y v u Q I rx ry h
  obtain ⟨l, b, xs, zs, rfl, rfl, hH, hB, hz, q⟩ := h
  cases rx
  cases ry
  obtain ⟨z, its, n, r, hl, e⟩ := I.lstM hH
  obtain ⟨z2, its2, n2, r2, hl2, e2⟩ := I.lstM hB
  refine PySem.P.add_list e e2 ?_ (by rw [List.size_toArray, List.size_toArray]; omega)
  have ea : its.toArray ++ its2.toArray = (its ++ its2).toArray := by simp
  rw [ea]
  exact ⟨.ref _, _, I.lnew (t' := s.toks) (r.append r2) (by rw [List.length_append]; omega), rfl, q _ I.fresh⟩

end

section
variable {prog : Program} {w : World} {A : Around} {E : Value → Shared → Prop} {s : Shared}
end

section
variable {X : Cx}
end
end L2

namespace L2
open PySem PySem.Spec PyProof.Rows

theorem Vals.ints : ∀ {ns : List Int} {us : List Value}, Vals (ns.map V.int) us → IntsAre us ns
  | [], us, h => by
    rw [List.map_nil] at h
    cases h
    exact IntsAre.nil
  | n :: ns, us, h => by
    rw [List.map_cons] at h
    cases h with
    | cons r t =>
      obtain ⟨k, rfl⟩ := r
      exact IntsAre.cons n k (Vals.ints t)
theorem vals_of_ints : ∀ {us : List Value} {ns : List Int}, IntsAre us ns → Vals (ns.map V.int) us
  | _, _, .nil => by rw [List.map_nil]; exact Paired.nil
  | _, _, .cons n t h => by rw [List.map_cons]; exact Paired.cons (show RelV (V.int n) (Value.int n t) from ⟨t, rfl⟩) (vals_of_ints h)
theorem Vals.bls : ∀ {bs : List Bool} {us : List Value}, Vals (bs.map V.bl) us → us = bs.map Value.bool
  | [], us, h => by
    rw [List.map_nil] at h
    cases h
    rfl
  | b :: bs, us, h => by
    rw [List.map_cons] at h
    cases h with
    | cons r t =>
      cases r
      rw [Vals.bls t, List.map_cons]
theorem Vals.ref1 {a : Addr} {us : List Value} (r : Vals [V.ref a] us) : us = [Value.ref a] := by
  cases r with
  | cons r t =>
    cases t
    cases r
    rfl

section
variable {prog : Program} {w : World} {A : Around} {E : Value → Shared → Prop} {s : Shared} {l : Addr} {its : List Value} {ns : List Int} {Q : Value → Shared → Prop}
theorem sum_raw (hh : A.handled = none) (hl : s.heap.IsList l its.toArray) (hi : IntsAre its ns)
    (h : ∀ h' tk t', (∀ b o, s.heap.get? b = some o → h'.get? b = some o) → Q (.int ns.sum t') { s with heap := h', toks := tk }) : wpAny (model prog w) A (call (.builtin "sum") [.ref l]) Q E s := by
  obtain ⟨xs, e⟩ := hi.allInts.items
  have hn : numsOf (intItems xs).toList = ns := by rw [← e]; exact hi.numsOf
  rw [nums_intItems] at hn
  rw [e] at hl
  refine PySem.sum_intListG hh hl fun h' tk t' hk => ?_
  have := h h' tk t' hk
  rw [preSum_eq, List.take_of_length_le (by simp), hn]; exact this
end

section
variable {X : Cx}
/-- sum(xs) of a list of ints -/
def rSum (K : PySem.W.Frag) : List V → Hp → VK → Prop := fun vs H Q => ∃ (a : Addr) (ns : List Int), vs = [V.ref a] ∧ SqL K H a (ns.map V.int) ∧ Q (.int ns.sum) H
theorem cr_sum (hc : X.calm = true) : CallR X (.builtin "sum") (rSum X.K) := by
  intro pins s σ H vs us Q I r h
  obtain ⟨a, ns, rfl, hs, q⟩ := h
  obtain ⟨its, rv, hl, _⟩ := I.list hs
  rw [Vals.ref1 r]
  exact sum_raw (I.ok.hd hc) hl.isList rv.ints fun h' tk t' hk => ⟨.int _, H, I.kept hk, ⟨_, rfl⟩, q⟩

theorem small64 {n : Nat} (h : n < 64) : n ≤ sizeLine := by rw [sizeLine_eq]; omega
end

section
variable {X : Cx}
end

section
variable {X : Cx}
end

theorem iter_any {prog : Program} {w : World} {A : Around} {E : Value → Shared → Prop} {s : Shared} {l : Addr} {items : Array Value} {Q : Value → Shared → Prop} (hl : s.heap.IsList l items)
    (h : ∀ s₂ : Shared, s₂ = { s with heap := s.heap.push { cls := .type "list_iterator", data := .fields #[.ref l, .int 0 0] } } →
      (s₂.heap.IsListIter s.heap.objs.size l 0 ∧ s₂.heap.IsList l items) → l ≠ s.heap.objs.size → Q (.ref s.heap.objs.size) s₂) : wpAny (model prog w) A (pyIter (.ref l)) Q E s := by
  have hlt : l < s.heap.objs.size := by obtain ⟨_, e, _⟩ := hl; exact Heap.lt_size e
  exact wpAny_pyIter_list hl (h _ rfl ⟨⟨_, Heap.get?_push_size _ rfl, rfl, rfl⟩, hl.push _⟩ (Nat.ne_of_lt hlt))
theorem truth_bools {prog : Program} {w : World} {A : Around} {bs : List Bool} {its : List Value} (e : its = bs.map Value.bool) :
    TruthOf prog w A (fun i v => its.toArray[i]? = some v) (fun i => bs.getD i false) := fun i v s Q E hv hq => by
  have hv' : its[i]? = some v := by simpa using hv
  rw [e, List.getElem?_map] at hv'
  obtain ⟨b, hb, rfl⟩ := Option.map_eq_some_iff.mp hv'
  have hg : bs.getD i false = b := by rw [List.getD_eq_getElem?_getD, hb] <;> rfl
  have hq' : Q (bs.getD i false) s := hq
  rw [hg] at hq'
  exact wpAny_truthy_bool hq'
theorem all_range : ∀ bs : List Bool, (List.range bs.length).all (fun i => bs.getD i false) = bs.all id
  | [] => rfl
  | b :: bs => by
    rw [List.length_cons, List.range_succ_eq_map, List.all_cons, List.all_map, List.all_cons, ← all_range bs]
    all_goals rfl
section
variable {X : Cx}
def rAll (K : PySem.W.Frag) : List V → Hp → VK → Prop := fun vs H Q => ∃ (a : Addr) (bs : List Bool), vs = [V.ref a] ∧ SqL K H a (bs.map V.bl) ∧ Q (.bl (bs.all id)) H
theorem cr_all (hc : X.calm = true) : CallR X (.builtin "all") (rAll X.K) := by
  intro pins s σ H vs us Q I r h
  obtain ⟨a, bs, rfl, hs, q⟩ := h
  obtain ⟨its, rv, hl, _⟩ := I.list hs
  rw [Vals.ref1 r]
  have hb := rv.bls
  refine call_all_walk (iter_any hl.isList fun s₂ e2 st hne => ?_)
  subst e2
  refine ⟨_, _, _, _, _, _, _, rfl, Walks.list (A := X.A.in1) (I.ok.hd hc) _ a hne its.toArray, st, truth_bools hb, fun h' tk hk => ?_⟩
  refine ⟨.bl _, H, I.kept fun b o eo => hk b o (fun hmem => ?_) (Heap.get?_push_of_some _ eo), ?_, q⟩
  · rcases List.mem_cons.mp hmem with e1 | hmem
    · exact absurd (e1 ▸ Heap.lt_size eo) (Nat.lt_irrefl _)
    · cases hmem
  · show Value.bool _ = Value.bool _
    rw [← all_range, hb, List.size_toArray, List.length_map]
end

mutual
inductive Dp (K : PySem.W.Frag) (H : Hp) : V → PyData → Prop
  | non : Dp K H .non .none
  | bl (b : Bool) : Dp K H (.bl b) (.bool b)
  | int (i : Int) : Dp K H (.int i) (.int i)
  | str (x : Str) : Dp K H (.str x) (.str x)
  | lst {a : Addr} {xs : List V} {ds : List PyData} : SqL K H a xs → DpAll K H xs ds → Dp K H (.ref a) (.list ds)
  | tup {a : Addr} {xs : List V} {ds : List PyData} : SqT K H a xs → DpAll K H xs ds → Dp K H (.ref a) (.tuple ds)
inductive DpAll (K : PySem.W.Frag) (H : Hp) : List V → List PyData → Prop
  | nil : DpAll K H [] []
  | cons {v : V} {vs : List V} {d : PyData} {ds : List PyData} : Dp K H v d → DpAll K H vs ds → DpAll K H (v :: vs) (d :: ds)
end
section
variable {X : Cx} {pins : List (Addr × Obj)} {σ : St} {H : Hp} {s : Shared}
mutual
theorem Dp.reads (I : Inv X pins σ H s) : ∀ (d : PyData) (v : V) (u : Value), Dp X.K H v d → RelV v u → ∃ as, Reads s.heap u d as
  | .none, _, _, h, r => by
    cases h
    cases r
    exact ⟨_, Reads.none⟩
  | .bool b, _, _, h, r => by
    cases h
    cases r
    exact ⟨_, Reads.bool b⟩
  | .int i, _, _, h, r => by
    cases h
    obtain ⟨t, rfl⟩ := r
    exact ⟨_, Reads.int i t⟩
  | .str x, _, _, h, r => by
    cases h
    obtain ⟨t, rfl⟩ := r
    exact ⟨_, Reads.str x t⟩
  | .list ds, _, _, h, r => by
    cases h with
    | lst hs ha =>
      cases r
      obtain ⟨its, rv, ⟨o, n, ho, hc, _, hd⟩, _⟩ := I.list hs
      obtain ⟨as, hr⟩ := Dp.readsAll I ds _ its ha rv
      exact ⟨_, Reads.list ho hc hd hr⟩
  | .tuple ds, _, _, h, r => by
    cases h with
    | tup hs ha =>
      cases r
      obtain ⟨its, rv, ⟨o, ho, hc, n, hd⟩, _⟩ := I.tuple hs
      obtain ⟨as, hr⟩ := Dp.readsAll I ds _ its ha rv
      exact ⟨_, Reads.tuple ho hc hd hr⟩
  | .dict _, _, _, h, _ => by cases h
theorem Dp.readsAll (I : Inv X pins σ H s) : ∀ (ds : List PyData) (vs : List V) (us : List Value), DpAll X.K H vs ds → Vals vs us → ∃ as, ReadsAll s.heap us ds as
  | [], _, _, h, r => by
    cases h
    cases r
    exact ⟨_, ReadsAll.nil⟩
  | d :: ds, _, _, h, r => by
    cases h with
    | cons h1 h2 =>
      cases r with
      | cons r1 r2 =>
        obtain ⟨as, q1⟩ := Dp.reads I d _ _ h1 r1
        obtain ⟨bs, q2⟩ := Dp.readsAll I ds _ _ h2 r2
        exact ⟨_, ReadsAll.cons q1 q2⟩
end
end
section
variable {X : Cx}
end
end L2

namespace L2
open PySem PySem.Spec PyProof.Rows
abbrev CellAt (h : Heap) (c : Addr) (v : Option Value) : Prop := h.IsCell c v
def relS (scope sc : Scope) : Scope :=
  { scope with names := scope.names.map fun (n, k) => if (k == .free && sc.kind == .function && sc.names.lookup n == some .cell) then (n, .cell) else (n, k) }

def cloFrom (cells : List (Str × Addr)) : List (Str × NameKind) → List (Str × Addr) → List (Str × Addr)
  | [], acc => acc
  | (n, k) :: r, acc => if k == .free then cloFrom cells r ((n, (cells.lookup n).getD 0) :: acc) else cloFrom cells r acc

theorem closure_loop (env : Env) (f : Str × NameKind → List (Str × Addr) → Sem (ForInStep (List (Str × Addr))))
    (hf : ∀ n k c, f (n, k) c = if k == .free then (do let a ← cellOf env n; pure (.yield ((n, a) :: c))) else pure (.yield c)) :
    ∀ (names : List (Str × NameKind)) (acc : List (Str × Addr)), (∀ y ∈ names, y.2 = .free → ∃ c, env.cells.lookup y.1 = some c) → forIn names acc f = pure (cloFrom env.cells names acc)
  | [], acc, _ => by rw [List.forIn_nil]; rfl
  | (n, k) :: r, acc, h => by
    rw [List.forIn_cons, hf]
    have ih := fun acc => closure_loop env f hf r acc fun y hy => h y (List.mem_cons_of_mem _ hy)
    unfold cloFrom
    by_cases hk : (k == NameKind.free) = true
    · rw [if_pos hk, if_pos hk]
      obtain ⟨c, hc⟩ := h (n, k) List.mem_cons_self (by simpa using hk)
      have e : cellOf env n = pure c := by unfold cellOf; rw [hc]
      rw [e]
      have e2 : (env.cells.lookup n).getD 0 = c := by rw [hc]; rfl
      rw [e2]
      exact ih _
    · rw [if_neg hk, if_neg hk]
      exact ih _
theorem closure_ok {scope : Scope} {env : Env} (h : ∀ y ∈ scope.names, y.2 = .free → ∃ c, env.cells.lookup y.1 = some c) : closureFor scope env = pure (cloFrom env.cells scope.names []) := by
  simp only [closureFor]
  rw [closure_loop env _ (fun n k c => rfl) scope.names [] h]
  rfl

theorem mem_lookup {α : Type} : ∀ {l : List (Str × α)} {n : Str} {c : α}, (n, c) ∈ l → ∃ c', l.lookup n = some c'
  | (k, v) :: r, n, c, h => by
    rw [List.lookup_cons]
    cases hb : n == k with
    | true => exact ⟨_, rfl⟩
    | false =>
      rcases List.mem_cons.mp h with e | h
      · cases e; simp at hb
      · exact mem_lookup h

theorem cloFrom_mem {cells : List (Str × Addr)} : ∀ {names : List (Str × NameKind)} {acc : List (Str × Addr)} {n : Str} {c : Addr}, (n, c) ∈ cloFrom cells names acc → (n, c) ∈ acc ∨ ((n, .free) ∈ names ∧ c = (cells.lookup n).getD 0)
  | [], _, _, _, h => .inl h
  | (m, k) :: r, acc, n, c, h => by
    unfold cloFrom at h
    split at h
    · rename_i hk
      have hk : k = .free := by simpa using hk
      rcases cloFrom_mem h with h | ⟨h1, h2⟩
      · rcases List.mem_cons.mp h with e | h
        · cases e; exact .inr ⟨hk ▸ List.mem_cons_self, rfl⟩
        · exact .inl h
      · exact .inr ⟨List.mem_cons_of_mem _ h1, h2⟩
    · rcases cloFrom_mem h with h | ⟨h1, h2⟩
      · exact .inl h
      · exact .inr ⟨List.mem_cons_of_mem _ h1, h2⟩
theorem cloFrom_acc {cells : List (Str × Addr)} : ∀ {names : List (Str × NameKind)} {acc : List (Str × Addr)} {p : Str × Addr}, p ∈ acc → p ∈ cloFrom cells names acc
  | [], _, _, h => h
  | (m, k) :: r, acc, p, h => by
    unfold cloFrom
    split
    · exact cloFrom_acc (List.mem_cons_of_mem _ h)
    · exact cloFrom_acc h
theorem cloFrom_has {cells : List (Str × Addr)} : ∀ {names : List (Str × NameKind)} {acc : List (Str × Addr)} {n : Str}, (n, .free) ∈ names → (n, (cells.lookup n).getD 0) ∈ cloFrom cells names acc
  | (m, k) :: r, acc, n, h => by
    unfold cloFrom
    rcases List.mem_cons.mp h with e | h
    · cases e
      exact cloFrom_acc List.mem_cons_self
    · split
      · exact cloFrom_has h
      · exact cloFrom_has h

theorem cells_mem : ∀ {names : List (Str × NameKind)} {h : Heap} {acc : List (Str × Addr)} {x : Str} {c : Addr}, (x, c) ∈ cellsFrom h.objs.size names acc →
    (x, c) ∈ acc ∨ ((x, .cell) ∈ names ∧ h.objs.size ≤ c ∧ CellAt (pushCells h names) c none)
  | [], _, _, _, _, h => .inl h
  | (n, k) :: r, h, acc, x, c, hm => by
    unfold cellsFrom at hm
    unfold pushCells
    split at hm
    · rename_i hk
      rw [if_pos hk]
      have hk : k = .cell := by simpa using hk
      rw [← Heap.size_push h { cls := .type "cell", data := .cell none }] at hm
      rcases cells_mem hm with hm | ⟨h1, h2, h3⟩
      · rcases List.mem_cons.mp hm with e | hm
        · cases e
          exact .inr ⟨hk ▸ List.mem_cons_self, Nat.le_refl _, _, pushCells_keeps r _ _ _ (Heap.get?_push_size _ rfl), rfl⟩
        · exact .inl hm
      · rw [Heap.size_push] at h2
        exact .inr ⟨List.mem_cons_of_mem _ h1, Nat.le_of_succ_le h2, h3⟩
    · rename_i hk
      rw [if_neg hk]
      rcases cells_mem hm with hm | ⟨h1, h2, h3⟩
      · exact .inl hm
      · exact .inr ⟨List.mem_cons_of_mem _ h1, h2, h3⟩
theorem cells_acc : ∀ {names : List (Str × NameKind)} {n : Nat} {acc : List (Str × Addr)} {p : Str × Addr}, p ∈ acc → p ∈ cellsFrom n names acc
  | [], _, _, _, h => h
  | (m, k) :: r, n, acc, p, h => by
    unfold cellsFrom
    split
    · exact cells_acc (List.mem_cons_of_mem _ h)
    · exact cells_acc h
theorem cells_has : ∀ {names : List (Str × NameKind)} {n : Nat} {acc : List (Str × Addr)} {x : Str}, (x, .cell) ∈ names → ∃ c, (x, c) ∈ cellsFrom n names acc
  | (m, k) :: r, n, acc, x, h => by
    unfold cellsFrom
    rcases List.mem_cons.mp h with e | h
    · cases e
      exact ⟨n, cells_acc List.mem_cons_self⟩
    · split
      · exact cells_has h
      · exact cells_has h
theorem cells_inj : ∀ {names : List (Str × NameKind)} {h : Heap} {acc : List (Str × Addr)} {x y : Str} {c : Addr}, (∀ p ∈ acc, p.2 < h.objs.size) → (∀ x y c, (x, c) ∈ acc → (y, c) ∈ acc → x = y) →
    (x, c) ∈ cellsFrom h.objs.size names acc → (y, c) ∈ cellsFrom h.objs.size names acc → x = y
  | [], _, _, _, _, _, _, hi, h1, h2 => hi _ _ _ h1 h2
  | (n, k) :: r, h, acc, x, y, c, hl, hi, h1, h2 => by
    unfold cellsFrom at h1 h2
    split at h1
    · rename_i hk
      rw [if_pos hk] at h2
      rw [← Heap.size_push h { cls := .type "cell", data := .cell none }] at h1 h2
      refine cells_inj (h := h.push _) (fun p hp => ?_) (fun x y c a b => ?_) h1 h2
      · rw [Heap.size_push]
        rcases List.mem_cons.mp hp with rfl | hp
        · exact Nat.lt_succ_self _
        · exact Nat.lt_succ_of_lt (hl p hp)
      · rcases List.mem_cons.mp a with e | a <;> rcases List.mem_cons.mp b with e' | b
        · cases e; cases e'; rfl
        · cases e; exact absurd (hl _ b) (Nat.lt_irrefl _)
        · cases e'; exact absurd (hl _ a) (Nat.lt_irrefl _)
        · exact hi _ _ _ a b
    · rename_i hk
      rw [if_neg hk] at h2
      exact cells_inj hl hi h1 h2

theorem newEnv_comp {M : Model} {A : Around} {E : Value → Shared → Prop} {s : Shared} {scope : Scope} {globals : Addr} {closure : List (Str × Addr)} {qual : Str} {func : Option Addr} {code : Value} {around : Env} {builtins : Addr} {Q : Env → Shared → Prop}
    (h : Q (newEnv scope s.heap.objs.size globals (cellsFrom (s.heap.objs.size + 1) scope.names closure) qual func code (some around) builtins)
      { s with heap := pushCells (s.heap.push { cls := .type "dict", data := .dict #[] }) scope.names }) :
    wpAny M A (newFunctionEnv scope globals closure [] qual func code (some around) builtins) Q E s := by
  simp only [newFunctionEnv, Option.isSome_some, if_true]
  refine wpAny_bind (wpAny_alloc ?_)
  refine wpAny_bind (wpAny_layCells _ (fun n k c => rfl) scope.names closure _ _ ?_)
  rw [show ({ s with heap := s.heap.push { cls := .type "dict", data := .dict #[] } } : Shared).heap.objs.size = s.heap.objs.size + 1 from Heap.size_push ..]
  rw [List.forIn_nil]
  exact wpAny_bind (wpAny_pure (wpAny_pure h))

/-- every name of the written scope, in the scope that runs -/
theorem lookup_relS {sc : Scope} : ∀ {names : List (Str × NameKind)} {x : Str} {k : NameKind},
    (names.map fun (n, k) => if (k == NameKind.free && sc.kind == .function && sc.names.lookup n == some .cell) then (n, NameKind.cell) else (n, k)).lookup x = some k →
    ∃ k', names.lookup x = some k' ∧ (k = k' ∨ (k' = .free ∧ k = .cell))
  | [], _, _, h => by simp at h
  | (n, k₀) :: r, x, k, h => by
    have ih := @lookup_relS sc r x k
    have h' : List.lookup x ((if (k₀ == NameKind.free && sc.kind == .function && sc.names.lookup n == some .cell) = true then (n, NameKind.cell) else (n, k₀)) :: (r.map _)) = some k := h
    cases hx : x == n with
    | true =>
      simp only [List.lookup_cons, hx]
      by_cases hc : (k₀ == NameKind.free && sc.kind == .function && sc.names.lookup n == some .cell) = true
      · rw [if_pos hc] at h'
        simp only [List.lookup_cons, hx] at h'
        cases h'
        simp only [Bool.and_eq_true, beq_iff_eq] at hc
        exact ⟨k₀, rfl, .inr ⟨hc.1.1, rfl⟩⟩
      · rw [if_neg hc] at h'
        simp only [List.lookup_cons, hx] at h'
        cases h'
        exact ⟨_, rfl, .inl rfl⟩
    | false =>
      simp only [List.lookup_cons, hx]
      by_cases hc : (k₀ == NameKind.free && sc.kind == .function && sc.names.lookup n == some .cell) = true
      · rw [if_pos hc] at h'
        simp only [List.lookup_cons, hx] at h'
        exact ih h'
      · rw [if_neg hc] at h'
        simp only [List.lookup_cons, hx] at h'
        exact ih h'

/-- the names of a comprehension's block: its own (with their places in N), or captured -/
structure BlkOk (N : List Str) (sc scope : Scope) (own : List (Str × Nat)) : Prop where
  kind : scope.kind = .function
  uniq : ∀ y ∈ scope.names, scope.names.lookup y.1 = some y.2
  ix : ∀ p ∈ own, N[p.2]? = some p.1
  free : ∀ y ∈ scope.names, y.2 = .free → sc.names.lookup y.1 = some .cell ∨ sc.names.lookup y.1 = some .free
  own : ∀ y ∈ scope.names, y.2 = .local ∨ y.2 = .cell → y.1 ∈ own.map (·.1) ∨ y.1 ∉ N
/-- the slots of the block's own names forgotten -/
def wipe (σ : St) : List Nat → St
  | [] => σ
  | v :: vs => (wipe σ vs).set v none
theorem wipe_length (σ : St) : ∀ vs : List Nat, (wipe σ vs).length = σ.length
  | [] => rfl
  | v :: vs => by unfold wipe; rw [List.length_set, wipe_length σ vs]
theorem wipe_some {σ : St} {i : Nat} {x : V} : ∀ {vs : List Nat}, (wipe σ vs)[i]? = some (some x) → σ[i]? = some (some x) ∧ i ∉ vs
  | [], h => ⟨h, by simp⟩
  | v :: vs, h => by
    unfold wipe at h
    by_cases hi : v = i
    · subst hi
      by_cases hv : v < (wipe σ vs).length
      · rw [List.getElem?_set_self hv] at h; cases h
      · rw [List.getElem?_eq_none (by simpa using hv)] at h; cases h
    · rw [List.getElem?_set_ne hi] at h
      obtain ⟨h1, h2⟩ := wipe_some h
      exact ⟨h1, by simp only [List.mem_cons, not_or]; exact ⟨fun e => hi e.symm, h2⟩⟩

/-- the context of a block that starts at s, its iterator's objects at fp -/
abbrev Cx.blk (X : Cx) (s : Shared) (H : Hp) (scope : Scope) (cenv : Env) (fp : List Addr) : Cx := { X with s_0 := s, H_0 := H, env := cenv, outer := X.stack, ex := fp, fn := fun x => scope.names.lookup x == some .cell, pn := [], xe := fun _ _ => False }
section
variable {X : Cx} {pins : List (Addr × Obj)} {σ : St} {H : Hp} {s : Shared}
theorem block_start {scope : Scope} {own : List (Str × Nat)} {fp : List Addr} (I : Inv X pins σ H s) (ok : BlkOk X.N X.env.scope scope own) (hN : X.N.Nodup) (hfp : ∀ b ∈ fp, FpOk X pins H b ∧ b < s.heap.objs.size) :
    Inv (X.blk s H scope (compEnvC scope (cellsFrom (s.heap.objs.size + 1) scope.names (cloFrom X.env.cells scope.names [])) s.heap.objs.size X.env) fp) [] (wipe σ (own.map (·.2))) H { s with heap := pushCells (s.heap.push { cls := .type "dict", data := .dict #[] }) scope.names } := by
  have hfree : ∀ y ∈ scope.names, y.2 = .free → ∃ c, X.env.cells.lookup y.1 = some c := fun y hy e => by
    rcases ok.free y hy e with k | k
    · exact I.ok.has _ (.inl k)
    · exact I.ok.has _ (.inr k)
  generalize hcenv : compEnvC scope (cellsFrom (s.heap.objs.size + 1) scope.names (cloFrom X.env.cells scope.names [])) s.heap.objs.size X.env = cenv
  have kp : ∀ b o, s.heap.get? b = some o → (pushCells (s.heap.push { cls := .type "dict", data := .dict #[] }) scope.names).get? b = some o := fun b o e => pushCells_keeps _ _ _ _ (Heap.get?_push_of_some _ e)
  have hL : cenv.locals = s.heap.objs.size := by rw [← hcenv]; rfl
  have hcl : cenv.cells = cellsFrom (s.heap.objs.size + 1) scope.names (cloFrom X.env.cells scope.names []) := by rw [← hcenv]; rfl
  have hsc : cenv.scope = relS scope X.env.scope := by rw [← hcenv]; rfl
  rw [← Heap.size_push s.heap { cls := .type "dict", data := .dict #[] }] at hcl
  have cm : ∀ {y c}, (y, c) ∈ cloFrom X.env.cells scope.names [] → X.env.cells.lookup y = some c ∧ c < s.heap.objs.size := fun {y c} hm => by
    rcases cloFrom_mem hm with hm | ⟨h1, rfl⟩
    · cases hm
    · obtain ⟨c, hc⟩ := hfree _ h1 rfl
      rw [hc]
      obtain ⟨w, z⟩ := I.cell _ _ hc
      exact ⟨rfl, z.lt⟩
  have mem : ∀ {y c}, cenv.cells.lookup y = some c → (X.env.cells.lookup y = some c ∧ c < s.heap.objs.size) ∨ (s.heap.objs.size + 1 ≤ c ∧ CellAt (pushCells (s.heap.push { cls := .type "dict", data := .dict #[] }) scope.names) c none) := fun {y c} e => by
    rw [hcl] at e
    rcases cells_mem (PySem.mem_of_lookup e) with hm | ⟨_, h2, h3⟩
    · exact .inl (cm hm)
    · rw [Heap.size_push] at h2; exact .inr ⟨h2, h3⟩
  have look : ∀ {y}, scope.names.lookup y = some .free → ∃ c, cenv.cells.lookup y = some c ∧ X.env.cells.lookup y = some c := fun {y} hl => by
    have hy : (y, NameKind.free) ∈ scope.names := PySem.mem_of_lookup hl
    obtain ⟨c', e'⟩ := mem_lookup (cells_acc (names := scope.names) (n := (s.heap.push { cls := .type "dict", data := .dict #[] }).objs.size) (cloFrom_has (cells := X.env.cells) (acc := []) hy))
    rw [← hcl] at e'
    refine ⟨c', e', ?_⟩
    rw [hcl] at e'
    rcases cells_mem (PySem.mem_of_lookup e') with hm | ⟨h1, _, _⟩
    · exact (cm hm).1
    · have := ok.uniq _ h1
      rw [hl] at this; cases this
  have okB : (X.blk s H scope cenv fp).Ok := by
    refine ⟨I.ok.mod, by show cenv.scope.kind = _; rw [hsc]; exact ok.kind, by show cenv.globals = _; rw [← hcenv]; exact I.ok.glob, by show cenv.builtins = _; rw [← hcenv]; exact I.ok.blt, by show s.heap.objs.size ≤ cenv.locals; rw [hL]; exact Nat.le_refl _,
      fun y z c e1 e2 => ?_, fun y hy => ?_, fun y c z e => ?_, I.ok.hd, I.ok.frames, .inl rfl, fun b hb => ⟨?_, fun y c e z => ?_⟩, I.bs, Nat.le_trans I.ok.bsz I.sz, fun b o e hb => ?_, fun b hb z => ?_, I.stack, I.stkFree⟩
    · have e1 : cenv.cells.lookup y = some c := e1
      have e2 : cenv.cells.lookup z = some c := e2
      rw [hcl] at e1 e2
      refine cells_inj (fun p hp => ?_) (fun y z c a b => I.ok.inj y z c (cm a).1 (cm b).1) (PySem.mem_of_lookup e1) (PySem.mem_of_lookup e2)
      rw [Heap.size_push]
      exact Nat.lt_succ_of_lt (cm (y := p.1) (c := p.2) hp).2
    · show ∃ c, cenv.cells.lookup y = some c
      have key : ∀ k, cenv.kindOf y = some k → (k = .cell ∨ k = .free) → ∃ c, cenv.cells.lookup y = some c := fun k hk hk' => by
        unfold Env.kindOf at hk
        rw [hsc] at hk
        obtain ⟨k', e, r⟩ := lookup_relS hk
        have : k' = .cell ∨ k' = .free := by
          rcases r with rfl | ⟨rfl, _⟩
          · exact hk'
          · exact .inr rfl
        rcases this with rfl | rfl
        · obtain ⟨c, hm⟩ := cells_has (n := (s.heap.push { cls := .type "dict", data := .dict #[] }).objs.size) (acc := cloFrom X.env.cells scope.names []) (PySem.mem_of_lookup e)
          obtain ⟨c', e'⟩ := mem_lookup hm
          exact ⟨c', by rw [hcl]; exact e'⟩
        · obtain ⟨c, h1, _⟩ := look e
          exact ⟨c, h1⟩
      rcases hy with hy | hy
      · exact key _ hy (.inl rfl)
      · exact key _ hy (.inr rfl)
    · have z : (scope.names.lookup y == some NameKind.cell) = true := z
      have z : scope.names.lookup y = some .cell := by simpa using z
      have e : cenv.cells.lookup y = some c := e
      rw [hcl] at e
      rcases cells_mem (PySem.mem_of_lookup e) with hm | ⟨_, h2, _⟩
      · rcases cloFrom_mem hm with hm | ⟨h1, _⟩
        · cases hm
        · have q := ok.uniq _ h1
          rw [z] at q; cases q
      · rw [Heap.size_push] at h2
        exact Nat.le_of_succ_le h2
    · show b ≠ cenv.locals
      rw [hL]; exact Nat.ne_of_lt (hfp b hb).2
    · have e : cenv.cells.lookup y = some c := e
      rcases mem e with ⟨h1, _⟩ | ⟨h1, _⟩
      · exact (hfp b hb).1.2.2.2.2.1 y c h1 z
      · have h2 : s.heap.objs.size + 1 ≤ b := by rw [← z]; exact h1
        exact absurd (Nat.lt_of_lt_of_le (hfp b hb).2 (Nat.le_of_succ_le h2)) (Nat.lt_irrefl _)
    · rcases (hfp b hb).1.2.2.2.1 with z | z
      · exact I.ok.noex b o e z
      · exact absurd (Nat.lt_of_lt_of_le (Heap.lt_size e) (Nat.le_trans I.ok.bsz z)) (Nat.lt_irrefl _)
    · rcases List.mem_cons.mp (I.stkSub b z) with z | z
      · exact (hfp b hb).1.2.1 z
      · exact (hfp b hb).1.2.2.1 z
  refine ⟨okB, rfl, I.bare, Un.kept kp, ⟨fun _ => none, ?_, fun i y av e1 e2 e3 => ?_⟩, fun y c e => ?_, ?_, fun y c e => ?_, fun p hp => ?_, I.hok.kept kp, by rw [wipe_length]; exact I.len⟩
  · show Heap.Ns _ cenv.locals _
    rw [hL]
    exact Heap.Ns.keeps (Heap.Ns.new ..) fun b o e => pushCells_keeps _ _ _ _ e
  · obtain ⟨e2, hne⟩ := wipe_some e2
    have hfr : scope.names.lookup y = some .free ∧ (cenv.kindOf y = some .cell ∨ cenv.kindOf y = some .free) := by
      have key : ∀ k, cenv.scope.names.lookup y = some k → k = .local ∨ k = .cell ∨ k = .free → scope.names.lookup y = some .free ∧ (cenv.kindOf y = some .cell ∨ cenv.kindOf y = some .free) := fun k hk hk' => by
        have hk0 := hk
        rw [hsc] at hk
        obtain ⟨k', e, r⟩ := lookup_relS hk
        have no : ¬ (k' = .local ∨ k' = .cell) := fun hh => by
          rcases ok.own _ (PySem.mem_of_lookup e) hh with e' | e'
          · obtain ⟨p, hp, hpy⟩ := List.mem_map.mp e'
            have e3 := ok.ix p hp
            have : p.1 = y := hpy
            rw [this] at e3
            exact hne (List.mem_map.mpr ⟨p, hp, nodup_ix hN e3 e1⟩)
          · exact e' (List.mem_of_getElem? e1)
        rcases r with rfl | ⟨rfl, rfl⟩
        · rcases hk' with rfl | rfl | rfl
          · exact absurd (.inl rfl) no
          · exact absurd (.inr rfl) no
          · exact ⟨e, .inr hk0⟩
        · exact ⟨e, .inl hk0⟩
      have e3 : Vis cenv.scope y := e3
      rcases e3 with e3 | e3 | e3
      · exact key _ e3 (.inl rfl)
      · exact key _ e3 (.inr (.inl rfl))
      · exact key _ e3 (.inr (.inr rfl))
    obtain ⟨m, hn, hl⟩ := I.loc
    have hvis : Vis X.env.scope y := (ok.free _ (PySem.mem_of_lookup hfr.1) rfl).elim (fun k => .inr (.inl k)) (fun k => .inr (.inr k))
    obtain ⟨w, r, q⟩ := hl i y av e1 e2 hvis
    refine ⟨w, r, .inr ⟨hfr.2, ?_⟩⟩
    obtain ⟨c, h1, h2⟩ := look hfr.1
    rcases q with ⟨k, _⟩ | ⟨_, c', e', z⟩
    · have k : X.env.scope.names.lookup y = some .local := k
      rcases ok.free _ (PySem.mem_of_lookup hfr.1) rfl with k' | k' <;> rw [show X.env.scope.names.lookup y = _ from k'] at k <;> cases k
    · rw [h2] at e'; cases e'
      exact ⟨c, h1, z.keeps kp⟩
  · have e : cenv.cells.lookup y = some c := e
    rcases mem e with ⟨h1, _⟩ | ⟨_, z⟩
    · obtain ⟨w, z⟩ := I.cell y c h1
      exact ⟨w, z.keeps kp⟩
    · exact ⟨_, z⟩
  · show H cenv.locals = none
    rw [hL]; exact I.hok.fresh (Nat.le_refl _)
  · have e : cenv.cells.lookup y = some c := e
    rcases mem e with ⟨h1, _⟩ | ⟨h1, _⟩
    · exact I.freeC y c h1
    · exact I.hok.fresh (Nat.le_of_succ_le h1)
  · exact absurd (show p ∈ ([] : List (Addr × Obj)) ++ [] from hp) (by simp)

/-- an item appended to a tracked list -/
theorem app_ok {E : Value → Shared → Prop} {D : Addr} {xs : List V} {y : V} {v : Value} {Q : Value → Shared → Prop} (I : Inv X pins σ H s) (hD : H D = some (.lst xs)) (hz : xs.length < sizeLine) (r : RelV y v)
    (h : ∀ s', Inv X pins σ (upd H D (.lst (xs ++ [y]))) s' → Q .none s') : wpAny (model X.prog X.w) X.A (call (.builtin "list.append") [.ref D, v]) Q E s := by
  obtain ⟨hz', its, n, ri, e⟩ := I.hok D _ hD
  have hl := ri.length
  refine append_at (hsz := by rw [List.size_toArray]; omega) e fun h' sb ho' => ?_
  refine h { s with heap := h' } (I.write (t' := s.toks) (by rw [hD]; trivial) (.inl rfl) (fun b u hb q => (sb.2 b hb).trans q) ⟨_, ho'⟩ ⟨by rw [List.length_append]; exact hz, its ++ [v], n + 1, ri.append (.cons r .nil), ?_⟩)
  rw [ho']
  simp

/-- a clause's tests -/
def PTs (X : Cx) (ifs : List Expr) (t : TT) : Prop :=
  ∀ (pins : List (Addr × Obj)) (s : Shared) (σ : St) (H : Hp) (Q : Bool → Hp → Prop), Inv X pins σ H s → t σ H Q →
    wpAny (model X.prog X.w) X.A (forIn ifs true fun c r => if r = true then do let ok ← isTrue c X.env (eval c X.env); pure (ForInStep.yield ok) else pure (ForInStep.yield r)) (TP X pins σ Q) X.xe s
def tYes : TT := fun _ H Q => Q true H
theorem pts_nil : PTs X [] tYes := fun _ _ _ H _ I h => wpAny_tests_nil ⟨H, I, h⟩
theorem pts_one {c : Expr} {t : TT} (h : PT X c t) : PTs X [c] t := fun pins s σ H Q I hw => wpAny_tests_one (h pins s σ H Q I hw)
end

theorem thnF {α : Type} {t : Sem α} {Q Q' : α → Shared → Prop} {M : Model} {A : Around} {E : Value → Shared → Prop} {s : Shared} (h : wpAny M A t Q (fun _ _ => False) s) (hQ : ∀ a s, Q a s → Q' a s) : wpAny M A t Q' E s := wpAny_mono h hQ fun _ _ z => False.elim z

/-- the loop of a list comprehension's block, the target of any form (codeAny_compLoop_tests asks a target that no tuple goes to; statement and proof follow it, PyProof/CompMap.lean:41-61, with the step letOwnedTupleGo kept) -/
theorem compLoop_any {prog : Program} {w : World} {A : Around} {R : Result → Shared → Prop} {s : Shared} {elt target iter : Expr} {ifs : List Expr} {scope : Scope} {pos : Pos} {it acc : Value} {env : Env} (I : Nat → Shared → Prop)
    (turn : ∀ n s, I n s → wpAny (model prog w) A (pyNext it) (fun r s₁ => match r with
      | none => R (.ok .next) s₁
      | some v => wpAny (model prog w) A (letOwnedTupleGo target it v) (fun _ s₁' => wpAny (model prog w) A (assign target env v) (fun _ s₂ =>
          wpAny (model prog w) A (forIn ifs true fun c r => if r = true then do let ok ← isTrue c env (eval c env); pure (ForInStep.yield ok) else pure (ForInStep.yield r)) (fun ok s₃ =>
            if ok = true then wpAny (model prog w) A (eval elt env) (fun x s₄ =>
              wpAny (model prog w) A (call (.builtin "list.append") [acc, x]) (fun _ s₅ => ∃ m, m < n ∧ I m s₅) (notedBy (model prog w) A env fun e s' => R (.error e) s') s₄) (notedBy (model prog w) A env fun e s' => R (.error e) s') s₃
            else ∃ m, m < n ∧ I m s₃) (notedBy (model prog w) A env fun e s' => R (.error e) s') s₂) (notedBy (model prog w) A env fun e s' => R (.error e) s') s₁') (notedBy (model prog w) A env fun e s' => R (.error e) s') s₁) (notedBy (model prog w) A env fun e s' => R (.error e) s') s)
    (n : Nat) (h : I n s) :
    codeAny (model prog w) A (.compLoop (.ListComp elt [⟨target, iter, ifs, 0⟩] scope pos) 0 it acc env) R s := by
  refine codeAny_loop rfl I (fun n s hI => ?_) n h
  show wpAny _ A ((compTurn (.ListComp elt [⟨target, iter, ifs, 0⟩] scope pos) 0 it acc env).onRaise (fun x => do noteFrame x env; theTreesLotGoes x)) _ _ s
  refine wpAny_noted ?_
  rw [compTurn_list]
  refine wpAny_bind (wpAny_standAt (wpAny_bind (wpAny_mono (turn n s hI) (fun r s₁ h₁ => ?_) fun _ _ h' => h')))
  cases r with
  | none => exact wpAny_pure h₁
  | some v =>
    refine wpAny_bind (wpAny_mono h₁ (fun _ s₁' h₁' => ?_) fun _ _ h' => h')
    refine wpAny_bind (wpAny_mono h₁' (fun _ s₂ h₂ => wpAny_bind (wpAny_mono h₂ (fun ok s₃ h₃ => ?_) fun _ _ h' => h')) fun _ _ h' => h')
    cases ok with
    | false => exact wpAny_pure ⟨rfl, h₃⟩
    | true =>
      exact wpAny_bind (wpAny_bind (wpAny_mono h₃ (fun x s₄ h₄ => wpAny_bind (wpAny_mono h₄ (fun _ s₅ h₅ => wpAny_pure (wpAny_pure ⟨rfl, h₅⟩)) fun _ _ h' => h')) fun _ _ h' => h'))

section
variable {X : Cx}
/-- [elt for target in iter if ..]: D the new list; W by the turn and a measure, Nx what a turn is to reach -/
def tLc (wi : TI) (g : TG) (tt : TT) (te : TE) (vs : List Nat) : TE := fun σ H Q => wi σ H fun J H1 => ∀ D, H1 D = none → ∃ W : Nat → Nat → Hp → Prop, (∃ m, W 0 m (upd H1 D (.lst []))) ∧ ∀ i m H, W i m H →
  (J.stop i H ∧ Q (.ref D) H) ∨ (J.go i H ∧ ∃ Nx : Hp → Prop, (∀ H', Nx H' → ∃ m', m' < m ∧ W (i + 1) m' H') ∧ ∀ x H', J.yld i H x H' → g x (wipe σ vs) H' fun σ2 H2 => wipe σ2 vs = wipe σ vs ∧ tt σ2 H2 fun b H3 =>
    if b = true then te σ2 H3 fun y H4 => ∃ acc, H4 D = some (.lst acc) ∧ acc.length < sizeLine ∧ Nx (upd H4 D (.lst (acc ++ [y]))) else Nx H3)
theorem lc_core {pins : List (Addr × Obj)} {s : Shared} {σ : St} {H : Hp} {Q : VK} {elt tg iter : Expr} {ifs : List Expr} {scope : Scope} {own : List (Str × Nat)} {pos pos' : Pos} {wi : TI} {g : TG} {tt : TT} {te : TE} {use : Option (Value → Sem Unit)} {Qf : Value → Shared → Prop}
    (hc : X.calm = true) (hN : X.N.Nodup) (I : Inv X pins σ H s) (hi : PI X tg iter wi) (ok : BlkOk X.N X.env.scope scope own)
    (hg : ∀ (s : Shared) (H : Hp) (C : Addr) (cl : List (Str × Addr)) (fp : List Addr), PG (X.blk s H scope (compEnvC scope cl C X.env) fp) tg g) (ht : ∀ (s : Shared) (H : Hp) (C : Addr) (cl : List (Str × Addr)) (fp : List Addr), PTs (X.blk s H scope (compEnvC scope cl C X.env) fp) ifs tt)
    (he : ∀ (s : Shared) (H : Hp) (C : Addr) (cl : List (Str × Addr)) (fp : List Addr), PE (X.blk s H scope (compEnvC scope cl C X.env) fp) elt te) (hs : ∀ x, foldedSetIterable iter X.env x = pure x)
    (h : tLc wi g tt te (own.map (·.2)) σ H Q)
    (hRR : ∀ D C s' m H', Inv X pins σ H' s' → Q (.ref D) H' → s'.heap.Ns C m → FpOk X pins H' C → compPost (model X.prog X.w) X.A X.xe use Qf (.ref D) C (.ok .next) s') :
    wpAny (model X.prog X.w) X.A (comprehension (.ListComp elt [⟨tg, iter, ifs, 0⟩] scope pos) scope X.env pos' (newList []) false (eval iter X.env) use) Qf X.xe s := by
  have hfree : ∀ y ∈ scope.names, y.2 = .free → ∃ c, X.env.cells.lookup y.1 = some c := fun y hy e => by
    rcases ok.free y hy e with k | k
    · exact I.ok.has _ (.inl k)
    · exact I.ok.has _ (.inr k)
  refine wpAny_comprehension_free (use := use) rfl hs (closure_ok hfree) ok.kind (fun y hy e => by rw [ok.uniq y hy, e])
    (thn (hi pins s σ H _ I h) fun xv s1 hx => thn hx fun itv s2 h2 => ?_)
  obtain ⟨it, fp, tn, J, H2, e, I2, T, st2, f2, q⟩ := h2
  subst e
  refine wpAny_newObj_type (newEnv_comp ?_) (by show 0 ≤ sizeLine; decide)
  generalize hD : s2.heap.objs.size = D
  have hDn : H2 D = none := I2.hok.fresh (Nat.le_of_eq hD)
  obtain ⟨W, ⟨m0, w0⟩, turn⟩ := q D hDn
  -- the new list
  generalize hs3 : ({ s2 with heap := s2.heap.push { cls := .type "list", data := .seq ([] : List Value).toArray } } : Shared) = s3
  have I3 : Inv X pins σ (upd H2 D (.lst [])) s3 := by
    rw [← hs3]
    refine I2.laid (t' := s2.toks) (fun b o e => Heap.get?_push_of_some _ e) (Nat.le_of_eq hD) ⟨Nat.zero_le _, [], 0, .nil, ?_⟩
    rw [← hD]
    exact Heap.get?_push_size _ rfl
  have h3 : s3.heap = s2.heap.push { cls := .type "list", data := .seq ([] : List Value).toArray } := by rw [← hs3]
  have sz : ∀ b ∈ fp, b < s2.heap.objs.size := fun b hb => by
    obtain ⟨o, e, _⟩ := T.obj _ _ st2 b hb
    exact Heap.lt_size e
  have f3 : ∀ b ∈ fp, FpOk X pins (upd H2 D (.lst [])) b ∧ b < s3.heap.objs.size := fun b hb => by
    have hlt := sz b hb
    refine ⟨⟨?_, (f2 b hb).2⟩, by rw [h3, Heap.size_push]; exact Nat.lt_succ_of_lt hlt⟩
    rw [upd_ne (by rw [← hD]; exact Nat.ne_of_lt hlt)]
    exact (f2 b hb).1
  have st3 : tn 0 s3.heap := T.keep _ _ _ st2 fun b _ o e => by rw [h3]; exact Heap.get?_push_of_some _ e
  have I4 := block_start I3 ok hN f3
  have pg := hg s3 (upd H2 D (.lst [])) s3.heap.objs.size (cellsFrom (s3.heap.objs.size + 1) scope.names (cloFrom X.env.cells scope.names [])) fp
  have pt := ht s3 (upd H2 D (.lst [])) s3.heap.objs.size (cellsFrom (s3.heap.objs.size + 1) scope.names (cloFrom X.env.cells scope.names [])) fp
  have pe := he s3 (upd H2 D (.lst [])) s3.heap.objs.size (cellsFrom (s3.heap.objs.size + 1) scope.names (cloFrom X.env.cells scope.names [])) fp
  show codeAny _ _ (.compStart (.ListComp elt [⟨tg, iter, ifs, 0⟩] scope pos) 0 (.ref it) (.ref D) (compEnvC scope (cellsFrom (s3.heap.objs.size + 1) scope.names (cloFrom X.env.cells scope.names [])) s3.heap.objs.size X.env)) (compPost (model X.prog X.w) X.A X.xe use Qf (.ref D) s3.heap.objs.size) { s3 with heap := pushCells (s3.heap.push { cls := .type "dict", data := .dict #[] }) scope.names }
  have nfp : ∀ b ∈ fp, (upd H2 D (.lst [])) b = none := fun b hb => (f3 b hb).1.1
  generalize hce : compEnvC scope (cellsFrom (s3.heap.objs.size + 1) scope.names (cloFrom X.env.cells scope.names [])) s3.heap.objs.size X.env = ce at I4 pg pt pe ⊢
  have cL : ce.locals = s3.heap.objs.size := by subst hce; rfl
  generalize hH3 : upd H2 D (.lst []) = H3 at I3 I4 pg pt pe w0 nfp f3
  generalize hs4 : ({ s3 with heap := pushCells (s3.heap.push { cls := .type "dict", data := .dict #[] }) scope.names } : Shared) = s4 at I4 ⊢
  have st4 : tn 0 s4.heap := T.keep _ _ _ st3 fun b _ o e => by rw [← hs4]; exact pushCells_keeps _ _ _ _ (Heap.get?_push_of_some _ e)
  have stat : ∀ {σ' : St} {H' : Hp} {s' : Shared}, Inv (X.blk s3 H3 scope ce fp) [] σ' H' s' → (∀ b ∈ fp, H' b = none) → ∀ b ∈ fp, FpOk (X.blk s3 H3 scope ce fp) [] H' b := fun {σ' H' s'} I' hn b hb =>
    ⟨hn b hb, (I'.ok.exf b hb).1, I'.ok.exfs b hb, .inl hb, fun x c e => (I'.ok.exf b hb).2 x c e, fun p hp => absurd (show p ∈ ([] : List (Addr × Obj)) ++ [] from hp) (by simp)⟩
  have loop : codeAny (model X.prog X.w) X.A (.compLoop (.ListComp elt [⟨tg, iter, ifs, 0⟩] scope pos) 0 (.ref it) (.ref D) ce) (compPost (model X.prog X.w) X.A X.xe use Qf (.ref D) s3.heap.objs.size) s4 := by
    refine compLoop_any (fun n s' => ∃ i H', Inv (X.blk s3 H3 scope ce fp) [] (wipe σ (own.map (·.2))) H' s' ∧ tn i s'.heap ∧ (∀ b ∈ fp, H' b = none) ∧ W i n H') ?_ m0 ⟨0, H3, I4, st4, nfp, w0⟩
    rintro n s5 ⟨i, H5, I5, st5, n5, w5⟩
    rcases turn i n H5 w5 with ⟨stop, qq⟩ | ⟨go, Nx, hNx, step⟩
    · have td := T.done (X.blk s3 H3 scope ce fp) rfl rfl rfl hc i [] s5 _ H5 (fun _ _ => False) I5 (stat I5 n5) st5 stop
      refine thnF td fun r s6 ⟨hr, I6⟩ => ?_
      subst hr
      -- back in the def's context
      have I7 : Inv X pins σ H5 s6 := I3.call' (ch := fp) I6.os I6.base I6.hok I6.bare fun b hb => ⟨(f3 b hb).1.2.2.2.1, (f3 b hb).1.2.1, (f3 b hb).1.2.2.2.2.1, (f3 b hb).1.2.2.2.2.2⟩
      have nC : H5 s3.heap.objs.size = none := by
        have z : H5 ce.locals = none := I6.free
        rw [cL] at z
        exact z
      obtain ⟨m, hn, _⟩ := I6.loc
      have hn : s6.heap.Ns ce.locals m := hn
      rw [cL] at hn
      exact hRR D s3.heap.objs.size s6 m H5 I7 qq hn (I3.fpOk (Nat.le_refl _) nC)
    · have ti := T.item (X.blk s3 H3 scope ce fp) rfl rfl rfl hc i [] s5 _ H5 (fun _ _ => False) I5 (stat I5 n5) st5 go
      refine thnF ti fun r s6 ⟨u, hr, h6⟩ => ?_
      subst hr
      refine thnF h6 fun _ s7 ⟨x, H7, I7, r7, y7, st7, n7⟩ => ?_
      have I7' := I7.pinned (stat I7 n7) (T.obj _ _ st7)
      refine thnF (pg _ s7 _ H7 x u _ I7' r7 (step x H7 y7)) fun _ s8 ⟨σ8, H8, I8, hw8, q8⟩ => ?_
      refine thnF (pt _ s8 σ8 H8 _ I8 q8) fun b s9 ⟨H9, I9, q9⟩ => ?_
      -- the turn's end
      have fin : ∀ {s' : Shared} {H' : Hp}, Inv (X.blk s3 H3 scope ce fp) ([] ++ pinsAt fp s7.heap) σ8 H' s' → Nx H' → ∃ m, m < n ∧ ∃ i H', Inv (X.blk s3 H3 scope ce fp) [] (wipe σ (own.map (·.2))) H' s' ∧ tn i s'.heap ∧ (∀ b ∈ fp, H' b = none) ∧ W i m H' := fun {s' H'} I' nx => by
        obtain ⟨m', hm, w'⟩ := hNx H' nx
        have pin' : ∀ b ∈ fp, ∀ o, s7.heap.get? b = some o → s'.heap.get? b = some o ∧ H' b = none := fun b hb o e =>
          let z := I'.pin (b, o) (List.mem_append_right _ (List.mem_append_right _ (mem_pinsAt hb e)))
          ⟨z.1, z.2.1⟩
        have hl : (wipe σ (own.map (·.2))).length = σ8.length := by rw [← hw8, wipe_length]
        refine ⟨m', hm, i + 1, H', (I'.unpinned (pins := [])).weak hl (fun j v e => ?_), T.keep _ _ _ st7 fun b hb o e => (pin' b hb o e).1, fun b hb => ?_, w'⟩
        · rw [← hw8] at e
          exact (wipe_some e).1
        · obtain ⟨o, e, _⟩ := T.obj _ _ st7 b hb
          exact (pin' b hb o e).2
      cases b with
      | false =>
        simp only [Bool.false_eq_true, if_false] at q9 ⊢
        exact fin I9 q9
      | true =>
        simp only [if_true] at q9 ⊢
        refine thnF (pe _ s9 σ8 H9 _ I9 q9) fun z s10 ⟨yv, H10, I10, r10, acc, hD10, hz10, nx⟩ => ?_
        exact app_ok (X := X.blk s3 H3 scope ce fp) I10 hD10 hz10 r10 fun s11 I11 => fin I11 nx
  exact codeAny_compStart_list loop (T.self X.A 0 _ _ _ st4 loop)
/-- as a value -/
theorem pe_lc {elt tg iter : Expr} {ifs : List Expr} {scope : Scope} {own : List (Str × Nat)} {pos : Pos} {wi : TI} {g : TG} {tt : TT} {te : TE} (hc : X.calm = true) (hN : X.N.Nodup) (hi : PI X tg iter wi) (ok : BlkOk X.N X.env.scope scope own)
    (hg : ∀ (s : Shared) (H : Hp) (C : Addr) (cl : List (Str × Addr)) (fp : List Addr), PG (X.blk s H scope (compEnvC scope cl C X.env) fp) tg g) (ht : ∀ (s : Shared) (H : Hp) (C : Addr) (cl : List (Str × Addr)) (fp : List Addr), PTs (X.blk s H scope (compEnvC scope cl C X.env) fp) ifs tt)
    (he : ∀ (s : Shared) (H : Hp) (C : Addr) (cl : List (Str × Addr)) (fp : List Addr), PE (X.blk s H scope (compEnvC scope cl C X.env) fp) elt te) (hs : ∀ x, foldedSetIterable iter X.env x = pure x := by intro _; rfl) :
    PE X (.ListComp elt [⟨tg, iter, ifs, 0⟩] scope pos) (tLc wi g tt te (own.map (·.2))) := by
  intro pins s σ H Q I h
  rw [eval_ListComp]
  refine lc_core hc hN I hi ok hg ht he hs h fun D C s' m H' I' q hn f => ⟨m, hn, fun h'' sb => ?_⟩
  obtain ⟨f0, f1, f2, f3, f4, f5⟩ := f
  exact ⟨.ref D, H', I'.turned (t' := s'.toks) (fun b o hb e => (sb.2 b hb).trans e) f0 f1 f3 f4 f5, rfl, q⟩
/-- name = [..] on one line, the name a local -/
theorem ps_setLc {i : Nat} {y : Str} {py : Pos} {elt tg iter : Expr} {ifs : List Expr} {scope : Scope} {own : List (Str × Nat)} {pos spos : Pos} {wi : TI} {g : TG} {tt : TT} {te : TE} (hc : X.calm = true) (hN : X.N.Nodup) (hy : X.N[i]? = some y) (hyl : X.env.scope.names.lookup y = some .local)
    (hsw : swapsWith (.ListComp elt [⟨tg, iter, ifs, 0⟩] scope pos) (some (.Name y py)) spos.line X.env = pure true) (hi : PI X tg iter wi) (ok : BlkOk X.N X.env.scope scope own)
    (hg : ∀ (s : Shared) (H : Hp) (C : Addr) (cl : List (Str × Addr)) (fp : List Addr), PG (X.blk s H scope (compEnvC scope cl C X.env) fp) tg g) (ht : ∀ (s : Shared) (H : Hp) (C : Addr) (cl : List (Str × Addr)) (fp : List Addr), PTs (X.blk s H scope (compEnvC scope cl C X.env) fp) ifs tt)
    (he : ∀ (s : Shared) (H : Hp) (C : Addr) (cl : List (Str × Addr)) (fp : List Addr), PE (X.blk s H scope (compEnvC scope cl C X.env) fp) elt te) (hs : ∀ x, foldedSetIterable iter X.env x = pure x := by intro _; rfl) :
    PS X (.Assign [.Name y py] (.ListComp elt [⟨tg, iter, ifs, 0⟩] scope pos) spos) (tAsg (tLc wi g tt te (own.map (·.2))) (gName i)) := by
  intro pins s σ H D I h
  rw [exec_Assign_Name_used _ _ _ _ hsw]
  refine wpAny_bind (wpAny_standAt (wpAny_bind ?_))
  show wpAny _ X.A (do let _ ← comprehension (.ListComp elt [⟨tg, iter, ifs, 0⟩] scope pos) scope X.env (firstIterPos [⟨tg, iter, ifs, 0⟩] pos) (newList []) false (eval iter X.env) (some (assign (.Name y py) X.env))) _ _ s
  have h : tLc wi g tt te (own.map (·.2)) σ H (fun x H1 => gName i x σ H1 D.nx) := h
  refine wpAny_bind (thn (lc_core (Qf := fun _ s' => SP X pins D .next s') hc hN I hi ok hg ht he hs h fun L C s' m H' I' q hn f => ?_) fun _ s' hq => wpAny_pure (wpAny_pure hq))
  show wpAny _ _ (assign (.Name y py) X.env (.ref L)) _ _ _
  refine wpAny_assign_Name (store_ok2 (v := V.ref L) I' hN hy (.inl hyl) rfl (fun s2 I2 ⟨a, sb, ha⟩ => ?_) (.inr hyl))
  obtain ⟨f0, f1, f2, f3, f4, f5⟩ := f
  have haC : C ≠ a := by
    rcases ha with z | z
    · rw [z]; exact f1
    · exact fun e => f4 y a z e.symm
  refine ⟨m, hn.sameBut sb haC, fun h3 sb3 => ?_⟩
  exact ⟨_, H', I2.turned (t' := s2.toks) (fun b o hb e => (sb3.2 b hb).trans e) f0 f1 f3 f4 f5, q⟩
theorem sw_true {elt : Expr} {gs : List Comprehension} {scope : Scope} {pos py : Pos} {y : Str} {l : Nat} {env : Env} (hk : env.scope.kind = .function) (hy : env.scope.names.lookup y = some .local) (hl : (py.line == pos.line) = true)
    (ha : (scope.names.any fun (n, k) => n == y && (k == .local || k == .cell)) = false) : swapsWith (.ListComp elt gs scope pos) (some (.Name y py)) l env = pure true := by
  have ky : env.kindOf y = some .local := hy
  have hb : env.blockKind = .function := by unfold Env.blockKind; rw [hk]; rfl
  unfold swapsWith
  simp only [hb, ky, ha, Expr.pos, hl]
  rfl
end

/-- over a range: Pv by the turn and the heap (the new list at D within) -/
theorem lc_range {lo : Int} {n : Nat} {g : TG} {tt : TT} {te : TE} {vs : List Nat} {σ : St} {H1 : Hp} {D : Addr} {Qd : Hp → Prop} (Pv : Nat → Hp → Prop) (h0 : Pv 0 (upd H1 D (.lst [])))
    (hs : ∀ i H, i < n → Pv i H → g (.int (lo + i)) (wipe σ vs) H fun σ2 H2 => wipe σ2 vs = wipe σ vs ∧ tt σ2 H2 fun b H3 =>
      if b = true then te σ2 H3 fun y H4 => ∃ acc, H4 D = some (.lst acc) ∧ acc.length < sizeLine ∧ Pv (i + 1) (upd H4 D (.lst (acc ++ [y]))) else Pv (i + 1) H3) (hd : ∀ H, Pv n H → Qd H) :
    ∃ W : Nat → Nat → Hp → Prop, (∃ m, W 0 m (upd H1 D (.lst []))) ∧ ∀ i m H, W i m H →
      ((Itr lo n).stop i H ∧ Qd H) ∨ ((Itr lo n).go i H ∧ ∃ Nx : Hp → Prop, (∀ H', Nx H' → ∃ m', m' < m ∧ W (i + 1) m' H') ∧ ∀ x H', (Itr lo n).yld i H x H' → g x (wipe σ vs) H' fun σ2 H2 => wipe σ2 vs = wipe σ vs ∧ tt σ2 H2 fun b H3 =>
        if b = true then te σ2 H3 fun y H4 => ∃ acc, H4 D = some (.lst acc) ∧ acc.length < sizeLine ∧ Nx (upd H4 D (.lst (acc ++ [y]))) else Nx H3) := by
  refine ⟨fun i m H => m = n - i ∧ i ≤ n ∧ Pv i H, ⟨n, by simp, Nat.zero_le _, h0⟩, ?_⟩
  rintro i m H ⟨rfl, hi, p⟩
  by_cases hlt : i < n
  · refine .inr ⟨hlt, Pv (i + 1), fun H' p' => ⟨n - (i + 1), by omega, rfl, hlt, p'⟩, fun x H' y => ?_⟩
    obtain ⟨e, y⟩ := y
    subst e y
    exact hs i _ hlt p
  · have e : i = n := by omega
    subst e
    exact .inl ⟨Nat.le_refl _, hd H p⟩
/-- over a list that the block leaves as it is -/
theorem lc_list {K : PySem.W.Frag} {a : Addr} {xs : List V} {g : TG} {tt : TT} {te : TE} {vs : List Nat} {σ : St} {H1 : Hp} {D : Addr} {Qd : Hp → Prop} (Pv : Nat → Hp → Prop) (h0 : Pv 0 (upd H1 D (.lst []))) (hl : ∀ i H, i ≤ xs.length → Pv i H → SqL K H a xs)
    (hs : ∀ i x H, xs[i]? = some x → Pv i H → g x (wipe σ vs) H fun σ2 H2 => wipe σ2 vs = wipe σ vs ∧ tt σ2 H2 fun b H3 =>
      if b = true then te σ2 H3 fun y H4 => ∃ acc, H4 D = some (.lst acc) ∧ acc.length < sizeLine ∧ Pv (i + 1) (upd H4 D (.lst (acc ++ [y]))) else Pv (i + 1) H3) (hd : ∀ H, Pv xs.length H → Qd H) :
    ∃ W : Nat → Nat → Hp → Prop, (∃ m, W 0 m (upd H1 D (.lst []))) ∧ ∀ i m H, W i m H →
      ((Itl K a).stop i H ∧ Qd H) ∨ ((Itl K a).go i H ∧ ∃ Nx : Hp → Prop, (∀ H', Nx H' → ∃ m', m' < m ∧ W (i + 1) m' H') ∧ ∀ x H', (Itl K a).yld i H x H' → g x (wipe σ vs) H' fun σ2 H2 => wipe σ2 vs = wipe σ vs ∧ tt σ2 H2 fun b H3 =>
        if b = true then te σ2 H3 fun y H4 => ∃ acc, H4 D = some (.lst acc) ∧ acc.length < sizeLine ∧ Nx (upd H4 D (.lst (acc ++ [y]))) else Nx H3) := by
  refine ⟨fun i m H => m = xs.length - i ∧ i ≤ xs.length ∧ Pv i H, ⟨xs.length, by simp, Nat.zero_le _, h0⟩, ?_⟩
  rintro i m H ⟨rfl, hi, p⟩
  have q := hl i H hi p
  by_cases hlt : i < xs.length
  · refine .inr ⟨⟨xs, xs[i], q, by simp [hlt]⟩, Pv (i + 1), fun H' p' => ⟨xs.length - (i + 1), by omega, rfl, hlt, p'⟩, fun x H' y => ?_⟩
    obtain ⟨e, y⟩ := y
    subst e
    exact hs i x _ (y xs q) p
  · have e : i = xs.length := by omega
    subst e
    exact .inl ⟨⟨xs, q, Nat.le_refl _⟩, hd H p⟩
def blkC (N : List Str) (sc scope : Scope) (own : List (Str × Nat)) : Bool :=
  (match scope.kind with | .function => true | _ => false) && (scope.names.all fun y => decide (scope.names.lookup y.1 = some y.2)) && (own.all fun p => decide (N[p.2]? = some p.1)) &&
    (scope.names.all fun y => match y.2 with
      | .free => (match sc.names.lookup y.1 with | some .cell => true | some .free => true | _ => false)
      | .local => decide (y.1 ∈ own.map (·.1)) || decide (y.1 ∉ N)
      | .cell => decide (y.1 ∈ own.map (·.1)) || decide (y.1 ∉ N)
      | _ => true)
theorem blkOk_by {N : List Str} {sc scope : Scope} {own : List (Str × Nat)} (h : blkC N sc scope own = true) : BlkOk N sc scope own := by
  unfold blkC at h
  simp only [Bool.and_eq_true, List.all_eq_true, decide_eq_true_eq] at h
  obtain ⟨⟨⟨h1, h2⟩, h3⟩, h4⟩ := h
  refine ⟨?_, h2, h3, fun y hy e => ?_, fun y hy e => ?_⟩
  · split at h1
    · assumption
    · cases h1
  · have q := h4 y hy
    simp only [e] at q
    split at q <;> first | exact .inl (by assumption) | exact .inr (by assumption) | cases q
  · have q := h4 y hy
    rcases e with e | e <;> (simp only [e, Bool.or_eq_true, decide_eq_true_eq] at q; exact q)
end L2

namespace L2
open PySem PySem.Spec PyProof.Rows

section
variable {prog : Program} {w : World} {A : Around} {R : Result → Shared → Prop} {s : Shared} {elt t0 i0 t1 i1 : Expr} {ifs0 ifs1 : List Expr} {scope : Scope} {pos : Pos} {it acc : Value} {env : Env}
end

section
variable {X : Cx}
end
end L2

namespace L2
open PySem PySem.Spec PyProof.Rows

section
variable {κ : Type} [DecidableEq κ]
def valV (kvs : List (κ × V)) (k : κ) : Option V := (kvs.find? fun kv => decide (kv.1 = k)).map (·.2)
/-- in its place, or at the end -/
def putK (kvs : List (κ × V)) (k : κ) (v : V) : List (κ × V) :=
  if (kvs.any fun kv => decide (kv.1 = k)) = true then kvs.map (fun kv => if kv.1 = k then (kv.1, v) else kv) else kvs ++ [(k, v)]
def dropK (kvs : List (κ × V)) (k : κ) : List (κ × V) := kvs.filter fun kv => decide (kv.1 ≠ k)

theorem valV_pos {p : κ × V} {r : List (κ × V)} {k : κ} (e : p.1 = k) : valV (p :: r) k = some p.2 := by simp [valV, List.find?_cons, e]
theorem valV_neg {p : κ × V} {r : List (κ × V)} {k : κ} (e : ¬ p.1 = k) : valV (p :: r) k = valV r k := by simp [valV, List.find?_cons, e]
theorem valV_any (k : κ) : ∀ kvs : List (κ × V), (kvs.any fun kv => decide (kv.1 = k)) = (valV kvs k).isSome
  | [] => rfl
  | p :: r => by
    rw [List.any_cons]
    by_cases e : p.1 = k
    · simp only [valV_pos e, decide_eq_true e, Bool.true_or, Option.isSome_some]
    · rw [valV_neg e, decide_eq_false e, Bool.false_or]; exact valV_any k r
theorem length_putK (kvs : List (κ × V)) (k : κ) (v : V) : (putK kvs k v).length ≤ kvs.length + 1 := by
  unfold putK
  split
  · rw [List.length_map]; omega
  · rw [List.length_append, List.length_cons, List.length_nil]; omega

theorem RelO.isSome_eq {o : Option V} {u : Option Value} (r : RelO o u) : o.isSome = u.isSome := by
  cases o with
  | none => cases u with
    | none => rfl
    | some _ => exact (show False from r).elim
  | some _ => cases u with
    | none => exact (show False from r).elim
    | some _ => rfl
theorem RelO.getD {o : Option V} {u : Option Value} {d : V} {d' : Value} (r : RelO o u) (rd : RelV d d') : RelV (o.getD d) (u.getD d') := by
  cases o with
  | none => cases u with
    | none => exact rd
    | some _ => exact (show False from r).elim
  | some _ => cases u with
    | none => exact (show False from r).elim
    | some _ => exact r

/-- raw tables of the same keys -/
theorem KV.val {kvs : List (κ × V)} {vs : List (κ × Value)} (r : KV kvs vs) (k : κ) : RelO (valV kvs k) (valueAt vs k) := by
  unfold KV at r
  induction r with
  | nil => exact True.intro
  | @cons p q ps qs h t ih =>
    obtain ⟨h1, h2⟩ := h
    by_cases e : p.1 = k
    · have e' : q.1 = k := h1.symm.trans e
      have b : valueAt (q :: qs) k = some q.2 := by simp [valueAt, List.find?_cons, e']
      rw [valV_pos e, b]; exact h2
    · have e' : ¬ q.1 = k := fun z => e (h1.trans z)
      have b : valueAt (q :: qs) k = valueAt qs k := by simp [valueAt, List.find?_cons, e']
      rw [valV_neg e, b]; exact ih
theorem KV.any {kvs : List (κ × V)} {vs : List (κ × Value)} (r : KV kvs vs) (k : κ) : (kvs.any fun kv => decide (kv.1 = k)) = vs.any fun kv => decide (kv.1 = k) := by
  unfold KV at r
  induction r with
  | nil => rfl
  | cons h t ih => rw [List.any_cons, List.any_cons, ih, h.1]
theorem KV.repl {kvs : List (κ × V)} {vs : List (κ × Value)} (r : KV kvs vs) (k : κ) {y : V} {u : Value} (ry : RelV y u) :
    KV (kvs.map fun kv => if kv.1 = k then (kv.1, y) else kv) (vs.map fun kv => if kv.1 = k then (kv.1, u) else kv) := by
  unfold KV at r ⊢
  induction r with
  | nil => exact .nil
  | @cons p q ps qs h t ih =>
    rw [List.map_cons, List.map_cons]
    refine .cons ?_ ih
    obtain ⟨h1, h2⟩ := h
    by_cases e : p.1 = k
    · rw [if_pos e, if_pos (h1.symm.trans e)]; exact ⟨h1, ry⟩
    · rw [if_neg e, if_neg (fun z => e (h1.trans z))]; exact ⟨h1, h2⟩
theorem KV.put {kvs : List (κ × V)} {vs : List (κ × Value)} (r : KV kvs vs) (k : κ) {y : V} {u : Value} (ry : RelV y u) : KV (putK kvs k y) (stored vs k u) := by
  unfold putK stored
  rw [r.any k]
  by_cases e : (vs.any fun kv => decide (kv.1 = k)) = true
  · rw [if_pos e, if_pos e]; exact r.repl k ry
  · rw [if_neg e, if_neg e]; exact Paired.snoc r ⟨rfl, ry⟩
theorem KV.drop {kvs : List (κ × V)} {vs : List (κ × Value)} (r : KV kvs vs) (k : κ) : KV (dropK kvs k) (without vs k) := by
  unfold KV at r ⊢
  unfold dropK without
  induction r with
  | nil => exact .nil
  | @cons p q ps qs h t ih =>
    obtain ⟨h1, h2⟩ := h
    rw [List.filter_cons, List.filter_cons]
    by_cases e : p.1 = k
    · have a : ¬ decide (p.1 ≠ k) = true := by simp [e]
      have b : ¬ decide (q.1 ≠ k) = true := by simp [h1.symm.trans e]
      rw [if_neg a, if_neg b]; exact ih
    · have e' : ¬ q.1 = k := fun z => e (h1.trans z)
      have a : decide (p.1 ≠ k) = true := by simp [e]
      have b : decide (q.1 ≠ k) = true := by simp [e']
      rw [if_pos a, if_pos b]; exact .cons ⟨h1, h2⟩ ih
theorem KV.keys {kvs : List (κ × V)} {vs : List (κ × Value)} (r : KV kvs vs) : kvs.map (·.1) = vs.map (·.1) := by
  unfold KV at r
  induction r with
  | nil => rfl
  | cons h t ih => rw [List.map_cons, List.map_cons, ih, h.1]
theorem KV.length {kvs : List (κ × V)} {vs : List (κ × Value)} (r : KV kvs vs) : kvs.length = vs.length := Paired.length r
end

theorem kV_is {P : Program} {w : World} {k : Key} {u : Value} (r : RelV (kV k) u) : (mixKind P w).is k u = true := by
  cases k with
  | inl i => obtain ⟨t, e⟩ := (show ∃ t, u = Value.int i t from r); subst e; exact mixKind_int P w i t
  | inr x => obtain ⟨t, e⟩ := (show ∃ t, u = Value.str x t from r); subst e; exact mixKind_str P w x t
theorem items_are {P : Program} {w : World} : ∀ {ks : List Key} {us : List Value}, Vals (ks.map kV) us → ItemsAre (mixKind P w) ks us
  | [], _, r => by rw [List.map_nil] at r; cases r; exact .nil
  | k :: ks, _, r => by
    rw [List.map_cons] at r
    cases r with
    | cons h t => exact .cons (kV_is h) (items_are t)

/-- raw entries of a dict with tuple keys -/
abbrev KT (H : Hp) : List (List Key × V) → List (List Key × Addr × Value) → Prop := Paired fun p q => p.1 = q.1 ∧ H q.2.1 = some (.tup (p.1.map kV)) ∧ RelV p.2 q.2.2
theorem KT.val {H : Hp} {kvs : List (List Key × V)} {xs : List (List Key × Addr × Value)} (r : KT H kvs xs) (k : List Key) : RelO (valV kvs k) ((atKey xs k).map (·.2)) := by
  induction r with
  | nil => exact True.intro
  | @cons p q ps qs h t ih =>
    obtain ⟨h1, _, h2⟩ := h
    by_cases e : p.1 = k
    · have e' : q.1 = k := h1.symm.trans e
      have b : atKey (q :: qs) k = some q.2 := by simp [atKey, List.find?_cons, e']
      rw [valV_pos e, b]; exact h2
    · have e' : ¬ q.1 = k := fun z => e (h1.trans z)
      have b : atKey (q :: qs) k = atKey qs k := by simp [atKey, List.find?_cons, e']
      rw [valV_neg e, b]; exact ih
theorem KT.repl {H : Hp} {kvs : List (List Key × V)} {xs : List (List Key × Addr × Value)} (r : KT H kvs xs) (k : List Key) {y : V} {u : Value} (ry : RelV y u) :
    KT H (kvs.map fun kv => if kv.1 = k then (kv.1, y) else kv) (xs.map (putAt k u)) := by
  induction r with
  | nil => exact .nil
  | @cons p q ps qs h t ih =>
    rw [List.map_cons, List.map_cons]
    refine .cons ?_ ih
    obtain ⟨h1, h2, h3⟩ := h
    unfold putAt
    by_cases e : p.1 = k
    · rw [if_pos e, if_pos (h1.symm.trans e)]; exact ⟨h1, h2, ry⟩
    · rw [if_neg e, if_neg (fun z => e (h1.trans z))]; exact ⟨h1, h2, h3⟩
theorem KT.put {H : Hp} {kvs : List (List Key × V)} {xs : List (List Key × Addr × Value)} (r : KT H kvs xs) (k : List Key) {b : Addr} {y : V} {u : Value} (hb : H b = some (.tup (k.map kV))) (ry : RelV y u) :
    KT H (putK kvs k y) (storedH xs k b u) := by
  have e : (kvs.any fun kv => decide (kv.1 = k)) = (atKey xs k).isSome := by
    rw [valV_any, (r.val k).isSome_eq, Option.isSome_map]
  unfold putK storedH
  rw [e]
  by_cases q : (atKey xs k).isSome = true
  · rw [if_pos q, if_pos q]; exact r.repl k ry
  · rw [if_neg q, if_neg q]; exact Paired.snoc r ⟨rfl, hb, ry⟩
theorem KT.keeps {H H' : Hp} {kvs : List (List Key × V)} {xs : List (List Key × Addr × Value)} (r : KT H kvs xs) (ht : ∀ b ys, H b = some (.tup ys) → H' b = some (.tup ys)) : KT H' kvs xs :=
  Paired.mapP r fun _ _ z => ⟨z.1, ht _ _ z.2.1, z.2.2⟩

section
variable {P : Program} {w : World} {H : Hp} {h : Heap} {a : Addr}
theorem rd_of {u : HO} (ok : HOk P w H h) (e : Rd H a u) : ObjOk P w H h a u := e.ok ok
theorem dk_rd {kvs : List (Key × V)} (ok : HOk P w H h) (e : Rd H a (.dK kvs)) : kvs.length ≤ sizeLine ∧ (a == sysModules) = false ∧ ∃ vs, KV kvs vs ∧ h.DictOf (mixKind P w) a vs :=
  show ObjOk P w H h a (.dK kvs) from rd_of ok e
theorem dk_of {kvs : List (Key × V)} (ok : HOk P w H h) (e : H a = some (.dK kvs)) : kvs.length ≤ sizeLine ∧ (a == sysModules) = false ∧ ∃ vs, KV kvs vs ∧ h.DictOf (mixKind P w) a vs := dk_rd ok (.inl e)
/-- a tracked tuple of ints and texts is a key -/
theorem key_of {ks : List Key} (ok : HOk P w H h) (e : H a = some (.tup (ks.map kV))) : (tupleKind (mixKind P w)).is h ks a := by
  obtain ⟨_, its, r, o, h1, h2, n, h3⟩ := (show ObjOk P w H h a (.tup (ks.map kV)) from ok a _ e)
  exact ⟨o, its.toArray, n, h1, h2, h3, by simpa using items_are r⟩
theorem dt_rd {kvs : List (List Key × V)} (ok : HOk P w H h) (e : Rd H a (.dT kvs)) : kvs.length ≤ sizeLine ∧ (a == sysModules) = false ∧
    ∃ xs, KT H kvs xs ∧ h.DictOfH (tupleKind (mixKind P w)) a xs := by
  obtain ⟨z, y, xs, r, o, es, ep, h1, h2, h3, h4, h5⟩ := (show ObjOk P w H h a (.dT kvs) from rd_of ok e)
  refine ⟨z, y, xs, r, o, es, ep, h1, h2, h3, h4, fun x hx => ?_, h5⟩
  have all : ∀ {l : List (List Key × V)} {m : List (List Key × Addr × Value)}, KT H l m → ∀ x ∈ m, (tupleKind (mixKind P w)).is h x.1 x.2.1 := by
    intro l m q
    induction q with
    | nil => intro x hx; exact nomatch hx
    | @cons p q ps qs hq t ih =>
      intro x hx
      rcases List.mem_cons.mp hx with e | hx
      · subst e
        exact key_of ok (by rw [← hq.1]; exact hq.2.1)
      · exact ih x hx
  exact all r x hx
theorem dt_of {kvs : List (List Key × V)} (ok : HOk P w H h) (e : H a = some (.dT kvs)) : kvs.length ≤ sizeLine ∧ (a == sysModules) = false ∧
    ∃ xs, KT H kvs xs ∧ h.DictOfH (tupleKind (mixKind P w)) a xs := dt_rd ok (.inl e)
end

/-- what the dict at a holds at the key y -/
def DGet (H : Hp) (a : Addr) (y : V) (r : Option V) : Prop :=
  (∃ kvs k, Rd H a (.dK kvs) ∧ y = kV k ∧ r = valV kvs k) ∨ ∃ kvs k b, Rd H a (.dT kvs) ∧ y = .ref b ∧ H b = some (.tup (k.map kV)) ∧ r = valV kvs k
/-- the heap behind a[y] = v -/
def DPut (H : Hp) (a : Addr) (y v : V) (H' : Hp) : Prop :=
  (∃ kvs k, H a = some (.dK kvs) ∧ y = kV k ∧ kvs.length < sizeLine ∧ H' = upd H a (.dK (putK kvs k v))) ∨
  ∃ kvs k b, H a = some (.dT kvs) ∧ y = .ref b ∧ H b = some (.tup (k.map kV)) ∧ kvs.length < sizeLine ∧ H' = upd H a (.dT (putK kvs k v))
theorem DGet.k {H : Hp} {a : Addr} {kvs : List (Key × V)} {k : Key} (e : H a = some (.dK kvs)) : DGet H a (kV k) (valV kvs k) := .inl ⟨kvs, k, .inl e, rfl, rfl⟩
theorem DGet.t {H : Hp} {a b : Addr} {kvs : List (List Key × V)} {k : List Key} (e : H a = some (.dT kvs)) (eb : H b = some (.tup (k.map kV))) : DGet H a (.ref b) (valV kvs k) := .inr ⟨kvs, k, b, .inl e, rfl, eb, rfl⟩
theorem DPut.k {H : Hp} {a : Addr} {kvs : List (Key × V)} {k : Key} {v : V} (e : H a = some (.dK kvs)) (hl : kvs.length < sizeLine) : DPut H a (kV k) v (upd H a (.dK (putK kvs k v))) := .inl ⟨kvs, k, e, rfl, hl, rfl⟩
theorem DPut.t {H : Hp} {a b : Addr} {kvs : List (List Key × V)} {k : List Key} {v : V} (e : H a = some (.dT kvs)) (eb : H b = some (.tup (k.map kV))) (hl : kvs.length < sizeLine) :
    DPut H a (.ref b) v (upd H a (.dT (putK kvs k v))) := .inr ⟨kvs, k, b, e, rfl, eb, hl, rfl⟩

section
variable {X : Cx} {pins : List (Addr × Obj)} {σ : St} {H : Hp} {s : Shared} {a : Addr} {y v : V} {u r : Value} {o : Option V} {A : Around} {E : Value → Shared → Prop}

theorem Inv.big (I : Inv X pins σ H s) : sysModules < s.heap.objs.size := by
  have h : mainGlobals < s.heap.objs.size := (I.mod.glob.keeps I.bk).lt
  exact Nat.lt_trans (by decide) h

/-- d[y], there -/
theorem d_getItem {Q : Value → Shared → Prop} (hu : A.units + 1 < cLine) (I : Inv X pins σ H s) (g : DGet H a y (some v)) (ry : RelV y u) (h : ∀ w' s', Inv X pins σ H s' → RelV v w' → Q w' s') :
    wpAny (model X.prog X.w) A (getItem (.ref a) u) Q E s := by
  rcases g with ⟨kvs, k, e, ey, l⟩ | ⟨kvs, k, b, e, ey, eb, l⟩
  · subst ey
    obtain ⟨z, hd, vs, rel, dd⟩ := dk_rd I.hok e
    obtain ⟨w', hw, rw'⟩ := RelO.some_of (v := v) (o := valueAt vs k) (by rw [l]; exact rel.val k)
    exact wpAny_getItem_of (kV_is ry) dd.mapOf hw (h w' _ (I.tok _) rw')
  · subst ey
    cases (show u = Value.ref b from ry)
    obtain ⟨z, hd, xs, rel, dd⟩ := dt_rd I.hok e
    obtain ⟨w', hw, rw'⟩ := RelO.some_of (v := v) (o := (atKey xs k).map (·.2)) (by rw [l]; exact rel.val k)
    obtain ⟨p, hp, hp2⟩ := Option.map_eq_some_iff.mp hw
    refine wpAny_getItem_heap (tupleKind_room_in1 hu) (key_of I.hok eb) dd hp ?_
    rw [hp2]
    exact h w' _ (I.tok _) rw'
/-- a dict's object is replaced -/
theorem d_write {h' : Heap} {t' : Nat} {ob : HO} (I : Inv X pins σ H s) (mu : Mut (H a)) (hs : Heap.SameBut a s.heap h') (he : ∃ q, h'.get? a = some q) (new : ObjOk X.prog X.w (upd H a ob) h' a ob) :
    Inv X pins σ (upd H a ob) { s with heap := h', toks := t' } :=
  I.write (x := a) (e := a) mu (.inl rfl) (fun b q hb z => (hs.2 b hb).trans z) he new
theorem dk_new {P : Program} {w : World} {H' : Hp} {h' : Heap} {kvs : List (Key × V)} {vs : List (Key × Value)} (z : kvs.length ≤ sizeLine) (hd : (a == sysModules) = false) (rel : KV kvs vs) (dd : h'.DictOf (mixKind P w) a vs) :
    ObjOk P w H' h' a (.dK kvs) := ⟨z, hd, vs, rel, dd⟩
/-- d[y] = v -/
theorem d_setItem {H' : Hp} {Q : Unit → Shared → Prop} (hu : A.units + 1 < cLine) (I : Inv X pins σ H s) (g : DPut H a y v H') (ry : RelV y u) (rv : RelV v r) (h : ∀ s', Inv X pins σ H' s' → Q () s') :
    wpAny (model X.prog X.w) A (setItem (.ref a) u r) Q E s := by
  rcases g with ⟨kvs, k, e, ey, l, eH⟩ | ⟨kvs, k, b, e, ey, eb, l, eH⟩
  · subst ey eH
    obtain ⟨z, hd, vs, rel, dd⟩ := dk_of I.hok e
    have hz : vs.length ≤ sizeLine := by rw [← rel.length]; exact z
    have hl : (putK kvs k v).length ≤ sizeLine := by have := length_putK kvs k v; omega
    refine wpAny_setItem_pairs (hsz := hz) (kV_is ry) dd fun h' dd' hs => h _ ?_
    have he : ∃ q, h'.get? a = some q := let ⟨q, _, _, hq, _⟩ := dd'; ⟨q, hq⟩
    exact d_write I (by rw [e]; exact True.intro) hs he (dk_new hl hd (rel.put k rv) dd')
  · subst ey eH
    cases (show u = Value.ref b from ry)
    obtain ⟨z, hd, xs, rel, dd⟩ := dt_of I.hok e
    have hz : xs.length ≤ sizeLine := by rw [← Paired.length rel]; exact z
    have hl : (putK kvs k v).length ≤ sizeLine := by have := length_putK kvs k v; omega
    refine wpAny_setItem_heap (hsz := hz) (tupleKind_room_in1 hu) (key_of I.hok eb) dd fun h' dd' hs => h _ ?_
    obtain ⟨q, es, ep, hq, h2, h3, h4, _, h5⟩ := dd'
    refine d_write I (by rw [e]; exact True.intro) hs ⟨q, hq⟩ ⟨hl, hd, _, (rel.put k eb rv).keeps fun c ys ec => ?_, q, es, ep, hq, h2, h3, h4, h5⟩
    rw [upd_ne (ne_of ec e (fun z => nomatch z))]
    exact ec
end

section
variable {X : Cx} {pins : List (Addr × Obj)} {σ : St} {H : Hp} {s : Shared} {a : Addr} {kvs : List (Key × V)} {k : Key} {u : Value} {A : Around} {E : Value → Shared → Prop}
/-- len(d) -/
theorem d_len {Q : Value → Shared → Prop} (I : Inv X pins σ H s) (e : Rd H a (.dK kvs)) (h : ∀ t s', Inv X pins σ H s' → Q (.int kvs.length t) s') : wpAny (model X.prog X.w) A (call (.builtin "len") [.ref a]) Q E s := by
  obtain ⟨z, hd, vs, rel, dd⟩ := dk_rd I.hok e
  refine call_len_dict hd dd (by rw [← rel.length]; rw [sizeLine_eq] at z; omega) ?_
  rw [← rel.length]
  exact h _ _ (I.tok _)
end

/-- the element of a subscription, not a slice -/
def NoSl (i : Expr) : Prop := ∀ ov iv, subscripted i false ov iv = operate [ov, iv] (getItem ov iv)
theorem subD_of {prog : Program} {w : World} {A : Around} {E : Value → Shared → Prop} {s : Shared} {env : Env} {value slice : Expr} {pos : Pos} {T id : String} {Q : Value → Shared → Prop}
    (hl : typeLookup (.type T) "__getitem__" = pure (some (.builtin id))) (hs : NoSl slice)
    (h : wpAny (model prog w) A (eval value env) (fun o s₁ => wpAny (model prog w) A (eval slice env) (fun i s₂ => s₂.TypeIs o T ∧ wpAny (model prog w) A (getItem o i) Q E s₂) E s₁) E s) :
    wpAny (model prog w) A (eval (.Subscript value slice pos) env) Q E s := by
  refine Subscript_ (wpAny_mono h (fun o s₁ h₁ => wpAny_mono h₁ (fun i s₂ h₂ => ?_) fun _ _ x => x) fun _ _ x => x)
  obtain ⟨hT, h₂⟩ := h₂
  unfold subscriptTail
  refine wpAny_bind ?_
  rw [getitemInPython_of_ne hT.not_modules]
  refine wpAny_bind (wpAny_specialOf hT hl ?_)
  have fin : wpAny (model prog w) A (subscripted slice false o i) (fun r s₃ => wpAny (model prog w) A (letTemporaryGo value o r >>= fun _ => pure r) Q E s₃) E s₂ := by
    rw [hs o i]
    exact wpAny_operating (wpAny_mono h₂ (fun r s₃ h₃ => wpAny_bind (wpAny_letTemporaryGo (wpAny_pure h₃))) fun _ _ x => x)
  first
    | exact wpAny_pure (wpAny_bind fin)
    | exact wpAny_bind (wpAny_pure (wpAny_bind fin))
    | exact wpAny_bind fin

theorem dict_typeIs {X : Cx} {pins : List (Addr × Obj)} {σ : St} {H : Hp} {s : Shared} {a : Addr} {y : V} {o : Option V} (I : Inv X pins σ H s) (g : DGet H a y o) : s.TypeIs (.ref a) "dict" := by
  rcases g with ⟨kvs, k, e, _, _⟩ | ⟨kvs, k, b, e, _, _, _⟩
  · obtain ⟨_, _, vs, _, dd⟩ := dk_rd I.hok e
    exact dd.typeIs
  · obtain ⟨_, _, xs, _, dd⟩ := dt_rd I.hok e
    exact dd.typeIs

/-- d[y] -/
def tDGet (td ty : TE) : TE := fun σ H Q => td σ H fun x H1 => ty σ H1 fun y H2 => ∃ a v, x = .ref a ∧ DGet H2 a y (some v) ∧ Q v H2
/-- d[y] = v -/
def sDPut (td ty tv : TE) : TS := fun D σ H => tv σ H fun v H1 => td σ H1 fun x H2 => ty σ H2 fun y H3 => ∃ a H4, x = .ref a ∧ DPut H3 a y v H4 ∧ D.nx σ H4

section
variable {X : Cx} {o i e value : Expr} {pos pos' tpos : Pos} {td ty tv : TE}
theorem pe_dget (hu : X.A.units + 1 < cLine) (ho : PE X o td) (hi : PE X i ty) (hs : NoSl i) : PE X (.Subscript o i pos) (tDGet td ty) := by
  intro pins s σ H Q I h
  refine subD_of PySem.F.slot_dict_getitem.lookup hs (thn (ho pins s σ H _ I h) fun u s1 ⟨x, H1, I1, rx, q1⟩ => thn (hi pins s1 σ H1 _ I1 q1) fun iv s2 ⟨y, H2, I2, ry, a, v, ex, g, q2⟩ => ?_)
  subst ex
  obtain rfl : u = Value.ref a := rx
  exact ⟨dict_typeIs I2 g, d_getItem hu I2 g ry fun w' s3 I3 rw' => ⟨v, H2, I3, rw', q2⟩⟩
theorem ps_dput (hu : X.A.units + 1 < cLine) (ho : PE X o td) (hi : PE X i ty) (hv : PE X value tv) (hs : swapsWith value (some (.Subscript o i pos')) pos.line X.env = pure false) :
    PS X (.Assign [.Subscript o i pos'] value pos) (sDPut td ty tv) := by
  intro pins s σ H D I h
  refine wpAny_Assign_Subscript (thn (hv pins s σ H _ I h) fun r s1 ⟨v, H1, I1, rv, q1⟩ => thn (ho pins s1 σ H1 _ I1 q1) fun u s2 ⟨x, H2, I2, rx, q2⟩ => thn (hi pins s2 σ H2 _ I2 q2) fun iv s3 ⟨y, H3, I3, ry, a, H4, ex, g, q3⟩ => ?_) hs
  subst ex
  obtain rfl : u = Value.ref a := rx
  exact d_setItem hu I3 g ry rv fun s4 I4 => ⟨σ, H4, I4, q3⟩
end

theorem dk_empty {P : Program} {w : World} {H : Hp} (h : Heap) (hb : sysModules < h.objs.size) : ObjOk P w H (h.push { cls := .type "dict", data := .dict #[] }) h.objs.size (.dK []) :=
  ⟨Nat.zero_le _, beq_eq_false_iff_ne.mpr (Ne.symm (Nat.ne_of_lt hb)), [], .nil, Heap.DictOf.new h⟩
/-- {}, to be a dict of the kind that is wanted -/
def tDNewK : TE := fun _ H Q => ∀ p, H p = none → Q (.ref p) (upd H p (.dK []))
section
variable {X : Cx} {pos : Pos}
theorem pe_dnewK : PE X (.Dict [] [] pos) tDNewK := fun pins s σ H Q I h =>
  wpAny_Dict_empty ⟨.ref s.heap.objs.size, _, I.laid (a := s.heap.objs.size) (o := .dK []) (t' := s.toks) (fun _ _ q => Heap.get?_push_of_some _ q) (Nat.le_refl _) (dk_empty s.heap I.big), rfl, h _ (I.hok.fresh (Nat.le_refl _))⟩
end

/-- the pairs of a display, from the left -/
def tPairs : List (TE × TE) → St → Hp → (List (V × V) → Hp → Prop) → Prop
  | [], _, H, Q => Q [] H
  | (tk, tv) :: r, σ, H, Q => tk σ H fun x H1 => tv σ H1 fun y H2 => tPairs r σ H2 fun ps H3 => Q ((x, y) :: ps) H3
abbrev VV : List (V × V) → List (Value × Value) → Prop := Paired fun p q => RelV p.1 q.1 ∧ RelV p.2 q.2
def PPs (X : Cx) (pos : Pos) (keys : List (Option Expr)) (values : List Expr) (trs : List (TE × TE)) : Prop :=
  ∀ (pins : List (Addr × Obj)) (s : Shared) (σ : St) (H : Hp) (Q : List (V × V) → Hp → Prop), Inv X pins σ H s → tPairs trs σ H Q →
    wpAny (model X.prog X.w) X.A (evalPairs (pairTrees keys values X.env pos)) (fun vs s' => ∃ ps H', Inv X pins σ H' s' ∧ VV ps vs ∧ Q ps H') X.xe s
theorem pps_nil {X : Cx} {pos : Pos} : PPs X pos [] [] [] := fun pins s σ H Q I h => pairTrees_nil_walk ⟨[], H, I, .nil, h⟩
theorem pps_cons {X : Cx} {pos : Pos} {k v : Expr} {ks : List (Option Expr)} {vs : List Expr} {tk tv : TE} {trs : List (TE × TE)} (hk : PE X k tk) (hv : PE X v tv) (hr : PPs X pos ks vs trs) :
    PPs X pos (some k :: ks) (v :: vs) ((tk, tv) :: trs) := fun pins s σ H Q I h =>
  pairTrees_cons_walk (thn (hk pins s σ H _ I h) fun u s1 ⟨x, H1, I1, rx, q1⟩ => thn (hv pins s1 σ H1 _ I1 q1) fun w2 s2 ⟨y, H2, I2, ry, q2⟩ =>
    thn (hr pins s2 σ H2 _ I2 q2) fun ws s3 ⟨ps, H3, I3, rel, q3⟩ => ⟨(x, y) :: ps, H3, I3, .cons ⟨rx, ry⟩ rel, q3⟩)

def mergeK (kvs more : List (Key × V)) : List (Key × V) := more.foldl (fun acc kv => putK acc kv.1 kv.2) kvs
theorem KV.merge : ∀ {more : List (Key × V)} {rs : List (Key × Value)} {kvs : List (Key × V)} {vs : List (Key × Value)}, KV more rs → KV kvs vs → KV (mergeK kvs more) (merged vs rs) := by
  intro more rs kvs vs r
  unfold KV at r
  induction r generalizing kvs vs with
  | nil => intro q; exact q
  | @cons p q ps qs h t ih =>
    intro r0
    have e : KV (putK kvs p.1 p.2) (stored vs q.1 q.2) := by
      have := r0.put p.1 h.2
      rw [← h.1]; exact this
    exact ih e
theorem length_mergeK : ∀ (more kvs : List (Key × V)), (mergeK kvs more).length ≤ kvs.length + more.length
  | [], kvs => by show kvs.length ≤ kvs.length + 0; omega
  | p :: r, kvs => by
    have h1 := length_mergeK r (putK kvs p.1 p.2)
    have h2 := length_putK kvs p.1 p.2
    show (mergeK (putK kvs p.1 p.2) r).length ≤ _
    rw [List.length_cons]; omega
theorem carries_of {P : Program} {w : World} : ∀ {kvs : List (Key × V)} {ws : List (Value × Value)}, VV (kvs.map fun kv => (kV kv.1, kv.2)) ws → ∃ rs, Carries (mixKind P w) ws rs ∧ KV kvs rs
  | [], _, r => by rw [List.map_nil] at r; cases r; exact ⟨[], True.intro, .nil⟩
  | p :: kvs, _, r => by
    rw [List.map_cons] at r
    cases r with
    | @cons a b as bs h t =>
      obtain ⟨rs, c, q⟩ := carries_of (P := P) (w := w) t
      obtain ⟨b1, b2⟩ := b
      exact ⟨(p.1, b2) :: rs, ⟨kV_is h.1, rfl, c⟩, .cons ⟨rfl, h.2⟩ q⟩
/-- {k: v, ..} with keys ints and texts; the new dict stands empty while the pairs are made -/
def tDisp (trs : List (TE × TE)) : TE := fun σ H Q => ∀ p, H p = none → tPairs trs σ (upd H p (.dK [])) fun ps H2 => H2 p = some (.dK []) ∧ ∃ kvs : List (Key × V), ps = kvs.map (fun kv => (kV kv.1, kv.2)) ∧ kvs.length ≤ 15 ∧ Q (.ref p) (upd H2 p (.dK (mergeK [] kvs)))
theorem pe_disp {X : Cx} {pos : Pos} {keys : List (Option Expr)} {values : List Expr} {trs : List (TE × TE)} (h : PPs X pos keys values trs) (hall : keys.all (·.isSome) = true) (hl : keys.length = values.length) (h0 : keys ≠ [])
    (h15 : keys.length ≤ 15) : PE X (.Dict keys values pos) (tDisp trs) := by
  intro pins s σ H Q I q
  have hn := I.hok.fresh (Nat.le_refl s.heap.objs.size)
  have I1 := I.laid (a := s.heap.objs.size) (o := .dK []) (h' := s.heap.push { cls := .type "dict", data := .dict #[] }) (t' := s.toks) (fun _ _ q => Heap.get?_push_of_some _ q) (Nat.le_refl _) (dk_empty s.heap I.big)
  refine wpAny_Dict_walk (knd := mixKind X.prog X.w) hall hl h0 h15 (thn (h pins _ σ _ _ I1 (q _ hn)) fun ws s2 ⟨ps, H2, I2, rel, e, kvs, ep, lk, q2⟩ => ?_)
  subst ep
  obtain ⟨rs, c, rk⟩ := carries_of (P := X.prog) (w := X.w) rel
  obtain ⟨z, hd, vs0, r0, dd⟩ := dk_of I2.hok e
  cases r0
  refine ⟨rs, c, dd, fun h' dd' hs => ⟨.ref s.heap.objs.size, _, ?_, rfl, q2⟩⟩
  have hz : (mergeK [] kvs).length ≤ sizeLine := by
    have h1 := length_mergeK kvs []
    rw [List.length_nil] at h1
    rw [sizeLine_eq]; omega
  have he : ∃ q, h'.get? s.heap.objs.size = some q := let ⟨q, _, _, hq, _⟩ := dd'; ⟨q, hq⟩
  exact d_write I2 (by rw [e]; exact True.intro) hs he (dk_new hz hd (rk.merge .nil) dd')

structure M2 (X : Cx) (o : Expr) (m : Str) (apos : Pos) (e f : Expr) (cpos : Pos) : Prop where
  base : attributeBase o m X.env (eval o X.env) = eval o X.env
  few : ((backTo cpos (starEach [e, f] X.env)).all (fun x => !x.1) && (backToKw cpos (keywordEach [] X.env)).all (fun x => x.1.isSome)
    && decide (([e, f] : List Expr).length + ([] : List Keyword).length + (if ([] : List Keyword).isEmpty then 0 else 1) < 30)) = true
  line : (apos.endLine == cpos.line) = true
  trees : backTo cpos (starEach [e, f] X.env) = [(false, eval e X.env), (false, eval f X.env)]

/-- a is a dict, whatever its keys -/
def IsD (H : Hp) (a : Addr) : Prop := (∃ kvs, Rd H a (.dK kvs)) ∨ ∃ kvs, Rd H a (.dT kvs)
theorem isD_at {X : Cx} {pins : List (Addr × Obj)} {σ : St} {H : Hp} {s : Shared} {a : Addr} (I : Inv X pins σ H s) (d : IsD H a) :
    s.TypeIs (.ref a) "dict" ∧ (∀ b, Value.ref a = .ref b → ∃ ob, s.heap.get? b = some ob ∧ ob.dict = none) ∧ (a == sysModules) = false := by
  rcases d with ⟨kvs, e⟩ | ⟨kvs, e⟩
  · obtain ⟨_, hd, vs, _, dd⟩ := dk_rd I.hok e
    refine ⟨dd.typeIs, fun b q => ?_, hd⟩
    cases q
    obtain ⟨ob, _, _, h1, h2, _⟩ := dd
    exact ⟨ob, h1, h2.2.1⟩
  · obtain ⟨_, hd, xs, _, dd⟩ := dt_rd I.hok e
    refine ⟨dd.typeIs, fun b q => ?_, hd⟩
    cases q
    obtain ⟨ob, _, _, h1, h2, _⟩ := dd
    exact ⟨ob, h1, h2.2.1⟩

section
variable {X : Cx} {pins : List (Addr × Obj)} {σ : St} {H : Hp} {s : Shared} {a : Addr} {y d : V} {u r : Value} {o : Option V} {A : Around} {E : Value → Shared → Prop}
/-- d.get(y, x) -/
theorem d_get2 {Q : Value → Shared → Prop} (hu : A.units + 1 < cLine) (I : Inv X pins σ H s) (g : DGet H a y o) (ry : RelV y u) (rd : RelV d r) (h : ∀ w' s', Inv X pins σ H s' → RelV (o.getD d) w' → Q w' s') :
    wpAny (model X.prog X.w) A (call (.builtin "dict.get") [.ref a, u, r]) Q E s := by
  rcases g with ⟨kvs, k, e, ey, l⟩ | ⟨kvs, k, b, e, ey, eb, l⟩
  · subst ey
    obtain ⟨z, hd, vs, rel, dd⟩ := dk_rd I.hok e
    refine call_meetsIn PySem.F.slot_dict_get dd.typeIs PySem.F.entry_dict_get (PySem.F.args_dict_get_3 _ _ _) (meets_dict_get_default (mixKind X.prog X.w) a (kV_is ry) hd r) ⟨_, dd.mapOf, h _ _ (I.tok _) ?_⟩
    rw [l]
    exact (rel.val k).getD rd
  · subst ey
    cases (show u = Value.ref b from ry)
    obtain ⟨z, hd, xs, rel, dd⟩ := dt_rd I.hok e
    refine call_meetsIn PySem.F.slot_dict_get dd.typeIs PySem.F.entry_dict_get (PySem.F.args_dict_get_3 _ _ _) (meetsH_dict_get_default (tupleKind (mixKind X.prog X.w)) a b hd r) ⟨tupleKind_room_in1 hu, k, xs, key_of I.hok eb, dd, h _ _ (I.tok _) ?_⟩
    rw [l]
    exact (rel.val k).getD rd
end

def tDGet2 (td ty tx : TE) : TE := fun σ H Q => td σ H fun x H1 => ∃ a, x = .ref a ∧ IsD H1 a ∧ ty σ H1 fun y H2 => tx σ H2 fun z H3 => ∃ o, DGet H3 a y o ∧ Q (o.getD z) H3
section
variable {X : Cx} {o e f : Expr} {apos cpos : Pos} {td ty tx : TE}
theorem pe_dget2 (hu : X.A.units + 1 < cLine) (ho : PE X o td) (he : PE X e ty) (hf : PE X f tx) (m : M2 X o "get" apos e f cpos) : PE X (.Call (.Attribute o "get" apos) [e, f] [] cpos) (tDGet2 td ty tx) := by
  intro pins s σ H Q I h
  refine wpAny_Call_method m.base m.few m.line PySem.F.plainAttrs_dict PySem.F.slot_dict_get PySem.F.type_dict_get (thn (ho pins s σ H _ I h) fun u s1 ⟨x, H1, I1, rx, a, ex, d, q1⟩ => ?_)
  subst ex
  obtain rfl : u = Value.ref a := rx
  obtain ⟨t1, t2, _⟩ := isD_at I1 d
  refine ⟨t1, t2, ?_⟩
  rw [m.trees]
  refine Calls.callWith_builtin rfl (Calls.evalArgs_plain (Calls.spliced_cons (thn (he pins s1 σ H1 _ I1 q1) fun iv s2 ⟨y, H2, I2, ry, q2⟩ =>
    Calls.spliced_cons (thn (hf pins s2 σ H2 _ I2 q2) fun fv s3 ⟨z, H3, I3, rz, ov, g, q3⟩ => Calls.spliced_nil ?_))))
  exact d_get2 hu I3 g ry rz fun w' s4 I4 rw' => ⟨_, H3, I4, rw', q3⟩
end

section
variable {X : Cx} {pins : List (Addr × Obj)} {σ : St} {H : Hp} {s : Shared} {a : Addr} {kvs : List (Key × V)} {A : Around} {E : Value → Shared → Prop}
end

section
variable {X : Cx} {pins : List (Addr × Obj)} {σ : St} {H : Hp} {s : Shared} {a : Addr} {y : V} {u : Value} {A : Around} {E : Value → Shared → Prop}
end
end L2

namespace L2
open PySem PySem.Spec PyProof.Rows

section
variable {prog : Program} {w : World} {A : Around} {E : Value → Shared → Prop}

end

section
variable {X : Cx}
theorem refs_at : ∀ {ps : List Addr} {us : List Value}, Vals (ps.map V.ref) us → us = ps.map Value.ref
  | [], us, r => by
    rw [List.map_nil] at r
    cases r
    rfl
  | p :: ps, us, r => by
    rw [List.map_cons] at r
    cases r with
    | cons h t =>
      cases h
      rw [List.map_cons, ← refs_at t]
end
end L2

namespace L2
open PySem PySem.Spec PyProof.Rows

section
variable {X : Cx} {pins : List (Addr × Obj)} {σ : St} {H : Hp} {s : Shared} {h' : Heap}
/-- several records of ours have turned -/
theorem Inv.turnedL {t' : Nat} {ch : List Addr} (I : Inv X pins σ H s) (k : ∀ b o, b ∉ ch → s.heap.get? b = some o → h'.get? b = some o) (hf : ∀ b ∈ ch, FpOk X pins H b) : Inv X pins σ H { s with heap := h', toks := t' } := by
  have nit : ∀ b u, H b = some u → b ∉ ch := fun b u e z => by
    have q := (hf b z).1
    rw [q] at e; cases e
  refine I.step (g' := s.gens) (d' := s.drawn) (ch := ch) (fun b hb => ⟨(hf b hb).2.2.2.1, (hf b hb).2.1, (hf b hb).2.2.2.2.1, (hf b hb).2.2.2.2.2⟩) (fun b o _ _ hc e _ => k b o hc e) (fun b o _ _ hc e _ => ⟨o.slots, k b o hc e⟩)
    (fun _ _ _ _ n => n) (fun b o hc e => ⟨o, k b o hc e⟩) (fun _ _ e => e) (fun _ _ _ e => e) (fun b ps e => ⟨#[], by rw [e]; simp⟩) (fun m hm => ?_) (fun b u e => ?_) I.bare
  · obtain ⟨o, es, ep, ho, r⟩ := hm
    exact ⟨o, es, ep, k _ o (fun z => (hf _ z).2.1 rfl) ho, r⟩
  · refine (I.hok b u e).stay (fun c v hc q => k c v ?_ q) (fun _ q => q) fun _ _ q => q
    rcases hc with z | z
    · rw [z]; exact nit b u e
    · exact nit c _ z
/-- .. and one new object is laid -/
theorem Inv.turnedNew {t' : Nat} {ch : List Addr} {T : Addr} {ob : HO} (I : Inv X pins σ H s) (k : ∀ b o, b ∉ ch → s.heap.get? b = some o → h'.get? b = some o) (hf : ∀ b ∈ ch, FpOk X pins H b) (hT : s.heap.objs.size ≤ T)
    (new : ObjOk X.prog X.w (upd H T ob) h' T ob) : Inv X pins σ (upd H T ob) { s with heap := h', toks := t' } := by
  have hn : H T = none := I.hok.fresh hT
  have nit : ∀ b u, H b = some u → b ∉ ch := fun b u e z => by
    have q := (hf b z).1
    rw [q] at e; cases e
  refine I.step (g' := s.gens) (d' := s.drawn) (ch := ch) (fun b hb => ⟨(hf b hb).2.2.2.1, (hf b hb).2.1, (hf b hb).2.2.2.2.1, (hf b hb).2.2.2.2.2⟩) (fun b o _ _ hc e _ => k b o hc e) (fun b o _ _ hc e _ => ⟨o.slots, k b o hc e⟩)
    (fun b o _ e n => ?_) (fun b o hc e => ⟨o, k b o hc e⟩) (fun b xs e => ?_) (fun b o u e => ?_) (fun b ps e => ⟨#[], ?_⟩) (fun m hm => ?_) (fun b u e => ?_) I.bare
  · rw [upd_ne (Nat.ne_of_lt (Nat.lt_of_lt_of_le (Heap.lt_size e) hT))]; exact n
  · rw [upd_ne (ne_of_none e hn)]; exact e
  · rw [upd_ne (ne_of_none e hn)]; exact e
  · rw [upd_ne (ne_of_none e hn), e]; simp
  · obtain ⟨o, es, ep, ho, r⟩ := hm
    exact ⟨o, es, ep, k _ o (fun z => (hf _ z).2.1 rfl) ho, r⟩
  · by_cases hb : b = T
    · subst hb
      rw [upd_same] at e
      cases e
      exact new
    · rw [upd_ne hb] at e
      refine (I.hok b u e).stay (fun c v hc q => k c v ?_ q) (fun c q => by rw [upd_ne (ne_of_none q hn)]; exact q) fun c xs q => by rw [upd_ne (ne_of_none q hn)]; exact q
      rcases hc with z | z
      · rw [z]; exact nit b u e
      · exact nit c _ z

theorem Inv.lock {d : Addr} {u : HO} (I : Inv X pins σ H s) (h : H d = some u) (mu : Mut (some u)) : ∃ od, Inv X pins σ (upd H d (.frz od u)) s := by
  have x := I.hok d u h
  have ex : ∃ od, s.heap.get? d = some od := by
    cases u with
    | lst xs => obtain ⟨_, _, _, _, e⟩ := x; exact ⟨_, e⟩
    | dK kvs => obtain ⟨_, _, _, _, o, _, _, e, _⟩ := x; exact ⟨o, e⟩
    | dT kvs => obtain ⟨_, _, _, _, o, _, _, e, _⟩ := x; exact ⟨o, e⟩
    | set S n => obtain ⟨o, _, _, _, e, _⟩ := x; exact ⟨o, e⟩
    | ins C dx fs => obtain ⟨_, _, _, e, _⟩ := x; exact ⟨_, e⟩
    | ext φ => obtain ⟨_, ⟨_, e⟩, _⟩ := x; exact ⟨_, e⟩
    | _ => exact False.elim mu
  obtain ⟨od, e⟩ := ex
  have new : ObjOk X.prog X.w (upd H d (.frz od u)) s.heap d (.frz od u) := by
    refine ⟨e, x.stay (fun b v _ q => q) (fun b q => ?_) fun b xs q => ?_⟩
    · rw [upd_ne (fun z => by rw [z, h] at q; cases q; exact mu)]; exact q
    · rw [upd_ne (fun z => by rw [z, h] at q; cases q; exact mu)]; exact q
  exact ⟨od, I.write (x := d) (e := d) (t' := s.toks) (h' := s.heap) (by rw [h]; exact mu) (.inl rfl) (fun b v _ q => q) ⟨od, e⟩ new⟩
theorem Inv.nofrz {d : Addr} {u : HO} (I : Inv X pins σ H s) (h : H d = some u) (mu : Mut (some u)) : ∀ o' u', X.H_0 d ≠ some (.frz o' u') := fun o' u' e => by
  have q := I.base.frzs d o' u' e
  rw [h] at q
  cases q
  exact mu
theorem Inv.unlock {d : Addr} {od : Obj} {u : HO} (I : Inv X pins σ H s) (h : H d = some (.frz od u)) (hn : ∀ o' u', X.H_0 d ≠ some (.frz o' u')) : Inv X pins σ (upd H d u) s := by
  have neH : ∀ b o, H b = some o → (∀ o' u', o ≠ .frz o' u') → b ≠ d := fun b o e hne z => by
    rw [z, h] at e
    cases e
    exact hne _ _ rfl
  have neN : ∀ b, H b = none → b ≠ d := fun b e z => by rw [z, h] at e; cases e
  refine ⟨I.ok, I.os, I.bare, ⟨I.base.keep, I.base.slot, fun b o e n hx => ?_, I.base.there, fun b xs e => ?_, fun b o x e => ?_, fun b ps e => ?_⟩, I.loc, I.cell, ?_, fun x c e => ?_, fun p hp => ?_, fun b o e => ?_, I.len⟩
  · rw [upd_ne (neN b (I.base.free b o e n hx))]; exact I.base.free b o e n hx
  · have q := I.base.tups b xs e
    rw [upd_ne (neH b _ q (fun _ _ z => nomatch z))]; exact q
  · have q := I.base.frzs b o x e
    rw [upd_ne (fun z => by rw [z] at e; exact hn _ _ e)]; exact q
  · obtain ⟨m, q⟩ := I.base.tbls b ps e
    exact ⟨m, by rw [upd_ne (neH b _ q (fun _ _ z => nomatch z))]; exact q⟩
  · rw [upd_ne (neN _ I.free)]; exact I.free
  · rw [upd_ne (neN c (I.freeC x c e))]; exact I.freeC x c e
  · obtain ⟨e, n, r⟩ := I.pin p hp
    exact ⟨e, by rw [upd_ne (neN _ n)]; exact n, r⟩
  · by_cases hb : b = d
    · rw [hb, upd_same] at e
      cases e
      rw [hb]
      obtain ⟨_, x⟩ := I.hok d _ h
      exact x.stay (fun c v _ q => q) (fun c q => by rw [upd_ne (neH c _ q (fun _ _ z => nomatch z))]; exact q) fun c xs q => by rw [upd_ne (neH c _ q (fun _ _ z => nomatch z))]; exact q
    · rw [upd_ne hb] at e
      exact (I.hok b o e).stay (fun c v _ q => q) (fun c q => by rw [upd_ne (neH c _ q (fun _ _ z => nomatch z))]; exact q) fun c xs q => by rw [upd_ne (neH c _ q (fun _ _ z => nomatch z))]; exact q
end
/-- the statement runs while the thing at d is locked (read, not written); d and what stands there are the reading's choice -/
def tLock (t : TS) : TS := fun D σ H => ∃ d u, H d = some u ∧ Mut (some u) ∧ ∀ od, t ⟨fun σ' H' => H' d = some (.frz od u) ∧ D.nx σ' (upd H' d u), fun v H' => H' d = some (.frz od u) ∧ D.rt v (upd H' d u), fun σ' H' => H' d = some (.frz od u) ∧ D.bk σ' (upd H' d u), fun σ' H' => H' d = some (.frz od u) ∧ D.ct σ' (upd H' d u)⟩ σ (upd H d (.frz od u))
def tLockE (t : TE) : TE := fun σ H Q => ∃ d u, H d = some u ∧ Mut (some u) ∧ ∀ od, t σ (upd H d (.frz od u)) fun v H' => H' d = some (.frz od u) ∧ Q v (upd H' d u)
section
variable {X : Cx}
theorem ps_lock {st : Stmt} {t : TS} (h : PS X st t) : PS X st (tLock t) := by
  intro pins s σ H D I hw
  obtain ⟨d, u, hd, mu, hw⟩ := hw
  obtain ⟨od, I1⟩ := I.lock hd mu
  refine thn (h pins s σ _ _ I1 (hw od)) fun f s1 q => ?_
  cases f with
  | next => obtain ⟨σ', H', I2, e, q⟩ := q; exact ⟨σ', _, I2.unlock e (I.nofrz hd mu), q⟩
  | brk => obtain ⟨σ', H', I2, e, q⟩ := q; exact ⟨σ', _, I2.unlock e (I.nofrz hd mu), q⟩
  | cont => obtain ⟨σ', H', I2, e, q⟩ := q; exact ⟨σ', _, I2.unlock e (I.nofrz hd mu), q⟩
  | ret v => obtain ⟨x, σ', H', I2, r, e, q⟩ := q; exact ⟨x, σ', _, I2.unlock e (I.nofrz hd mu), r, q⟩
theorem pe_lock {e : Expr} {t : TE} (h : PE X e t) : PE X e (tLockE t) := by
  intro pins s σ H Q I hw
  obtain ⟨d, u, hd, mu, hw⟩ := hw
  obtain ⟨od, I1⟩ := I.lock hd mu
  refine thn (h pins s σ _ _ I1 (hw od)) fun v s1 ⟨x, H1, I2, r, e2, q⟩ => ?_
  exact ⟨x, _, I2.unlock e2 (I.nofrz hd mu), r, q⟩

theorem pi_one {tg : Expr} {pins : List (Addr × Obj)} {σ : St} {H : Hp} {s : Shared} {R : It → Hp → Prop} {J : It} {tn : Nat → Heap → Prop} {tk : Nat} (I : Inv X pins σ H s) (o : Obj)
    (T : Turn X.prog X.w X.K tg J [s.heap.objs.size] s.heap.objs.size tn) (st : tn 0 (s.heap.push o)) (q : R J H) : PIE X pins σ tg R (.ref s.heap.objs.size) { s with heap := s.heap.push o, toks := tk } := by
  refine ⟨s.heap.objs.size, [s.heap.objs.size], tn, J, H, rfl, I.kept fun b ob e => Heap.get?_push_of_some _ e, T, st, fun b hb => ?_, q⟩
  have e : b = s.heap.objs.size := by simpa using hb
  subst e
  exact I.fpOk (Nat.le_refl _) (I.hok.fresh (Nat.le_refl _))
end

/-- lo, lo + c, .. (n of them) -/
def Itc (lo c : Int) (n : Nat) : It := ⟨fun i _ => i < n, fun i H x H' => H' = H ∧ x = .int (lo + (i : Nat) * c), fun i _ => n ≤ i⟩
theorem turn_rangeC {P : Program} {w : World} {K : PySem.W.Frag} {tg : Expr} (it : Addr) (lo c : Int) (n : Nat) : Turn P w K tg (Itc lo c n) [it] it (fun i h => IsRangeIter h it (lo + (i : Nat) * c) ((n : Int) - (i : Nat)) c) where
  mem := by simp
  obj := fun i h st b hb => by
    have e : b = it := by simpa using hb
    subst e
    exact ⟨_, st, fun v z => nomatch z⟩
  keep := fun i h h' st k => k it (by simp) _ st
  item := by
    intro X hP hw hK hc i pins s σ H E I hf st hg
    subst hP hw hK
    obtain ⟨f0, f1, f2, f3, f4, f5⟩ := hf it (by simp)
    have W := Walks.range (prog := X.prog) (w := X.w) (I.ok.hd hc) it lo c n
    refine W.item i s _ _ hg st fun v h' tk hv st' kk => ?_
    obtain ⟨t, rfl⟩ := hv
    have I1 : Inv X pins σ H { s with heap := h', toks := tk } := I.turned (fun b o hb e => kk b o (by simpa using hb) e) f0 f1 f3 f4 f5
    exact ⟨_, rfl, go_of (s := { s with heap := h', toks := tk }) (n := "range_iterator") st' rfl rfl (by decide) ⟨.int (lo + (i : Nat) * c), H, I1, ⟨t, rfl⟩, ⟨rfl, rfl⟩, st', fun b hb => (hf b hb).1⟩⟩
  done := by
    intro X hP hw hK hc i pins s σ H E I hf st hg
    subst hP hw hK
    obtain ⟨f0, f1, f2, f3, f4, f5⟩ := hf it (by simp)
    exact wpAny_pyNext_range_end (I.ok.hd hc) st (by have : n ≤ i := hg; omega) fun h' eb => ⟨rfl, I.turned (t' := s.toks) (fun b o hb e => eb b o hb e) f0 f1 f3 f4 f5⟩
  self := fun A i s Q E st h => wpAny_pyIter_rangeiter st h
/-- range(i, j, c): small bounds, n items -/
def RgC (i j c : Int) (n : Nat) : Prop := c ≠ 0 ∧ c.natAbs < 1073741824 ∧ Builtin.Range.small i j c = true ∧ Builtin.Range.rangeSize i j c = n
theorem RgC.neg {i j : Int} (ha : -(2 ^ 62) ≤ i) (ha' : i < 2 ^ 62) (hb : -(2 ^ 62) ≤ j) (hb' : j < 2 ^ 62) : RgC i j (-1) (i - j).toNat :=
  ⟨by decide, by decide, PySem.W.small_down ha ha' hb hb', PySem.W.rangeSize_downNat i j⟩
def iRng3 (ta : TA) : TI := fun σ H R => ta σ H fun vs H1 => ∃ (i j c : Int) (n : Nat), vs = [.int i, .int j, .int c] ∧ RgC i j c n ∧ R (Itc i c n) H1
section
variable {X : Cx} {tg : Expr}
theorem pi_range3 {a b c : Expr} {ta : TA} {p pos : Pos} (hg : Gl X "range") (hm : X.mg "range" = none) (ha : PA X [a, b, c] ta)
    (hs : starEach [a, b, c] X.env = (false, eval a X.env) :: starEach [b, c] X.env := by rfl) (hpl : (backTo pos (starEach [b, c] X.env)).any (·.1) = false := by rfl) :
    PI X tg (.Call (.Name "range" p) [a, b, c] [] pos) (iRng3 ta) := by
  intro pins s σ H R I h
  refine Call_ (ld_blt I hg hm boot_range (PyProof.Rows.callWith_type1 (thn (ha pos pins s σ H _ I h) fun us s1 ⟨vs, H1, I1, r1, q1⟩ => ?_) hs hpl))
  obtain ⟨i, j, k, n, e, ⟨c0, c1, c2, c3⟩, q⟩ := q1
  subst e
  cases r1 with
  | cons r rr =>
    cases rr with
    | cons r' rr =>
      cases rr with
      | cons r'' rr =>
        cases rr
        obtain ⟨t, rfl⟩ := r
        obtain ⟨t', rfl⟩ := r'
        obtain ⟨t'', rfl⟩ := r''
        refine call_range_3 c0 ?_ (.inl (PyProof.noPylong_small c1))
        refine wpAny_pyIter_range (IsRange.new ..) c2 ?_
        have I2 : Inv X pins σ H1 { s1 with heap := s1.heap.push { cls := .type "range", data := .fields #[.int i t, .int j t', .int k t''] } } := I1.kept (t' := s1.toks) fun b o e => Heap.get?_push_of_some _ e
        refine pi_one (tk := s1.toks) I2 _ (turn_rangeC _ i k n) ?_ q
        have e1 : i + ((0 : Nat) : Int) * k = i := by simp
        have e2 : (n : Int) - ((0 : Nat) : Int) = Builtin.Range.rangeSize i j k := by rw [c3]; simp
        show IsRangeIter _ _ (i + ((0 : Nat) : Int) * k) ((n : Int) - ((0 : Nat) : Int)) k
        rw [e1, e2]
        exact Heap.get?_push_size _ rfl
end
/-- the turns of a step range, for the for loop -/
theorem for_rangeC {lo c : Int} {n : Nat} {g : TG} {tb : TS} {D : Ends} {σ : St} {H : Hp} (Pv : Nat → St → Hp → Prop) (h0 : Pv 0 σ H)
    (hs : ∀ i σ H, i < n → Pv i σ H → g (.int (lo + (i : Nat) * c)) σ H fun σ2 H2 => tb { D with nx := Pv (i + 1), ct := Pv (i + 1), bk := D.nx } σ2 H2) (hd : ∀ σ H, Pv n σ H → D.nx σ H) :
    ∃ W : Nat → Nat → St → Hp → Prop, (∃ m, W 0 m σ H) ∧ ∀ i m σ H, W i m σ H →
      ((Itc lo c n).stop i H ∧ D.nx σ H) ∨ ((Itc lo c n).go i H ∧ ∃ N : St → Hp → Prop, (∀ σ' H', N σ' H' → ∃ m', m' < m ∧ W (i + 1) m' σ' H') ∧ ∀ x H', (Itc lo c n).yld i H x H' → g x σ H' fun σ2 H2 => tb { D with nx := N, ct := N, bk := D.nx } σ2 H2) := by
  refine ⟨fun i m σ H => m = n - i ∧ i ≤ n ∧ Pv i σ H, ⟨n, by simp, Nat.zero_le _, h0⟩, ?_⟩
  rintro i m σ H ⟨rfl, hi, p⟩
  by_cases hlt : i < n
  · refine .inr ⟨hlt, Pv (i + 1), fun σ' H' p' => ⟨n - (i + 1), by omega, rfl, hlt, p'⟩, fun x H' y => ?_⟩
    obtain ⟨e, y⟩ := y
    subst e y
    exact hs i σ _ hlt p
  · have e : i = n := by omega
    subst e
    exact .inl ⟨Nat.le_refl _, hd σ H p⟩

section
variable {X : Cx} {tg : Expr}
end

section
variable {prog : Program} {w : World} {A : Around} {E : Value → Shared → Prop} {s : Shared}
theorem iter_keys {d : Addr} {o : Obj} {es : Array DictEntry} {ep : Nat} {Q : Value → Shared → Prop} (hd : (d == sysModules) = false) (ho : s.heap.get? d = some o) (hc : o.ExactDict) (hdat : o.data = .dict es ep)
    (hQ : Q (.ref s.heap.objs.size) { s with heap := s.heap.push { cls := .type "dict_keyiterator", data := .fields #[.ref d, .int 0 0, .int es.size 0, .int ep 0] } }) :
    wpAny (model prog w) A (pyIter (.ref d)) Q E s := by
  have hT : s.TypeIs (.ref d) "dict" := ⟨o, ho, hc.1⟩
  refine wpAny_pyIter_slot hT F.slot_dict_iter (wpAny_call_entry F.slot_dict_iter hT F.entry_dict_iter ?_ (F.args_dict_iter_1 _))
  unfold Builtin.«dict.__iter__»
  refine wpAny_bind ?_
  unfold Builtin.Dict.dictSlotNone
  refine wpAny_bind (wpAny_notOrdered_dict hT ?_)
  show wpAny _ _ (pure (Value.ref d)) _ _ s
  refine wpAny_pure ?_
  show wpAny _ _ (Builtin.Dict.showsAll d >>= _) _ _ s
  unfold Builtin.Dict.showsAll
  rw [if_neg (by rw [hd]; exact Bool.false_ne_true)]
  refine wpAny_bind (wpAny_pure ?_)
  refine wpAny_bind (wpAny_dictEntries ho hdat ?_)
  refine wpAny_bind (wpAny_dictEpoch ho hdat ?_)
  refine wpAny_bind (wpAny_newObj_type (wpAny_pure ⟨_, rfl, "dict_keyiterator", _, ⟨_, Heap.get?_push_size _ rfl, rfl⟩, F.slot_dict_keyiterator_next.lookup, ?_⟩))
  simpa [rawInt] using hQ
theorem next_key_item {it d : Addr} {i n ep : Nat} {od : Obj} {es : Array DictEntry} {en : DictEntry} {Q : Option Value → Shared → Prop} (hit : s.heap.IsKeyIter it d i n ep) (hod : s.heap.get? d = some od) (hdd : od.data = .dict es ep)
    (hsz : es.size = n) (hx : es[i]? = some en) (hQ : ∀ h', h'.IsKeyIter it d (i + 1) n ep → Heap.SameBut it s.heap h' → Q (some en.key) { s with heap := h' }) : wpAny (model prog w) A (pyNext (.ref it)) Q E s := by
  obtain ⟨o, ho, hc, hd⟩ := id hit
  unfold pyNext
  refine wpAny_bind (wpAny_attempt (wpAny_callSpecial?_slot (name := Str.ofString "__next__") hit.typeIs F.slot_dict_keyiterator_next
    (wpAny_call_entry F.slot_dict_keyiterator_next hit.typeIs F.entry_dict_keyiterator_next ?_ (F.args_dict_keyiterator_next_1 _))))
  refine wpAny_bind (wpAny_pure ?_)
  refine wpAny_bind ?_
  refine wpAny_bind ?_
  first | refine wpAny_bind (wpAny_typeNameOfWhole_keyiter hit.typeIs (wpAny_pure ?_)) | refine wpAny_bind (wpAny_typeNameOf_keyiter hit.typeIs (wpAny_pure ?_))
  refine wpAny_bind (wpAny_fieldsOf ho hd ?_)
  have hown : Builtin.Dict_items.ownsTuple "dict_keyiterator" = false := by decide
  simp only [hown, Bool.false_eq_true, if_false]
  show wpAny _ _ (if (Value.ref d == Value.none) = true then _ else _) _ _ s
  rw [if_neg (show ¬ ((Value.ref d == Value.none) = true) from Bool.false_ne_true)]
  refine wpAny_bind (wpAny_pure ?_)
  refine wpAny_bind (wpAny_dictEntries hod hdd ?_)
  rw [if_neg (by rw [hsz]; simp)]
  refine wpAny_bind (wpAny_pure ?_)
  refine wpAny_bind (wpAny_dictEpoch hod hdd ?_)
  rw [if_neg (by simp)]
  refine wpAny_pure ?_
  obtain ⟨hlt', hen⟩ := Array.getElem?_eq_some_iff.mp hx
  simp only [show ¬ ((i : Int) < 0) from by omega, if_false, Int.toNat_natCast, Array.getElem?_eq_getElem hlt']
  refine wpAny_bind ?_
  first | refine wpAny_bind (wpAny_typeNameOfWhole_keyiter hit.typeIs (wpAny_pure ?_)) | refine wpAny_bind (wpAny_typeNameOf_keyiter hit.typeIs (wpAny_pure ?_))
  refine wpAny_bind (wpAny_isOneOf_keyiter hit.typeIs ?_)
  show wpAny _ _ (setField (.ref it) 1 (rawInt ((i : Int) + 1)) >>= _) _ _ s
  refine wpAny_bind (wpAny_setField ho hd (by simp) ?_)
  have hit' : (s.heap.update it (Obj.mapFields (·.setIfInBounds 1 (rawInt ((i : Int) + 1))))).IsKeyIter it d (i + 1) n ep :=
    ⟨_, Heap.get?_update_self _ ho (Obj.isFreed_of_fields (Obj.data_mapFields hd _)), (Obj.cls_mapFields ..).trans hc, by rw [Obj.data_mapFields hd]; simp [rawInt]⟩
  refine wpAny_bind (wpAny_holding ?_)
  refine wpAny_bind (wpAny_isOneOf_keyiter (s := { s with heap := s.heap.update it (Obj.mapFields (·.setIfInBounds 1 (rawInt ((i : Int) + 1)))) }) hit'.typeIs ?_)
  show wpAny _ _ (pure es[i].key) _ _ _
  rw [hen]
  exact wpAny_pure (wpAny_pure ⟨_, rfl, wpAny_pure (hQ _ hit' (Heap.SameBut.update ..))⟩)
theorem next_key_end {it d : Addr} {i n ep : Nat} {od : Obj} {es : Array DictEntry} {Q : Option Value → Shared → Prop} (hh : A.handled = none) (hit : s.heap.IsKeyIter it d i n ep) (hod : s.heap.get? d = some od) (hdd : od.data = .dict es ep)
    (hsz : es.size = n) (hge : n ≤ i) (hQ : ∀ h', Heap.ExtBut it s.heap h' → Q none { s with heap := h' }) : wpAny (model prog w) A (pyNext (.ref it)) Q E s := by
  obtain ⟨o, ho, hc, hd⟩ := id hit
  unfold pyNext
  refine wpAny_bind (wpAny_attempt (wpAny_callSpecial?_slot (name := Str.ofString "__next__") hit.typeIs F.slot_dict_keyiterator_next
    (wpAny_call_entry F.slot_dict_keyiterator_next hit.typeIs F.entry_dict_keyiterator_next ?_ (F.args_dict_keyiterator_next_1 _))))
  refine wpAny_bind (wpAny_pure ?_)
  refine wpAny_bind ?_
  refine wpAny_bind ?_
  first | refine wpAny_bind (wpAny_typeNameOfWhole_keyiter hit.typeIs (wpAny_pure ?_)) | refine wpAny_bind (wpAny_typeNameOf_keyiter hit.typeIs (wpAny_pure ?_))
  refine wpAny_bind (wpAny_fieldsOf ho hd ?_)
  have hown : Builtin.Dict_items.ownsTuple "dict_keyiterator" = false := by decide
  simp only [hown, Bool.false_eq_true, if_false]
  show wpAny _ _ (if (Value.ref d == Value.none) = true then _ else _) _ _ s
  rw [if_neg (show ¬ ((Value.ref d == Value.none) = true) from Bool.false_ne_true)]
  refine wpAny_bind (wpAny_pure ?_)
  refine wpAny_bind (wpAny_dictEntries hod hdd ?_)
  rw [if_neg (by rw [hsz]; simp)]
  refine wpAny_bind (wpAny_pure ?_)
  refine wpAny_bind (wpAny_dictEpoch hod hdd ?_)
  rw [if_neg (by simp)]
  refine wpAny_pure ?_
  have hge' : es.size ≤ i := by rw [hsz]; exact hge
  simp only [show ¬ ((i : Int) < 0) from by omega, if_false, Int.toNat_natCast, Array.getElem?_eq_none hge']
  refine wpAny_bind ?_
  first | refine wpAny_bind (wpAny_typeNameOfWhole_keyiter hit.typeIs (wpAny_pure ?_)) | refine wpAny_bind (wpAny_typeNameOf_keyiter hit.typeIs (wpAny_pure ?_))
  show wpAny _ _ (setField (.ref it) 0 .none >>= _) _ _ s
  refine wpAny_bind (wpAny_setField ho hd (by simp) ?_)
  show wpAny _ _ (newExc (.type "StopIteration") [] >>= _) _ _ _
  refine wpAny_bind ?_
  simp only [newExc, newTuple]
  refine wpAny_bind (wpAny_newObj_type ?_ (by size_fits))
  refine wpAny_bind (m := firstArgMember _ _) (wpAny_of_eq (a := Value.none) (by first | rfl | (simp only [firstArgMember]; rfl)) ?_)
  refine wpAny_newObj_type ?_ (by size_fits)
  simp only [raiseNew]
  refine wpAny_bind (wpAny_handled ?_)
  rw [show A.in1.handled = none from hh]
  refine wpAny_bind (wpAny_pure (wpAny_throw ?_))
  refine wpAny_bind (wpAny_isInstance (T := "StopIteration") (b := true) ⟨_, Heap.get?_push_size _ rfl, rfl⟩ isSubtype_stop ?_)
  exact wpAny_pure (hQ _ (((Heap.SameBut.update ..).extBut.push _).push _))
end

theorem kv_get {κ : Type} {kvs : List (κ × V)} {vs : List (κ × Value)} (h : KV kvs vs) : ∀ {i : Nat} {k : κ} {v : V}, kvs[i]? = some (k, v) → ∃ u, vs[i]? = some (k, u) ∧ RelV v u := by
  unfold KV at h
  induction h with
  | nil => intro i k v e; simp at e
  | @cons a b l₁ l₂ r t ih =>
    intro i k v e
    cases i with
    | zero =>
      simp only [List.getElem?_cons_zero, Option.some.injEq] at e
      subst e
      refine ⟨b.2, ?_, r.2⟩
      simp only [List.getElem?_cons_zero]
      exact congrArg some (Prod.ext r.1.symm rfl)
    | succ j =>
      simp only [List.getElem?_cons_succ] at e ⊢
      exact ih e
theorem paired_get {α β : Type} {G : α → β → Prop} {l₁ : List α} {l₂ : List β} (h : Paired G l₁ l₂) : ∀ {i : Nat} {a : α}, l₁[i]? = some a → ∃ b, l₂[i]? = some b ∧ G a b := by
  induction h with
  | nil => intro i a e; simp at e
  | @cons a b l₁ l₂ r t ih =>
    intro i a' e
    cases i with
    | zero =>
      simp only [List.getElem?_cons_zero, Option.some.injEq] at e
      subst e
      exact ⟨b, rfl, r⟩
    | succ j =>
      simp only [List.getElem?_cons_succ] at e ⊢
      exact ih e
theorem relV_key {k : Key} {u : Value} (h : keyIs k u = true) : RelV (kV k) u := by
  rcases keyIs_shape h with ⟨i, t, rfl, rfl⟩ | ⟨x, t, rfl, rfl⟩
  · exact ⟨t, rfl⟩
  · exact ⟨t, rfl⟩
section
variable {X : Cx} {pins : List (Addr × Obj)} {σ : St} {H : Hp} {s : Shared} {d : Addr} {o : Obj}
theorem Inv.frzK {kvs : List (Key × V)} (I : Inv X pins σ H s) (h : H d = some (.frz o (.dK kvs))) :
    (d == sysModules) = false ∧ s.heap.get? d = some o ∧ o.ExactDict ∧ ∃ (es : Array DictEntry) (ep : Nat) (vs : List (Key × Value)), o.data = .dict es ep ∧ es.size = kvs.length ∧ KV kvs vs ∧ s.heap.DictAt (mixKind X.prog X.w) d vs ep := by
  obtain ⟨hd, z, hs, vs, kv, o', es, ep, ho, hx, hdt, r⟩ := I.hok d _ h
  rw [hd] at ho
  cases ho
  refine ⟨hs, hd, hx, es, ep, vs, hdt, ?_, kv, o, es, hd, hx, hdt, r⟩
  have l1 := r.2.1.length
  have l2 : kvs.length = vs.length := Paired.length kv
  rw [Array.length_toList] at l1
  omega
/-- the same for tuple keys -/
theorem Inv.frzT {kvs : List (List Key × V)} (I : Inv X pins σ H s) (h : H d = some (.frz o (.dT kvs))) :
    (d == sysModules) = false ∧ s.heap.get? d = some o ∧ o.ExactDict ∧ ∃ (es : Array DictEntry) (ep : Nat), o.data = .dict es ep ∧ es.size = kvs.length ∧
      ∀ (i : Nat) (k : List Key) (v : V), kvs[i]? = some (k, v) → ∃ (en : DictEntry) (q : Addr), es[i]? = some en ∧ en.key = .ref q ∧ H q = some (.tup (k.map kV)) := by
  obtain ⟨hd, z, hs, xs, pr, o', es, ep, ho, hx, hdt, he, _⟩ := I.hok d _ h
  rw [hd] at ho
  cases ho
  refine ⟨hs, hd, hx, es, ep, hdt, ?_, fun i k v e => ?_⟩
  · have l1 : es.size = xs.length := size_of_entries he
    have l2 : kvs.length = xs.length := Paired.length pr
    omega
  · obtain ⟨b, hb, e1, e2, _⟩ := paired_get pr e
    have q := entry_at he i
    rw [hb] at q
    exact ⟨_, b.2.1, q, rfl, e2⟩
end

/-- the keys of the locked dict at d, in their order -/
def Itk (d : Addr) (o : Obj) (kvs : List (Key × V)) : It :=
  ⟨fun i H => H d = some (.frz o (.dK kvs)) ∧ i < kvs.length, fun i H x H' => H' = H ∧ ∃ k v, kvs[i]? = some (k, v) ∧ x = kV k, fun i H => H d = some (.frz o (.dK kvs)) ∧ kvs.length ≤ i⟩
/-- .. of tuple keys: the key's own tuple -/
def Itkt (d : Addr) (o : Obj) (kvs : List (List Key × V)) : It :=
  ⟨fun i H => H d = some (.frz o (.dT kvs)) ∧ i < kvs.length, fun i H x H' => H' = H ∧ ∃ (k : List Key) (v : V) (q : Addr), kvs[i]? = some (k, v) ∧ x = .ref q ∧ H q = some (.tup (k.map kV)), fun i H => H d = some (.frz o (.dT kvs)) ∧ kvs.length ≤ i⟩
theorem dict_ep {o : Obj} {es es' : Array DictEntry} {ep ep' : Nat} (h : o.data = .dict es ep) (h' : o.data = .dict es' ep') : es' = es ∧ ep' = ep := by
  rw [h] at h'
  cases h'
  exact ⟨rfl, rfl⟩
section
variable {P : Program} {w : World} {K : PySem.W.Frag} {tg : Expr} {d : Addr} {o : Obj} {es : Array DictEntry} {ep : Nat}
theorem turn_keys {kvs : List (Key × V)} (it : Addr) (hod : o.data = .dict es ep) : Turn P w K tg (Itk d o kvs) [it] it (fun i h => h.IsKeyIter it d i kvs.length ep) where
  mem := by simp
  obj := fun i h st b hb => by
    have e : b = it := by simpa using hb
    subst e
    obtain ⟨oi, e, c, dd⟩ := st
    exact ⟨oi, e, fun v z => by rw [dd] at z; cases z⟩
  keep := fun i h h' st k => st.at fun oi e => k it (by simp) oi e
  item := by
    intro X hP hw hK hc i pins s σ H E I hf st hg
    subst hP hw hK
    obtain ⟨hd, hi⟩ := hg
    obtain ⟨f0, f1, f2, f3, f4, f5⟩ := hf it (by simp)
    obtain ⟨hs, hgd, hx, es', ep', vs, hdt, hsz, kv, hm⟩ := I.frzK hd
    obtain ⟨rfl, rfl⟩ := dict_ep hod hdt
    obtain ⟨⟨k, v⟩, hkv⟩ : ∃ p, kvs[i]? = some p := ⟨kvs[i], List.getElem?_eq_getElem hi⟩
    obtain ⟨u, hu, ru⟩ := kv_get kv hkv
    have hl : kvs.length = vs.length := Paired.length kv
    rw [hl] at st
    refine wpAny_pyNext_dict_item st hm hu fun key h' hkey st' sb => ?_
    have I1 : Inv X pins σ H { s with heap := h' } := I.turned (t' := s.toks) (fun b ob hb e => (sb.2 b hb).trans e) f0 f1 f3 f4 f5
    obtain ⟨oi, e, c, dd⟩ := id st'
    refine ⟨key, rfl, go_of (s := { s with heap := h' }) e c dd (by decide) ⟨kV k, H, I1, relV_key (show keyIs k key = true from hkey), ⟨rfl, k, v, hkv, rfl⟩, ?_, fun b hb => (hf b hb).1⟩⟩
    show h'.IsKeyIter it d (i + 1) kvs.length _
    rw [hl]
    exact st'
  done := by
    intro X hP hw hK hc i pins s σ H E I hf st hg
    subst hP hw hK
    obtain ⟨hd, hi⟩ := hg
    obtain ⟨f0, f1, f2, f3, f4, f5⟩ := hf it (by simp)
    obtain ⟨hs, hgd, hx, es', ep', vs, hdt, hsz, kv, hm⟩ := I.frzK hd
    obtain ⟨rfl, rfl⟩ := dict_ep hod hdt
    exact next_key_end (I.ok.hd hc) st hgd hdt hsz hi fun h' eb => ⟨rfl, I.turned (t' := s.toks) (fun b ob hb e => eb b ob hb e) f0 f1 f3 f4 f5⟩
  self := fun A i s Q E st h => wpAny_pyIter_keyiter st h
theorem turn_keysT {kvs : List (List Key × V)} (it : Addr) (hod : o.data = .dict es ep) : Turn P w K tg (Itkt d o kvs) [it] it (fun i h => h.IsKeyIter it d i kvs.length ep) where
  mem := by simp
  obj := fun i h st b hb => by
    have e : b = it := by simpa using hb
    subst e
    obtain ⟨oi, e, c, dd⟩ := st
    exact ⟨oi, e, fun v z => by rw [dd] at z; cases z⟩
  keep := fun i h h' st k => st.at fun oi e => k it (by simp) oi e
  item := by
    intro X hP hw hK hc i pins s σ H E I hf st hg
    subst hP hw hK
    obtain ⟨hd, hi⟩ := hg
    obtain ⟨f0, f1, f2, f3, f4, f5⟩ := hf it (by simp)
    obtain ⟨hs, hgd, hx, es', ep', hdt, hsz, ent⟩ := I.frzT hd
    obtain ⟨rfl, rfl⟩ := dict_ep hod hdt
    obtain ⟨⟨k, v⟩, hkv⟩ : ∃ p, kvs[i]? = some p := ⟨kvs[i], List.getElem?_eq_getElem hi⟩
    obtain ⟨en, q, hen, hkey, hq⟩ := ent i k v hkv
    refine next_key_item st hgd hdt hsz hen fun h' st' sb => ?_
    have I1 : Inv X pins σ H { s with heap := h' } := I.turned (t' := s.toks) (fun b ob hb e => (sb.2 b hb).trans e) f0 f1 f3 f4 f5
    obtain ⟨oi, e, c, dd⟩ := id st'
    exact ⟨en.key, rfl, go_of (s := { s with heap := h' }) e c dd (by decide) ⟨.ref q, H, I1, hkey, ⟨rfl, k, v, q, hkv, rfl, hq⟩, st', fun b hb => (hf b hb).1⟩⟩
  done := by
    intro X hP hw hK hc i pins s σ H E I hf st hg
    subst hP hw hK
    obtain ⟨hd, hi⟩ := hg
    obtain ⟨f0, f1, f2, f3, f4, f5⟩ := hf it (by simp)
    obtain ⟨hs, hgd, hx, es', ep', hdt, hsz, ent⟩ := I.frzT hd
    obtain ⟨rfl, rfl⟩ := dict_ep hod hdt
    exact next_key_end (I.ok.hd hc) st hgd hdt hsz hi fun h' eb => ⟨rfl, I.turned (t' := s.toks) (fun b ob hb e => eb b ob hb e) f0 f1 f3 f4 f5⟩
  self := fun A i s Q E st h => by
    refine wpAny_pyIter_slot st.typeIs F.slot_dict_keyiterator_iter (wpAny_call_entry F.slot_dict_keyiterator_iter st.typeIs F.entry_dict_keyiterator_iter ?_ (F.args_dict_keyiterator_iter_1 _))
    show wpAny _ _ (ret (.ref it)) _ _ s
    exact wpAny_pure ⟨_, rfl, "dict_keyiterator", _, st.typeIs, F.slot_dict_keyiterator_next.lookup, h⟩
end

/-- the dict is locked (tLock, or by the caller) -/
def iKeys (td : TE) : TI := fun σ H R => td σ H fun x H1 => ∃ d o, x = .ref d ∧ ((∃ kvs, H1 d = some (.frz o (.dK kvs)) ∧ R (Itk d o kvs) H1) ∨ ∃ kvs, H1 d = some (.frz o (.dT kvs)) ∧ R (Itkt d o kvs) H1)
section
variable {X : Cx} {tg e : Expr} {td : TE} {apos cpos : Pos}
theorem pi_keys (he : PE X e td) : PI X tg e (iKeys td) := by
  intro pins s σ H R I h
  refine thn (he pins s σ H _ I h) fun u s1 ⟨x, H1, I1, rx, d, o, ex, q⟩ => ?_
  subst ex
  obtain rfl : u = Value.ref d := rx
  rcases q with ⟨kvs, hd, q⟩ | ⟨kvs, hd, q⟩
  · obtain ⟨hs, hgd, hx, es, ep, vs, hdt, hsz, kv, hm⟩ := I1.frzK hd
    refine iter_keys hs hgd hx hdt (pi_one (tk := s1.toks) I1 _ (turn_keys _ hdt) ⟨_, Heap.get?_push_size _ rfl, rfl, ?_⟩ q)
    rw [hsz] <;> rfl
  · obtain ⟨hs, hgd, hx, es, ep, hdt, hsz, ent⟩ := I1.frzT hd
    refine iter_keys hs hgd hx hdt (pi_one (tk := s1.toks) I1 _ (turn_keysT _ hdt) ⟨_, Heap.get?_push_size _ rfl, rfl, ?_⟩ q)
    rw [hsz] <;> rfl
end

theorem boot_zip5 : bootBuiltins "zip" = some (.type "zip") := by decide +kernel
/-- the lists at a and b as they stand at each turn, the items in new pairs -/
def Itz (K : PySem.W.Frag) (a b : Addr) : It :=
  ⟨fun i H => ∃ (xs ys : List V) (x y : V), SqL K H a xs ∧ SqL K H b ys ∧ xs[i]? = some x ∧ ys[i]? = some y,
    fun i H v H' => ∃ T x y, v = .ref T ∧ H T = none ∧ H' = upd H T (.tup [x, y]) ∧ (∀ xs, SqL K H a xs → xs[i]? = some x) ∧ ∀ ys, SqL K H b ys → ys[i]? = some y,
    fun i H => ∃ xs ys : List V, SqL K H a xs ∧ SqL K H b ys ∧ (xs.length ≤ i ∨ ys.length ≤ i)⟩
theorem turn_zip {P : Program} {w : World} {K : PySem.W.Frag} {elts : List Expr} {kk : Nat} {tpos : Pos} {a b z TI TO i1 i2 : Addr} (D : ZipApart z TI TO i1 i2 a b) :
    Turn P w K (.Tuple elts kk tpos) (Itz K a b) [z, TI, TO, i1, i2] z (fun i h => IsZip h z TI TO .none ∧ IsPair h TI (.ref i1) (.ref i2) ∧ (∃ x y, IsPair h TO x y) ∧ h.IsListIter i1 a i ∧ h.IsListIter i2 b i) where
  mem := by simp
  obj := fun i h st c hc => by
    obtain ⟨hz, hTI, ⟨x, y, hTO⟩, ⟨o1, e1, _, d1⟩, ⟨o2, e2, _, d2⟩⟩ := st
    have e' : c = z ∨ c = TI ∨ c = TO ∨ c = i1 ∨ c = i2 := by simpa using hc
    rcases e' with q | q | q | q | q
    · rw [q]; exact ⟨_, hz, fun v q => nomatch q⟩
    · rw [q]; exact ⟨_, hTI, fun v q => nomatch q⟩
    · rw [q]; exact ⟨_, hTO, fun v q => nomatch q⟩
    · rw [q]; exact ⟨o1, e1, fun v q => by rw [d1] at q; cases q⟩
    · rw [q]; exact ⟨o2, e2, fun v q => by rw [d2] at q; cases q⟩
  keep := fun i h h' st k => by
    obtain ⟨hz, hTI, ⟨x, y, hTO⟩, h1, h2⟩ := st
    exact ⟨k z (by simp) _ hz, k TI (by simp) _ hTI, ⟨x, y, k TO (by simp) _ hTO⟩, h1.at fun o q => k i1 (by simp) o q, h2.at fun o q => k i2 (by simp) o q⟩
  item := by
    intro X hP hw hK hc i pins s σ H E I hf st hg
    subst hP hw hK
    obtain ⟨hz, hTI, ⟨x0, y0, hTO⟩, h1, h2⟩ := st
    obtain ⟨xs, ys, x, y, hqx, hqy, hx, hy⟩ := hg
    obtain ⟨its, rv, p, _⟩ := I.list hqx
    obtain ⟨its2, rv2, p2, _⟩ := I.list hqy
    obtain ⟨u, hu, ru⟩ := rv.get hx
    obtain ⟨u2, hu2, ru2⟩ := rv2.get hy
    have hzl : z < s.heap.objs.size := Heap.lt_size hz
    refine wpAny_pyNext_zip_item D hz hTI hTO h1 h2 p.isList p2.isList (x := u) (y := u2) (by simpa using hu) (by simpa using hu2) fun h' z' TO' h1' h2' hT hsz hk => ?_
    refine ⟨_, rfl, wpAny_letOwnedTupleGo_zip (s := { s with heap := h' }) z' fun h'' z'' sb => ?_⟩
    have hT2 : h''.get? s.heap.objs.size = some { cls := .type "tuple", data := .seq #[u, u2] } := (sb.2 _ (Nat.ne_of_gt hzl)).trans hT
    have new : ObjOk X.prog X.w (upd H s.heap.objs.size (.tup [x, y])) h'' s.heap.objs.size (.tup [x, y]) :=
      ⟨by show 2 ≤ sizeLine; decide, [u, u2], .cons ru (.cons ru2 .nil), ⟨_, hT2, rfl, _, rfl⟩⟩
    have I1 : Inv X pins σ (upd H s.heap.objs.size (.tup [x, y])) { s with heap := h'' } :=
      I.turnedNew (t' := s.toks) (ch := [z, TI, TO, i1, i2]) (fun c o hb q => (sb.2 c (fun q' => hb (by simp [q']))).trans (hk c o (fun q' => hb (by simp [q'])) (fun q' => hb (by simp [q'])) (fun q' => hb (by simp [q'])) (fun q' => hb (by simp [q'])) q)) hf (Nat.le_refl _) new
    refine ⟨.ref s.heap.objs.size, _, I1, rfl, ⟨_, x, y, rfl, I.hok.fresh (Nat.le_refl _), rfl, fun l hl => by rw [I.list_inj hl hqx]; exact hx, fun l hl => by rw [I.list_inj hl hqy]; exact hy⟩, ⟨z'', ?_, ⟨u, u2, ?_⟩, ?_, ?_⟩, fun c hcm => ?_⟩
    · exact (sb.2 _ D.TIz).trans (hk _ _ D.TIz D.TITO D.TIi1 D.TIi2 hTI)
    · exact (sb.2 _ D.TOz).trans TO'
    · exact h1'.at fun o q => (sb.2 _ D.i1z).trans q
    · exact h2'.at fun o q => (sb.2 _ D.i2z).trans q
    · have hlt : c < s.heap.objs.size := by
        have e' : c = z ∨ c = TI ∨ c = TO ∨ c = i1 ∨ c = i2 := by simpa using hcm
        rcases e' with q | q | q | q | q
        · rw [q]; exact hzl
        · rw [q]; exact Heap.lt_size hTI
        · rw [q]; exact Heap.lt_size hTO
        · rw [q]; obtain ⟨_, e1, _⟩ := h1; exact Heap.lt_size e1
        · rw [q]; obtain ⟨_, e2, _⟩ := h2; exact Heap.lt_size e2
      rw [upd_ne (Nat.ne_of_lt hlt)]
      exact (hf c hcm).1
  done := by
    intro X hP hw hK hc i pins s σ H E I hf st hg
    subst hP hw hK
    obtain ⟨hz, hTI, ⟨x0, y0, hTO⟩, h1, h2⟩ := st
    obtain ⟨xs, ys, hqx, hqy, hend⟩ := hg
    obtain ⟨its, rv, p, _⟩ := I.list hqx
    obtain ⟨its2, rv2, p2, _⟩ := I.list hqy
    have l1 := rv.length
    have l2 := rv2.length
    have he : its.toArray[i]? = none ∨ its2.toArray[i]? = none := by
      rcases hend with q | q
      · exact .inl (by simp; omega)
      · exact .inr (by simp; omega)
    exact wpAny_pyNext_zip_end (I.ok.hd hc) D hz hTI hTO h1 h2 p.isList p2.isList he fun h' hk => ⟨rfl, I.turnedL (t' := s.toks) (ch := [z, TI, TO, i1, i2]) (fun c o hb q =>
      hk c o (fun q' => hb (by simp [q'])) (fun q' => hb (by simp [q'])) (fun q' => hb (by simp [q'])) (fun q' => hb (by simp [q'])) q) hf⟩
  self := fun A i s Q E st h => wpAny_pyIter_zip st.1 h
def iZip (K : PySem.W.Frag) (ta : TA) : TI := fun σ H R => ta σ H fun vs H1 => ∃ a b xs ys, vs = [.ref a, .ref b] ∧ SqL K H1 a xs ∧ SqL K H1 b ys ∧ R (Itz K a b) H1
theorem pi_zip {X : Cx} {e e2 : Expr} {ta : TA} {p pos tpos : Pos} {elts : List Expr} {kk : Nat} (hg : Gl X "zip") (hm : X.mg "zip" = none) (ha : PA X [e, e2] ta)
    (hs : starEach [e, e2] X.env = (false, eval e X.env) :: starEach [e2] X.env := by rfl) (hpl : (backTo pos (starEach [e2] X.env)).any (·.1) = false := by rfl) :
    PI X (.Tuple elts kk tpos) (.Call (.Name "zip" p) [e, e2] [] pos) (iZip X.K ta) := by
  intro pins s σ H R I h
  refine Call_ (ld_blt I hg hm boot_zip5 (PyProof.Rows.callWith_type1 (thn (ha pos pins s σ H _ I h) fun us s1 ⟨vs, H1, I1, r1, q1⟩ => ?_) hs hpl))
  obtain ⟨a, b, xs, ys, ex, hqx, hqy, q⟩ := q1
  subst ex
  cases r1 with
  | cons r rr =>
    cases rr with
    | cons r' rr =>
      cases rr
      cases r
      cases r'
      obtain ⟨its, rv, p1, _⟩ := I1.list hqx
      obtain ⟨its2, rv2, p2, _⟩ := I1.list hqy
      have la : a < s1.heap.objs.size := p1.lt
      have lb : b < s1.heap.objs.size := p2.lt
      refine call_zip_2 p1.isList p2.isList fun h' hz hTI hTO h1 h2 hsz hk => wpAny_pyIter_zip hz ?_
      have I2 : Inv X pins σ H1 { s1 with heap := h' } := I1.kept (t' := s1.toks) hk
      refine ⟨s1.heap.objs.size + 4, [s1.heap.objs.size + 4, s1.heap.objs.size + 2, s1.heap.objs.size + 3, s1.heap.objs.size, s1.heap.objs.size + 1], _, _, H1, rfl, I2, turn_zip (PySem.W.ktu_apart s1.heap.objs.size a b la lb), ⟨hz, hTI, ⟨_, _, hTO⟩, h1, h2⟩, fun c hcm => ?_, q⟩
      have e' : c = s1.heap.objs.size + 4 ∨ c = s1.heap.objs.size + 2 ∨ c = s1.heap.objs.size + 3 ∨ c = s1.heap.objs.size ∨ c = s1.heap.objs.size + 1 := by simpa using hcm
      have hle : s1.heap.objs.size ≤ c := by
        rcases e' with z | z | z | z | z
        · rw [z]; exact Nat.le_add_right _ _
        · rw [z]; exact Nat.le_add_right _ _
        · rw [z]; exact Nat.le_add_right _ _
        · rw [z]; exact Nat.le_refl _
        · rw [z]; exact Nat.le_add_right _ _
      exact I1.fpOk hle (I1.hok.fresh hle)
end L2

section 
namespace Bits
open PySem PyProof.Rows

theorem bitOr_pp {x y : Int} (hx : 0 ≤ x) (hy : 0 ≤ y) : Builtin.bitOr x y = ((x.toNat ||| y.toNat : Nat) : Int) := by
  have e := nat_or_add_and x.toNat y.toNat
  rw [bitOr_and, bitAnd_pp hx hy]
  omega

end Bits
end 

section 
namespace TL
open PySem PySem.Builtin PySem.Builtin.Str PySem.StrLaws

abbrev tl (x : Str) : List Nat := x.cps.toList

/-- S stands at the head of l -/
def pre (S l : List Nat) : Bool := l.take S.length == S
/-- what stands before the first S, and behind it -/
def par (S : List Nat) : List Nat → List Nat → Option (List Nat × List Nat)
  | _, [] => none
  | acc, c :: r => if pre S (c :: r) = true then some (acc, (c :: r).drop S.length) else par S (acc ++ [c]) r

end TL
end 

namespace L2
open PySem PySem.Spec PyProof.Rows

section
variable {X : Cx} {pins : List (Addr × Obj)} {σ : St} {H : Hp} {s : Shared} {Q : VK}
end

section
variable {X : Cx}

end

section
variable {X : Cx} {o e : Expr} {to te : TE}

end
end L2

namespace L2
open PySem PySem.Spec PyProof.Rows

section
variable {X : Cx}
end

theorem IsPart.raw {v : Value} {o : Option Int} (p : IsPart v o) : ∃ l : Option (Int × Tok), v = partValue l ∧ l.map (·.1) = o := by
  cases p with
  | none => exact ⟨none, rfl, rfl⟩
  | int i t => exact ⟨some (i, t), rfl, rfl⟩

end L2

namespace Att
open PySem PySem.W PySem.Calls PyProof.Rows

section
variable {prog : Program} {w : World} {A : Around} {E : Value → Shared → Prop} {s : Shared} {K : Frag}

end
end Att

namespace L2
open PySem PySem.Spec PyProof.Rows

end L2

namespace L2
open PySem PySem.Spec PyProof.Rows

end L2

namespace L2
open PySem PySem.Spec PyProof.Rows

def defArgs (s : Stmt) : Arguments := match s with
  | .FunctionDef _ a _ _ _ _ _ _ _ _ => a
  | _ => { posonlyargs := [], args := [], vararg := none, kwonlyargs := [], kw_defaults := [], kwarg := none, defaults := [] }
def defBody (s : Stmt) : List Stmt := match s with
  | .FunctionDef _ _ b _ _ _ _ _ _ _ => b
  | _ => []
def defScope (s : Stmt) : Scope := match s with
  | .FunctionDef _ _ _ _ _ _ sc _ _ _ => sc
  | _ => { kind := .function, names := [], isGenerator := false, isCoroutine := false }

abbrev CX0 : CXT := fun _ _ _ _ _ _ => False
abbrev E0 : XK := fun _ _ _ => False
theorem pass0 {X : Cx} : Passes CX0 X E0 := fun _ _ _ _ _ _ _ h => h.elim

structure Fun (K : PySem.W.Frag) (x qual : Str) (st : Stmt) (f : Addr) (fd : FuncData) : Prop where
  ex : ∃ (oc : Value) (od : Option Addr) (kV doc pm : Value) (an : Option Addr) (cdv ct : Value) (osl : Array (Option Value)),
    fd = PySem.W.fnOf x qual (defArgs st) (defBody st) (defScope st) .none kV doc pm an cdv ct ∧ K.lookup f = some ⟨oc, od, .func fd, osl⟩ ∧ PySem.W.codeIn K cdv qual = true
  kp : PySem.W.keepIn K (.ref f) = true
section
variable {P : Program} {w : World} {K : PySem.W.Frag} {mg : Str → Option Value} {base : Heap}
/-- THE RULE for a def: its body as a term of rules, and the reading of that term -/
theorem Fun.ok {x qual : Str} {st : Stmt} {f : Addr} {fd : FuncData} {N ps : List Str} {k : Nat} {sp : Sp} (F : Fun K x qual st f fd) (S : FnScope N ps (defScope st)) (len : ∀ vs H Q E, sp vs H Q E → vs.length = ps.length)
    (hbody : ∀ (cdv : Value) (A : Around) (outer : List Env) (s : Shared) (H : Hp) (vs : List V) (Q : VK) (E : XK), Room k (A.deeper (envOfC qual (defScope st) s.heap.objs.size f cdv)) → sp vs H Q E →
      ∃ t, PSs (cxOf CX0 P w K mg base N qual (defScope st) f cdv A outer s H E).nox (defBody st) t ∧ t { nx := fun _ H' => Q .non H', rt := Q } (start N vs) H) : FnOk P w K mg base CX0 (k + 1) f fd ps sp := by
  obtain ⟨oc, od, kV, doc, pm, an, cdv, ct, osl, rfl, lk, hcd⟩ := F.ex
  refine fn_of lk hcd S len fun A outer s H vs Q E hr hsp => ?_
  obtain ⟨t, h, q⟩ := hbody cdv A outer s H vs Q E hr hsp
  exact ⟨t, h.nox, q⟩
/-- how its arguments bind (no defaults): h is «fun _ _ _ _ _ _ us hl => match us, hl with | [_, _], _ => rfl», one _ a parameter -/
theorem Fun.binds {x qual : Str} {st : Stmt} {f : Addr} {fd : FuncData} {ps : List Str} (F : Fun K x qual st f fd)
    (h : ∀ (kV doc pm : Value) (an : Option Addr) (cdv ct : Value) (us : List Value), us.length = ps.length → bindArgs (PySem.W.fnOf x qual (defArgs st) (defBody st) (defScope st) .none kV doc pm an cdv ct) ⟨us, []⟩ = pure (ps.zip us)) : Binds K fd ps [] := by
  obtain ⟨oc, od, kV, doc, pm, an, cdv, ct, osl, rfl, lk, hcd⟩ := F.ex
  exact .all (h kV doc pm an cdv ct)
theorem fun_mk {x qual : Str} {st : Stmt} {f : Addr} {oc : Value} {od an : Option Addr} {osl : Array (Option Value)} {kV doc pm cdv ct : Value} (l : K.lookup f = some ⟨oc, od, .func (PySem.W.fnOf x qual (defArgs st) (defBody st) (defScope st) .none kV doc pm an cdv ct), osl⟩)
    (c : PySem.W.codeIn K cdv qual = true) (k : PySem.W.keepIn K (.ref f) = true) : Fun K x qual st f (PySem.W.fnOf x qual (defArgs st) (defBody st) (defScope st) .none kV doc pm an cdv ct) := ⟨⟨oc, od, kV, doc, pm, an, cdv, ct, osl, rfl, l, c⟩, k⟩
end
theorem hu_of {A : Around} {k : Nat} (hr : Room k A) : A.units + 1 < cLine := Nat.lt_of_le_of_lt (Nat.add_le_add_left (by decide : 1 ≤ 64) _) hr.units
theorem small1000 {n : Nat} (h : n ≤ 1000) : n < sizeLine := Nat.lt_of_le_of_lt h (by decide)

section
variable {X : Cx}
theorem pv (i : Nat) {x : Str} {pos : Pos} (hN : X.N[i]? = some x := by rfl) (hv : Vis X.env.scope x := by first | exact Or.inl rfl | exact Or.inr (Or.inl rfl) | exact Or.inr (Or.inr rfl)) (hd : (x == ("__debug__" : Str)) = false := by decide)
    (hcd : (x == ("__classdict__" : Str)) = false := by decide) : PE X (.Name x pos) (tVar i) := pe_var hN hv hd hcd
/-- len of a dict -/
theorem call_lenD : CallR X (.builtin "len") (fun xs H Q => ∃ a kvs, xs = [V.ref a] ∧ H a = some (.dK kvs) ∧ Q (.int kvs.length) H) := by
  intro pins s σ H xs us Q I r h
  obtain ⟨a, kvs, rfl, ha, q⟩ := h
  obtain ⟨u, rfl, ru⟩ := vals1 r
  cases ru
  exact d_len I (.inl ha) fun t s' I' => ⟨.int kvs.length, H, I', ⟨t, rfl⟩, q⟩
end

theorem ite2 {c A B : Prop} [Decidable c] (h1 : c → A) (h2 : ¬ c → B) : if c then A else B := by
  by_cases h : c
  · rw [if_pos h]
    exact h1 h
  · rw [if_neg h]
    exact h2 h

/-- all that was tracked is as it was -/
def Same (H H' : Hp) : Prop := ∀ b o, H b = some o → H' b = some o
theorem Same.refl (H : Hp) : Same H H := fun _ _ h => h
theorem Same.trans {H H1 H2 : Hp} (a : Same H H1) (b : Same H1 H2) : Same H H2 := fun c o h => b c o (a c o h)
theorem Same.free {H H' : Hp} (e : Same H H') {l : Addr} (h : H' l = Option.none) : H l = Option.none := by
  cases q : H l with
  | none => rfl
  | some o =>
    rw [e l o q] at h
    cases h
theorem Same.seq {K : PySem.W.Frag} {H H' : Hp} {a : Addr} {xs : List V} (e : Same H H') (h : SqL K H a xs) : SqL K H' a xs := by
  rcases h with (h | ⟨o, h⟩) | h
  · exact .inl (.inl (e _ _ h))
  · exact .inl (.inr ⟨o, e _ _ h⟩)
  · exact .inr h

section
variable {κ : Type} [DecidableEq κ]
theorem nd_snoc : ∀ {l : List κ} {k : κ}, l.Nodup → ¬ k ∈ l → (l ++ [k]).Nodup
  | [], k, _, _ => by simp
  | a :: r, k, h, hk => by
    obtain ⟨h1, h2⟩ := List.nodup_cons.mp h
    show (a :: (r ++ [k])).Nodup
    refine List.nodup_cons.mpr ⟨fun m => ?_, nd_snoc h2 fun m => hk (List.mem_cons.mpr (Or.inr m))⟩
    rcases List.mem_append.mp m with q | q
    · exact h1 q
    · exact hk (List.mem_cons.mpr (Or.inl (List.mem_singleton.mp q).symm))
end
theorem at_of {xs : List V} {z : Int} {j : Nat} {v : V} (e : z = (j : Int)) (h : xs[j]? = some v) : atI xs z = some v := by
  rw [e]
  exact atI_nat h
/-- a new instance and its __init__ leave all that was tracked as it was -/
theorem Same.made {H H1 : Hp} {x dx C : Addr} (nx : H x = Option.none) (nd : H dx = Option.none) (k : ∀ b o, (upd (upd H dx (.own x)) x (.ins C dx [])) b = some o → b ≠ x → H1 b = some o) : Same H H1 := fun b o e =>
  k b o (by rw [upd_ne (ne_of_none e nx), upd_ne (ne_of_none e nd)]; exact e) (ne_of_none e nx)
end L2
namespace L2
open PySem PySem.Spec PyProof.Rows
open PySem.W (WData Codec OpenSpec Well WellAll ReadsW ReadsAllW)
mutual
/-- x stands for the datum d, lists and tuples all the way -/
inductive Dw (K : PySem.W.Frag) (H : Hp) : V → WData → Prop
  | non : Dw K H .non .none
  | bl (b : Bool) : Dw K H (.bl b) (.bool b)
  | int (i : Int) : Dw K H (.int i) (.int i)
  | str (x : Str) : Dw K H (.str x) (.str x)
  | byt (b : Array UInt8) : Dw K H (.byt b) (.bytes b.toList)
  | lst {a : Addr} {xs : List V} {ds : List WData} : SqL K H a xs → DwAll K H xs ds → Dw K H (.ref a) (.list ds)
  | tup {a : Addr} {xs : List V} {ds : List WData} : SqT K H a xs → DwAll K H xs ds → Dw K H (.ref a) (.tuple ds)
inductive DwAll (K : PySem.W.Frag) (H : Hp) : List V → List WData → Prop
  | nil : DwAll K H [] []
  | cons {v : V} {vs : List V} {d : WData} {ds : List WData} : Dw K H v d → DwAll K H vs ds → DwAll K H (v :: vs) (d :: ds)
end
theorem dw_ints {K : PySem.W.Frag} {H : Hp} : ∀ ns : List Int, DwAll K H (ns.map V.int) (ns.map WData.int)
  | [] => .nil
  | n :: r => .cons (.int n) (dw_ints r)
theorem ints_dw {K : PySem.W.Frag} {H : Hp} : ∀ (ns : List Int) (xs : List V), DwAll K H xs (ns.map WData.int) → xs = ns.map V.int
  | [], xs, h => by
    cases h
    rfl
  | n :: r, xs, h => by
    cases h with
    | cons h1 h2 =>
      cases h1
      rw [ints_dw r _ h2] <;> rfl
section
variable {P : Program} {w : World} {K : PySem.W.Frag} {H : Hp} {h : Heap} {R : PySem.W.WRecords} {cl : Str → Option Addr}
theorem sqL_at {a : Addr} {xs : List V} (hok : HOk P w H h) (KX : K.In h) (q : SqL K H a xs) : ∃ (its : List Value) (o : Obj) (n : Nat), Vals xs its ∧ h.get? a = some o ∧ o.cls = .type "list" ∧ o.data = .seq its.toArray n := by
  rcases q with q | ⟨o, its, n, e, hc, _, hd, _, hv⟩
  · obtain ⟨_, its, n, hv, e⟩ := (show ObjOk P w H h a (.lst xs) from q.ok hok)
    exact ⟨its, _, n, hv, e, rfl, rfl⟩
  · exact ⟨its.toList, o, n, hv, KX _ _ e, hc, by simp [hd]⟩
theorem sqT_at {a : Addr} {xs : List V} (hok : HOk P w H h) (KX : K.In h) (q : SqT K H a xs) : ∃ (its : List Value) (o : Obj) (n : Nat), Vals xs its ∧ h.get? a = some o ∧ o.cls = .type "tuple" ∧ o.data = .seq its.toArray n := by
  rcases q with q | ⟨o, its, n, e, hc, hd, _, hv⟩
  · obtain ⟨_, its, hv, o, e, hc, n, hd⟩ := (show ObjOk P w H h a (.tup xs) from q.ok hok)
    exact ⟨its, o, n, hv, e, hc, hd⟩
  · exact ⟨its.toList, o, n, hv, KX _ _ e, hc, by simp [hd]⟩
mutual
theorem Dw.reads (hok : HOk P w H h) (KX : K.In h) : ∀ (d : WData) (v : V) (u : Value), Dw K H v d → RelV v u → ∃ as, ReadsW R cl h u d as
  | .none, _, _, x, r => by
    cases x
    cases r
    exact ⟨_, ReadsW.none⟩
  | .bool b, _, _, x, r => by
    cases x
    cases r
    exact ⟨_, ReadsW.bool b⟩
  | .int i, _, _, x, r => by
    cases x
    obtain ⟨t, rfl⟩ := r
    exact ⟨_, ReadsW.int i t⟩
  | .str s, _, _, x, r => by
    cases x
    obtain ⟨t, rfl⟩ := r
    exact ⟨_, ReadsW.str s t⟩
  | .bytes b, _, _, x, r => by
    cases x
    obtain ⟨t, rfl⟩ := r
    exact ⟨_, ReadsW.bytes _ t⟩
  | .list ds, _, _, x, r => by
    cases x with
    | lst hs ha =>
      cases r
      obtain ⟨its, o, n, rv, ho, hc, hd⟩ := sqL_at hok KX hs
      obtain ⟨as, hr⟩ := Dw.readsAll hok KX ds _ its ha rv
      exact ⟨_, ReadsW.list ho hc hd hr⟩
  | .tuple ds, _, _, x, r => by
    cases x with
    | tup hs ha =>
      cases r
      obtain ⟨its, o, n, rv, ho, hc, hd⟩ := sqT_at hok KX hs
      obtain ⟨as, hr⟩ := Dw.readsAll hok KX ds _ its ha rv
      exact ⟨_, ReadsW.tuple ho hc hd hr⟩
  | .float _, _, _, x, _ => by cases x
  | .dict _, _, _, x, _ => by cases x
  | .bytearray _, _, _, x, _ => by cases x
  | .set _, _, _, x, _ => by cases x
  | .frozenset _, _, _, x, _ => by cases x
  | .obj _ _, _, _, x, _ => by cases x
theorem Dw.readsAll (hok : HOk P w H h) (KX : K.In h) : ∀ (ds : List WData) (vs : List V) (us : List Value), DwAll K H vs ds → Vals vs us → ∃ as, ReadsAllW R cl h us ds as
  | [], _, _, x, r => by
    cases x
    cases r
    exact ⟨_, ReadsAllW.nil⟩
  | d :: ds, _, _, x, r => by
    cases x with
    | cons h1 h2 =>
      cases r with
      | cons r1 r2 =>
        obtain ⟨as, q1⟩ := Dw.reads hok KX d _ _ h1 r1
        obtain ⟨bs, q2⟩ := Dw.readsAll hok KX ds _ _ h2 r2
        exact ⟨_, ReadsAllW.cons q1 q2⟩
end
end
mutual
/-- data that a codec tells -/
def plW : WData → Bool
  | .none => true
  | .bool _ => true
  | .int _ => true
  | .str _ => true
  | .bytes _ => true
  | .list xs => plWs xs
  | .tuple xs => plWs xs
  | _ => false
def plWs : List WData → Bool
  | [] => true
  | x :: r => plW x && plWs r
end
theorem plWs_map {α : Type} {f : α → WData} (h : ∀ a, plW (f a) = true) : ∀ l : List α, plWs (l.map f) = true
  | [] => rfl
  | x :: r => by
    show (plW (f x) && plWs (r.map f)) = true
    rw [h x, plWs_map h r] <;> rfl
theorem pl_enc : ∀ (c : Codec) (a : c.denote), plW (c.enc a) = true
  | .unit, _ => rfl
  | .bool, _ => rfl
  | .int _ _, _ => rfl
  | .nat _ _, _ => rfl
  | .u8, _ => rfl
  | .bytes _ _, _ => rfl
  | .text _ _ _ _, _ => rfl
  | .list _ _ c, a => plWs_map (fun x => pl_enc c x) a
  | .pair c d, a => by
    show (plW (c.enc a.1) && (plW (d.enc a.2) && true)) = true
    rw [pl_enc c a.1, pl_enc d a.2] <;> rfl
  | .triple c d e, a => by
    show (plW (c.enc a.1) && (plW (d.enc a.2.1) && (plW (e.enc a.2.2) && true))) = true
    rw [pl_enc c a.1, pl_enc d a.2.1, pl_enc e a.2.2] <;> rfl
  | .option c, none => rfl
  | .option c, some x => pl_enc c x
theorem pl_encAll : ∀ (cs : List Codec) (a : Codec.denoteAll cs), plWs (Codec.encAll cs a) = true
  | [], _ => rfl
  | c :: cs, a => by
    show (plW (c.enc a.1) && plWs (Codec.encAll cs a.2)) = true
    rw [pl_enc c a.1, pl_encAll cs a.2] <;> rfl
theorem weight_mem : ∀ {xs : List WData} {d : WData}, d ∈ xs → d.weight ≤ WData.weightAll xs
  | [], d, h => absurd h (by simp)
  | x :: r, d, h => by
    show d.weight ≤ x.weight + 1 + WData.weightAll r
    rcases List.mem_cons.mp h with e | m
    · rw [e]
      omega
    · have z := weight_mem m
      omega
def toV : Value → V
  | .none => .non
  | .bool b => .bl b
  | .int i _ => .int i
  | .str x _ => .str x
  | .bytes b _ => .byt b
  | .ref a => .ref a
  | _ => .non
/-- a value of the arguments, its objects among A -/
def OkU (A : List Addr) : Value → Prop
  | .none => True
  | .bool _ => True
  | .int _ _ => True
  | .str _ _ => True
  | .bytes _ _ => True
  | .ref a => a ∈ A
  | _ => False
theorem OkU.mono {A B : List Addr} (h : ∀ a ∈ A, a ∈ B) : ∀ {u : Value}, OkU A u → OkU B u := fun {u} x => by
  cases u with
  | ref a => exact h a x
  | none => trivial
  | bool b => trivial
  | int i t => trivial
  | str s t => trivial
  | bytes b t => trivial
  | _ => exact False.elim x
theorem relV_toV {A : List Addr} {u : Value} (x : OkU A u) : RelV (toV u) u := by
  cases u with
  | ref a => rfl
  | none => rfl
  | bool b => rfl
  | int i t => exact ⟨t, rfl⟩
  | str s t => exact ⟨t, rfl⟩
  | bytes b t => exact ⟨t, rfl⟩
  | _ => exact False.elim x
theorem vals_toV {A : List Addr} : ∀ {vs : List Value}, (∀ u ∈ vs, OkU A u) → Vals (vs.map toV) vs
  | [], _ => .nil
  | u :: r, h => .cons (relV_toV (h u (List.mem_cons_self ..))) (vals_toV fun x hx => h x (List.mem_cons_of_mem _ hx))
/-- an object of the arguments -/
def ArgOb (h : Heap) (A : List Addr) (a : Addr) : Prop := ∃ vs : List Value, vs.length ≤ sizeLine ∧ (∀ u ∈ vs, OkU A u) ∧
  (h.get? a = some { cls := .type "list", data := .seq vs.toArray } ∨ h.get? a = some { cls := .type "tuple", data := .seq vs.toArray })
theorem ArgOb.mono {h : Heap} {A B : List Addr} {a : Addr} (k : ∀ a ∈ A, a ∈ B) (x : ArgOb h A a) : ArgOb h B a := by
  obtain ⟨vs, h1, h2, h3⟩ := x
  exact ⟨vs, h1, fun u hu => (h2 u hu).mono k, h3⟩
theorem wellAll_len {P : Params} {h : Heap} : ∀ {vs : List Value} {ds : List WData}, WellAll P h vs ds → vs.length = ds.length
  | _, _, .nil => rfl
  | _, _, .cons _ b => by
    show _ + 1 = _ + 1
    rw [wellAll_len b]
theorem well_list {P : Params} {h : Heap} {v : Value} {ds : List WData} (x : Well P h v (.list ds)) : ∃ (a : Addr) (vs : List Value), v = .ref a ∧ h.get? a = some { cls := .type "list", data := .seq vs.toArray } ∧ WellAll P h vs ds := by
  cases x with
  | list ho hall => exact ⟨_, _, rfl, ho, hall⟩
theorem well_tuple {P : Params} {h : Heap} {v : Value} {ds : List WData} (x : Well P h v (.tuple ds)) : ∃ (a : Addr) (vs : List Value), v = .ref a ∧ h.get? a = some { cls := .type "tuple", data := .seq vs.toArray } ∧ WellAll P h vs ds := by
  cases x with
  | tuple ho hall => exact ⟨_, _, rfl, ho, hall⟩
theorem well_cons {P : Params} {h : Heap} {us : List Value} {d : WData} {ds : List WData} (x : WellAll P h us (d :: ds)) : ∃ (v : Value) (vs : List Value), us = v :: vs ∧ Well P h v d ∧ WellAll P h vs ds := by
  cases x with
  | cons a b => exact ⟨_, _, rfl, a, b⟩
theorem line_of {n : Nat} (h : n ≤ 1048576) : n ≤ sizeLine := Nat.le_trans h (by decide)
section
variable {P : Params} {h : Heap}
mutual
theorem area_one : ∀ (d : WData) (v : Value), Well P h v d → plW d = true → d.weight ≤ 1048576 → ∃ A : List Addr, OkU A v ∧ ∀ a ∈ A, ArgOb h A a
  | .none, _, x, _, _ => by
    cases x
    exact ⟨[], trivial, fun a m => absurd m (by simp)⟩
  | .bool b, _, x, _, _ => by
    cases x
    exact ⟨[], trivial, fun a m => absurd m (by simp)⟩
  | .int i, _, x, _, _ => by
    cases x
    exact ⟨[], trivial, fun a m => absurd m (by simp)⟩
  | .str s, _, x, _, _ => by
    cases x
    exact ⟨[], trivial, fun a m => absurd m (by simp)⟩
  | .bytes b, _, x, _, _ => by
    cases x
    exact ⟨[], trivial, fun a m => absurd m (by simp)⟩
  | .list ds, _, x, p, z => by
    obtain ⟨a, vs, rfl, ho, hall⟩ := well_list x
    have z2 : WData.weightAll ds ≤ 1048576 := z
    obtain ⟨A, h1, h2⟩ := area_all ds _ hall p fun d hd => Nat.le_trans (weight_mem hd) z2
    have k : ∀ b ∈ A, b ∈ a :: A := fun b hb => List.mem_cons_of_mem _ hb
    refine ⟨a :: A, List.mem_cons_self .., fun b hb => ?_⟩
    rcases List.mem_cons.mp hb with e | m
    · rw [e]
      exact ⟨vs, line_of (by rw [wellAll_len hall]; exact Nat.le_trans (PySem.W.length_le_weightAllW ds) z2), fun u hu => (h1 u hu).mono k, .inl ho⟩
    · exact (h2 b m).mono k
  | .tuple ds, _, x, p, z => by
    obtain ⟨a, vs, rfl, ho, hall⟩ := well_tuple x
    have z2 : WData.weightAll ds ≤ 1048576 := z
    obtain ⟨A, h1, h2⟩ := area_all ds _ hall p fun d hd => Nat.le_trans (weight_mem hd) z2
    have k : ∀ b ∈ A, b ∈ a :: A := fun b hb => List.mem_cons_of_mem _ hb
    refine ⟨a :: A, List.mem_cons_self .., fun b hb => ?_⟩
    rcases List.mem_cons.mp hb with e | m
    · rw [e]
      exact ⟨vs, line_of (by rw [wellAll_len hall]; exact Nat.le_trans (PySem.W.length_le_weightAllW ds) z2), fun u hu => (h1 u hu).mono k, .inr ho⟩
    · exact (h2 b m).mono k
  | .float _, _, _, p, _ => Bool.noConfusion (show false = true from p)
  | .dict _, _, _, p, _ => Bool.noConfusion (show false = true from p)
  | .bytearray _, _, _, p, _ => Bool.noConfusion (show false = true from p)
  | .set _, _, _, p, _ => Bool.noConfusion (show false = true from p)
  | .frozenset _, _, _, p, _ => Bool.noConfusion (show false = true from p)
  | .obj _ _, _, _, p, _ => Bool.noConfusion (show false = true from p)
theorem area_all : ∀ (ds : List WData) (vs : List Value), WellAll P h vs ds → plWs ds = true → (∀ d ∈ ds, d.weight ≤ 1048576) → ∃ A : List Addr, (∀ u ∈ vs, OkU A u) ∧ ∀ a ∈ A, ArgOb h A a
  | [], _, x, _, _ => by
    cases x
    exact ⟨[], fun u m => absurd m (by simp), fun a m => absurd m (by simp)⟩
  | d :: ds, _, x, p, z => by
    obtain ⟨v, vs, rfl, x1, x2⟩ := well_cons x
    have q : plW d = true ∧ plWs ds = true := Bool.and_eq_true_iff.mp p
    obtain ⟨A, a1, a2⟩ := area_one d v x1 q.1 (z d (List.mem_cons_self ..))
    obtain ⟨B, b1, b2⟩ := area_all ds vs x2 q.2 fun e he => z e (List.mem_cons_of_mem _ he)
    have kA : ∀ b ∈ A, b ∈ A ++ B := fun b hb => List.mem_append.mpr (.inl hb)
    have kB : ∀ b ∈ B, b ∈ A ++ B := fun b hb => List.mem_append.mpr (.inr hb)
    refine ⟨A ++ B, fun u hu => ?_, fun b hb => ?_⟩
    · rcases List.mem_cons.mp hu with e | m
      · rw [e]
        exact a1.mono kA
      · exact (b1 u m).mono kB
    · rcases List.mem_append.mp hb with m | m
      · exact (a2 b m).mono kA
      · exact (b2 b m).mono kB
end
end
/-- what is tracked of an argument's object -/
def hoOf (o : Obj) : Option HO := match o.data with
  | .seq vs _ => if (o.cls == Value.type "list") = true then some (.frz o (.lst (vs.toList.map toV))) else some (.frz o (.tup (vs.toList.map toV)))
  | _ => none
def argH (K : PySem.W.Frag) (h : Heap) (A : List Addr) : Hp := fun b => if b ∈ A then (if (K.lookup b).isNone = true then (h.get? b).bind hoOf else none) else none
/-- nothing is tracked but what is known to the object -/
def OnlyF (H : Hp) : Prop := ∀ b, H b = none ∨ ∃ o u, H b = some (.frz o u)
theorem hoOf_lst (vs : List Value) : hoOf { cls := .type "list", data := .seq vs.toArray } = some (.frz { cls := .type "list", data := .seq vs.toArray } (.lst (vs.map toV))) := by
  show (if (Value.type "list" == Value.type "list") = true then some (HO.frz { cls := .type "list", data := .seq vs.toArray } (.lst (vs.toArray.toList.map toV))) else some (HO.frz { cls := .type "list", data := .seq vs.toArray } (.tup (vs.toArray.toList.map toV)))) = _
  rw [if_pos (beq_self_eq_true _)]
theorem hoOf_tup (vs : List Value) : hoOf { cls := .type "tuple", data := .seq vs.toArray } = some (.frz { cls := .type "tuple", data := .seq vs.toArray } (.tup (vs.map toV))) := by
  show (if (Value.type "tuple" == Value.type "list") = true then some (HO.frz { cls := .type "tuple", data := .seq vs.toArray } (.lst (vs.toArray.toList.map toV))) else some (HO.frz { cls := .type "tuple", data := .seq vs.toArray } (.tup (vs.toArray.toList.map toV)))) = _
  rw [if_neg (by decide)]
section
variable {P : Program} {w : World} {K : PySem.W.Frag} {h : Heap} {A : List Addr}
theorem argH_at {b : Addr} {o : Obj} (hb : b ∈ A) (hk : K.lookup b = none) (e : h.get? b = some o) : argH K h A b = hoOf o := by
  unfold argH
  rw [if_pos hb, hk, if_pos (show (none : Option Obj).isNone = true from rfl), e] <;> rfl
theorem of_argH {b : Addr} {u : HO} (q : argH K h A b = some u) : b ∈ A ∧ K.lookup b = none := by
  unfold argH at q
  by_cases hb : b ∈ A
  · rw [if_pos hb] at q
    cases hk : K.lookup b with
    | none => exact ⟨hb, rfl⟩
    | some o =>
      rw [hk, if_neg (by simp)] at q
      cases q
  · rw [if_neg hb] at q
    cases q
/-- what stands tracked -/
theorem argH_is (ar : ∀ a ∈ A, ArgOb h A a) {b : Addr} {u : HO} (q : argH K h A b = some u) : K.lookup b = none ∧ ∃ vs : List Value, vs.length ≤ sizeLine ∧ (∀ u ∈ vs, OkU A u) ∧
    ((h.get? b = some { cls := .type "list", data := .seq vs.toArray } ∧ u = .frz { cls := .type "list", data := .seq vs.toArray } (.lst (vs.map toV))) ∨
     (h.get? b = some { cls := .type "tuple", data := .seq vs.toArray } ∧ u = .frz { cls := .type "tuple", data := .seq vs.toArray } (.tup (vs.map toV)))) := by
  obtain ⟨hb, hk⟩ := of_argH q
  obtain ⟨vs, h1, h2, h3⟩ := ar b hb
  refine ⟨hk, vs, h1, h2, ?_⟩
  rcases h3 with e | e
  · rw [argH_at hb hk e, hoOf_lst] at q
    exact .inl ⟨e, (Option.some.inj q).symm⟩
  · rw [argH_at hb hk e, hoOf_tup] at q
    exact .inr ⟨e, (Option.some.inj q).symm⟩
theorem argH_only (ar : ∀ a ∈ A, ArgOb h A a) : OnlyF (argH K h A) := fun b => by
  cases q : argH K h A b with
  | none => exact .inl rfl
  | some u =>
    obtain ⟨_, vs, _, _, ⟨_, e⟩ | ⟨_, e⟩⟩ := argH_is ar q
    · exact .inr ⟨_, _, by rw [e]⟩
    · exact .inr ⟨_, _, by rw [e]⟩
theorem argH_ok (ar : ∀ a ∈ A, ArgOb h A a) : HOk P w (argH K h A) h := fun b u q => by
  obtain ⟨_, vs, h1, h2, ⟨e, rfl⟩ | ⟨e, rfl⟩⟩ := argH_is ar q
  · exact ⟨e, by rw [List.length_map]; exact h1, vs, _, vals_toV h2, e⟩
  · exact ⟨e, by rw [List.length_map]; exact h1, vs, vals_toV h2, _, e, rfl, _, rfl⟩
theorem seq_inj {c c' : Value} {vs us : List Value} (e : (some { cls := c, data := .seq vs.toArray } : Option Obj) = some { cls := c', data := .seq us.toArray }) : c = c' ∧ vs = us := by
  have e1 := Option.some.inj e
  have e2 : c = c' := congrArg Obj.cls e1
  have e3 : Data.seq vs.toArray = Data.seq us.toArray := congrArg Obj.data e1
  injection e3 with e4
  refine ⟨e2, ?_⟩
  have e5 := congrArg Array.toList e4
  simpa using e5
/-- a list argument -/
theorem argL (KX : K.In h) (ar : ∀ a ∈ A, ArgOb h A a) {a : Addr} {vs : List Value} (ha : a ∈ A) (e : h.get? a = some { cls := .type "list", data := .seq vs.toArray }) : (∀ u ∈ vs, OkU A u) ∧ SqL K (argH K h A) a (vs.map toV) := by
  obtain ⟨us, h1, h2, h3⟩ := ar a ha
  have hu : us = vs := by
    rcases h3 with q | q
    · rw [e] at q
      exact (seq_inj q).2.symm
    · rw [e] at q
      exact absurd (Value.type.inj (seq_inj q).1) (by decide)
  subst hu
  refine ⟨h2, ?_⟩
  cases hk : K.lookup a with
  | none => exact .inl (.inr ⟨_, by rw [argH_at ha hk e, hoOf_lst]⟩)
  | some o =>
    have e2 := KX a o hk
    rw [e] at e2
    obtain rfl := Option.some.inj e2
    exact .inr ⟨_, us.toArray, _, hk, rfl, rfl, rfl, by rw [List.size_toArray]; exact h1, by simpa using vals_toV h2⟩
theorem argT (KX : K.In h) (ar : ∀ a ∈ A, ArgOb h A a) {a : Addr} {vs : List Value} (ha : a ∈ A) (e : h.get? a = some { cls := .type "tuple", data := .seq vs.toArray }) : (∀ u ∈ vs, OkU A u) ∧ SqT K (argH K h A) a (vs.map toV) := by
  obtain ⟨us, h1, h2, h3⟩ := ar a ha
  have hu : us = vs := by
    rcases h3 with q | q
    · rw [e] at q
      exact absurd (Value.type.inj (seq_inj q).1) (by decide)
    · rw [e] at q
      exact (seq_inj q).2.symm
  subst hu
  refine ⟨h2, ?_⟩
  cases hk : K.lookup a with
  | none => exact .inl (.inr ⟨_, by rw [argH_at ha hk e, hoOf_tup]⟩)
  | some o =>
    have e2 := KX a o hk
    rw [e] at e2
    obtain rfl := Option.some.inj e2
    exact .inr ⟨_, us.toArray, _, hk, rfl, rfl, by rw [List.size_toArray]; exact h1, by simpa using vals_toV h2⟩
mutual
theorem dw_one {Pm : Params} (KX : K.In h) (ar : ∀ a ∈ A, ArgOb h A a) : ∀ (d : WData) (v : Value), Well Pm h v d → plW d = true → OkU A v → Dw K (argH K h A) (toV v) d
  | .none, _, x, _, _ => by
    cases x
    exact .non
  | .bool b, _, x, _, _ => by
    cases x
    exact .bl b
  | .int i, _, x, _, _ => by
    cases x
    exact .int i
  | .str s, _, x, _, _ => by
    cases x
    exact .str s
  | .bytes b, _, x, _, _ => by
    cases x
    have z := Dw.byt (K := K) (H := argH K h A) b.toArray
    exact z
  | .list ds, _, x, p, hu => by
    obtain ⟨a, vs, rfl, ho, hall⟩ := well_list x
    obtain ⟨h2, hs⟩ := argL KX ar hu ho
    exact .lst hs (dw_all KX ar ds _ hall p h2)
  | .tuple ds, _, x, p, hu => by
    obtain ⟨a, vs, rfl, ho, hall⟩ := well_tuple x
    obtain ⟨h2, hs⟩ := argT KX ar hu ho
    exact .tup hs (dw_all KX ar ds _ hall p h2)
  | .float _, _, _, p, _ => Bool.noConfusion (show false = true from p)
  | .dict _, _, _, p, _ => Bool.noConfusion (show false = true from p)
  | .bytearray _, _, _, p, _ => Bool.noConfusion (show false = true from p)
  | .set _, _, _, p, _ => Bool.noConfusion (show false = true from p)
  | .frozenset _, _, _, p, _ => Bool.noConfusion (show false = true from p)
  | .obj _ _, _, _, p, _ => Bool.noConfusion (show false = true from p)
theorem dw_all {Pm : Params} (KX : K.In h) (ar : ∀ a ∈ A, ArgOb h A a) : ∀ (ds : List WData) (vs : List Value), WellAll Pm h vs ds → plWs ds = true → (∀ u ∈ vs, OkU A u) → DwAll K (argH K h A) (vs.map toV) ds
  | [], _, x, _, _ => by
    cases x
    exact .nil
  | d :: ds, _, x, p, hu => by
    obtain ⟨v, vs, rfl, x1, x2⟩ := well_cons x
    have q : plW d = true ∧ plWs ds = true := Bool.and_eq_true_iff.mp p
    exact .cons (dw_one KX ar d v x1 q.1 (hu _ (List.mem_cons_self ..))) (dw_all KX ar ds vs x2 q.2 fun u m => hu u (List.mem_cons_of_mem _ m))
end
end
theorem spec_call {P : Program} {w : World} {K : PySem.W.Frag} {mg mb : Str → Option Value} {CX : CXT} {k : Nat} {fa : Addr} {fd : FuncData} {ps : List Str} {sp : Sp} {s₁ : Shared} {vals : List Value} {ds : List WData} {R : PySem.W.WRecords} {cl : Str → Option Addr} {d0 : WData}
    (KX : K.In s₁.heap) (hns : s₁.heap.Ns mainGlobals mg) (hb : s₁.heap.Ns builtinsNs mb) (hbb : ∀ x : Str, x ≠ "__name__" → mb x = bootBuiltins x) (hlim : s₁.heap.NoLimit) (hg : s₁.gens = #[])
    (hwl : WellAll w.params s₁.heap vals ds) (hpl : plWs ds = true) (hwt : ∀ d ∈ ds, d.weight ≤ 1048576) (hr : Room k callerA)
    (F : ∀ base : Heap, K.In base → base.Ns mainGlobals mg → FnOk P w K mg base CX k fa fd ps sp) (hbind : ∀ (s : Shared) (us : List Value), us.length = ps.length → BindsTo s fd ⟨us, []⟩ (ps.zip us)) (hlen : ds.length = ps.length)
    (hsp : ∀ (H : Hp) (xs : List V), OnlyF H → DwAll K H xs ds → sp xs H (fun v H' => Dw K H' v d0) fun _ _ _ => False)
    (hCX : ∀ H e s', CX [] H s₁ (fun _ _ _ => False) e s' → False) :
    codeAny (model P w) callerA (.call (.ref fa) ⟨vals, []⟩) (fun r s' => ∃ u as, r = .ok (.ret u) ∧ ReadsW R cl s'.heap u d0 as ∧ OldK s₁.heap s'.heap ∧ s'.os = s₁.os ∧ AllBare s'.gens) s₁ := by
  obtain ⟨A, ho, ar⟩ := area_all ds vals hwl hpl hwt
  have hO : OnlyF (argH K s₁.heap A) := argH_only ar
  have hok : HOk P w (argH K s₁.heap A) s₁.heap := argH_ok ar
  have hS := dw_all KX ar ds vals hwl hpl ho
  have hV := vals_toV ho
  have hK : ∀ b u, argH K s₁.heap A b = some u → K.lookup b = none := fun b u q => (argH_is ar q).1
  have noA : ∀ {b : Addr} {o : Obj} {es : Array DictEntry} {ep : Nat}, s₁.heap.get? b = some o → o.data = .dict es ep → argH K s₁.heap A b = none := fun {b o es ep} e d => by
    cases q : argH K s₁.heap A b with
    | none => rfl
    | some u =>
      obtain ⟨_, vs, _, _, ⟨e2, _⟩ | ⟨e2, _⟩⟩ := argH_is ar q
      · rw [e2] at e
        cases e
        have d' : Data.seq vs.toArray _ = Data.dict es ep := d
        cases d'
      · rw [e2] at e
        cases e
        have d' : Data.seq vs.toArray _ = Data.dict es ep := d
        cases d'
  generalize argH K s₁.heap A = H at hO hok hS hK noA
  have base_of : ∀ {b : Addr} {o : Obj}, s₁.heap.get? b = some o → H b = none → (hidT s₁.heap H).get? b = some o := fun e n => hidT_get e n
  have nsK : ∀ {b : Addr} {m : Str → Option Value}, s₁.heap.Ns b m → (hidT s₁.heap H).Ns b m := fun {b m} ⟨o, es, ep, e, d, r⟩ => ⟨o, es, ep, base_of e (noA e d), d, r⟩
  have nK : ∀ b o, K.lookup b = some o → H b = none := fun b o e => by
    cases q : H b with
    | none => rfl
    | some u =>
      rw [hK b u q] at e
      cases e
  have hKb : K.In (hidT s₁.heap H) := fun b o e => base_of (KX b o e) (nK b o e)
  have hM : Mod K mg (hidT s₁.heap H) := ⟨hKb, nsK hns, ⟨mb, nsK hb, hbb⟩, let ⟨mc, h1, h2⟩ := hlim; ⟨mc, nsK h1, h2⟩⟩
  have e0 : Env0 P w K mg (hidT s₁.heap H) callerA [] s₁ H := ⟨rfl, hM, fun b o e => of_hidT e, Nat.le_of_eq (hidT_size _ _), trivial, fun b hb => absurd (show b ∈ ([] : List Addr) from hb) (by simp), hok, .of_eq hg⟩
  have hl : vals.length = ps.length := by rw [wellAll_len hwl]; exact hlen
  refine codeAny_mono ((F _ hKb (nsK hns)).run callerA [] s₁ H ⟨vals, []⟩ vals (vals.map toV) _ _ hr e0 (hbind s₁ vals hl) hV (hsp H _ hO hS)) fun r s' x => ?_
  cases r with
  | error e => exact (hCX H e s' x).elim
  | ok fl =>
    cases fl with
    | next => exact False.elim x
    | brk => exact False.elim x
    | cont => exact False.elim x
    | ret u =>
      obtain ⟨v, H', os, bare, un, hok', r', q⟩ := x
      have kept : ∀ b o, s₁.heap.get? b = some o → s'.heap.get? b = some o := fun b o e => by
        cases q2 : H b with
        | none => exact un.keep b o e q2 (by intro z; exact absurd (show b ∈ ([] : List Addr) from z) (by simp)) (by simp)
        | some u2 =>
          rcases hO b with z | ⟨ob, u3, z⟩
          · rw [q2] at z
            cases z
          · have z2 := un.frzs b ob _ z
            obtain ⟨e1, _⟩ := hok b _ z
            obtain ⟨e2, _⟩ := hok' b _ z2
            rw [e] at e1
            cases e1
            exact e2
      have KX' : K.In s'.heap := fun b o e => kept b o (KX b o e)
      obtain ⟨as, hrd⟩ := Dw.reads (R := R) (cl := cl) hok' KX' d0 v u q r'
      exact ⟨u, as, rfl, hrd, OldK.of_keep kept, os, bare⟩
theorem layable_weight {ds : List WData} (h : WData.layableAll ds = true) : ∀ d ∈ ds, d.weight ≤ 1048576 := fun d hd =>
  (PySem.W.layableW_iff.mp (List.all_eq_true.mp h d hd)).2.2
theorem encAll_len : ∀ (cs : List Codec) (a : Codec.denoteAll cs), (Codec.encAll cs a).length = cs.length
  | [], _ => rfl
  | c :: cs, a => by
    show (Codec.encAll cs a.2).length + 1 = cs.length + 1
    rw [encAll_len cs a.2]
/-- the goal that k_headS leaves (case hc), from the promise of the row's def: whatever the arguments that the codecs let and the row asks for, the def gives what stands for enc (f ..) -/
theorem walk_spec {r : OpenSpec} {k : Nat} {q : Program} {loose : List Str} {XP : (Str → Option Value) → Heap → Prop} {YP : World → Heap → Prop} {d : DefRec} {K : Params → PySem.W.Frag} {CX : World → CXT} {ps : List Str} {sp : World → Sp}
    (hwell : r.wellSaid = true) (hdf : d.params.defaults = []) (hlen : r.args.length = ps.length) (hr : Room k callerA)
    (hY : ∀ (w : World) (h : Heap), YP w h → (K w.params).In h)
    (F : ∀ (w : World) (mg : Str → Option Value) (fa : Addr) (h : Heap), YP w h → (K w.params).In h → h.Ns mainGlobals mg → mg d.name = some (.ref fa) →
      ∃ fd : FuncData, (∀ (s : Shared) (us : List Value), us.length = ps.length → BindsTo s fd ⟨us, []⟩ (ps.zip us)) ∧
        ∀ base : Heap, (K w.params).In base → base.Ns mainGlobals mg → FnOk r.prog w (K w.params) mg base (CX w) k fa fd ps (sp w))
    (hsp : ∀ (w : World) (H : Hp) (xs : List V) (a : Codec.denoteAll r.args), OnlyF H → Codec.withinAll r.args a = true → Codec.app r.args r.asked a = true → DwAll (K w.params) H xs (Codec.encAll r.args a) →
      sp w xs H (fun v H' => Dw (K w.params) H' v (r.ret.enc (Codec.app r.args r.f a))) fun _ _ _ => False)
    (hCX : ∀ (w : World) (H : Hp) (s : Shared) (e : Value) (s' : Shared), CX w [] H s (fun _ _ _ => False) e s' → False) :
    PySem.W.WalkOS q loose XP YP r d [] (fun f vs => PySem.call f vs) := by
  intro w s_0 s₁ mg mb G Y fa o pm cd doc dV kV ho hd hcd hD hmg hg args vals as hpre hlay hrd hwl hlo
  obtain ⟨a, e1, e2⟩ := PySem.W.os_pre_some hpre
  obtain ⟨e3, hwi⟩ := Codec.encAll_of_decAll r.args args a e1
  subst e3
  have KX := hY w _ Y
  obtain ⟨fd, hb, hF⟩ := F w mg fa _ Y KX G.T.g hmg
  refine PySem.W.enter_call (codeAny_mono (spec_call (R := []) (cl := classAt s_0.heap) (d0 := r.ret.enc (Codec.app r.args r.f a)) KX G.T.g G.T.b G.T.builtins G.T.nolimit hg hwl (pl_encAll _ _) (layable_weight hlay) hr hF hb (by rw [encAll_len]; exact hlen)
    (fun H xs hO hS => hsp w H xs a hO hwi e2 hS) fun H e s' => hCX w H s₁ e s') fun r' s' hq => ?_)
  obtain ⟨u, as', rfl, h1, h2, h3, h4⟩ := hq
  exact ⟨.inl ⟨u, _, as', rfl, fun _ => rfl, h1, (OpenSpec.post_iff hwell hwi _ _).mpr rfl, fun z => Bool.noConfusion (show false = true from z)⟩, h2, h3, h4⟩
/-- the same where the promise hangs on the written part alone -/
theorem walk_specK {r : OpenSpec} {k : Nat} {q : Program} {loose : List Str} {XP : (Str → Option Value) → Heap → Prop} {YP : World → Heap → Prop} {d : DefRec} {K : Params → PySem.W.Frag} {CX : CXT} {ps : List Str} {sp : PySem.W.Frag → Sp}
    (hwell : r.wellSaid = true) (hdf : d.params.defaults = []) (hlen : r.args.length = ps.length) (hr : Room k callerA)
    (hY : ∀ (w : World) (h : Heap), YP w h → (K w.params).In h)
    (F : ∀ (w : World) (mg : Str → Option Value) (fa : Addr) (h : Heap), YP w h → (K w.params).In h → h.Ns mainGlobals mg → mg d.name = some (.ref fa) →
      ∃ fd : FuncData, (∀ (s : Shared) (us : List Value), us.length = ps.length → BindsTo s fd ⟨us, []⟩ (ps.zip us)) ∧
        ∀ base : Heap, (K w.params).In base → base.Ns mainGlobals mg → FnOk r.prog w (K w.params) mg base CX k fa fd ps (sp (K w.params)))
    (hsp : ∀ (K : PySem.W.Frag) (H : Hp) (xs : List V) (a : Codec.denoteAll r.args), OnlyF H → Codec.withinAll r.args a = true → Codec.app r.args r.asked a = true → DwAll K H xs (Codec.encAll r.args a) →
      sp K xs H (fun v H' => Dw K H' v (r.ret.enc (Codec.app r.args r.f a))) fun _ _ _ => False)
    (hCX : ∀ (H : Hp) (s : Shared) (e : Value) (s' : Shared), CX [] H s (fun _ _ _ => False) e s' → False) :
    PySem.W.WalkOS q loose XP YP r d [] (fun f vs => PySem.call f vs) :=
  walk_spec (K := K) (CX := fun _ => CX) (sp := fun w => sp (K w.params)) hwell hdf hlen hr hY F (fun w H xs a h1 h2 h3 h4 => hsp (K w.params) H xs a h1 h2 h3 h4) fun _ H s e s' => hCX H s e s'
end L2

set_option Elab.async false
namespace Cq
open Sa97 Sx34

theorem lookup_cons_self (x v : Nat) (e : Env) : List.lookup x ((x, v) :: e) = some v := by simp [List.lookup]
theorem lookup_cons_ne {x y v : Nat} (e : Env) (h : y ≠ x) : List.lookup y ((x, v) :: e) = List.lookup y e := by
  have : (y == x) = false := by simpa using h
  simp [List.lookup, this]

theorem unify_some : ∀ (ps : List (Nat × Nat)) (e e' : Env), unify ps e = some e' →
    (∀ x v, e.lookup x = some v → e'.lookup x = some v) ∧ (∀ x v, (x, v) ∈ ps → e'.lookup x = some v) ∧
    (∀ x v, e'.lookup x = some v → e.lookup x = some v ∨ (x, v) ∈ ps)
  | [], e, e', h => by
    have h : some e = some e' := h
    cases h
    exact ⟨fun _ _ q => q, fun _ _ q => (nomatch q), fun _ _ q => .inl q⟩
  | (x, v) :: r, e, e', h => by
    unfold unify at h
    cases q : e.lookup x with
    | some w =>
      rw [q] at h
      by_cases c : w = v
      · subst c
        have h : unify r e = some e' := by simpa using h
        obtain ⟨h1, h2, h3⟩ := unify_some r e e' h
        refine ⟨h1, fun y u m => ?_, fun y u m => ?_⟩
        · rcases List.mem_cons.mp m with m | m
          · cases m
            exact h1 _ _ q
          · exact h2 y u m
        · rcases h3 y u m with m | m
          · exact .inl m
          · exact .inr (List.mem_cons_of_mem _ m)
      · simp [c] at h
    | none =>
      rw [q] at h
      have h : unify r ((x, v) :: e) = some e' := h
      obtain ⟨h1, h2, h3⟩ := unify_some r _ e' h
      refine ⟨fun y u m => ?_, fun y u m => ?_, fun y u m => ?_⟩
      · refine h1 y u ?_
        rw [lookup_cons_ne _ (fun z => by subst z; rw [q] at m; cases m)]
        exact m
      · rcases List.mem_cons.mp m with m | m
        · cases m
          exact h1 _ _ (lookup_cons_self _ _ _)
        · exact h2 y u m
      · rcases h3 y u m with m | m
        · by_cases z : y = x
          · subst z
            rw [lookup_cons_self] at m
            cases m
            exact .inr (List.mem_cons_self ..)
          · rw [lookup_cons_ne _ z] at m
            exact .inl m
        · exact .inr (List.mem_cons_of_mem _ m)

theorem unify_ex (h : Nat → Nat) : ∀ (ps : List (Nat × Nat)) (e : Env), (∀ x v, e.lookup x = some v → h x = v) → (∀ x v, (x, v) ∈ ps → h x = v) → ∃ e', unify ps e = some e'
  | [], e, _, _ => ⟨e, rfl⟩
  | (x, v) :: r, e, he, hp => by
    unfold unify
    cases q : e.lookup x with
    | some w =>
      have c : w = v := (he x w q).symm.trans (hp x v (List.mem_cons_self ..))
      simp only [c, if_true]
      exact unify_ex h r e he fun y u m => hp y u (List.mem_cons_of_mem _ m)
    | none =>
      simp only []
      refine unify_ex h r _ (fun y u m => ?_) fun y u m => hp y u (List.mem_cons_of_mem _ m)
      by_cases z : y = x
      · subst z
        rw [lookup_cons_self] at m
        cases m
        exact hp _ _ (List.mem_cons_self ..)
      · rw [lookup_cons_ne _ z] at m
        exact he y u m

def stepW (d : Rows) (es : List Env) (p : Row) : List Env :=
  es.flatMap fun (e : Env) => d.filterMap fun (r : Row) => if r.table = p.table ∧ r.at_.length = p.at_.length then unify (p.at_.zip r.at_) e else none
theorem waysOf_eq (parts : List Row) (d : Rows) : waysOf parts d = parts.foldl (stepW d) [[]] := rfl

theorem mem_stepW {d : Rows} {es : List Env} {p : Row} {e' : Env} : e' ∈ stepW d es p ↔ ∃ e ∈ es, ∃ r ∈ d, r.table = p.table ∧ r.at_.length = p.at_.length ∧ unify (p.at_.zip r.at_) e = some e' := by
  unfold stepW
  rw [List.mem_flatMap]
  constructor
  · rintro ⟨e, he, m⟩
    obtain ⟨r, hr, m⟩ := List.mem_filterMap.mp m
    by_cases c : r.table = p.table ∧ r.at_.length = p.at_.length
    · rw [if_pos c] at m
      exact ⟨e, he, r, hr, c.1, c.2, m⟩
    · rw [if_neg c] at m
      cases m
  · rintro ⟨e, he, r, hr, c1, c2, m⟩
    exact ⟨e, he, List.mem_filterMap.mpr ⟨r, hr, by rw [if_pos ⟨c1, c2⟩]; exact m⟩⟩

theorem map_zip {f : Nat → Nat} : ∀ (a b : List Nat), b.length = a.length → (∀ x v, (x, v) ∈ a.zip b → f x = v) → a.map f = b
  | [], [], _, _ => rfl
  | x :: a, v :: b, hl, h => by
    have h1 := h x v (by simp)
    have h2 := map_zip a b (by simpa using hl) fun y u m => h y u (by simp [m])
    simp [h1, h2]
  | [], _ :: _, hl, _ => by simp at hl
  | _ :: _, [], hl, _ => by simp at hl
theorem zip_map {f : Nat → Nat} : ∀ (a : List Nat) (x v : Nat), (x, v) ∈ a.zip (a.map f) → f x = v ∧ x ∈ a
  | [], _, _, m => by simp at m
  | y :: a, x, v, m => by
    have m : (x, v) ∈ (y, f y) :: a.zip (a.map f) := by simpa using m
    rcases List.mem_cons.mp m with m | m
    · cases m
      exact ⟨rfl, List.mem_cons_self ..⟩
    · obtain ⟨h1, h2⟩ := zip_map a x v m
      exact ⟨h1, List.mem_cons_of_mem _ h2⟩
theorem mem_zip_of_mem : ∀ (a b : List Nat), b.length = a.length → ∀ x, x ∈ a → ∃ v, (x, v) ∈ a.zip b
  | [], _, _, _, m => by simp at m
  | y :: a, [], hl, _, _ => by simp at hl
  | y :: a, w :: b, hl, x, m => by
    rcases List.mem_cons.mp m with m | m
    · subst m
      exact ⟨w, by simp⟩
    · obtain ⟨v, h⟩ := mem_zip_of_mem a b (by simpa using hl) x m
      exact ⟨v, by simp [h]⟩

/-- what an env of the fold is -/
theorem ways_mem (d : Rows) : ∀ (parts : List Row) (es : List Env) (e' : Env), e' ∈ parts.foldl (stepW d) es →
    ∃ e ∈ es, (∀ x v, e.lookup x = some v → e'.lookup x = some v) ∧ (∀ p ∈ parts, p.by_ (value e') ∈ d ∧ ∀ x ∈ p.at_, ∃ v, e'.lookup x = some v) ∧
      (∀ x v, e'.lookup x = some v → e.lookup x = some v ∨ ∃ p ∈ parts, x ∈ p.at_)
  | [], es, e', h => ⟨e', h, fun _ _ q => q, fun _ m => (nomatch m), fun _ _ q => .inl q⟩
  | p :: ps, es, e', h => by
    obtain ⟨e1, h1, k1, k2, k3⟩ := ways_mem d ps _ e' h
    obtain ⟨e, he, r, hr, t1, t2, hu⟩ := mem_stepW.mp h1
    obtain ⟨u1, u2, u3⟩ := unify_some _ _ _ hu
    refine ⟨e, he, fun x v q => k1 _ _ (u1 _ _ q), fun p' m => ?_, fun x v q => ?_⟩
    · rcases List.mem_cons.mp m with m | m
      · subst m
        have em : p'.at_.map (value e') = r.at_ := map_zip _ _ t2 fun x v m => by
          have := k1 _ _ (u2 x v m)
          simp [value, this]
        refine ⟨?_, fun x m => ?_⟩
        · have : p'.by_ (value e') = r := by
            cases r with
            | mk rt ra =>
              unfold Row.by_
              simp only at t1 em
              rw [em, t1]
          rw [this]
          exact hr
        · obtain ⟨v, hv⟩ := mem_zip_of_mem _ _ t2 x m
          exact ⟨v, k1 _ _ (u2 x v hv)⟩
      · exact k2 p' m
    · rcases k3 x v q with q | ⟨p', m, hx⟩
      · rcases u3 x v q with q | m
        · exact .inl q
        · exact .inr ⟨p, List.mem_cons_self .., (List.of_mem_zip m).1⟩
      · exact .inr ⟨p', List.mem_cons_of_mem _ m, hx⟩

/-- each way is told -/
theorem ways_ex (d : Rows) (h : Nat → Nat) : ∀ (parts : List Row) (es : List Env) (e : Env), e ∈ es → (∀ x v, e.lookup x = some v → h x = v) → (∀ p ∈ parts, p.by_ h ∈ d) →
    ∃ e' ∈ parts.foldl (stepW d) es, ∀ x v, e'.lookup x = some v → h x = v
  | [], es, e, he, hh, _ => ⟨e, he, hh⟩
  | p :: ps, es, e, he, hh, hp => by
    have z : ∀ x v, (x, v) ∈ p.at_.zip (p.by_ h).at_ → h x = v := fun x v m => (zip_map _ _ _ m).1
    obtain ⟨e1, hu⟩ := unify_ex h (p.at_.zip (p.by_ h).at_) e hh z
    have m1 : e1 ∈ stepW d es p := mem_stepW.mpr ⟨e, he, p.by_ h, hp p (List.mem_cons_self ..), rfl, by simp [Row.by_], hu⟩
    refine ways_ex d h ps _ e1 m1 (fun x v q => ?_) fun p' m => hp p' (List.mem_cons_of_mem _ m)
    rcases (unify_some _ _ _ hu).2.2 x v q with q | q
    · exact hh x v q
    · exact z x v q

/-- two of them give some name two values -/
def Apart (e e' : Env) : Prop := ∃ x v v', e.lookup x = some v ∧ e'.lookup x = some v' ∧ v ≠ v'
theorem zip_apart : ∀ (a b c : List Nat), b.length = a.length → c.length = a.length → b ≠ c → ∃ x v v', (x, v) ∈ a.zip b ∧ (x, v') ∈ a.zip c ∧ v ≠ v'
  | [], [], [], _, _, h => absurd rfl h
  | x :: a, v :: b, w :: c, h1, h2, h => by
    by_cases e : v = w
    · subst e
      obtain ⟨y, u, u', k1, k2, k3⟩ := zip_apart a b c (by simpa using h1) (by simpa using h2) (fun z => h (by rw [z]))
      exact ⟨y, u, u', by simp [k1], by simp [k2], k3⟩
    · exact ⟨x, v, w, by simp, by simp, e⟩
  | [], _ :: _, _, h, _, _ => by simp at h
  | [], _, _ :: _, _, h, _ => by simp at h
  | _ :: _, [], _, h, _, _ => by simp at h
  | _ :: _, _, [], _, h, _ => by simp at h

theorem stepW_apart {d : Rows} (hd : d.Nodup) {es : List Env} (p : Row) (h : es.Pairwise Apart) : (stepW d es p).Pairwise Apart := by
  unfold stepW
  rw [List.pairwise_flatMap]
  refine ⟨fun e _ => ?_, h.imp fun {e e'} hq a ha b hb => ?_⟩
  · rw [List.pairwise_filterMap]
    refine hd.imp fun {r r'} hne a ha b hb => ?_
    by_cases c : r.table = p.table ∧ r.at_.length = p.at_.length
    · by_cases c' : r'.table = p.table ∧ r'.at_.length = p.at_.length
      · rw [if_pos c] at ha
        rw [if_pos c'] at hb
        have ne : r.at_ ≠ r'.at_ := fun z => hne (by
          cases r
          cases r'
          simp only at z c c'
          rw [z, c.1, c'.1])
        obtain ⟨x, v, v', k1, k2, k3⟩ := zip_apart _ _ _ c.2 c'.2 ne
        exact ⟨x, v, v', (unify_some _ _ _ ha).2.1 _ _ k1, (unify_some _ _ _ hb).2.1 _ _ k2, k3⟩
      · rw [if_neg c'] at hb
        cases hb
    · rw [if_neg c] at ha
      cases ha
  · obtain ⟨r, _, ha⟩ := List.mem_filterMap.mp ha
    obtain ⟨r', _, hb⟩ := List.mem_filterMap.mp hb
    obtain ⟨x, v, v', k1, k2, k3⟩ := hq
    by_cases c : r.table = p.table ∧ r.at_.length = p.at_.length
    · by_cases c' : r'.table = p.table ∧ r'.at_.length = p.at_.length
      · rw [if_pos c] at ha
        rw [if_pos c'] at hb
        exact ⟨x, v, v', (unify_some _ _ _ ha).1 _ _ k1, (unify_some _ _ _ hb).1 _ _ k2, k3⟩
      · rw [if_neg c'] at hb
        cases hb
    · rw [if_neg c] at ha
      cases ha
theorem fold_apart {d : Rows} (hd : d.Nodup) : ∀ (parts : List Row) (es : List Env), es.Pairwise Apart → (parts.foldl (stepW d) es).Pairwise Apart
  | [], _, h => h
  | p :: ps, _, h => fold_apart hd ps _ (stepW_apart hd p h)

theorem nodup_eraseDups {α : Type} [BEq α] [LawfulBEq α] : ∀ (n : Nat) (l : List α), l.length ≤ n → l.eraseDups.Nodup := by
  intro n
  induction n with
  | zero =>
    intro l h
    have : l = [] := List.length_eq_zero_iff.mp (by omega)
    subst this
    simp
  | succ n ih =>
    intro l h
    cases l with
    | nil => simp
    | cons a l =>
      rw [List.eraseDups_cons]
      refine List.nodup_cons.mpr ⟨fun m => ?_, ih _ ?_⟩
      · have := List.mem_eraseDups.mp m
        simp at this
      · have := List.length_filter_le (fun b => !b == a) l
        simp at h
        omega

theorem ways_dom {parts : List Row} {d : Rows} {e : Env} (h : e ∈ waysOf parts d) (x : Nat) : (∃ v, e.lookup x = some v) ↔ ∃ p ∈ parts, x ∈ p.at_ := by
  rw [waysOf_eq] at h
  obtain ⟨e0, h0, _, k2, k3⟩ := ways_mem d parts _ e h
  have : e0 = [] := by simpa using h0
  subst this
  constructor
  · rintro ⟨v, q⟩
    rcases k3 x v q with q | q
    · simp at q
    · exact q
  · rintro ⟨p, m, q⟩
    exact (k2 p m).2 x q
theorem ways_leads {parts : List Row} {d : Rows} {e : Env} (h : e ∈ waysOf parts d) : ∀ p ∈ parts, p.by_ (value e) ∈ d := by
  rw [waysOf_eq] at h
  obtain ⟨e0, _, _, k2, _⟩ := ways_mem d parts _ e h
  exact fun p m => (k2 p m).1
theorem ways_told {parts : List Row} {d : Rows} (f : Nat → Nat) (h : ∀ p ∈ parts, p.by_ f ∈ d) : ∃ e ∈ waysOf parts d, ∀ p ∈ parts, ∀ x ∈ p.at_, e.lookup x = some (f x) := by
  obtain ⟨e, he, k⟩ := ways_ex d f parts [[]] [] (by simp) (fun x v q => by simp at q) h
  refine ⟨e, he, fun p m x q => ?_⟩
  obtain ⟨v, hv⟩ := (ways_dom he x).mpr ⟨p, m, q⟩
  rw [hv, k x v hv]
theorem ways_apart {parts : List Row} {d : Rows} (hd : d.Nodup) : (waysOf parts d).Pairwise Apart := fold_apart hd parts _ (by simp)
end Cq

set_option Elab.async false
namespace Cq
open Sa97 Sx34

def cho (n v : Nat) : Nat := v * 2 ^ (4 * n)
def cval (c n : Nat) : Nat := c / 2 ^ (4 * n) % 16
def msk : List Nat → Nat
  | [] => 0
  | n :: r => cho n 15 ||| msk r

theorem bit_cho (n v j : Nat) : (cho n v).testBit j = (decide (4 * n ≤ j) && v.testBit (j - 4 * n)) := by
  unfold cho
  rw [Nat.testBit_mul_two_pow]
theorem bit_small {v j : Nat} (h : v < 16) (hj : 4 ≤ j) : v.testBit j = false := by
  refine Nat.testBit_lt_two_pow (Nat.lt_of_lt_of_le h ?_)
  exact (Nat.pow_le_pow_right (n := 2) (by decide) hj : 2 ^ 4 ≤ 2 ^ j)
theorem bit15 (j : Nat) : (15 : Nat).testBit j = decide (j < 4) := Nat.testBit_two_pow_sub_one 4 j
theorem bit_cho_lt {n v : Nat} (h : v < 16) (j : Nat) : (cho n v).testBit j = (decide (j / 4 = n) && v.testBit (j % 4)) := by
  rw [bit_cho]
  by_cases c : j / 4 = n
  · have e1 : 4 * n ≤ j := by omega
    have e2 : j - 4 * n = j % 4 := by omega
    rw [e2]
    simp [c, e1]
  · by_cases e1 : 4 * n ≤ j
    · have : v.testBit (j - 4 * n) = false := bit_small h (by omega)
      simp [c, this]
    · simp [c, e1]
theorem bit_msk (l : List Nat) (j : Nat) : (msk l).testBit j = decide (j / 4 ∈ l) := by
  induction l with
  | nil => simp [msk]
  | cons n r ih =>
    rw [msk, Nat.testBit_or, ih, bit_cho_lt (by decide), bit15]
    have h4 : j % 4 < 4 := Nat.mod_lt _ (by decide)
    by_cases c : j / 4 = n
    · simp [c, h4]
    · by_cases c2 : j / 4 ∈ r
      · simp [c2]
      · simp [c, c2]
theorem cval_lt (c n : Nat) : cval c n < 16 := Nat.mod_lt _ (by decide)
theorem bit_cval (c n j : Nat) : (cval c n).testBit j = (decide (j < 4) && c.testBit (4 * n + j)) := by
  unfold cval
  rw [show (16 : Nat) = 2 ^ 4 from rfl, Nat.testBit_mod_two_pow, Nat.testBit_div_two_pow, Nat.add_comm j]

theorem ext_cval {c c' : Nat} (h : ∀ n, cval c n = cval c' n) : c = c' := by
  refine Nat.eq_of_testBit_eq fun j => ?_
  have e := bit_cval c (j / 4) (j % 4)
  have e' := bit_cval c' (j / 4) (j % 4)
  rw [h (j / 4)] at e
  have h4 : j % 4 < 4 := Nat.mod_lt _ (by decide)
  rw [e] at e'
  have q : 4 * (j / 4) + j % 4 = j := by omega
  simpa [h4, q] using e'
theorem cval_msk (c : Nat) (l : List Nat) (n : Nat) : cval (c &&& msk l) n = if n ∈ l then cval c n else 0 := by
  refine Nat.eq_of_testBit_eq fun j => ?_
  rw [bit_cval, Nat.testBit_and, bit_msk]
  by_cases hj : j < 4
  · have e : (4 * n + j) / 4 = n := by omega
    rw [e]
    by_cases m : n ∈ l
    · simp [m, bit_cval]
    · simp [m]
  · by_cases m : n ∈ l
    · simp [m, bit_cval, hj]
    · simp [m, hj]
theorem cval_or_cho (c n v m : Nat) (h : v < 16) : cval (c ||| cho n v) m = if m = n then cval c n ||| v else cval c m := by
  refine Nat.eq_of_testBit_eq fun j => ?_
  rw [bit_cval, Nat.testBit_or, bit_cho_lt h]
  by_cases hj : j < 4
  · have e : (4 * m + j) / 4 = m := by omega
    have e2 : (4 * m + j) % 4 = j := by omega
    rw [e, e2]
    by_cases q : m = n
    · subst q
      simp [bit_cval, hj]
    · simp [q, bit_cval, hj]
  · by_cases q : m = n
    · simp [q, hj, bit_cval, bit_small h (show 4 ≤ j by omega)]
    · simp [q, hj, bit_cval]
theorem cval_zero (n : Nat) : cval 0 n = 0 := by simp [cval]
theorem cval_cho {n v : Nat} (h : v < 16) (m : Nat) : cval (cho n v) m = if m = n then v else 0 := by
  have := cval_or_cho 0 n v m h
  rw [Nat.zero_or, cval_zero, cval_zero, Nat.zero_or] at this
  exact this
theorem and_cho_ne {c n : Nat} (l : List Nat) (hc : c = msk l) : (c &&& cho n 15 ≠ 0) ↔ n ∈ l := by
  subst hc
  constructor
  · intro h
    refine Decidable.byContradiction fun m => h (Nat.eq_of_testBit_eq fun j => ?_)
    rw [Nat.testBit_and, bit_msk, bit_cho_lt (by decide), bit15, Nat.zero_testBit]
    by_cases e : j / 4 = n
    · subst e
      simp [m]
    · simp [e]
  · intro m h
    have q : (msk l &&& cho n 15).testBit (4 * n) = true := by
      rw [Nat.testBit_and, bit_msk, bit_cho_lt (by decide), bit15]
      have e1 : 4 * n / 4 = n := by omega
      have e2 : 4 * n % 4 = 0 := by omega
      rw [e1, e2]
      simp [m]
    rw [h, Nat.zero_testBit] at q
    cases q

def pk : Env → Nat
  | [] => 0
  | (x, v) :: r => cho x v + pk r
theorem add_eq_or {a b : Nat} (h : ∀ j, a.testBit j = true → b.testBit j = false) : a + b = a ||| b := by
  have hz : a &&& b = 0 := Nat.eq_of_testBit_eq fun j => by
    rw [Nat.testBit_and, Nat.zero_testBit]
    cases q : a.testBit j with
    | false => rfl
    | true => simp [h j q]
  have := PyProof.Rows.nat_or_add_and a b
  rw [hz] at this
  omega
/-- names each once, values below 16 -/
def Plain (e : Env) : Prop := (e.map (·.1)).Nodup ∧ ∀ x v, (x, v) ∈ e → v < 16
theorem lookup_mem : ∀ {e : Env} {x v : Nat}, e.lookup x = some v → (x, v) ∈ e
  | [], _, _, h => by simp at h
  | (y, w) :: r, x, v, h => by
    by_cases c : x = y
    · subst c
      rw [lookup_cons_self] at h
      cases h
      exact List.mem_cons_self ..
    · rw [lookup_cons_ne _ c] at h
      exact List.mem_cons_of_mem _ (lookup_mem h)
theorem lookup_none : ∀ {e : Env} {x : Nat}, e.lookup x = none → x ∉ e.map (·.1)
  | [], _, _ => by simp
  | (y, w) :: r, x, h => by
    by_cases c : x = y
    · subst c
      rw [lookup_cons_self] at h
      cases h
    · rw [lookup_cons_ne _ c] at h
      have := lookup_none h
      simp only [List.map_cons, List.mem_cons, not_or]
      exact ⟨c, this⟩
theorem cval_pk : ∀ {e : Env}, Plain e → ∀ n, cval (pk e) n = value e n
  | [], _, n => by simp [pk, cval, value]
  | (x, v) :: r, h, n => by
    have hr : Plain r := ⟨(List.nodup_cons.mp h.1).2, fun y u m => h.2 y u (List.mem_cons_of_mem _ m)⟩
    have hx : x ∉ r.map (·.1) := (List.nodup_cons.mp h.1).1
    have hv : v < 16 := h.2 x v (List.mem_cons_self ..)
    have ih := cval_pk hr
    have hz : r.lookup x = none := by
      cases q : r.lookup x with
      | none => rfl
      | some w => exact absurd (List.mem_map.mpr ⟨_, lookup_mem q, rfl⟩) hx
    have vx : value r x = 0 := by simp [value, hz]
    have e : pk ((x, v) :: r) = pk r ||| cho x v := by
      show cho x v + pk r = _
      rw [Nat.add_comm]
      refine add_eq_or fun j hj => ?_
      rw [bit_cho_lt hv]
      by_cases c : j / 4 = x
      · have q := bit_cval (pk r) (j / 4) (j % 4)
        rw [c, ih x, vx, Nat.zero_testBit] at q
        have h4 : j % 4 < 4 := Nat.mod_lt _ (by decide)
        have q2 : 4 * x + j % 4 = j := by omega
        rw [q2, hj] at q
        simp [h4] at q
      · simp [c]
    rw [e, cval_or_cho _ _ _ _ hv]
    by_cases c : n = x
    · subst c
      rw [if_pos rfl, ih, vx, Nat.zero_or]
      simp [value]
    · rw [if_neg c, ih]
      simp [value, lookup_cons_ne _ c]
theorem unify_plain : ∀ (ps : List (Nat × Nat)) (e e' : Env), Plain e → (∀ x v, (x, v) ∈ ps → v < 16) → unify ps e = some e' → Plain e'
  | [], e, e', h, _, q => by
    have q : some e = some e' := q
    cases q
    exact h
  | (x, v) :: r, e, e', h, hp, q => by
    have hp' : ∀ y u, (y, u) ∈ r → u < 16 := fun y u m => hp y u (List.mem_cons_of_mem _ m)
    unfold unify at q
    cases z : e.lookup x with
    | some w =>
      rw [z] at q
      by_cases c : w = v
      · exact unify_plain r e e' h hp' (by simpa [c] using q)
      · simp [c] at q
    | none =>
      rw [z] at q
      refine unify_plain r ((x, v) :: e) e' ⟨List.nodup_cons.mpr ⟨lookup_none z, h.1⟩, fun y u m => ?_⟩ hp' q
      rcases List.mem_cons.mp m with m | m
      · cases m
        exact hp _ _ (List.mem_cons_self ..)
      · exact h.2 y u m
theorem ways_plain {d : Rows} (hd : ∀ r ∈ d, ∀ v ∈ r.at_, v < 16) : ∀ (parts : List Row) (es : List Env), (∀ e ∈ es, Plain e) → ∀ e ∈ parts.foldl (stepW d) es, Plain e
  | [], _, h, e, m => h e m
  | p :: ps, es, h, e, m => by
    refine ways_plain hd ps _ (fun e1 m1 => ?_) e m
    obtain ⟨e0, h0, r, hr, _, _, hu⟩ := mem_stepW.mp m1
    exact unify_plain _ _ _ (h e0 h0) (fun x v q => hd r hr v (List.of_mem_zip q).2) hu
end Cq

set_option Elab.async false
namespace Cq
open Sa97 Sx34

/-- a part: its names, the choices that fit it by itself -/
abbrev Fs := List (List Nat × List Nat)
def alw (fs : List (Nat × List Nat)) (done name c v : Nat) : Bool :=
  fs.all fun f => f.1 &&& cho name 15 == 0 || f.2.any fun c' => c' &&& (f.1 &&& done) == c &&& (f.1 &&& done) && cval c' name == v
def growW (fs : List (Nat × List Nat)) (done name : Nat) (W : List Nat) : List Nat :=
  W.flatMap fun c => (List.range 16).filterMap fun v => if alw fs done name c v = true then some (c ||| cho name v) else none
def runW (fs : List (Nat × List Nat)) : List Nat → Nat → List Nat → List Nat
  | [], _, W => W
  | n :: r, done, W => runW fs r (done ||| cho n 15) (growW fs done n W)
def mfs (fs : Fs) : List (Nat × List Nat) := fs.map fun f => (msk f.1, f.2)

theorem and_eq_iff (c' c : Nat) (l S : List Nat) : c' &&& (msk l &&& msk S) = c &&& (msk l &&& msk S) ↔ ∀ m, m ∈ l → m ∈ S → cval c' m = cval c m := by
  constructor
  · intro h m h1 h2
    have e := congrArg (fun z => cval z m) h
    simp only [← Nat.and_assoc, cval_msk, h1, h2, if_true] at e
    exact e
  · intro h
    refine ext_cval fun m => ?_
    simp only [← Nat.and_assoc, cval_msk]
    by_cases h2 : m ∈ S
    · by_cases h1 : m ∈ l
      · simp [h1, h2, h m h1 h2]
      · simp [h1]
    · simp [h2]
theorem alw_iff {fs : Fs} {S : List Nat} {n c v : Nat} : alw (mfs fs) (msk S) n c v = true ↔
    ∀ f ∈ fs, n ∈ f.1 → ∃ c' ∈ f.2, (∀ m, m ∈ f.1 → m ∈ S → cval c' m = cval c m) ∧ cval c' n = v := by
  unfold alw mfs
  rw [List.all_map, List.all_eq_true]
  refine forall_congr' fun f => imp_congr_right fun hf => ?_
  simp only [Function.comp, Bool.or_eq_true, beq_iff_eq, List.any_eq_true, Bool.and_eq_true]
  constructor
  · rintro (h | ⟨c', m, h1, h2⟩) hn
    · exact absurd h ((and_cho_ne f.1 rfl).mpr hn)
    · exact ⟨c', m, (and_eq_iff _ _ _ _).mp h1, h2⟩
  · intro h
    by_cases hn : n ∈ f.1
    · obtain ⟨c', m, h1, h2⟩ := h hn
      exact .inr ⟨c', m, (and_eq_iff _ _ _ _).mpr h1, h2⟩
    · exact .inl (Decidable.byContradiction fun z => hn ((and_cho_ne f.1 rfl).mp z))
theorem mem_growW {fs : List (Nat × List Nat)} {done n : Nat} {W : List Nat} {c : Nat} : c ∈ growW fs done n W ↔ ∃ c0 ∈ W, ∃ v, v < 16 ∧ alw fs done n c0 v = true ∧ c = c0 ||| cho n v := by
  unfold growW
  simp only [List.mem_flatMap, List.mem_filterMap, List.mem_range]
  constructor
  · rintro ⟨c0, h0, v, hv, e⟩
    by_cases q : alw fs done n c0 v = true
    · rw [if_pos q] at e
      exact ⟨c0, h0, v, hv, q, (Option.some.inj e).symm⟩
    · rw [if_neg q] at e
      cases e
  · rintro ⟨c0, h0, v, hv, q, e⟩
    exact ⟨c0, h0, v, hv, by rw [if_pos q, e]⟩

/-- within S, and each part's names among S as some choice of it has them -/
def Inw (fs : Fs) (S : List Nat) (c : Nat) : Prop :=
  (∀ m, m ∉ S → cval c m = 0) ∧ ∀ f ∈ fs, (∃ m, m ∈ f.1 ∧ m ∈ S) → ∃ c' ∈ f.2, ∀ m, m ∈ f.1 → m ∈ S → cval c' m = cval c m
structure WOk (fs : Fs) (S : List Nat) (W : List Nat) : Prop where
  mem : ∀ c, c ∈ W ↔ Inw fs S c
  nd : W.Nodup
theorem wok_zero (fs : Fs) : WOk fs [] [0] := by
  refine ⟨fun c => ?_, by simp⟩
  rw [List.mem_singleton]
  constructor
  · rintro rfl
    exact ⟨fun m _ => cval_zero m, fun f _ ⟨m, _, h⟩ => by simp at h⟩
  · intro h
    exact ext_cval fun m => (h.1 m (by simp)).trans (cval_zero m).symm
theorem wok_grow {fs : Fs} {S W : List Nat} (h : WOk fs S W) {n : Nat} (hn : n ∉ S) : WOk fs (n :: S) (growW (mfs fs) (msk S) n W) := by
  have at_n : ∀ c0 ∈ W, ∀ v, v < 16 → cval (c0 ||| cho n v) n = v := fun c0 h0 v hv => by
    rw [cval_or_cho _ _ _ _ hv, if_pos rfl, ((h.mem c0).mp h0).1 n hn, Nat.zero_or]
  have at_m : ∀ c0 v m, v < 16 → m ≠ n → cval (c0 ||| cho n v) m = cval c0 m := fun c0 v m hv hm => by
    rw [cval_or_cho _ _ _ _ hv, if_neg hm]
  refine ⟨fun c => ?_, ?_⟩
  · rw [mem_growW]
    constructor
    · rintro ⟨c0, h0, v, hv, q, rfl⟩
      rw [alw_iff] at q
      obtain ⟨k1, k2⟩ := (h.mem c0).mp h0
      refine ⟨fun m hm => ?_, fun f hf hx => ?_⟩
      · simp only [List.mem_cons, not_or] at hm
        rw [at_m _ _ _ hv hm.1, k1 m hm.2]
      · by_cases hnf : n ∈ f.1
        · obtain ⟨c', m', e1, e2⟩ := q f hf hnf
          refine ⟨c', m', fun m a b => ?_⟩
          by_cases z : m = n
          · subst z
            rw [at_n c0 h0 v hv, e2]
          · rw [at_m _ _ _ hv z]
            exact e1 m a ((List.mem_cons.mp b).resolve_left z)
        · obtain ⟨m0, a0, b0⟩ := hx
          have z0 : m0 ≠ n := fun z => hnf (z ▸ a0)
          obtain ⟨c', m', e1⟩ := k2 f hf ⟨m0, a0, (List.mem_cons.mp b0).resolve_left z0⟩
          refine ⟨c', m', fun m a b => ?_⟩
          have z : m ≠ n := fun z => hnf (z ▸ a)
          rw [at_m _ _ _ hv z]
          exact e1 m a ((List.mem_cons.mp b).resolve_left z)
    · rintro ⟨k1, k2⟩
      have ce : c = (c &&& msk S) ||| cho n (cval c n) := by
        refine ext_cval fun m => ?_
        rw [cval_or_cho _ _ _ _ (cval_lt _ _)]
        by_cases z : m = n
        · subst z
          rw [if_pos rfl, cval_msk, if_neg hn, Nat.zero_or]
        · rw [if_neg z, cval_msk]
          by_cases y : m ∈ S
          · rw [if_pos y]
          · rw [if_neg y]
            exact k1 m (by simp [z, y])
      refine ⟨c &&& msk S, (h.mem _).mpr ⟨fun m hm => ?_, fun f hf hx => ?_⟩, cval c n, cval_lt _ _, ?_, ce⟩
      · rw [cval_msk, if_neg hm]
      · obtain ⟨m0, a0, b0⟩ := hx
        obtain ⟨c', m', e1⟩ := k2 f hf ⟨m0, a0, List.mem_cons_of_mem _ b0⟩
        refine ⟨c', m', fun m a b => ?_⟩
        rw [cval_msk, if_pos b]
        exact e1 m a (List.mem_cons_of_mem _ b)
      · rw [alw_iff]
        intro f hf hnf
        obtain ⟨c', m', e1⟩ := k2 f hf ⟨n, hnf, List.mem_cons_self ..⟩
        refine ⟨c', m', fun m a b => ?_, e1 n hnf (List.mem_cons_self ..)⟩
        rw [cval_msk, if_pos b]
        exact e1 m a (List.mem_cons_of_mem _ b)
  · unfold growW
    rw [List.Nodup, List.pairwise_flatMap]
    refine ⟨fun c0 h0 => ?_, ?_⟩
    · rw [List.pairwise_filterMap]
      refine List.Pairwise.imp_of_mem ?_ (List.nodup_range (n := 16))
      intro v v' m1 m2 hne a ha b hb
      split at ha <;> simp at ha
      split at hb <;> simp at hb
      subst ha hb
      intro z
      have e := congrArg (fun z => cval z n) z
      simp only [at_n c0 h0 v (List.mem_range.mp m1), at_n c0 h0 v' (List.mem_range.mp m2)] at e
      exact hne e
    · refine List.Pairwise.imp_of_mem ?_ h.nd
      intro c0 c1 h0 h1 hne a ha b hb z
      obtain ⟨v, mv, ha⟩ := List.mem_filterMap.mp ha
      obtain ⟨v', mv', hb⟩ := List.mem_filterMap.mp hb
      split at ha <;> simp at ha
      split at hb <;> simp at hb
      subst ha hb
      refine hne (ext_cval fun m => ?_)
      by_cases y : m = n
      · subst y
        rw [((h.mem c0).mp h0).1 m hn, ((h.mem c1).mp h1).1 m hn]
      · have e := congrArg (fun z => cval z m) z
        simp only [at_m _ _ _ (List.mem_range.mp mv) y, at_m _ _ _ (List.mem_range.mp mv') y] at e
        exact e
theorem msk_cons (n : Nat) (S : List Nat) : msk S ||| cho n 15 = msk (n :: S) := by
  rw [msk, Nat.or_comm]
theorem wok_run (fs : Fs) : ∀ (order S W : List Nat), WOk fs S W → order.Nodup → (∀ n ∈ order, n ∉ S) → WOk fs (order.reverse ++ S) (runW (mfs fs) order (msk S) W)
  | [], S, W, h, _, _ => h
  | n :: r, S, W, h, hd, hn => by
    have h1 := wok_grow h (hn n (List.mem_cons_self ..))
    have hd' := List.nodup_cons.mp hd
    have h2 := wok_run fs r (n :: S) _ h1 hd'.2 fun m hm q => by
      rcases List.mem_cons.mp q with q | q
      · subst q
        exact hd'.1 hm
      · exact hn m (List.mem_cons_of_mem _ hm) q
    rw [runW, msk_cons]
    simpa using h2

def chs (p : Row) (d : Rows) : List Nat := (d.filter fun r => r.table == p.table).filterMap fun r => (unify (p.at_.zip r.at_) []).map pk
def fsOf (parts : List Row) (d : Rows) : Fs := parts.map fun p => (p.at_, chs p d)
/-- rows as they are read -/
def RowsOk (d : Rows) : Prop := ∀ r ∈ d, r.at_.length = places r.table ∧ ∀ v ∈ r.at_, v < 16
def PartsOk (parts : List Row) : Prop := ∀ p ∈ parts, p.at_.length = places p.table
theorem plain_nil : Plain [] := ⟨by simp, fun _ _ m => (nomatch m)⟩
theorem value_of {e : Env} {x v : Nat} (h : e.lookup x = some v) : value e x = v := by simp [value, h]
theorem chs_iff {p : Row} {d : Rows} (hp : p.at_.length = places p.table) (hd : RowsOk d) (f : Nat → Nat) :
    (∃ c' ∈ chs p d, ∀ m, m ∈ p.at_ → cval c' m = f m) ↔ p.by_ f ∈ d := by
  constructor
  · rintro ⟨c', m', h⟩
    unfold chs at m'
    obtain ⟨r, hr, e⟩ := List.mem_filterMap.mp m'
    obtain ⟨hr, ht⟩ := List.mem_filter.mp hr
    have ht : r.table = p.table := by simpa using ht
    have hl : r.at_.length = p.at_.length := by rw [(hd r hr).1, hp, ht]
    cases q : unify (p.at_.zip r.at_) [] with
    | none =>
      rw [q] at e
      cases e
    | some en =>
      rw [q] at e
      have e : pk en = c' := Option.some.inj e
      have pl : Plain en := unify_plain _ _ _ plain_nil (fun x v z => (hd r hr).2 v (List.of_mem_zip z).2) q
      have u2 := (unify_some _ _ _ q).2.1
      have : p.by_ f = r := by
        have em : p.at_.map f = r.at_ := map_zip _ _ hl fun x v z => by
          rw [← h x (List.of_mem_zip z).1, ← e, cval_pk pl, value_of (u2 x v z)]
        cases r
        simp only at ht em
        rw [Row.by_, em, ht]
      rw [this]
      exact hr
  · intro h
    obtain ⟨e, q⟩ := unify_ex f (p.at_.zip (p.by_ f).at_) [] (fun x v z => by simp at z) fun x v z => (zip_map _ _ _ z).1
    have pl : Plain e := unify_plain _ _ _ plain_nil (fun x v z => (hd _ h).2 v (List.of_mem_zip z).2) q
    refine ⟨pk e, List.mem_filterMap.mpr ⟨p.by_ f, List.mem_filter.mpr ⟨h, by simp [Row.by_]⟩, by rw [q]; rfl⟩, fun m hm => ?_⟩
    obtain ⟨v, z⟩ := mem_zip_of_mem p.at_ (p.by_ f).at_ (by simp [Row.by_]) m hm
    rw [cval_pk pl, value_of ((unify_some _ _ _ q).2.1 m v z), (zip_map _ _ _ z).1]
theorem places_pos (t : Nat) : 0 < places t := by
  unfold places
  split
  · decide
  · split <;> decide

/-- the names one after the other, in whatever order: just the ways -/
theorem run_ways {parts : List Row} {d : Rows} (hp : PartsOk parts) (hd : RowsOk d) {order : List Nat} (hn : order.Nodup) (ho : ∀ x, x ∈ order ↔ ∃ p ∈ parts, x ∈ p.at_) :
    (runW (mfs (fsOf parts d)) order 0 [0]).Perm ((waysOf parts d.eraseDups).map pk) := by
  have W := wok_run (fsOf parts d) order [] [0] (wok_zero _) hn (fun _ _ => by simp)
  have m0 : msk [] = 0 := rfl
  rw [m0] at W
  have hde : ∀ r, r ∈ d.eraseDups ↔ r ∈ d := fun r => List.mem_eraseDups
  have hd' : ∀ r ∈ d.eraseDups, ∀ v ∈ r.at_, v < 16 := fun r hr => (hd r ((hde r).mp hr)).2
  have pl : ∀ e ∈ waysOf parts d.eraseDups, Plain e := fun e he => ways_plain hd' parts [[]] (fun e0 h0 => by
    have : e0 = [] := by simpa using h0
    subst this
    exact plain_nil) e he
  refine (List.perm_ext_iff_of_nodup W.nd ?_).mpr fun c => ?_
  · rw [List.Nodup, List.pairwise_map]
    refine List.Pairwise.imp_of_mem ?_ (ways_apart (parts := parts) (nodup_eraseDups _ d (Nat.le_refl _)))
    rintro e e' me me' ⟨x, v, v', k1, k2, k3⟩ z
    have q := congrArg (fun z => cval z x) z
    simp only [cval_pk (pl e me), cval_pk (pl e' me'), value_of k1, value_of k2] at q
    exact k3 q
  · rw [W.mem, List.mem_map]
    simp only [List.append_nil]
    have mo : ∀ x, x ∈ order.reverse ↔ ∃ p ∈ parts, x ∈ p.at_ := fun x => by rw [List.mem_reverse, ho]
    constructor
    · rintro ⟨k1, k2⟩
      have lead : ∀ p ∈ parts, p.by_ (cval c) ∈ d.eraseDups := fun p mp => by
        rw [hde, ← chs_iff (hp p mp) hd]
        have ne : p.at_ ≠ [] := fun z => by
          have := hp p mp
          rw [z] at this
          have := places_pos p.table
          simp at *
          omega
        obtain ⟨m0, hm0⟩ := List.exists_mem_of_ne_nil _ ne
        obtain ⟨c', m', h⟩ := k2 (p.at_, chs p d) (List.mem_map.mpr ⟨p, mp, rfl⟩) ⟨m0, hm0, (mo m0).mpr ⟨p, mp, hm0⟩⟩
        exact ⟨c', m', fun m hm => h m hm ((mo m).mpr ⟨p, mp, hm⟩)⟩
      obtain ⟨e, he, q⟩ := ways_told (cval c) lead
      refine ⟨e, he, ext_cval fun m => ?_⟩
      rw [cval_pk (pl e he)]
      by_cases y : ∃ p ∈ parts, m ∈ p.at_
      · obtain ⟨p, mp, hm⟩ := y
        exact value_of (q p mp m hm)
      · rw [k1 m (fun z => y ((mo m).mp z))]
        have : e.lookup m = none := by
          cases z : e.lookup m with
          | none => rfl
          | some v => exact absurd ((ways_dom he m).mp ⟨v, z⟩) y
        simp [value, this]
    · rintro ⟨e, he, rfl⟩
      refine ⟨fun m hm => ?_, fun f hf _ => ?_⟩
      · rw [cval_pk (pl e he)]
        have : e.lookup m = none := by
          cases z : e.lookup m with
          | none => rfl
          | some v => exact absurd ((mo m).mpr ((ways_dom he m).mp ⟨v, z⟩)) hm
        simp [value, this]
      · obtain ⟨p, mp, rfl⟩ := List.mem_map.mp hf
        have l := ways_leads he p mp
        rw [hde, ← chs_iff (hp p mp) hd] at l
        obtain ⟨c', m', h⟩ := l
        exact ⟨c', m', fun m hm _ => by rw [h m hm, cval_pk (pl e he)]⟩
end Cq

set_option Elab.async false
namespace Cq
open Sa97 Sx34

section
variable {α : Type}
def lookN (kvs : List (Nat × α)) (k : Nat) : Option α := (kvs.find? fun kv => decide (kv.1 = k)).map (·.2)
def putN (kvs : List (Nat × α)) (k : Nat) (v : α) : List (Nat × α) :=
  if (kvs.any fun kv => decide (kv.1 = k)) = true then kvs.map (fun kv => if kv.1 = k then (kv.1, v) else kv) else kvs ++ [(k, v)]
theorem lookN_pos {k : Nat} {v : α} {r : List (Nat × α)} : lookN ((k, v) :: r) k = some v := by simp [lookN]
theorem lookN_neg {a k : Nat} {v : α} {r : List (Nat × α)} (h : a ≠ k) : lookN ((a, v) :: r) k = lookN r k := by simp [lookN, h]
theorem lookN_none {k : Nat} : ∀ {r : List (Nat × α)}, k ∉ r.map (·.1) → lookN r k = none
  | [], _ => rfl
  | (a, v) :: r, h => by
    simp only [List.map_cons, List.mem_cons, not_or] at h
    rw [lookN_neg (fun z => h.1 z.symm)]
    exact lookN_none h.2
theorem lookN_mem {k : Nat} {v : α} : ∀ {r : List (Nat × α)}, lookN r k = some v → (k, v) ∈ r
  | [], h => by simp [lookN] at h
  | (a, w) :: r, h => by
    by_cases c : a = k
    · subst c
      rw [lookN_pos] at h
      cases h
      exact List.mem_cons_self ..
    · rw [lookN_neg c] at h
      exact List.mem_cons_of_mem _ (lookN_mem h)
theorem lookN_of_mem {k : Nat} {v : α} : ∀ {r : List (Nat × α)}, (r.map (·.1)).Nodup → (k, v) ∈ r → lookN r k = some v
  | [], _, h => by simp at h
  | (a, w) :: r, hn, h => by
    have hn := List.nodup_cons.mp hn
    rcases List.mem_cons.mp h with h | h
    · cases h
      exact lookN_pos
    · have : a ≠ k := fun z => hn.1 (List.mem_map.mpr ⟨(k, v), h, z.symm⟩)
      rw [lookN_neg this]
      exact lookN_of_mem hn.2 h
theorem lookN_none_iff {k : Nat} {r : List (Nat × α)} : lookN r k = none ↔ k ∉ r.map (·.1) := by
  constructor
  · intro h m
    obtain ⟨⟨a, v⟩, m1, e⟩ := List.mem_map.mp m
    have e : a = k := e
    subst e
    simp only [lookN, Option.map_eq_none_iff, List.find?_eq_none] at h
    have := h _ m1
    simp at this
  · exact lookN_none
theorem putN_pos {k : Nat} {v w : α} {r : List (Nat × α)} (h : k ∉ r.map (·.1)) : putN ((k, w) :: r) k v = (k, v) :: r := by
  have e : r.map (fun kv => if kv.1 = k then (kv.1, v) else kv) = r := by
    conv => rhs; rw [← List.map_id r]
    refine List.map_congr_left fun kv m => ?_
    have : kv.1 ≠ k := fun z => h (List.mem_map.mpr ⟨kv, m, z⟩)
    simp [this]
  unfold putN
  rw [if_pos (by simp), List.map_cons, e]
  simp
theorem putN_neg {a k : Nat} {v w : α} {r : List (Nat × α)} (h : a ≠ k) : putN ((a, w) :: r) k v = (a, w) :: putN r k v := by
  unfold putN
  simp only [List.any_cons, h, decide_false, Bool.false_or]
  split
  · simp [h]
  · rfl
theorem putN_new {k : Nat} {v : α} {r : List (Nat × α)} (h : k ∉ r.map (·.1)) : putN r k v = r ++ [(k, v)] := by
  unfold putN
  rw [if_neg]
  intro z
  obtain ⟨kv, m, e⟩ := List.any_eq_true.mp z
  exact h (List.mem_map.mpr ⟨kv, m, of_decide_eq_true e⟩)
theorem putN_keys {k : Nat} {v : α} (r : List (Nat × α)) : (putN r k v).map (·.1) = if k ∈ r.map (·.1) then r.map (·.1) else r.map (·.1) ++ [k] := by
  by_cases h : k ∈ r.map (·.1)
  · rw [if_pos h]
    obtain ⟨kv, m, e⟩ := List.mem_map.mp h
    unfold putN
    rw [if_pos (List.any_eq_true.mpr ⟨kv, m, decide_eq_true e⟩), List.map_map]
    refine List.map_congr_left fun x _ => ?_
    simp only [Function.comp]
    split <;> rfl
  · rw [if_neg h, putN_new h, List.map_append]
    rfl
theorem putN_nodup {k : Nat} {v : α} {r : List (Nat × α)} (h : (r.map (·.1)).Nodup) : ((putN r k v).map (·.1)).Nodup := by
  rw [putN_keys]
  split
  · exact h
  · rename_i c
    rw [List.nodup_append]
    exact ⟨h, by simp, fun a ha b hb z => c (by
      have : b = k := by simpa using hb
      rw [← this, ← z]
      exact ha)⟩
theorem lookN_put {k : Nat} {v : α} (r : List (Nat × α)) (j : Nat) : lookN (putN r k v) j = if j = k then some v else lookN r j := by
  induction r with
  | nil =>
    by_cases c : j = k
    · subst c; simp [putN, lookN]
    · simp [putN, lookN, c, Ne.symm c]
  | cons kv r ih =>
    obtain ⟨a, w⟩ := kv
    by_cases e : a = k
    · subst e
      have q : putN ((a, w) :: r) a v = (a, v) :: r.map (fun kv => if kv.1 = a then (kv.1, v) else kv) := by
        unfold putN
        rw [if_pos (by simp)]
        simp
      rw [q]
      by_cases c : j = a
      · subst c
        rw [lookN_pos, if_pos rfl]
      · rw [lookN_neg (Ne.symm c), lookN_neg (Ne.symm c), if_neg c]
        have : ∀ l : List (Nat × α), lookN (l.map fun kv => if kv.1 = a then (kv.1, v) else kv) j = lookN l j := by
          intro l
          induction l with
          | nil => rfl
          | cons x l ihl =>
            obtain ⟨b, u⟩ := x
            by_cases z : b = a
            · subst z
              simp only [List.map_cons, if_true]
              rw [lookN_neg (Ne.symm c), lookN_neg (Ne.symm c), ihl]
            · simp only [List.map_cons, z, if_false]
              by_cases y : b = j
              · subst y
                rw [lookN_pos, lookN_pos]
              · rw [lookN_neg y, lookN_neg y, ihl]
        exact this r
    · rw [putN_neg e]
      by_cases c : a = j
      · subst c
        rw [lookN_pos, lookN_pos, if_neg e]
      · rw [lookN_neg c, lookN_neg c, ih]
end

def expand (kvs : List (Nat × Nat)) : List Nat := kvs.flatMap fun kn => List.replicate kn.2 kn.1
/-- kvs counts the items of L -/
structure Hist (kvs : List (Nat × Nat)) (L : List Nat) : Prop where
  nd : (kvs.map (·.1)).Nodup
  pos : ∀ kn ∈ kvs, 0 < kn.2
  perm : (expand kvs).Perm L
def addK (g : List (Nat × Nat)) (kn : Nat × Nat) : List (Nat × Nat) := putN g kn.1 ((lookN g kn.1).getD 0 + kn.2)
theorem expand_cons (kn : Nat × Nat) (r : List (Nat × Nat)) : expand (kn :: r) = List.replicate kn.2 kn.1 ++ expand r := rfl
theorem add_expand (k n : Nat) : ∀ (g : List (Nat × Nat)), (g.map (·.1)).Nodup → (expand (addK g (k, n))).Perm (expand g ++ List.replicate n k)
  | [], _ => by simp [addK, putN, lookN, expand]
  | (a, m) :: r, h => by
    have h' := List.nodup_cons.mp h
    by_cases c : a = k
    · subst c
      have e : addK ((a, m) :: r) (a, n) = (a, m + n) :: r := by
        unfold addK
        rw [lookN_pos, putN_pos h'.1]
        rfl
      rw [e, expand_cons, expand_cons]
      simp only
      rw [← List.replicate_append_replicate, List.append_assoc, List.append_assoc]
      exact List.Perm.append_left _ List.perm_append_comm
    · have e : addK ((a, m) :: r) (k, n) = (a, m) :: addK r (k, n) := by
        unfold addK
        rw [lookN_neg c, putN_neg c]
      rw [e, expand_cons, expand_cons, List.append_assoc]
      exact List.Perm.append_left _ (add_expand k n r h'.2)
theorem hist_add {g : List (Nat × Nat)} {L : List Nat} (h : Hist g L) {kn : Nat × Nat} (hp : 0 < kn.2) : Hist (addK g kn) (L ++ List.replicate kn.2 kn.1) := by
  refine ⟨putN_nodup h.nd, fun x m => ?_, (add_expand kn.1 kn.2 g h.nd).trans (List.Perm.append_right _ h.perm)⟩
  unfold addK putN at m
  split at m
  · obtain ⟨y, my, e⟩ := List.mem_map.mp m
    split at e
    · subst e
      simp only
      omega
    · subst e
      exact h.pos _ my
  · rcases List.mem_append.mp m with m | m
    · exact h.pos _ m
    · have : x = (kn.1, (lookN g kn.1).getD 0 + kn.2) := by simpa using m
      subst this
      simp only
      omega
def addAll (items g : List (Nat × Nat)) : List (Nat × Nat) := items.foldl addK g
theorem hist_all : ∀ {items g : List (Nat × Nat)} {L : List Nat}, Hist g L → (∀ kn ∈ items, 0 < kn.2) → Hist (addAll items g) (L ++ expand items)
  | [], g, L, h, _ => by simpa [expand, addAll] using h
  | kn :: r, g, L, h, hp => by
    have h1 := hist_add h (hp kn (List.mem_cons_self ..))
    have h2 := hist_all (items := r) h1 fun x m => hp x (List.mem_cons_of_mem _ m)
    rw [expand_cons, ← List.append_assoc]
    exact h2
theorem hist_nil : Hist [] [] := ⟨by simp, fun _ m => (nomatch m), .nil⟩

theorem perm_flatMap {α β : Type} {f g : α → List β} : ∀ {l : List α}, (∀ a ∈ l, (f a).Perm (g a)) → (l.flatMap f).Perm (l.flatMap g)
  | [], _ => .nil
  | a :: l, h => by
    rw [List.flatMap_cons, List.flatMap_cons]
    exact (h a (List.mem_cons_self ..)).append (perm_flatMap fun b m => h b (List.mem_cons_of_mem _ m))
theorem flatMap_append2 {α β : Type} (f g : α → List β) : ∀ l : List α, (l.flatMap fun x => f x ++ g x).Perm (l.flatMap f ++ l.flatMap g)
  | [] => .nil
  | a :: l => by
    rw [List.flatMap_cons, List.flatMap_cons, List.flatMap_cons, List.append_assoc, List.append_assoc]
    refine List.Perm.append_left _ ?_
    refine (List.Perm.append_left _ (flatMap_append2 f g l)).trans ?_
    rw [← List.append_assoc, ← List.append_assoc]
    exact List.Perm.append_right _ List.perm_append_comm
theorem flatMap_nil {α β : Type} (l : List α) : (l.flatMap fun _ => ([] : List β)) = [] := by
  induction l with
  | nil => rfl
  | cons a l ih => rw [List.flatMap_cons, ih]; rfl
theorem rep_perm {α β : Type} (k : α) (G : α → List β) : ∀ n : Nat, ((List.replicate n k).flatMap G).Perm ((G k).flatMap fun x => List.replicate n x)
  | 0 => by
    have : (fun x : β => List.replicate 0 x) = fun _ => [] := rfl
    rw [this, flatMap_nil]
    exact .nil
  | n + 1 => by
    have e : (fun x : β => List.replicate (n + 1) x) = fun x => [x] ++ List.replicate n x := rfl
    rw [e, List.replicate_succ, List.flatMap_cons]
    refine (List.Perm.append_left _ (rep_perm k G n)).trans ?_
    refine List.Perm.trans ?_ (flatMap_append2 _ _ _).symm
    rw [List.flatMap_singleton']

def items (fs : List (Nat × List Nat)) (done name nd : Nat) (counts : List (Nat × Nat)) : List (Nat × Nat) :=
  counts.flatMap fun kn => (List.range 16).filterMap fun v => if alw fs done name kn.1 v = true then some ((kn.1 ||| cho name v) &&& nd, kn.2) else none
def giveC (fs : List (Nat × List Nat)) (done name nd : Nat) (counts : List (Nat × Nat)) : List (Nat × Nat) := addAll (items fs done name nd counts) []
def ndOf (fs : List (Nat × List Nat)) (kept done : Nat) : Nat := (fs.foldl (fun n f => if f.1 &&& done ≠ f.1 then n ||| f.1 else n) kept) &&& done
def gk (fs : List (Nat × List Nat)) (done name nd k : Nat) : List Nat := (List.range 16).filterMap fun v => if alw fs done name k v = true then some ((k ||| cho name v) &&& nd) else none

theorem fm_flat {α β γ : Type} (f : α → Option β) (g : β → List γ) : ∀ l : List α, (l.filterMap f).flatMap g = l.flatMap fun a => match f a with | some b => g b | none => []
  | [] => rfl
  | a :: l => by
    rw [List.filterMap_cons, List.flatMap_cons, ← fm_flat f g l]
    cases f a <;> rfl
theorem flat_congr {α β : Type} {f g : α → List β} : ∀ {l : List α}, (∀ a ∈ l, f a = g a) → l.flatMap f = l.flatMap g
  | [], _ => rfl
  | a :: l, h => by
    rw [List.flatMap_cons, List.flatMap_cons, h a (List.mem_cons_self ..), flat_congr fun b m => h b (List.mem_cons_of_mem _ m)]
theorem fm_congr {α β : Type} {f g : α → Option β} : ∀ {l : List α}, (∀ a ∈ l, f a = g a) → l.filterMap f = l.filterMap g
  | [], _ => rfl
  | a :: l, h => by
    rw [List.filterMap_cons, List.filterMap_cons, h a (List.mem_cons_self ..), fm_congr fun b m => h b (List.mem_cons_of_mem _ m)]
theorem expand_items (fs : List (Nat × List Nat)) (done name nd : Nat) (counts : List (Nat × Nat)) :
    expand (items fs done name nd counts) = counts.flatMap fun kn => (gk fs done name nd kn.1).flatMap fun x => List.replicate kn.2 x := by
  unfold expand items
  rw [List.flatMap_assoc]
  refine congrArg (fun f => counts.flatMap f) (funext fun kn => ?_)
  unfold gk
  rw [fm_flat, fm_flat]
  refine congrArg (fun f => (List.range 16).flatMap f) (funext fun v => ?_)
  by_cases c : alw fs done name kn.1 v = true
  · simp [c]
  · simp [c]
theorem give_hist {fs : List (Nat × List Nat)} {done name nd nd' : Nat} {counts : List (Nat × Nat)} {W : List Nat} (h : Hist counts (W.map (· &&& nd)))
    (h1 : ∀ c ∈ W, ∀ v, v < 16 → alw fs done name c v = alw fs done name (c &&& nd) v) (h2 : ∀ c ∈ W, ∀ v, v < 16 → (c ||| cho name v) &&& nd' = ((c &&& nd) ||| cho name v) &&& nd') :
    Hist (giveC fs done name nd' counts) ((growW fs done name W).map (· &&& nd')) := by
  have hi : ∀ kn ∈ items fs done name nd' counts, 0 < kn.2 := fun kn m => by
    obtain ⟨x, mx, m⟩ := List.mem_flatMap.mp m
    obtain ⟨v, _, e⟩ := List.mem_filterMap.mp m
    split at e
    · have := Option.some.inj e
      subst this
      exact h.pos x mx
    · cases e
  have q := hist_all hist_nil hi
  rw [List.nil_append] at q
  refine ⟨q.nd, q.pos, q.perm.trans ?_⟩
  rw [expand_items]
  have e1 : (growW fs done name W).map (· &&& nd') = (W.map (· &&& nd)).flatMap (gk fs done name nd') := by
    unfold growW
    rw [List.map_flatMap, List.flatMap_map]
    refine flat_congr fun c mc => ?_
    unfold gk
    rw [List.map_filterMap]
    refine fm_congr fun v mv => ?_
    have mv := List.mem_range.mp mv
    rw [← h1 c mc v mv, ← h2 c mc v mv]
    split <;> rfl
  rw [e1]
  refine List.Perm.trans ?_ (h.perm.flatMap_right (gk fs done name nd'))
  unfold expand
  rw [List.flatMap_assoc]
  exact perm_flatMap fun kn _ => (rep_perm _ _ _).symm

def runC (fs : List (Nat × List Nat)) (kept : Nat) : List Nat → Nat → List (Nat × Nat) → List (Nat × Nat)
  | [], _, g => g
  | n :: r, done, g => runC fs kept r (done ||| cho n 15) (giveC fs done n (ndOf fs kept (done ||| cho n 15)) g)
theorem bit_fold (done j : Nat) : ∀ (fs : List (Nat × List Nat)) (k : Nat), (fs.foldl (fun n f => if f.1 &&& done ≠ f.1 then n ||| f.1 else n) k).testBit j = true ↔
    k.testBit j = true ∨ ∃ f ∈ fs, f.1 &&& done ≠ f.1 ∧ f.1.testBit j = true
  | [], k => by simp
  | f :: r, k => by
    rw [List.foldl_cons, bit_fold done j r]
    by_cases c : f.1 &&& done ≠ f.1
    · rw [if_pos c, Nat.testBit_or, Bool.or_eq_true]
      simp only [List.mem_cons, exists_eq_or_imp]
      constructor
      · rintro ((h | h) | h)
        · exact .inl h
        · exact .inr (.inl ⟨c, h⟩)
        · exact .inr (.inr h)
      · rintro (h | h | h)
        · exact .inl (.inl h)
        · exact .inl (.inr h.2)
        · exact .inr h
    · rw [if_neg c]
      simp only [List.mem_cons, exists_eq_or_imp]
      constructor
      · rintro (h | h)
        · exact .inl h
        · exact .inr (.inr h)
      · rintro (h | h | h)
        · exact .inl h
        · exact absurd h.1 c
        · exact .inr h
theorem bit_nd (fs : List (Nat × List Nat)) (kept done j : Nat) : (ndOf fs kept done).testBit j = true ↔ done.testBit j = true ∧ (kept.testBit j = true ∨ ∃ f ∈ fs, f.1 &&& done ≠ f.1 ∧ f.1.testBit j = true) := by
  unfold ndOf
  rw [Nat.testBit_and, Bool.and_eq_true, bit_fold]
  exact And.comm
theorem and_absorb {c nd k : Nat} (h : ∀ j, k.testBit j = true → nd.testBit j = true) : (c &&& nd) &&& k = c &&& k := by
  refine Nat.eq_of_testBit_eq fun j => ?_
  rw [Nat.testBit_and, Nat.testBit_and, Nat.testBit_and]
  cases q : k.testBit j with
  | false => simp
  | true => simp [h j q]
theorem part_sub {S l : List Nat} {n : Nat} (hn : n ∉ S) (hl : n ∈ l) : msk l &&& msk S ≠ msk l := fun z => by
  have e := congrArg (fun z => z.testBit (4 * n)) z
  simp only [Nat.testBit_and, bit_msk] at e
  have e1 : 4 * n / 4 = n := by omega
  rw [e1] at e
  simp [hn, hl] at e
theorem all_cong {α : Type} {f g : α → Bool} : ∀ {l : List α}, (∀ a ∈ l, f a = g a) → l.all f = l.all g
  | [], _ => rfl
  | a :: l, h => by
    rw [List.all_cons, List.all_cons, h a (List.mem_cons_self ..), all_cong fun b m => h b (List.mem_cons_of_mem _ m)]
theorem alw_nd {fs : Fs} {kept : Nat} {S : List Nat} {n c v : Nat} (hn : n ∉ S) : alw (mfs fs) (msk S) n c v = alw (mfs fs) (msk S) n (c &&& ndOf (mfs fs) kept (msk S)) v := by
  unfold alw
  refine all_cong fun f mf => ?_
  by_cases z : f.1 &&& cho n 15 = 0
  · simp [z]
  · obtain ⟨l, ml, e⟩ := List.mem_map.mp mf
    subst e
    have hl : n ∈ l.1 := (and_cho_ne l.1 rfl).mp z
    have q : (c &&& ndOf (mfs fs) kept (msk S)) &&& (msk l.1 &&& msk S) = c &&& (msk l.1 &&& msk S) := and_absorb fun j hj => by
      rw [Nat.testBit_and, Bool.and_eq_true] at hj
      exact (bit_nd _ _ _ _).mpr ⟨hj.2, .inr ⟨_, mf, part_sub hn hl, hj.1⟩⟩
    simp only [q]
theorem cut_nd {fs : Fs} {kept : Nat} {S : List Nat} {n c v : Nat} (hc : ∀ m, m ∉ S → cval c m = 0) :
    (c ||| cho n v) &&& ndOf (mfs fs) kept (msk (n :: S)) = ((c &&& ndOf (mfs fs) kept (msk S)) ||| cho n v) &&& ndOf (mfs fs) kept (msk (n :: S)) := by
  refine Nat.eq_of_testBit_eq fun j => ?_
  rw [Nat.testBit_and, Nat.testBit_and, Nat.testBit_or, Nat.testBit_or, Nat.testBit_and]
  cases q : (ndOf (mfs fs) kept (msk (n :: S))).testBit j with
  | false => simp
  | true =>
    obtain ⟨h1, h2⟩ := (bit_nd _ _ _ _).mp q
    rw [bit_msk] at h1
    have h1 : j / 4 ∈ n :: S := of_decide_eq_true h1
    by_cases y : j / 4 ∈ S
    · have : (ndOf (mfs fs) kept (msk S)).testBit j = true := by
        refine (bit_nd _ _ _ _).mpr ⟨by rw [bit_msk]; simp [y], h2.imp_right ?_⟩
        rintro ⟨f, mf, k1, k2⟩
        refine ⟨f, mf, fun z => k1 ?_, k2⟩
        refine Nat.eq_of_testBit_eq fun i => ?_
        have e := congrArg (fun z => z.testBit i) z
        rw [Nat.testBit_and, bit_msk]
        simp only [Nat.testBit_and, bit_msk] at e
        cases r : f.1.testBit i with
        | false => simp
        | true =>
          rw [r] at e
          have : i / 4 ∈ S := by simpa using e
          simp [this]
      simp [this]
    · have e0 : c.testBit j = false := by
        have e := bit_cval c (j / 4) (j % 4)
        rw [hc _ y, Nat.zero_testBit] at e
        have h4 : j % 4 < 4 := Nat.mod_lt _ (by decide)
        have q2 : 4 * (j / 4) + j % 4 = j := by omega
        rw [q2] at e
        simpa [h4] using e.symm
      simp [e0]
theorem run_hist (fs : Fs) (kept : Nat) : ∀ (order S W : List Nat) (g : List (Nat × Nat)), WOk fs S W → order.Nodup → (∀ n ∈ order, n ∉ S) → Hist g (W.map (· &&& ndOf (mfs fs) kept (msk S))) →
    Hist (runC (mfs fs) kept order (msk S) g) ((runW (mfs fs) order (msk S) W).map (· &&& ndOf (mfs fs) kept (msk (order.reverse ++ S))))
  | [], S, W, g, _, _, _, h => h
  | n :: r, S, W, g, w, hd, hn, h => by
    have hnS := hn n (List.mem_cons_self ..)
    have hd' := List.nodup_cons.mp hd
    have h1 : Hist (giveC (mfs fs) (msk S) n (ndOf (mfs fs) kept (msk (n :: S))) g) ((growW (mfs fs) (msk S) n W).map (· &&& ndOf (mfs fs) kept (msk (n :: S)))) :=
      give_hist h (fun c _ v _ => alw_nd hnS) fun c mc v _ => cut_nd ((w.mem c).mp mc).1
    have h2 := run_hist fs kept r (n :: S) _ _ (wok_grow w hnS) hd'.2 (fun m hm q => by
      rcases List.mem_cons.mp q with q | q
      · subst q
        exact hd'.1 hm
      · exact hn m (List.mem_cons_of_mem _ hm) q) h1
    rw [runC, runW, msk_cons]
    simpa using h2
/-- what the program counts: the ways, cut down to the kept names -/
theorem run_count {parts : List Row} {d : Rows} (hp : PartsOk parts) (hd : RowsOk d) {order : List Nat} (hn : order.Nodup) (ho : ∀ x, x ∈ order ↔ ∃ p ∈ parts, x ∈ p.at_) {K : List Nat} (hK : ∀ x ∈ K, x ∈ order) :
    Hist (runC (mfs (fsOf parts d)) (msk K) order 0 [(0, 1)]) ((waysOf parts d.eraseDups).map fun e => pk e &&& msk K) := by
  have h0 : Hist [(0, 1)] (([0] : List Nat).map (· &&& ndOf (mfs (fsOf parts d)) (msk K) (msk []))) := ⟨by simp, fun kn m => by
    have : kn = (0, 1) := by simpa using m
    subst this
    decide, by simp [expand]⟩
  have h := run_hist (fsOf parts d) (msk K) order [] [0] [(0, 1)] (wok_zero _) hn (fun _ _ => by simp) h0
  have m0 : msk [] = 0 := rfl
  rw [m0] at h
  refine ⟨h.nd, h.pos, h.perm.trans ?_⟩
  have e : ndOf (mfs (fsOf parts d)) (msk K) (msk (order.reverse ++ [])) = msk K := by
    refine Nat.eq_of_testBit_eq fun j => ?_
    have q := bit_nd (mfs (fsOf parts d)) (msk K) (msk (order.reverse ++ [])) j
    have no : ¬ ∃ f ∈ mfs (fsOf parts d), f.1 &&& msk (order.reverse ++ []) ≠ f.1 ∧ f.1.testBit j = true := by
      rintro ⟨f, mf, k1, k2⟩
      refine k1 (Nat.eq_of_testBit_eq fun i => ?_)
      obtain ⟨l, ml, el⟩ := List.mem_map.mp mf
      obtain ⟨p, mp, ep⟩ := List.mem_map.mp ml
      subst ep el
      rw [Nat.testBit_and, bit_msk, bit_msk]
      by_cases z : i / 4 ∈ p.at_
      · have : i / 4 ∈ order := (ho _).mpr ⟨p, mp, z⟩
        simp [z, this]
      · simp [z]
    rw [bit_msk] at q
    cases r : (msk K).testBit j with
    | true =>
      refine q.mpr ⟨?_, .inl r⟩
      rw [bit_msk] at r
      have := hK _ (of_decide_eq_true r)
      simp [this]
    | false =>
      cases r2 : (ndOf (mfs (fsOf parts d)) (msk K) (msk (order.reverse ++ []))).testBit j with
      | false => rfl
      | true =>
        rcases (q.mp r2).2 with z | z
        · rw [r] at z
          cases z
        · exact absurd z no
  rw [e]
  have q := (run_ways hp hd hn ho).map (· &&& msk K)
  rw [List.map_map] at q
  exact q
end Cq

set_option Elab.async false
namespace Cq
open Sa97 Sx34 Sx34Neutral

def plc (t : Nat) : Nat := [1, 1, 1, 2, 2, 2, 3, 3].getD t 0
theorem plc_places {t : Nat} (h : t < 8) : plc t = places t := by
  match t, h with
  | 0, _ => rfl
  | 1, _ => rfl
  | 2, _ => rfl
  | 3, _ => rfl
  | 4, _ => rfl
  | 5, _ => rfl
  | 6, _ => rfl
  | 7, _ => rfl
theorem places_le (t : Nat) : places t ≤ 3 := by
  unfold places
  split
  · decide
  · split <;> decide
/-- the four numbers from place a on as a row -/
def rowFrom (ns : List Int) (a : Nat) : Row := rowAt ((ns.drop a).take 4)
theorem rowFrom_table {ns : List Int} {a : Nat} {t : Int} (h : ns[a]? = some t) : (rowFrom ns a).table = t.toNat := by
  unfold rowFrom rowAt
  have : ((ns.drop a).take 4).getD 0 0 = t := by
    rw [List.getD_eq_getElem?_getD, List.getElem?_take, if_pos (by decide), List.getElem?_drop]
    simp [h]
  simp only [this]
theorem rowFrom_at {ns : List Int} {a : Nat} : (rowFrom ns a).at_ = nats ((ns.drop (a + 1)).take (places (rowFrom ns a).table)) := by
  have key : ∀ k, k ≤ 3 → (nats (((ns.drop a).take 4).drop 1)).take k = nats ((ns.drop (a + 1)).take k) := fun k hk => by
    unfold nats
    rw [List.drop_take, List.drop_drop, ← List.map_take, List.take_take, Nat.min_eq_left (by omega)]
  exact key _ (places_le _)
theorem rowFrom_len {ns : List Int} {a : Nat} (h : a + 4 ≤ ns.length) : (rowFrom ns a).at_.length = places (rowFrom ns a).table := by
  rw [rowFrom_at]
  unfold nats
  rw [List.length_map, List.length_take, List.length_drop]
  have := places_le (rowFrom ns a).table
  omega
theorem rowFrom_good {ns : List Int} {a m : Nat} (h : a + 4 ≤ ns.length) : (rowFrom ns a).good m = (decide ((rowFrom ns a).table < 8) && (rowFrom ns a).at_.all fun x => decide (x < m)) := by
  unfold Row.good
  rw [rowFrom_len h]
  simp
theorem four_eq (n : Nat) (l : List Int) (s : Nat) : four n (l.drop s) = (List.range n).map fun i => rowFrom l (s + 4 * i) := by
  unfold four rowFrom
  refine List.map_congr_left fun i _ => ?_
  rw [List.drop_drop]
theorem four_eq0 (n : Nat) (l : List Int) : four n l = (List.range n).map fun i => rowFrom l (4 * i) := by
  have := four_eq n l 0
  simpa using this
theorem four_len (n : Nat) (l : List Int) : (four n l).length = n := by simp [four]

/-- what is asked of a question's numbers -/
structure QOk (q : List Int) : Prop where
  len : q.length = 46
  pos : ∀ i : Nat, 2 ≤ i → ∀ x, q[i]? = some x → 0 ≤ x ∧ x ≤ 255
theorem bytes_iff {l : List Int} : NeutralIO.bytes l = true → ∀ x ∈ l, 0 ≤ x ∧ x ≤ 255 := by
  intro h x m
  unfold NeutralIO.bytes at h
  have := List.all_eq_true.mp h x m
  simp at this
  omega
theorem asks_ok {q : List Int} (h : asks q = true) : QOk q := by
  unfold asks at h
  simp only [Bool.and_eq_true, beq_iff_eq] at h
  refine ⟨h.1, fun i hi x hx => bytes_iff h.2.2 x ?_⟩
  refine List.mem_of_getElem? (i := i - 2) ?_
  rw [List.getElem?_drop, show 2 + (i - 2) = i by omega]
  exact hx
structure DOk (n : Int) (d : List Int) : Prop where
  len : 0 ≤ n → n ≤ 128 → (d.length : Int) = 4 * n
  non : ¬ (0 ≤ n ∧ n ≤ 128) → d = []
  pos : ∀ x ∈ d, 0 ≤ x ∧ x ≤ 255
theorem rowsOk_ok {n : Int} {d : List Int} (h : rowsOk n d = true) : DOk n d := by
  unfold rowsOk at h
  simp only [Bool.and_eq_true, decide_eq_true_eq] at h
  refine ⟨fun h1 h2 => ?_, fun h1 => ?_, bytes_iff h.2.1⟩
  · have := h.2.2
    rw [if_pos ⟨h1, h2⟩] at this
    exact this
  · have := h.2.2
    rw [if_neg h1] at this
    exact List.length_eq_zero_iff.mp (by omega)

/-- a question that is read: its two counts are in their bounds, its parts are good, its heads stand -/
theorem good_out {q : List Int} {h k : Int} (hq : QOk q) (h0 : q[0]? = some h) (h1 : q[1]? = some k) (b : ¬ (0 ≤ h ∧ h ≤ 4) ∨ ¬ (1 ≤ k ∧ k ≤ 10)) : (question q).good = false := by
  have e0 : q.getD 0 0 = h := by simp [List.getD_eq_getElem?_getD, h0]
  have e1 : q.getD 1 0 = k := by simp [List.getD_eq_getElem?_getD, h1]
  have : question q = ⟨[], []⟩ := by
    unfold question
    simp only [e0, e1]
    rw [if_pos (by omega)]
  rw [this]
  rfl
theorem question_in {q : List Int} {h k : Int} (h0 : q[0]? = some h) (h1 : q[1]? = some k) (b1 : 0 ≤ h ∧ h ≤ 4) (b2 : 1 ≤ k ∧ k ≤ 10) : question q = ⟨nats ((q.drop 2).take h.toNat), four k.toNat (q.drop 6)⟩ := by
  have e0 : q.getD 0 0 = h := by simp [List.getD_eq_getElem?_getD, h0]
  have e1 : q.getD 1 0 = k := by simp [List.getD_eq_getElem?_getD, h1]
  unfold question
  simp only [e0, e1]
  rw [if_neg (by omega)]
theorem good_in {q : List Int} {h k : Int} (hq : QOk q) (h0 : q[0]? = some h) (h1 : q[1]? = some k) (b1 : 0 ≤ h ∧ h ≤ 4) (b2 : 1 ≤ k ∧ k ≤ 10) :
    (question q).good = ((question q).parts.all (fun p => p.good 8) && (question q).head.all fun x => (names (question q)).contains x) := by
  have e := question_in h0 h1 b1 b2
  have l1 : (question q).head.length ≤ 4 := by
    rw [e]
    simp only [nats, List.length_map, List.length_take]
    omega
  have l2 : (question q).parts.length = k.toNat := by
    rw [e]
    simp only [four_len]
  unfold Question.good
  rw [decide_eq_true l1, decide_eq_true (show 1 ≤ (question q).parts.length by omega), decide_eq_true (show (question q).parts.length ≤ 10 by omega)]
  simp
theorem mem_names {q : Question} {x : Nat} : x ∈ names q ↔ ∃ p ∈ q.parts, x ∈ p.at_ := by
  unfold names
  rw [List.mem_flatMap]
/-- good parts, good rows -/
theorem good_part {p : Row} {m : Nat} (h : p.good m = true) : p.table < 8 ∧ p.at_.length = places p.table ∧ ∀ x ∈ p.at_, x < m := by
  unfold Row.good at h
  simp only [Bool.and_eq_true, decide_eq_true_eq, beq_iff_eq, List.all_eq_true] at h
  exact ⟨h.1, h.2.1, h.2.2⟩
theorem good_q {q : Question} (h : q.good = true) : q.head.length ≤ 4 ∧ 1 ≤ q.parts.length ∧ q.parts.length ≤ 10 ∧ (∀ p ∈ q.parts, p.good 8 = true) ∧ ∀ x ∈ q.head, x ∈ names q := by
  unfold Question.good at h
  simp only [Bool.and_eq_true, decide_eq_true_eq, List.all_eq_true, List.contains_iff_mem] at h
  exact ⟨h.1, h.2.1, h.2.2.1, h.2.2.2.1, h.2.2.2.2⟩

theorem sorted_unique {α : Type} {R : α → α → Prop} (ir : ∀ a, ¬ R a a) (asy : ∀ a b, R a b → ¬ R b a) : ∀ {l m : List α}, l.Pairwise R → m.Pairwise R → (∀ x, x ∈ l ↔ x ∈ m) → l = m
  | [], [], _, _, _ => rfl
  | [], b :: m, _, _, h => absurd ((h b).mpr (List.mem_cons_self ..)) (by simp)
  | a :: l, [], _, _, h => absurd ((h a).mp (List.mem_cons_self ..)) (by simp)
  | a :: l, b :: m, hl, hm, h => by
    have hl' := List.pairwise_cons.mp hl
    have hm' := List.pairwise_cons.mp hm
    have e : a = b := by
      rcases List.mem_cons.mp ((h a).mp (List.mem_cons_self ..)) with e | e
      · exact e
      · rcases List.mem_cons.mp ((h b).mpr (List.mem_cons_self ..)) with e' | e'
        · exact e'.symm
        · exact absurd (hl'.1 b e') (asy _ _ (hm'.1 a e))
    subst e
    refine congrArg (a :: ·) (sorted_unique ir asy hl'.2 hm'.2 fun x => ?_)
    constructor
    · intro mx
      rcases List.mem_cons.mp ((h x).mp (List.mem_cons_of_mem _ mx)) with e | e
      · subst e
        exact absurd (hl'.1 x mx) (ir x)
      · exact e
    · intro mx
      rcases List.mem_cons.mp ((h x).mpr (List.mem_cons_of_mem _ mx)) with e | e
      · subst e
        exact absurd (hm'.1 x mx) (ir x)
      · exact e
theorem before_irr : ∀ l : List Nat, ¬ before l l = true
  | [] => by simp [before]
  | a :: l => by
    have := before_irr l
    simp [before, this]
theorem before_asy : ∀ a b : List Nat, before a b = true → ¬ before b a = true
  | [], _, h => by simp [before] at h
  | _ :: _, [], h => by simp [before] at h
  | a :: l, b :: m, h => by
    have ih := before_asy l m
    simp only [before, Bool.or_eq_true, decide_eq_true_eq, Bool.and_eq_true, beq_iff_eq] at h ⊢
    rintro (q | ⟨q1, q2⟩)
    · omega
    · rcases h with h | ⟨_, h⟩
      · omega
      · exact ih h q2
theorem before_trans : ∀ a b c : List Nat, before a b = true → before b c = true → before a c = true
  | [], _, _, h, _ => by simp [before] at h
  | _ :: _, [], _, h, _ => by simp [before] at h
  | _ :: _, _ :: _, [], _, h => by simp [before] at h
  | a :: l, b :: m, c :: n, h, k => by
    have ih := before_trans l m n
    simp only [before, Bool.or_eq_true, decide_eq_true_eq, Bool.and_eq_true, beq_iff_eq] at h k ⊢
    rcases h with h | ⟨h1, h2⟩
    · rcases k with k | ⟨k1, _⟩
      · exact .inl (by omega)
      · exact .inl (by omega)
    · rcases k with k | ⟨k1, k2⟩
      · exact .inl (by omega)
      · exact .inr ⟨by omega, ih h2 k2⟩
theorem before_total : ∀ a b : List Nat, a.length = b.length → a = b ∨ before a b = true ∨ before b a = true
  | [], [], _ => .inl rfl
  | [], _ :: _, h => by simp at h
  | _ :: _, [], h => by simp at h
  | a :: l, b :: m, h => by
    rcases Nat.lt_trichotomy a b with c | c | c
    · exact .inr (.inl (by simp [before, c]))
    · subst c
      rcases before_total l m (by simpa using h) with e | e | e
      · exact .inl (by rw [e])
      · exact .inr (.inl (by simp [before, e]))
      · exact .inr (.inr (by simp [before, e]))
    · exact .inr (.inr (by simp [before, c]))
/-- put_ keeps the order -/
theorem mem_put {x y : List Nat} : ∀ {l : List (List Nat)}, y ∈ put_ x l ↔ y = x ∨ y ∈ l
  | [] => by simp [put_]
  | z :: r => by
    unfold put_
    by_cases c : x = z
    · rw [if_pos c]
      subst c
      simp
    · rw [if_neg c]
      by_cases c2 : before x z = true
      · rw [if_pos c2]
        simp
      · rw [if_neg c2, List.mem_cons, mem_put (l := r), List.mem_cons]
        constructor
        · rintro (h | h | h)
          · exact .inr (.inl h)
          · exact .inl h
          · exact .inr (.inr h)
        · rintro (h | h | h)
          · exact .inr (.inl h)
          · exact .inl h
          · exact .inr (.inr h)
theorem put_ordered {x : List Nat} {n : Nat} (hx : x.length = n) : ∀ {l : List (List Nat)}, (∀ y ∈ l, y.length = n) → l.Pairwise (fun a b => before a b = true) → (put_ x l).Pairwise (fun a b => before a b = true)
  | [], _, _ => by simp [put_]
  | z :: r, hl, h => by
    have h' := List.pairwise_cons.mp h
    unfold put_
    by_cases c : x = z
    · rw [if_pos c]
      exact h
    · rw [if_neg c]
      by_cases c2 : before x z = true
      · rw [if_pos c2]
        refine List.pairwise_cons.mpr ⟨fun y my => ?_, h⟩
        rcases List.mem_cons.mp my with e | e
        · subst e
          exact c2
        · exact before_trans _ _ _ c2 (h'.1 y e)
      · rw [if_neg c2]
        refine List.pairwise_cons.mpr ⟨fun y my => ?_, put_ordered hx (fun y m => hl y (List.mem_cons_of_mem _ m)) h'.2⟩
        rcases mem_put.mp my with e | e
        · subst e
          rcases before_total y z (by rw [hx, hl z (List.mem_cons_self ..)]) with q | q | q
          · exact absurd q c
          · exact absurd q c2
          · exact q
        · exact h'.1 y e
theorem sorted_ok {n : Nat} : ∀ (l s : List (List Nat)), (∀ y ∈ l, y.length = n) → (∀ y ∈ s, y.length = n) → s.Pairwise (fun a b => before a b = true) →
    (l.foldl (fun (s : List (List Nat)) (x : List Nat) => put_ x s) s).Pairwise (fun a b => before a b = true) ∧ (∀ y, y ∈ l.foldl (fun (s : List (List Nat)) (x : List Nat) => put_ x s) s ↔ y ∈ l ∨ y ∈ s)
  | [], s, _, _, h => ⟨h, fun y => by simp⟩
  | x :: l, s, hl, hs, h => by
    have hx := hl x (List.mem_cons_self ..)
    obtain ⟨k1, k2⟩ := sorted_ok l (put_ x s) (fun y m => hl y (List.mem_cons_of_mem _ m)) (fun y m => by
      rcases mem_put.mp m with e | e
      · rw [e, hx]
      · exact hs y e) (put_ordered hx hs h)
    refine ⟨k1, fun y => ?_⟩
    rw [List.foldl_cons, k2 y, mem_put, List.mem_cons]
    constructor
    · rintro (e | e | e)
      · exact .inl (.inr e)
      · exact .inl (.inl e)
      · exact .inr e
    · rintro ((e | e) | e)
      · exact .inr (.inl e)
      · exact .inl e
      · exact .inr (.inr e)
theorem sorted_spec {n : Nat} {l : List (List Nat)} (hl : ∀ y ∈ l, y.length = n) : (sorted l).Pairwise (fun a b => before a b = true) ∧ ∀ y, y ∈ sorted l ↔ y ∈ l := by
  obtain ⟨h1, h2⟩ := sorted_ok l [] hl (by simp) .nil
  exact ⟨h1, fun y => by rw [sorted, h2 y]; simp⟩
theorem nodup_bound : ∀ (n : Nat) (ks : List Nat), ks.Nodup → (∀ x ∈ ks, x < n) → ks.length ≤ n
  | 0, ks, _, h => by
    cases ks with
    | nil => simp
    | cons a r => exact absurd (h a (List.mem_cons_self ..)) (by omega)
  | n + 1, ks, hn, h => by
    by_cases c : n ∈ ks
    · have p := List.perm_cons_erase c
      have l := p.length_eq
      have h' := nodup_bound n (ks.erase n) (hn.erase n) fun x m => by
        have := (hn.mem_erase_iff).mp m
        have := h x this.2
        omega
      simp at l
      omega
    · have := nodup_bound n ks hn fun x m => by
        have := h x m
        have : x ≠ n := fun z => c (z ▸ m)
        omega
      omega
end Cq

set_option Elab.async false
namespace Cq
open Sa97 Sx34 Sx34Neutral
def fill (l : List Nat) (n : Nat) : List Nat := l ++ List.replicate (n - l.length) 0
end Cq

set_option Elab.async false
namespace Cq
open Sa97 Sx34 Sx34Neutral
end Cq

set_option Elab.async false
namespace Cq
open Sa97 Sx34 Sx34Neutral
def it (t : List Nat) : Nat → Nat → Nat
  | 0, i => i
  | k + 1, i => it t k (above t i)

end Cq

set_option Elab.async false
namespace Cq
open Sa97 Sx34 Sx34Neutral
/-- within the parts 1 to L - 1 -/
def Wth (t : List Nat) (L k p : Nat) : Prop := 0 < it t k p ∧ it t k p < L
/-- on its way up from L one does not come back to it -/
def GUp (t : List Nat) (L : Nat) : Prop := ∃ k, (∀ j, j < k → Wth t L j (above t L)) ∧ ¬ Wth t L k (above t L) ∧ it t k (above t L) ≠ L
def Top (q : Question) (t : List Nat) (j x : Nat) : Prop := has q j x = true ∧ (j = 0 ∨ has q (above t j) x = false)
def Once (q : Question) (t : List Nat) (n : Nat) : Prop := ∀ j j' x, j < j' → j' < n → Top q t j x → ¬ Top q t j' x
end Cq

set_option Elab.async false
namespace Cq
open Sa97 Sx34 Sx34Neutral
noncomputable def okB (q : Question) (u : List Nat) : Bool := @decide (GUp u (u.length - 1) ∧ Once q u u.length) (Classical.propDecidable _)
def pre (ok : List Nat → Bool) : List Nat → List Nat → Bool
  | _, [] => true
  | u, x :: r => ok (u ++ [x]) && pre ok (u ++ [x]) r

def wt (n : Nat) : Nat → Nat
  | 0 => 1
  | k + 1 => 1 + n * wt n k
def mu (n : Nat) (st : List (List Nat)) : Nat := (st.map fun u => wt n (n - u.length)).sum
end Cq

set_option Elab.async false
namespace Cq
open Sa97 Sx34 Sx34Neutral
def rk (c : Nat) : Nat := pk ((List.range 8).map fun n => (7 - n, cval c n))
end Cq

set_option Elab.async false
namespace Cq
open Sa97 Sx34 Sx34Neutral
theorem parts_rowsOk {q : Question} (hq : q.good = true) : RowsOk q.parts := fun r hr => by
  obtain ⟨_, _, _, h4, _⟩ := good_q hq
  obtain ⟨_, h2, h3⟩ := good_part (h4 r hr)
  exact ⟨h2, fun v hv => by have := h3 v hv; omega⟩
theorem good_partsOk {q : Question} (hq : q.good = true) : PartsOk q.parts := fun r hr => (parts_rowsOk hq r hr).1
theorem head_lt {q : Question} (hq : q.good = true) {x : Nat} (h : x ∈ q.head) : x < 8 := by
  obtain ⟨_, _, _, h4, h5⟩ := good_q hq
  obtain ⟨r, hr, hx⟩ := mem_names.mp (h5 x h)
  exact (good_part (h4 r hr)).2.2 x hx
section
variable {p q : Question} {order : List Nat}
end
end Cq

set_option Elab.async false
namespace Cq
open Sa97 Sx34 Sx34Neutral
def Hom (q : Question) (d : List Row) : Prop := ∃ f : Nat → Nat, (∀ r ∈ q.parts, r.by_ f ∈ d) ∧ q.head.map f = q.head
def at2 (q : Question) (i : Nat) : Row := q.parts.getD i ⟨0, []⟩
def sel (q : Question) (P : List Nat) : List Row := P.map (at2 q)
def E2 (q : Question) (P : List Nat) : Prop := Hom q (sel q P)
def mk2 (P : List Nat) : Nat := (P.map fun i => 2 ^ i).sum
theorem mk2_bit : ∀ {P : List Nat}, P.Nodup → ∀ i, (mk2 P).testBit i = decide (i ∈ P)
  | [], _, i => by simp [mk2]
  | j :: P, h, i => by
    obtain ⟨h1, h2⟩ := List.nodup_cons.mp h
    have ih := mk2_bit h2
    have e : mk2 (j :: P) = 2 ^ j + mk2 P := by
      unfold mk2
      rw [List.map_cons, List.sum_cons]
    have o : 2 ^ j + mk2 P = 2 ^ j ||| mk2 P := add_eq_or fun k hk => by
      rw [Nat.testBit_two_pow] at hk
      have : j = k := by simpa using hk
      rw [ih, ← this]
      simpa using h1
    rw [e, o, Nat.testBit_or, Nat.testBit_two_pow, ih]
    by_cases q : i = j
    · simp [q]
    · have : ¬ j = i := fun z => q z.symm
      simp [q, this]
theorem nodup_sub {α : Type} [DecidableEq α] : ∀ {l l' : List α}, l.Nodup → (∀ x ∈ l, x ∈ l') → l.length ≤ l'.length
  | [], l', _, _ => Nat.zero_le _
  | a :: l, l', h, hs => by
    obtain ⟨h1, h2⟩ := List.nodup_cons.mp h
    have ha : a ∈ l' := hs a (List.mem_cons_self ..)
    have ih := nodup_sub (l' := l'.erase a) h2 fun x hx => by
      refine (List.mem_erase_of_ne (fun z => h1 (by rw [← z]; exact hx))).mpr (hs x (List.mem_cons_of_mem _ hx))
    have := List.length_erase_of_mem ha
    have pos : 0 < l'.length := List.length_pos_of_mem ha
    rw [List.length_cons]
    omega
theorem mk2_lt {G : List Nat} {n : Nat} (nd : G.Nodup) (h : ∀ i ∈ G, i < n) : mk2 G < 2 ^ n := by
  refine Nat.lt_pow_two_of_testBit _ fun i hi => ?_
  rw [mk2_bit nd]
  exact decide_eq_false fun z => by have := h i z; omega
end Cq

set_option Elab.async false
namespace Cq
open Sa97 Sx34
def vput (known name : Nat) (g : List (Nat × Nat)) (c : Nat) : List (Nat × Nat) := putN g (c &&& known) ((lookN g (c &&& known)).getD 0 ||| 2 ^ cval c name)
def vbes (cs : List Nat) (known name : Nat) : List (Nat × Nat) := cs.foldl (vput known name) []
theorem vbes_bit (known name k v : Nat) : ∀ (cs : List Nat) (g : List (Nat × Nat)), ((lookN (cs.foldl (vput known name) g) k).getD 0).testBit v = true ↔ ((lookN g k).getD 0).testBit v = true ∨ ∃ c ∈ cs, c &&& known = k ∧ cval c name = v
  | [], g => by simp
  | c :: cs, g => by
    rw [List.foldl_cons, vbes_bit known name k v cs]
    have e : lookN (vput known name g c) k = if k = c &&& known then some ((lookN g (c &&& known)).getD 0 ||| 2 ^ cval c name) else lookN g k := lookN_put g k
    rw [e]
    by_cases h : k = c &&& known
    · subst h
      rw [if_pos rfl]
      simp only [Option.getD_some, Nat.testBit_or, Nat.testBit_two_pow, Bool.or_eq_true, decide_eq_true_eq, List.mem_cons, exists_eq_or_imp, true_and]
      constructor
      · rintro ((a | a) | a)
        · exact .inl a
        · exact .inr (.inl a)
        · exact .inr (.inr a)
      · rintro (a | a | a)
        · exact .inl (.inl a)
        · exact .inl (.inr a)
        · exact .inr a
    · rw [if_neg h]
      simp only [List.mem_cons, exists_eq_or_imp]
      constructor
      · rintro (a | a)
        · exact .inl a
        · exact .inr (.inr a)
      · rintro (a | a | a)
        · exact .inl a
        · exact absurd a.1.symm h
        · exact .inr a
theorem vbes_iff {cs : List Nat} {known name k v : Nat} : ((lookN (vbes cs known name) k).getD 0).testBit v = true ↔ ∃ c ∈ cs, c &&& known = k ∧ cval c name = v := by
  unfold vbes
  rw [vbes_bit]
  simp [lookN]
theorem vbes_len (known name : Nat) : ∀ (cs : List Nat) (g : List (Nat × Nat)), (cs.foldl (vput known name) g).length ≤ g.length + cs.length
  | [], _ => Nat.le_refl _
  | c :: cs, g => by
    rw [List.foldl_cons]
    have h1 := vbes_len known name cs (vput known name g c)
    have h2 : (vput known name g c).length ≤ g.length + 1 := by
      unfold vput putN
      split
      · rw [List.length_map]
        omega
      · rw [List.length_append]
        exact Nat.le_refl _
    rw [List.length_cons]
    omega
abbrev Lim := Nat × List (Nat × Nat)
def limsOf (fs : List (Nat × List Nat)) (done name : Nat) : List Lim := fs.filterMap fun f => if f.1 &&& cho name 15 ≠ 0 then some (f.1 &&& done, vbes f.2 (f.1 &&& done) name) else none
def alwd (lims : List Lim) (c : Nat) : Nat := lims.foldl (fun a l => a &&& (lookN l.2 (c &&& l.1)).getD 0) 65535
theorem bit_65535 (v : Nat) : (65535 : Nat).testBit v = decide (v < 16) := by
  have : (65535 : Nat) = 2 ^ 16 - 1 := by decide
  rw [this, Nat.testBit_two_pow_sub_one]
theorem fold_and (v c : Nat) : ∀ (lims : List Lim) (a : Nat), (lims.foldl (fun a l => a &&& (lookN l.2 (c &&& l.1)).getD 0) a).testBit v = (a.testBit v && lims.all fun l => ((lookN l.2 (c &&& l.1)).getD 0).testBit v)
  | [], a => by simp
  | l :: lims, a => by
    rw [List.foldl_cons, fold_and v c lims, Nat.testBit_and, List.all_cons, Bool.and_assoc]
theorem alwd_alw {fs : List (Nat × List Nat)} {done name c v : Nat} (hv : v < 16) : (alwd (limsOf fs done name) c).testBit v = alw fs done name c v := by
  unfold alwd
  rw [fold_and, bit_65535, decide_eq_true hv, Bool.true_and]
  unfold limsOf alw
  induction fs with
  | nil => rfl
  | cons f fs ih =>
    rw [List.all_cons, List.filterMap_cons]
    by_cases h : f.1 &&& cho name 15 ≠ 0
    · rw [if_pos h]
      show List.all (_ :: _) _ = _
      rw [List.all_cons, ih]
      congr 1
      have h' : (f.1 &&& cho name 15 == 0) = false := by simpa using h
      rw [h', Bool.false_or, Bool.eq_iff_iff, vbes_iff, List.any_eq_true]
      constructor
      · rintro ⟨c', h1, h2, h3⟩
        exact ⟨c', h1, by simp [h2, h3]⟩
      · rintro ⟨c', h1, h2⟩
        have := (Bool.and_eq_true _ _).mp h2
        exact ⟨c', h1, by simpa using this.1, by simpa using this.2⟩
    · rw [if_neg h]
      have h' : (f.1 &&& cho name 15 == 0) = true := by simpa using h
      show List.all _ _ = _
      rw [h', Bool.true_or, Bool.true_and]
      exact ih
def valsOf (a : Nat) : List Nat := (List.range 16).filter fun v => a.testBit v
theorem vals_alw (fs : List (Nat × List Nat)) (done name c : Nat) : valsOf (alwd (limsOf fs done name) c) = (List.range 16).filter fun v => alw fs done name c v :=
  List.filter_congr fun v hv => alwd_alw (List.mem_range.mp hv)
abbrev Stp := Nat × List Lim × Nat
def stepsOf (fs : List (Nat × List Nat)) (kept : Nat) : List Nat → Nat → List Stp
  | [], _ => []
  | n :: r, done => (n, limsOf fs done n, ndOf fs kept (done ||| cho n 15)) :: stepsOf fs kept r (done ||| cho n 15)
theorem steps_snoc (fs : List (Nat × List Nat)) (kept n : Nat) : ∀ (r : List Nat) (done : Nat), stepsOf fs kept (r ++ [n]) done = stepsOf fs kept r done ++ [(n, limsOf fs (r.foldl (fun d m => d ||| cho m 15) done) n, ndOf fs kept (r.foldl (fun d m => d ||| cho m 15) done ||| cho n 15))]
  | [], done => rfl
  | m :: r, done => by
    show _ :: stepsOf fs kept (r ++ [n]) _ = _ :: (stepsOf fs kept r _ ++ _)
    rw [steps_snoc fs kept n r]
    rfl
def cntS (g : List (Nat × Nat)) (s : Stp) : List (Nat × Nat) := addAll (g.flatMap fun kn => (valsOf (alwd s.2.1 kn.1)).map fun v => ((kn.1 ||| cho s.1 v) &&& s.2.2, kn.2)) []
theorem filter_fm {α β : Type} (p : α → Bool) (f : α → β) : ∀ l : List α, (l.filter p).map f = l.filterMap fun a => if p a = true then some (f a) else none
  | [] => rfl
  | a :: l => by
    rw [List.filterMap_cons]
    by_cases h : p a = true
    · rw [List.filter_cons_of_pos h, List.map_cons, filter_fm p f l, if_pos h]
    · rw [List.filter_cons_of_neg h, filter_fm p f l, if_neg h]
theorem cntS_give (fs : List (Nat × List Nat)) (done name nd : Nat) (g : List (Nat × Nat)) : cntS g (name, limsOf fs done name, nd) = giveC fs done name nd g := by
  unfold cntS giveC items
  congr 1
  congr 1
  funext kn
  rw [vals_alw, filter_fm]
theorem cnt_run (fs : List (Nat × List Nat)) (kept : Nat) : ∀ (order : List Nat) (done : Nat) (g : List (Nat × Nat)), (stepsOf fs kept order done).foldl cntS g = runC fs kept order done g
  | [], _, _ => rfl
  | n :: r, done, g => by
    show (stepsOf fs kept r _).foldl cntS (cntS g _) = runC fs kept r _ _
    rw [cntS_give, cnt_run fs kept r]
end Cq

set_option Elab.async false
namespace Cq
open Sa97 Sx34 Sx34Neutral
theorem hist_mem {g : List (Nat × Nat)} {L : List Nat} (h : Hist g L) (k : Nat) : k ∈ g.map (·.1) ↔ k ∈ L := by
  rw [← h.perm.mem_iff]
  unfold expand
  rw [List.mem_flatMap, List.mem_map]
  constructor
  · rintro ⟨kn, h1, h2⟩
    refine ⟨kn, h1, ?_⟩
    rw [← h2, List.mem_replicate]
    exact ⟨by have := h.pos kn h1; omega, rfl⟩
  · rintro ⟨kn, h1, h2⟩
    exact ⟨kn, h1, (List.mem_replicate.mp h2).2.symm⟩
theorem ans_eq {parts : List Row} {d : Rows} {heads : List Nat} {g : List (Nat × Nat)} {l : List (List Nat)} (hp : ∀ e ∈ waysOf parts d, Plain e) (h : Hist g ((waysOf parts d).map fun e => pk e &&& msk heads))
    (pm : l.Perm (g.map fun kn => heads.map (cval kn.1))) (srt : l.Pairwise fun a b => ¬ before b a = true) : l = sorted ((waysOf parts d).map fun e => heads.map (value e)) := by
  have mem : ∀ x, x ∈ g.map (fun kn => heads.map (cval kn.1)) ↔ x ∈ (waysOf parts d).map fun e => heads.map (value e) := fun x => by
    have cv : ∀ e ∈ waysOf parts d, heads.map (cval (pk e &&& msk heads)) = heads.map (value e) := fun e he => List.map_congr_left fun n hn => by rw [cval_msk, if_pos hn, cval_pk (hp e he)]
    constructor
    · intro hx
      obtain ⟨kn, h1, rfl⟩ := List.mem_map.mp hx
      obtain ⟨e, he, e2⟩ := List.mem_map.mp ((hist_mem h kn.1).mp (List.mem_map.mpr ⟨kn, h1, rfl⟩))
      exact List.mem_map.mpr ⟨e, he, by rw [← e2, cv e he]⟩
    · intro hx
      obtain ⟨e, he, rfl⟩ := List.mem_map.mp hx
      have := (hist_mem h (pk e &&& msk heads)).mpr (List.mem_map.mpr ⟨e, he, rfl⟩)
      obtain ⟨kn, h1, h2⟩ := List.mem_map.mp this
      exact List.mem_map.mpr ⟨kn, h1, by rw [h2, cv e he]⟩
  have nd : (g.map fun kn => heads.map (cval kn.1)).Nodup := by
    have nk := h.nd
    rw [List.Nodup, List.pairwise_map] at nk ⊢
    refine List.Pairwise.imp_of_mem (R := fun a b => a.1 ≠ b.1) (fun {a b} ha hb hab e => hab ?_) nk
    have out : ∀ kn ∈ g, ∀ n, n ∉ heads → cval kn.1 n = 0 := fun kn hk n hn => by
      obtain ⟨e, _, e2⟩ := List.mem_map.mp ((hist_mem h kn.1).mp (List.mem_map.mpr ⟨kn, hk, rfl⟩))
      rw [← e2, cval_msk, if_neg hn]
    refine ext_cval fun n => ?_
    by_cases hn : n ∈ heads
    · exact List.map_inj_left.mp e n hn
    · rw [out a ha n hn, out b hb n hn]
  have len : ∀ x ∈ l, x.length = heads.length := fun x hx => by
    obtain ⟨kn, _, rfl⟩ := List.mem_map.mp (pm.mem_iff.mp hx)
    rw [List.length_map]
  have sp := sorted_spec (n := heads.length) (l := (waysOf parts d).map fun e => heads.map (value e)) fun y hy => by
    obtain ⟨e, _, rfl⟩ := List.mem_map.mp hy
    rw [List.length_map]
  have ndl : l.Nodup := pm.nodup_iff.mpr nd
  have st : l.Pairwise fun a b => before a b = true := by
    refine List.Pairwise.imp_of_mem (R := fun a b => (¬ before b a = true) ∧ a ≠ b) (fun {a b} ha hb hab => ?_) (List.Pairwise.and srt ndl)
    rcases before_total a b (by rw [len a ha, len b hb]) with z | z | z
    · exact absurd z hab.2
    · exact z
    · exact absurd z hab.1
  exact sorted_unique before_irr before_asy st sp.1 fun x => by rw [pm.mem_iff, mem, sp.2]
end Cq

set_option Elab.async false
set_option linter.all false
namespace Cq
open Sa97 Sx34 Sx34Neutral
theorem fiber {φ : Nat → Nat} {B : Nat} : ∀ (vals K : List Nat), (∀ k ∈ K, φ k ∈ vals) → (∀ v ∈ vals, (K.filter fun k => decide (φ k = v)).length ≤ B) → K.length ≤ vals.length * B
  | [], K, h, _ => by
    cases K with
    | nil => simp
    | cons k r => exact absurd (h k (List.mem_cons_self ..)) (by simp)
  | v :: vals, K, h, hb => by
    have e : K.length = (K.filter fun k => decide (φ k = v)).length + (K.filter fun k => !decide (φ k = v)).length := by
      induction K with
      | nil => rfl
      | cons k r ih =>
        have ih := ih (fun x hx => h x (List.mem_cons_of_mem _ hx)) (fun w hw => Nat.le_trans (by
          rw [List.filter_cons]
          split
          · exact Nat.le_succ _
          · exact Nat.le_refl _) (hb w hw))
        by_cases z : φ k = v
        · rw [List.filter_cons_of_pos (by simp [z]), List.filter_cons_of_neg (by simp [z]), List.length_cons, List.length_cons]
          omega
        · rw [List.filter_cons_of_neg (by simp [z]), List.filter_cons_of_pos (by simp [z]), List.length_cons, List.length_cons]
          omega
    have h1 := hb v (List.mem_cons_self ..)
    have h2 := fiber (φ := φ) (B := B) vals (K.filter fun k => !decide (φ k = v)) (fun k hk => by
      obtain ⟨hk1, hk2⟩ := List.mem_filter.mp hk
      rcases List.mem_cons.mp (h k hk1) with z | z
      · simp [z] at hk2
      · exact z) (fun w hw => by
      refine Nat.le_trans ?_ (hb w (List.mem_cons_of_mem _ hw))
      rw [List.filter_filter]
      refine List.Sublist.length_le ?_
      have : (K.filter fun k => decide (φ k = w) && !decide (φ k = v)) = ((K.filter fun k => decide (φ k = w)).filter fun k => !decide (φ k = v)) := by
        rw [List.filter_filter]
        congr 1
        funext k
        exact Bool.and_comm _ _
      rw [this]
      exact List.filter_sublist)
    rw [List.length_cons, Nat.add_mul, Nat.one_mul]
    omega
abbrev Fea := (Nat → Nat) × List Nat
def prodF (fe : List Fea) : Nat := fe.foldr (fun f a => f.2.length * a) 1
theorem count_le : ∀ (fe : List Fea) (K : List Nat), K.Nodup → (∀ k ∈ K, ∀ f ∈ fe, f.1 k ∈ f.2) → (∀ k ∈ K, ∀ k' ∈ K, (∀ f ∈ fe, f.1 k = f.1 k') → k = k') → K.length ≤ prodF fe
  | [], K, hn, _, h => by
    match K, hn, h with
    | [], _, _ => exact Nat.zero_le _
    | [a], _, _ => exact Nat.le_refl _
    | a :: b :: r, hn, h =>
      have e : a = b := h a (by simp) b (by simp) (fun f hf => absurd hf (by simp))
      exact absurd hn (by simp [e])
  | f :: fe, K, hn, hv, h => by
    show K.length ≤ f.2.length * prodF fe
    refine fiber (φ := f.1) f.2 K (fun k hk => hv k hk f (List.mem_cons_self ..)) fun v _ => ?_
    refine count_le fe _ (hn.filter _) (fun k hk g hg => hv k (List.mem_filter.mp hk).1 g (List.mem_cons_of_mem _ hg)) fun k hk k' hk' hf => ?_
    obtain ⟨h1, h2⟩ := List.mem_filter.mp hk
    obtain ⟨h3, h4⟩ := List.mem_filter.mp hk'
    refine h k h1 k' h3 fun g hg => ?_
    rcases List.mem_cons.mp hg with z | z
    · rw [z, of_decide_eq_true h2, of_decide_eq_true h4]
    · exact hf g z
theorem prodF_pow {b : Nat} {α : Type} (F : α → Fea) (hF : ∀ a, (F a).2.length = b) : ∀ (S : List α), prodF (S.map F) = b ^ S.length
  | [] => rfl
  | a :: S => by
    show (F a).2.length * prodF (S.map F) = _
    rw [hF, prodF_pow F hF S, List.length_cons, Nat.pow_succ, Nat.mul_comm]
theorem steps_take (fs : List (Nat × List Nat)) (kp : Nat) : ∀ (o : List Nat) (d i : Nat), (stepsOf fs kp o d).take i = stepsOf fs kp (o.take i) d
  | [], _, i => by rw [List.take_nil]; exact List.take_nil
  | n :: r, d, 0 => rfl
  | n :: r, d, i + 1 => by
    rw [List.take_succ_cons]
    show List.take (i + 1) (_ :: stepsOf fs kp r _) = _
    rw [List.take_succ_cons, steps_take fs kp r]
    rfl
theorem steps_at (fs : List (Nat × List Nat)) (kp : Nat) : ∀ (o : List Nat) (d i : Nat) (f : Stp), (stepsOf fs kp o d)[i]? = some f → o[i]? = some f.1
  | [], _, i, f, h => by cases h
  | n :: r, d, 0, f, h => by
    have h : some (n, limsOf fs d n, ndOf fs kp (d ||| cho n 15)) = some f := h
    cases h
    rfl
  | n :: r, d, i + 1, f, h => steps_at fs kp r _ i f h
theorem count_next {fs : List (Nat × List Nat)} {kp : Nat} {o : List Nat} {i : Nat} {f : Stp} (g : List (Nat × Nat)) (h : (stepsOf fs kp o 0)[i]? = some f) : runC fs kp (o.take (i + 1)) 0 g = cntS (runC fs kp (o.take i) 0 g) f := by
  rw [← cnt_run, ← cnt_run, ← steps_take, ← steps_take, List.take_add_one, h, List.foldl_append]
  rfl
section
variable {p q : Question} {order : List Nat}
end
end Cq

set_option Elab.async false
set_option linter.all false
set_option maxRecDepth 100000
set_option maxHeartbeats 2000000
namespace Cq
open PySem PySem.Spec PyProof.Rows L2

def sub (A H : Hp) : Hp := fun b => if (H b).isNone = true then A b else none
def del (H : Hp) (a : Addr) : Hp := fun b => if b = a then none else H b
theorem sub_iff {A H : Hp} {b : Addr} {o : HO} : sub A H b = some o ↔ H b = none ∧ A b = some o := by
  unfold sub
  cases e : H b with
  | none => simp
  | some x => simp
theorem del_iff {H : Hp} {a b : Addr} {o : HO} : del H a b = some o ↔ b ≠ a ∧ H b = some o := by
  unfold del
  by_cases e : b = a
  · simp [e]
  · simp [e]
theorem le_sub {A B H H1 : Hp} (s : Same A B) (t : Same H H1) : Same (sub A H1) (sub B H) := fun b o h =>
  sub_iff.mpr ⟨t.free (sub_iff.mp h).1, s _ _ (sub_iff.mp h).2⟩
theorem sub_le {A H : Hp} : Same (sub A H) A := fun _ _ h => (sub_iff.mp h).2
theorem del_le {H : Hp} {a : Addr} : Same (del H a) H := fun _ _ h => (del_iff.mp h).2
theorem del_mono {H H' : Hp} {a : Addr} (s : Same H H') : Same (del H a) (del H' a) := fun _ _ h => del_iff.mpr ⟨(del_iff.mp h).1, s _ _ (del_iff.mp h).2⟩
theorem to_del {H H' : Hp} {a : Addr} (s : Same H H') (n : H a = none) : Same H (del H' a) := fun _ _ h => del_iff.mpr ⟨ne_of_none h n, s _ _ h⟩
theorem to_upd {H H' : Hp} {a : Addr} {o : HO} (s : Same H H') (n : H a = none) : Same H (upd H' a o) := fun b u e => by
  rw [upd_ne (ne_of_none e n)]
  exact s _ _ e
theorem new_upd {H : Hp} {a : Addr} {o : HO} (n : H a = none) : Same H (upd H a o) := to_upd (Same.refl H) n
theorem del_upd {H : Hp} {a : Addr} {o : HO} : Same (del H a) (upd H a o) := fun b u e => by
  rw [upd_ne (del_iff.mp e).1]
  exact (del_iff.mp e).2
theorem del_upd_del {H : Hp} {a : Addr} {o : HO} : Same (del H a) (del (upd H a o) a) := fun b u e => by
  have h := del_iff.mp e
  exact del_iff.mpr ⟨h.1, by rw [upd_ne h.1]; exact h.2⟩
theorem sub_new {A H : Hp} {a : Addr} {o : HO} (n : H a = none) : sub (upd A a o) H a = some o := sub_iff.mpr ⟨n, upd_same⟩

abbrev Rel (α : Type) := Hp → V → α → Prop
def Mono {α : Type} (R : Rel α) : Prop := ∀ (H H' : Hp) (v : V) (x : α), Same H H' → R H v x → R H' v x
theorem up {α : Type} {R : Rel α} {H H' : Hp} {v : V} {x : α} (m : Mono R) (s : Same H H') (h : R H v x) : R H' v x := m _ _ _ _ s h
def nv (n : Nat) : V := .int (n : Int)
def NR : Rel Nat := fun _ v n => v = nv n
def NsR : Rel (List Nat) := fun H v ns => ∃ a, v = .ref a ∧ H a = some (.lst (ns.map nv))
def LR {α : Type} (R : Rel α) : Rel (List α) := fun H v xs => ∃ a vs, v = .ref a ∧ H a = some (.lst vs) ∧ Paired (R H) vs xs
def T2 {α β : Type} (R : Rel α) (S : Rel β) : Rel (α × β) := fun H v p => ∃ a x y, v = .ref a ∧ H a = some (.tup [x, y]) ∧ R H x p.1 ∧ S H y p.2
def T3 {α β γ : Type} (R : Rel α) (S : Rel β) (T : Rel γ) : Rel (α × β × γ) := fun H v p => ∃ a x y z, v = .ref a ∧ H a = some (.tup [x, y, z]) ∧ R H x p.1 ∧ S H y p.2.1 ∧ T H z p.2.2
def kvF {α : Type} (f : α → V) (ks : List (Nat × α)) : List (Key × V) := ks.map fun kv => (Sum.inl (kv.1 : Int), f kv.2)
def DN : Rel (List (Nat × Nat)) := fun H v kvs => ∃ a, v = .ref a ∧ H a = some (.dK (kvF nv kvs))
def RowR : Rel Sa97.Row := fun H v r => T2 NR NsR H v (r.table, r.at_)
def QR : Rel Sa97.Question := fun H v q => T2 NsR (LR RowR) H v (q.head, q.parts)
theorem mono_N : Mono NR := fun _ _ _ _ _ h => h
theorem mono_Ns : Mono NsR := fun _ _ _ _ s ⟨a, e, h⟩ => ⟨a, e, s _ _ h⟩
theorem mono_D : Mono DN := fun _ _ _ _ s ⟨a, e, h⟩ => ⟨a, e, s _ _ h⟩
theorem paired_imp {α β : Type} {R S : α → β → Prop} (f : ∀ a b, R a b → S a b) : ∀ {l : List α} {m : List β}, Paired R l m → Paired S l m
  | _, _, .nil => .nil
  | _, _, .cons h r => .cons (f _ _ h) (paired_imp f r)
theorem paired_len {α β : Type} {R : α → β → Prop} : ∀ {l : List α} {m : List β}, Paired R l m → l.length = m.length
  | _, _, .nil => rfl
  | _, _, .cons _ r => congrArg (· + 1) (paired_len r)
theorem paired_snoc {α β : Type} {R : α → β → Prop} {a : α} {b : β} (h : R a b) : ∀ {l : List α} {m : List β}, Paired R l m → Paired R (l ++ [a]) (m ++ [b])
  | _, _, .nil => .cons h .nil
  | _, _, .cons x r => .cons x (paired_snoc h r)
theorem paired_at {α β : Type} {R : α → β → Prop} : ∀ {l : List α} {m : List β} {i : Nat} {a : α}, Paired R l m → l[i]? = some a → ∃ b, m[i]? = some b ∧ R a b
  | _, _, _, _, .nil, h => by simp at h
  | _, _, 0, _, .cons x _, h => ⟨_, rfl, by cases h; exact x⟩
  | _, _, i + 1, _, .cons _ r, h => paired_at (i := i) r h
theorem mono_L {α : Type} {R : Rel α} (m : Mono R) : Mono (LR R) := fun _ _ _ _ s ⟨a, vs, e, h, p⟩ => ⟨a, vs, e, s _ _ h, paired_imp (fun _ _ q => m _ _ _ _ s q) p⟩
theorem mono_T2 {α β : Type} {R : Rel α} {S : Rel β} (m : Mono R) (n : Mono S) : Mono (T2 R S) := fun _ _ _ _ s ⟨a, x, y, e, h, p, q⟩ => ⟨a, x, y, e, s _ _ h, m _ _ _ _ s p, n _ _ _ _ s q⟩
theorem mono_T3 {α β γ : Type} {R : Rel α} {S : Rel β} {T : Rel γ} (m : Mono R) (n : Mono S) (o : Mono T) : Mono (T3 R S T) := fun _ _ _ _ s ⟨a, x, y, z, e, h, p, q, r⟩ => ⟨a, x, y, z, e, s _ _ h, m _ _ _ _ s p, n _ _ _ _ s q, o _ _ _ _ s r⟩
theorem mono_Row : Mono RowR := fun _ _ _ r s h => mono_T2 mono_N mono_Ns _ _ _ (r.table, r.at_) s h
theorem mono_Q : Mono QR := fun _ _ _ q s h => mono_T2 mono_Ns (mono_L mono_Row) _ _ _ (q.head, q.parts) s h
theorem Row_out {H : Hp} {v : V} {r : Sa97.Row} (h : RowR H v r) : ∃ b c, v = .ref b ∧ H b = some (.tup [nv r.table, .ref c]) ∧ H c = some (.lst (r.at_.map nv)) := by
  obtain ⟨b, x, y, e, hb, e1, c, e2, hc⟩ := h
  cases e1
  cases e2
  exact ⟨b, c, e, hb, hc⟩
theorem Q_out {H : Hp} {v : V} {q : Sa97.Question} (h : QR H v q) : ∃ qa hd pa pvs, v = .ref qa ∧ H qa = some (.tup [.ref hd, .ref pa]) ∧ H hd = some (.lst (q.head.map nv)) ∧ H pa = some (.lst pvs) ∧ Paired (RowR H) pvs q.parts := by
  obtain ⟨b, x, y, e, hb, ⟨c, e1, hc⟩, d, vs, e2, hd, p⟩ := h
  cases e1
  cases e2
  exact ⟨b, c, d, vs, e, hb, hc, hd, p⟩
theorem paired_nv {H : Hp} : ∀ {vs : List V} {ns : List Nat}, Paired (NR H) vs ns → vs = ns.map nv
  | _, _, .nil => rfl
  | _, _, .cons h r => by rw [List.map_cons, ← paired_nv r, h]
theorem LR_Ns {H : Hp} {v : V} {ns : List Nat} (h : LR NR H v ns) : NsR H v ns := by
  obtain ⟨a, vs, e, ha, p⟩ := h
  exact ⟨a, e, by rw [ha, paired_nv p]⟩

structure Acc {α : Type} (R : Rel α) (H H' : Hp) (D : Addr) (xs : List α) : Prop where
  same : Same H H'
  new : H D = none
  at_ : ∃ vs, H' D = some (.lst vs) ∧ Paired (R (sub (del H' D) H)) vs xs
section
variable {α : Type} {R : Rel α} {H H1 H' H4 : Hp} {D : Addr} {xs : List α} {x : α} {y : V}
theorem Acc.start (s : Same H H1) (n : H1 D = none) : Acc R H (upd H1 D (.lst [])) D [] := ⟨to_upd s (s.free n), s.free n, [], upd_same, .nil⟩
theorem Acc.keep (m : Mono R) (A : Acc R H H' D xs) (s : Same H' H4) : Acc R H H4 D xs := by
  obtain ⟨vs, h, p⟩ := A.at_
  exact ⟨A.same.trans s, A.new, vs, s _ _ h, paired_imp (fun _ _ q => m _ _ _ _ (le_sub (del_mono s) (Same.refl H)) q) p⟩
theorem Acc.push (m : Mono R) (A : Acc R H H' D xs) (s : Same H' H4) (r : R (sub H4 H') y x) : ∃ vs, H4 D = some (.lst vs) ∧ vs.length = xs.length ∧ Acc R H (upd H4 D (.lst (vs ++ [y]))) D (xs ++ [x]) := by
  obtain ⟨vs, h, p⟩ := A.at_
  refine ⟨vs, s _ _ h, paired_len p, to_upd (A.same.trans s) A.new, A.new, _, upd_same, paired_snoc (m _ _ _ _ (fun b o e => ?_) r) (paired_imp (fun _ _ q => m _ _ _ _ (le_sub ((del_mono s).trans del_upd_del) (Same.refl H)) q) p)⟩
  have q := sub_iff.mp e
  have hb : b ≠ D := fun z => by
    rw [z, h] at q
    cases q.1
  exact sub_iff.mpr ⟨A.same.free q.1, del_iff.mpr ⟨hb, by rw [upd_ne hb]; exact q.2⟩⟩
theorem Acc.done (m : Mono R) (A : Acc R H H' D xs) : LR R (sub H' H) (.ref D) xs := by
  obtain ⟨vs, h, p⟩ := A.at_
  exact ⟨D, vs, rfl, sub_iff.mpr ⟨A.new, h⟩, paired_imp (fun _ _ q => m _ _ _ _ (le_sub del_le (Same.refl H)) q) p⟩
end

theorem lc_rd {α β : Type} {R : Rel β} (m : Mono R) {K : PySem.W.Frag} {a : Addr} {xs : List V} {g : TG} {tt : TT} {te : TE} {vs : List Nat} {σ : L2.St} {H1 : Hp} {D : Addr} {Qd : Hp → Prop} (hD : H1 D = none) (hl : SqL K H1 a xs) (ys : List α) (f : α → Option β)
    (hlen : xs.length = ys.length) (hz : ys.length ≤ 1000)
    (hs : ∀ (i : Nat) (x : V) (y : α) (H' : Hp) (N : Hp → Prop), xs[i]? = some x → ys[i]? = some y → Same H1 H' → (∀ H4 z w, f y = some w → Same H' H4 → R (sub H4 H') z w → ∃ acc, H4 D = some (.lst acc) ∧ acc.length < sizeLine ∧ N (upd H4 D (.lst (acc ++ [z])))) →
      (∀ H3, f y = none → Same H' H3 → N H3) → g x (wipe σ vs) H' fun σ2 H2 => wipe σ2 vs = wipe σ vs ∧ tt σ2 H2 fun b H3 =>
        if b = true then te σ2 H3 fun z H4 => ∃ acc, H4 D = some (.lst acc) ∧ acc.length < sizeLine ∧ N (upd H4 D (.lst (acc ++ [z]))) else N H3)
    (hd : ∀ H', Same H1 H' → LR R (sub H' H1) (.ref D) (ys.filterMap f) → Qd H') :
    ∃ W : Nat → Nat → Hp → Prop, (∃ m, W 0 m (upd H1 D (.lst []))) ∧ ∀ i m H, W i m H →
      ((Itl K a).stop i H ∧ Qd H) ∨ ((Itl K a).go i H ∧ ∃ Nx : Hp → Prop, (∀ H', Nx H' → ∃ m', m' < m ∧ W (i + 1) m' H') ∧ ∀ x H', (Itl K a).yld i H x H' → g x (wipe σ vs) H' fun σ2 H2 => wipe σ2 vs = wipe σ vs ∧ tt σ2 H2 fun b H3 =>
        if b = true then te σ2 H3 fun y H4 => ∃ acc, H4 D = some (.lst acc) ∧ acc.length < sizeLine ∧ Nx (upd H4 D (.lst (acc ++ [y]))) else Nx H3) := by
  refine lc_list (xs := xs) (fun i H' => Acc R H1 H' D ((ys.take i).filterMap f)) (Acc.start (Same.refl H1) hD) (fun i H' _ A => A.same.seq hl) (fun i x H' hi A => ?_) (fun H' A => ?_)
  · have hlt : i < ys.length := by rw [← hlen]; exact (List.getElem?_eq_some_iff.mp hi).1
    have hy : ys[i]? = some ys[i] := List.getElem?_eq_getElem hlt
    have tk : (ys.take (i + 1)).filterMap f = (ys.take i).filterMap f ++ (f ys[i]).toList := by
      rw [List.take_add_one, hy, List.filterMap_append]
      show _ ++ List.filterMap f [ys[i]] = _
      rw [List.filterMap_cons]
      cases f ys[i] <;> rfl
    refine hs i x _ H' (fun H'' => Acc R H1 H'' D ((ys.take (i + 1)).filterMap f)) hi hy A.same (fun H4 z w e s r => ?_) fun H3 e s => ?_
    · obtain ⟨acc, h1, h2, h3⟩ := A.push m s r
      refine ⟨acc, h1, ?_, ?_⟩
      · rw [h2]
        refine small1000 (Nat.le_trans (List.length_filterMap_le _ _) (Nat.le_trans ?_ hz))
        rw [List.length_take]
        exact Nat.min_le_right _ _
      · rw [tk, e]
        exact h3
    · rw [tk, e]
      simpa using A.keep m s
  · have e : xs.length = ys.length := hlen
    rw [e, List.take_length] at A
    exact hd H' A.same (A.done m)

theorem fm_some {α β : Type} (f : α → β) : ∀ l : List α, (l.filterMap fun x => some (f x)) = l.map f
  | [] => rfl
  | a :: l => by rw [List.filterMap_cons, List.map_cons, fm_some f l]
/-- .. without a test -/
theorem lc_map {α β : Type} {R : Rel β} (m : Mono R) {K : PySem.W.Frag} {a : Addr} {xs : List V} {g : TG} {tt : TT} {te : TE} {vs : List Nat} {σ : L2.St} {H1 : Hp} {D : Addr} {Qd : Hp → Prop} (hD : H1 D = none) (hl : SqL K H1 a xs) (ys : List α) (f : α → β)
    (hlen : xs.length = ys.length) (hz : ys.length ≤ 1000)
    (hs : ∀ (i : Nat) (x : V) (y : α) (H' : Hp) (N : Hp → Prop), xs[i]? = some x → ys[i]? = some y → Same H1 H' → (∀ H4 z, Same H' H4 → R (sub H4 H') z (f y) → ∃ acc, H4 D = some (.lst acc) ∧ acc.length < sizeLine ∧ N (upd H4 D (.lst (acc ++ [z])))) →
      g x (wipe σ vs) H' fun σ2 H2 => wipe σ2 vs = wipe σ vs ∧ tt σ2 H2 fun b H3 =>
        if b = true then te σ2 H3 fun z H4 => ∃ acc, H4 D = some (.lst acc) ∧ acc.length < sizeLine ∧ N (upd H4 D (.lst (acc ++ [z]))) else N H3)
    (hd : ∀ H', Same H1 H' → LR R (sub H' H1) (.ref D) (ys.map f) → Qd H') :
    ∃ W : Nat → Nat → Hp → Prop, (∃ m, W 0 m (upd H1 D (.lst []))) ∧ ∀ i m H, W i m H →
      ((Itl K a).stop i H ∧ Qd H) ∨ ((Itl K a).go i H ∧ ∃ Nx : Hp → Prop, (∀ H', Nx H' → ∃ m', m' < m ∧ W (i + 1) m' H') ∧ ∀ x H', (Itl K a).yld i H x H' → g x (wipe σ vs) H' fun σ2 H2 => wipe σ2 vs = wipe σ vs ∧ tt σ2 H2 fun b H3 =>
        if b = true then te σ2 H3 fun y H4 => ∃ acc, H4 D = some (.lst acc) ∧ acc.length < sizeLine ∧ Nx (upd H4 D (.lst (acc ++ [y]))) else Nx H3) :=
  lc_rd m hD hl ys (fun y => some (f y)) hlen hz (fun i x y H' N hx hy sH yes _ => hs i x y H' N hx hy sH fun H4 z s4 r => yes H4 z _ rfl s4 r) fun H' s q => hd H' s (by rw [fm_some] at q; exact q)

structure Cal (P : Program) (w : World) (K : PySem.W.Frag) (mg : Str → Option Value) (base : Heap) (k : Nat) (x : Str) (ps : List Str) (sp : Sp) : Prop where
  ex : ∃ (f : Addr) (fd : FuncData), FnOk P w K mg base CX0 k f fd ps sp ∧ mg x = some (.ref f) ∧ PySem.W.keepIn K (.ref f) = true ∧ Binds K fd ps []
theorem pe_cal {X : Cx} {k : Nat} {x : Str} {ps : List Str} {sp : Sp} {e : Expr} {es : List Expr} {t : TA} {p pos : Pos} (c : Cal X.prog X.w X.K X.mg X.base k x ps sp) (hr : Room k X.A) (hg : Gl X x) (ha : PA X (e :: es) t)
    (hdb : (x == ("__debug__" : Str)) = false := by decide) (he : starEach (e :: es) X.env = (false, eval e X.env) :: starEach es X.env := by rfl) (hpl : (backTo pos (starEach es X.env)).any (·.1) = false := by rfl) :
    PE X (.Call (.Name x p) (e :: es) [] pos) (tCall sp [] E0 t) := by
  obtain ⟨f, fd, h1, h2, h3, h4⟩ := c.ex
  exact pe_call h1 hr hg h2 h3 h4 .nil pass0 ha hdb he hpl
def Con1 (mg : Str → Option Value) (x : Str) (v : V) : Prop := ∃ u, mg x = some u ∧ RelV v u
theorem pe_gl {X : Cx} {x : Str} {v : V} {pos : Pos} (hg : Gl X x) (c : Con1 X.mg x v) (hd : (x == ("__debug__" : Str)) = false := by decide) : PE X (.Name x pos) (tC v) := by
  obtain ⟨u, h1, h2⟩ := c
  exact pe_glob hg h1 h2 hd
theorem pip_of {X : Cx} {op : Operator} {r : R2} (h : OpR X (inplaceOp op) r) : PIp X op r := h
theorem ifF {c : Bool} {A B : Prop} (h : c = false) (k : B) : if c = true then A else B := by
  rw [h, if_neg (by decide)]
  exact k
theorem ifT {c : Bool} {A B : Prop} (h : c = true) (k : A) : if c = true then A else B := by
  rw [h, if_pos rfl]
  exact k
section
variable {X : Cx} {K : PySem.W.Frag}
theorem ix_tupK (h : X.K = K) : IxR X (rIxT K) := h ▸ ix_tup
theorem op_in_seqK (h : X.K = K) : OpR X (compareOp .In) (rIn K false) := h ▸ op_in_seq
theorem pg_tupK {es : List Expr} {k : Nat} {t : TGs} {n : Nat} {pos : Pos} (hK : X.K = K) (hc : X.calm = true) (h : PGs X es t) (hn : (assignEach es X.env).length = n := by rfl) (hst : (assignEach es X.env).findIdx? (fun x => x.1) = none := by rfl) : PG X (.Tuple es k pos) (gTup K n t) := hK ▸ pg_tup hc h hn hst
def tTru (K : PySem.W.Frag) (ta : TE) : TT := fun σ H Q => ta σ H fun x H' => ∃ k, TruV K x H' k ∧ Q k H'
theorem pt_truthK {a : Expr} {ta : TE} (hK : X.K = K) (ha : PE X a ta) (he : ∀ whole, isTrue a X.env whole = (do let v ← whole; standAt a.pos; holding [v] (truthy v))) :
    PT X a (tTru K ta) := by
  subst hK
  exact pt_truth ha he
end
theorem b_len : bootBuiltins "len" = some (.builtin "len") := PySem.boot_len
theorem b_all : bootBuiltins "all" = some (.builtin "all") := by decide +kernel
theorem b_sum : bootBuiltins "sum" = some (.builtin "sum") := by decide +kernel
theorem b_min : bootBuiltins "min" = some (.builtin "min") := by decide +kernel
theorem b_sorted : bootBuiltins "sorted" = some (.builtin "sorted") := by decide +kernel

def BR : Rel Bool := fun _ v b => v = .bl b
theorem mono_B : Mono BR := fun _ _ _ _ _ h => h
theorem paired_bl {H : Hp} : ∀ {vs : List V} {bs : List Bool}, Paired (BR H) vs bs → vs = bs.map V.bl
  | _, _, .nil => rfl
  | _, _, .cons h r => by rw [List.map_cons, ← paired_bl r, h]
theorem LR_bl {K : PySem.W.Frag} {H H1 : Hp} {D : Addr} {bs : List Bool} (h : LR BR (sub H H1) (.ref D) bs) : SqL K H D (bs.map V.bl) := by
  obtain ⟨a, vs, e, h1, p⟩ := h
  cases e
  exact SqL.of (by rw [(sub_iff.mp h1).2, paired_bl p])
theorem Acc.sq {α : Type} {R : Rel α} {K : PySem.W.Frag} {H H' : Hp} {D : Addr} {xs : List α} (A : Acc R H H' D xs) : SqL K H' D (Classical.choose A.at_) := SqL.of (Classical.choose_spec A.at_).1
theorem all_le (l : List Nat) (m : Nat) : (l.map fun x => decide (x ≤ m)).all id = l.all fun x => decide (x < m + 1) := by
  rw [List.all_map]
  congr 1
  funext x
  show decide (x ≤ m) = decide (x < m + 1)
  congr 1
  rw [eq_iff_iff]
  omega
theorem plc_at {t : Nat} (h : t < 8) : (([1, 1, 1, 2, 2, 2, 3, 3] : List Nat).map nv)[t]? = some (nv (plc t)) := by
  have : t = 0 ∨ t = 1 ∨ t = 2 ∨ t = 3 ∨ t = 4 ∨ t = 5 ∨ t = 6 ∨ t = 7 := by omega
  rcases this with rfl | rfl | rfl | rfl | rfl | rfl | rfl | rfl <;> rfl
theorem cut_ints {ns : List Int} {a b : Nat} : cutV (ns.map V.int) (some (a : Int)) (some (b : Int)) = ((ns.drop a).take (b - a)).map V.int := by
  unfold cutV
  rw [HT.sIx_nat, HT.sIx_nat, List.length_map, ← List.map_drop, ← List.map_take]
  congr 1
  by_cases h : a ≤ ns.length
  · rw [Nat.min_eq_left h]
    by_cases h2 : b ≤ ns.length
    · rw [Nat.min_eq_left h2]
    · rw [Nat.min_eq_right (show ns.length ≤ b by omega), List.take_of_length_le (by rw [List.length_drop]; omega), List.take_of_length_le (by rw [List.length_drop]; omega)]
  · rw [Nat.min_eq_right (show ns.length ≤ a by omega), List.drop_eq_nil_of_le (Nat.le_refl _), List.drop_eq_nil_of_le (show ns.length ≤ a by omega), List.take_nil, List.take_nil]
theorem nats_nv {l : List Int} (h : ∀ x ∈ l, 0 ≤ x) : (Sx34Neutral.nats l).map nv = l.map V.int := by
  unfold Sx34Neutral.nats
  rw [List.map_map]
  refine List.map_congr_left fun x hx => ?_
  show V.int ((x.toNat : Nat) : Int) = V.int x
  congr 1
  have := h x hx
  omega
theorem cut_row {ns : List Int} {a k : Nat} (h : a + 1 + k ≤ ns.length) (hp : ∀ (j : Nat) (x : Int), a ≤ j → ns[j]? = some x → 0 ≤ x) : cutV (ns.map V.int) (some ((a : Int) + 1)) (some ((a : Int) + 1 + (k : Int))) = (Sx34Neutral.nats ((ns.drop (a + 1)).take k)).map nv := by
  rw [show ((a : Int) + 1) = ((a + 1 : Nat) : Int) by omega, show (((a + 1 : Nat) : Int) + (k : Int)) = ((a + 1 + k : Nat) : Int) by omega, cut_ints, show a + 1 + k - (a + 1) = k by omega]
  refine (nats_nv fun x hx => ?_).symm
  obtain ⟨j, hj⟩ := List.mem_iff_getElem?.mp (List.mem_of_mem_take hx)
  rw [List.getElem?_drop] at hj
  exact hp _ _ (by omega) hj
theorem rg4 {s c : Nat} (h : s + 4 * c ≤ 100000) : RgC (s : Int) ((s : Int) + 4 * (c : Int)) 4 c := by
  have sz : Builtin.Range.rangeSize (s : Int) ((s : Int) + 4 * (c : Int)) 4 = (c : Int) := by
    unfold Builtin.Range.rangeSize
    rw [if_pos (by decide)]
    split <;> omega
  refine ⟨by decide, by decide, ?_, sz⟩
  unfold Builtin.Range.small
  rw [sz]
  have l1 : ∀ z : Int, -1000000 ≤ z → z ≤ 1000000 → Builtin.Range.rangeFitsLong z = true := fun z a b => by
    unfold Builtin.Range.rangeFitsLong
    rw [Bool.and_eq_true, decide_eq_true_eq, decide_eq_true_eq]
    omega
  rw [l1 (s : Int) (by omega) (by omega), l1 ((s : Int) + 4 * (c : Int)) (by omega) (by omega), l1 4 (by decide) (by decide), l1 (c : Int) (by omega) (by omega), if_pos (show (4 : Int) > 0 by decide), l1 ((s : Int) + 4 * (c : Int) + (4 - 1)) (by omega) (by omega)]
  simp
theorem ch_le {x y z : Int} {σ : L2.St} {H : Hp} {Q : V → Hp → Prop} (h : Q (.bl (decide (x ≤ y) && decide (y ≤ z))) H) : rI0 (fun i j => .bl (decide (i ≤ j))) (.int x) (.int y) H fun w H3 => ∃ k, w = .bl k ∧ (if k = true then tC (.int z) σ H3 fun w' H4 => rI0 (fun i j => .bl (decide (i ≤ j))) (.int y) w' H4 Q else Q (.bl false) H3) := by
  refine ⟨x, y, rfl, rfl, _, rfl, ?_⟩
  by_cases e : x ≤ y
  · rw [if_pos (decide_eq_true e)]
    rw [decide_eq_true e, Bool.true_and] at h
    exact ⟨y, z, rfl, rfl, h⟩
  · rw [if_neg (by rw [decide_eq_false e]; decide)]
    rw [decide_eq_false e, Bool.false_and] at h
    exact h
theorem flat_nv : ∀ ns : List Nat, (ns.map nv).all flatV = true
  | [] => rfl
  | _ :: r => flat_nv r
theorem in_nv (x : Nat) (ns : List Nat) : inV (nv x) (ns.map nv) = decide (x ∈ ns) := by
  unfold inV
  rw [List.any_map, Bool.eq_iff_iff, List.any_eq_true, decide_eq_true_iff]
  constructor
  · rintro ⟨y, hy, h⟩
    have h : ((y : Int) == (x : Int)) = true := h
    have h2 : (y : Int) = (x : Int) := by simpa using h
    have : y = x := by omega
    rw [← this]
    exact hy
  · intro h
    exact ⟨x, h, (by show ((x : Int) == (x : Int)) = true; simp)⟩
theorem one_line : 1 ≤ sizeLine := by decide
theorem map_at {α β : Type} {f : α → β} {l : List α} {i : Nat} {y : β} (h : (l.map f)[i]? = some y) : ∃ x, l[i]? = some x ∧ y = f x := by
  rw [List.getElem?_map] at h
  cases e : l[i]? with
  | none => rw [e] at h; cases h
  | some x => rw [e] at h; exact ⟨x, rfl, (Option.some.inj h).symm⟩
section
variable {α : Type} {f : α → V}
theorem kvF_len (ks : List (Nat × α)) : (kvF f ks).length = ks.length := List.length_map ..
theorem valV_F (k : Nat) : ∀ ks : List (Nat × α), valV (kvF f ks) (Sum.inl (k : Int)) = (lookN ks k).map f
  | [] => rfl
  | (a, v) :: r => by
    show valV ((Sum.inl (a : Int), f v) :: kvF f r) _ = _
    by_cases h : a = k
    · subst h
      rw [valV_pos rfl, lookN_pos]
      rfl
    · rw [valV_neg (fun z => h (by have := Sum.inl.inj z; omega)), lookN_neg h]
      exact valV_F k r
theorem putK_F (k : Nat) (v : α) (ks : List (Nat × α)) : putK (kvF f ks) (Sum.inl (k : Int)) (f v) = kvF f (putN ks k v) := by
  unfold putK putN
  have e : ((kvF f ks).any fun kv => decide (kv.1 = Sum.inl (k : Int))) = ks.any fun kv => decide (kv.1 = k) := by
    unfold kvF
    rw [List.any_map]
    congr 1
    funext kv
    show decide (Sum.inl (kv.1 : Int) = Sum.inl (k : Int)) = _
    by_cases h : kv.1 = k
    · simp [h]
    · have : ¬ (Sum.inl (kv.1 : Int) : Key) = Sum.inl (k : Int) := fun z => h (by have := Sum.inl.inj z; omega)
      rw [decide_eq_false h, decide_eq_false this]
  rw [e]
  by_cases h : (ks.any fun kv => decide (kv.1 = k)) = true
  · rw [if_pos h, if_pos h]
    unfold kvF
    rw [List.map_map, List.map_map]
    refine List.map_congr_left fun kv _ => ?_
    show (if (Sum.inl (kv.1 : Int) : Key) = Sum.inl (k : Int) then ((Sum.inl (kv.1 : Int) : Key), f v) else (Sum.inl (kv.1 : Int), f kv.2)) = _
    by_cases q : kv.1 = k
    · rw [if_pos (by rw [q])]
      show _ = (Sum.inl ((if kv.1 = k then (kv.1, v) else kv).1 : Int), f (if kv.1 = k then (kv.1, v) else kv).2)
      rw [if_pos q]
    · rw [if_neg (fun z => q (by have := Sum.inl.inj z; omega))]
      show _ = (Sum.inl ((if kv.1 = k then (kv.1, v) else kv).1 : Int), f (if kv.1 = k then (kv.1, v) else kv).2)
      rw [if_neg q]
  · rw [if_neg h, if_neg h]
    unfold kvF
    rw [List.map_append]
    rfl
end
def setOf (l : List Nat) : List (Nat × Unit) := l.foldl (fun g x => putN g x ()) []
def fU : Unit → V := fun _ => .bl true
theorem setOf_snoc (l : List Nat) (x : Nat) : setOf (l ++ [x]) = putN (setOf l) x () := by
  unfold setOf
  rw [List.foldl_append]
  rfl
theorem setOf_go : ∀ (l : List Nat) (g : List (Nat × Unit)), (g.map (·.1)).Nodup → ((l.foldl (fun g x => putN g x ()) g).map (·.1)).Nodup ∧ ∀ x, x ∈ (l.foldl (fun g x => putN g x ()) g).map (·.1) ↔ x ∈ l ∨ x ∈ g.map (·.1)
  | [], g, h => ⟨h, fun x => by simp⟩
  | a :: l, g, h => by
    obtain ⟨h1, h2⟩ := setOf_go l (putN g a ()) (putN_nodup h)
    refine ⟨h1, fun x => (h2 x).trans ?_⟩
    rw [putN_keys]
    by_cases q : a ∈ g.map (·.1)
    · rw [if_pos q, List.mem_cons]
      constructor
      · rintro (z | z)
        · exact .inl (.inr z)
        · exact .inr z
      · rintro ((z | z) | z)
        · exact .inr (by rw [z]; exact q)
        · exact .inl z
        · exact .inr z
    · rw [if_neg q, List.mem_append, List.mem_singleton, List.mem_cons]
      constructor
      · rintro (z | z | z)
        · exact .inl (.inr z)
        · exact .inr z
        · exact .inl (.inl z)
      · rintro ((z | z) | z)
        · exact .inr (.inr z)
        · exact .inl z
        · exact .inr (.inl z)
theorem setOf_nd (l : List Nat) : ((setOf l).map (·.1)).Nodup := (setOf_go l [] List.nodup_nil).1
theorem mem_setOf (l : List Nat) (x : Nat) : x ∈ (setOf l).map (·.1) ↔ x ∈ l := by
  rw [show setOf l = l.foldl (fun g x => putN g x ()) [] from rfl, (setOf_go l [] List.nodup_nil).2 x]
  simp
theorem setOf_len {l : List Nat} {n : Nat} (h : ∀ x ∈ l, x < n) : (setOf l).length ≤ n := by
  have := nodup_bound n _ (setOf_nd l) fun x hx => h x ((mem_setOf l x).mp hx)
  rwa [List.length_map] at this
theorem strict_of {ns ks : List Nat} (pm : ns.Perm ks) (nd : ks.Nodup) (srt : ns.Pairwise (· ≤ ·)) : ns.Pairwise (· < ·) :=
  List.Pairwise.imp (fun {a b} (h : a ≤ b ∧ a ≠ b) => by omega) (List.Pairwise.and srt (pm.nodup_iff.mpr nd))
theorem ints_keys {P : Program} {w : World} {α : Type} {f : α → V} : ∀ {ks : List (Nat × α)} {vs : List (Key × Value)} {us : List Value}, KV (kvF f ks) vs → us.length = ks.length →
    (∀ (j : Nat) (v : Value), us[j]? = some v → ∃ k x, vs[j]? = some (k, x) ∧ (mixKind P w).is k v = true) → IntsAre us (ks.map fun kv => (kv.1 : Int))
  | [], vs, us, r, hl, h => by
    cases us with
    | nil => exact .nil
    | cons u r => cases hl
  | kv :: ks, vs, us, r, hl, h => by
    cases us with
    | nil => cases hl
    | cons u us' =>
      cases r with
      | cons r1 r2 =>
        obtain ⟨k, x, e, hk⟩ := h 0 u rfl
        have e2 := Option.some.inj e
        have ek : k = Sum.inl (kv.1 : Int) := by
          have q1 := r1.1
          rw [e2] at q1
          exact q1.symm
        subst ek
        obtain ⟨t, rfl⟩ := relV_key (k := Sum.inl (kv.1 : Int)) hk
        exact .cons _ _ (ints_keys (P := P) (w := w) r2 (Nat.succ.inj hl) fun j v hj => h (j + 1) v hj)
def rSortedD : List V → Hp → VK → Prop := fun vs H Q => ∃ (a : Addr) (α : Type) (f : α → V) (ks : List (Nat × α)), vs = [V.ref a] ∧ H a = some (.dK (kvF f ks)) ∧ ks.length < 64 ∧
  ∀ (ns : List Nat) (p : Addr), ns.Perm (ks.map (·.1)) → ns.Pairwise (· ≤ ·) → H p = none → Q (.ref p) (upd H p (.lst (ns.map nv)))
theorem nat_of_ints {ms : List Int} {ks : List Nat} (pm : ms.Perm (ks.map fun (k : Nat) => (k : Int))) (srt : ms.Pairwise (· ≤ ·)) : ∃ ns : List Nat, ms = ns.map (fun (k : Nat) => (k : Int)) ∧ ns.Perm ks ∧ ns.Pairwise (· ≤ ·) := by
  refine ⟨ms.map Int.toNat, ?_, ?_, ?_⟩
  · rw [List.map_map]
    refine (List.map_id' ms).symm.trans (List.map_congr_left fun m hm => ?_)
    obtain ⟨k, _, rfl⟩ := List.mem_map.mp (pm.mem_iff.mp hm)
    rfl
  · have := pm.map Int.toNat
    rw [List.map_map] at this
    refine this.trans (List.Perm.of_eq ?_)
    refine Eq.trans (List.map_congr_left (g := fun k => k) fun k _ => ?_) (List.map_id' ks)
    rfl
  · rw [List.pairwise_map]
    exact srt.imp fun h => by omega
theorem cr_sortedD {X : Cx} (hc : X.calm = true) : CallR X (.builtin "sorted") rSortedD := by
  intro pins s σ H vs us Q I r h
  obtain ⟨a, α, f, ks, rfl, ha, h64, q⟩ := h
  rw [Vals.ref1 r]
  obtain ⟨hz, lo, vs, rel, hD⟩ := I.hok a _ ha
  obtain ⟨ep, hat⟩ := hD.dictAt
  have hlen : vs.length = ks.length := by rw [← rel.length, kvF_len]
  refine Calls.call_function_entry kind_sorted plain_sorted entry_sorted (args_sorted1 _) (wpAny_bind (m := checkCount "sorted" 1 1 _) (wpAny_pure (wpAny_bind (PySem.W.kdu_collect (A := X.A.in1) (PySem.W.kdl_dict (knd := mixKind X.prog X.w) (kvs := vs) (ep := ep) lo) (I.ok.hd hc) hat (by rw [hlen]; exact small64 h64) fun h' tk acc hk hacc => ?_))))
  have hl : acc.toList.length = ks.length := by rw [Array.length_toList, hacc.1, hlen]
  have hI : IntsAre acc.toList (ks.map fun kv => (kv.1 : Int)) := ints_keys (P := X.prog) (w := X.w) rel hl fun j v e => hacc.2 j v (by rw [← Array.getElem?_toList]; exact e)
  refine wpAny_bind (wpAny_newList ?_ (by rw [hl]; exact small64 h64))
  have hoL : (h'.push (seqObj "list" acc.toList.toArray 0)).get? h'.objs.size = some (seqObj "list" acc.toList.toArray 0) := Heap.get?_push_size _ rfl
  refine wpAny_bind (wpAny_holding (wpAny_call_entry slot_list_sort ⟨_, hoL, rfl⟩ entry_list_sort (list_sort_tree hoL hI (by rw [hl]; exact h64) fun out ms h1 h2 h3 => ⟨_, rfl, wpAny_pure ⟨_, rfl, ?_⟩⟩) (args_list_sort _)))
  obtain ⟨ns, rfl, p1, p2⟩ := nat_of_ints (ks := ks.map (·.1)) (by rw [List.map_map]; exact h2) h3
  obtain ⟨e, he⟩ := sortedHeap_at (out := out) hoL
  have I1 := I.kept (h' := h') (t' := tk) hk
  have old : ∀ b u, h'.get? b = some u → (sortedHeap (h'.push (seqObj "list" acc.toList.toArray 0)) h'.objs.size acc.toList out).get? b = some u := fun b u eb => by
    have lt := Heap.lt_size eb
    rw [sortedHeap_old (Nat.ne_of_lt lt) (by rw [size_push']; exact Nat.lt_succ_of_lt lt)]
    exact Heap.get?_push_of_some _ eb
  refine ⟨.ref _, upd H h'.objs.size (.lst (ns.map nv)), I1.laid (t' := tk) old (Nat.le_refl _) ⟨?_, out.toList, e, ?_, he⟩, rfl, q ns _ p1 p2 (I1.hok.fresh (Nat.le_refl _))⟩
  · rw [List.length_map, p1.length_eq, List.length_map]
    exact small64 h64
  · have := vals_of_ints h1
    rw [List.map_map] at this
    exact this
end Cq

set_option Elab.async false
set_option linter.all false
set_option maxRecDepth 100000
set_option maxHeartbeats 2000000
namespace Cq
open PySem PySem.Spec PyProof.Rows L2
theorem b_and (a b : Nat) : Builtin.bitAnd (a : Int) (b : Int) = ((a &&& b : Nat) : Int) := by
  rw [bitAnd_pp (by omega) (by omega), Int.toNat_natCast, Int.toNat_natCast]
theorem b_or (a b : Nat) : Builtin.bitOr (a : Int) (b : Int) = ((a ||| b : Nat) : Int) := by
  rw [Bits.bitOr_pp (by omega) (by omega), Int.toNat_natCast, Int.toNat_natCast]
theorem msk_fold : ∀ (ns : List Nat) (b : Nat), ns.foldl (fun b n => b ||| cho n 15) b = b ||| msk ns
  | [], b => (Nat.or_zero b).symm
  | n :: r, b => by
    rw [List.foldl_cons, msk_fold r]
    show b ||| cho n 15 ||| msk r = b ||| (cho n 15 ||| msk r)
    rw [Nat.or_assoc]
theorem v_and (a b : Nat) : V.int (Builtin.bitAnd (a : Int) (b : Int)) = nv (a &&& b) := congrArg V.int (b_and a b)
theorem v_or (a b : Nat) : V.int (Builtin.bitOr (a : Int) (b : Int)) = nv (a ||| b) := congrArg V.int (b_or a b)
theorem for_zip {K : PySem.W.Frag} {a b : Addr} {xs ys : List V} {g : TG} {tb : TS} {D : Ends} {σ : L2.St} {H : Hp} (he : xs.length = ys.length) (Pv : Nat → L2.St → Hp → Prop) (h0 : Pv 0 σ H) (hl : ∀ i σ H, i ≤ xs.length → Pv i σ H → SqL K H a xs ∧ SqL K H b ys)
    (hs : ∀ i x y σ H T, xs[i]? = some x → ys[i]? = some y → Pv i σ H → H T = none → g (.ref T) σ (upd H T (.tup [x, y])) fun σ2 H2 => tb { D with nx := Pv (i + 1), ct := Pv (i + 1), bk := D.nx } σ2 H2) (hd : ∀ σ H, Pv xs.length σ H → D.nx σ H) :
    ∃ W : Nat → Nat → L2.St → Hp → Prop, (∃ m, W 0 m σ H) ∧ ∀ i m σ H, W i m σ H →
      ((Itz K a b).stop i H ∧ D.nx σ H) ∨ ((Itz K a b).go i H ∧ ∃ N : L2.St → Hp → Prop, (∀ σ' H', N σ' H' → ∃ m', m' < m ∧ W (i + 1) m' σ' H') ∧ ∀ x H', (Itz K a b).yld i H x H' → g x σ H' fun σ2 H2 => tb { D with nx := N, ct := N, bk := D.nx } σ2 H2) := by
  refine ⟨fun i m σ H => m = xs.length - i ∧ i ≤ xs.length ∧ Pv i σ H, ⟨xs.length, by simp, Nat.zero_le _, h0⟩, fun i m σ H ⟨em, hi, p⟩ => ?_⟩
  obtain ⟨q1, q2⟩ := hl i σ H hi p
  by_cases hlt : i < xs.length
  · refine .inr ⟨⟨xs, ys, xs[i], ys[i]'(by omega), q1, q2, by simp [hlt], by simp [he ▸ hlt]⟩, Pv (i + 1), fun σ' H' p' => ⟨xs.length - (i + 1), by omega, rfl, hlt, p'⟩, fun x H' ⟨T, y, z, e1, e2, e3, e4, e5⟩ => ?_⟩
    rw [e1, e3]
    exact hs i y z σ H T (e4 xs q1) (e5 ys q2) p e2
  · have e : i = xs.length := by omega
    rw [e] at p
    exact .inl ⟨⟨xs, ys, q1, q2, .inl (by omega)⟩, hd σ H p⟩
theorem for_keys {d : Addr} {o : Obj} {kvs : List (Key × V)} {g : TG} {tb : TS} {D : Ends} {σ : L2.St} {H : Hp} (Pv : Nat → L2.St → Hp → Prop) (h0 : Pv 0 σ H) (hl : ∀ i σ H, i ≤ kvs.length → Pv i σ H → H d = some (.frz o (.dK kvs)))
    (hs : ∀ i k v σ H, kvs[i]? = some (k, v) → Pv i σ H → g (kV k) σ H fun σ2 H2 => tb { D with nx := Pv (i + 1), ct := Pv (i + 1), bk := D.nx } σ2 H2) (hd : ∀ σ H, Pv kvs.length σ H → D.nx σ H) :
    ∃ W : Nat → Nat → L2.St → Hp → Prop, (∃ m, W 0 m σ H) ∧ ∀ i m σ H, W i m σ H →
      ((Itk d o kvs).stop i H ∧ D.nx σ H) ∨ ((Itk d o kvs).go i H ∧ ∃ N : L2.St → Hp → Prop, (∀ σ' H', N σ' H' → ∃ m', m' < m ∧ W (i + 1) m' σ' H') ∧ ∀ x H', (Itk d o kvs).yld i H x H' → g x σ H' fun σ2 H2 => tb { D with nx := N, ct := N, bk := D.nx } σ2 H2) := by
  refine ⟨fun i m σ H => m = kvs.length - i ∧ i ≤ kvs.length ∧ Pv i σ H, ⟨kvs.length, by simp, Nat.zero_le _, h0⟩, fun i m σ H ⟨em, hi, p⟩ => ?_⟩
  have q := hl i σ H hi p
  by_cases hlt : i < kvs.length
  · refine .inr ⟨⟨q, hlt⟩, Pv (i + 1), fun σ' H' p' => ⟨kvs.length - (i + 1), by omega, rfl, hlt, p'⟩, fun x H' ⟨e1, k, v, e2, e3⟩ => ?_⟩
    rw [e1, e3]
    exact hs i k v σ H e2 p
  · have e : i = kvs.length := by omega
    rw [e] at p
    exact .inl ⟨⟨q, by omega⟩, hd σ H p⟩
end Cq

set_option Elab.async false
set_option linter.all false
set_option maxRecDepth 100000
set_option maxHeartbeats 2000000
namespace Cq
open PySem PySem.Spec PyProof.Rows L2
section
variable {prog : Program} {w : World} {A : Around} {E : Value → Shared → Prop} {s : Shared}
end

def tDSetD (td ty tx : TE) : TE := fun σ H Q => td σ H fun x H1 => ∃ a, x = .ref a ∧ IsD H1 a ∧ ty σ H1 fun y H2 => tx σ H2 fun z H3 => ∃ (kvs : List (Key × V)) (k : Key), H3 a = some (.dK kvs) ∧ y = kV k ∧ kvs.length < sizeLine ∧
  (∀ v, valV kvs k = some v → Q v H3) ∧ (valV kvs k = none → Q z (upd H3 a (.dK (putK kvs k z))))
section
variable {X : Cx} {o e f : Expr} {apos cpos : Pos} {td ty tx : TE}
theorem pe_dsetdef (_ : X.A.units + 1 < cLine) (ho : PE X o td) (he : PE X e ty) (hf : PE X f tx) (m : M2 X o "setdefault" apos e f cpos) : PE X (.Call (.Attribute o "setdefault" apos) [e, f] [] cpos) (tDSetD td ty tx) := by
  intro pins s σ H Q I h
  refine wpAny_Call_method m.base m.few m.line PySem.F.plainAttrs_dict PySem.F.slot_dict_setdefault PySem.F.type_dict_setdefault (thn (ho pins s σ H _ I h) fun u s1 ⟨x, H1, I1, rx, a, ex, d, q1⟩ => ?_)
  subst ex
  obtain rfl : u = Value.ref a := rx
  obtain ⟨t1, t2, _⟩ := isD_at I1 d
  refine ⟨t1, t2, ?_⟩
  rw [m.trees]
  refine Calls.callWith_builtin rfl (Calls.evalArgs_plain (Calls.spliced_cons (thn (he pins s1 σ H1 _ I1 q1) fun iv s2 ⟨y, H2, I2, ry, q2⟩ =>
    Calls.spliced_cons (thn (hf pins s2 σ H2 _ I2 q2) fun fv s3 ⟨z, H3, I3, rz, kvs, k, e3, ey, hl, y1, y2⟩ => Calls.spliced_nil ?_))))
  subst ey
  obtain ⟨zz, hd, vs, rel, dd⟩ := dk_of I3.hok e3
  refine call_meetsIn PySem.F.slot_dict_setdefault dd.typeIs PySem.F.entry_dict_setdefault (PySem.F.args_dict_setdefault_3 _ _ _) (kt_meets_setdefault (mixKind X.prog X.w) a (kV_is ry) hd fv)
    ⟨vs, dd, by rw [← rel.length]; exact zz, fun v hv => ?_, fun hn h' dd' hs => ?_⟩
  · have rv := rel.val k
    rw [hv] at rv
    cases e4 : valV kvs k with
    | none => rw [e4] at rv; exact rv.elim
    | some v' =>
      rw [e4] at rv
      exact ⟨v', H3, I3.tok _, rv, y1 v' e4⟩
  · have rv := rel.val k
    rw [hn] at rv
    cases e4 : valV kvs k with
    | some v' => rw [e4] at rv; exact rv.elim
    | none =>
      have he : ∃ q, h'.get? a = some q := let ⟨q, _, _, hq, _⟩ := dd'; ⟨q, hq⟩
      have hl2 : (putK kvs k z).length ≤ sizeLine := by have := length_putK kvs k z; omega
      exact ⟨z, _, d_write I3 (by rw [e3]; exact True.intro) hs he (dk_new hl2 hd (rel.put k rz) dd'), rz, y2 e4⟩
end
theorem lc_keys {α β : Type} {R : Rel β} (m : Mono R) {d : Addr} {o : Obj} {fv : α → V} {ks : List (Nat × α)} {g : TG} {tt : TT} {te : TE} {vs : List Nat} {σ : L2.St} {H1 : Hp} {D : Addr} {Qd : Hp → Prop} (hD : H1 D = none) (hl : H1 d = some (.frz o (.dK (kvF fv ks)))) (f : Nat × α → β)
    (hz : ks.length ≤ 100000)
    (hs : ∀ (i : Nat) (kv : Nat × α) (H' : Hp) (N : Hp → Prop), ks[i]? = some kv → Same H1 H' → (∀ H4 z, Same H' H4 → R (sub H4 H') z (f kv) → ∃ acc, H4 D = some (.lst acc) ∧ acc.length < sizeLine ∧ N (upd H4 D (.lst (acc ++ [z])))) →
      g (nv kv.1) (wipe σ vs) H' fun σ2 H2 => wipe σ2 vs = wipe σ vs ∧ tt σ2 H2 fun b H3 =>
        if b = true then te σ2 H3 fun z H4 => ∃ acc, H4 D = some (.lst acc) ∧ acc.length < sizeLine ∧ N (upd H4 D (.lst (acc ++ [z]))) else N H3)
    (hd : ∀ H', Same H1 H' → LR R (sub H' H1) (.ref D) (ks.map f) → Qd H') :
    ∃ W : Nat → Nat → Hp → Prop, (∃ m, W 0 m (upd H1 D (.lst []))) ∧ ∀ i m H, W i m H →
      ((Itk d o (kvF fv ks)).stop i H ∧ Qd H) ∨ ((Itk d o (kvF fv ks)).go i H ∧ ∃ Nx : Hp → Prop, (∀ H', Nx H' → ∃ m', m' < m ∧ W (i + 1) m' H') ∧ ∀ x H', (Itk d o (kvF fv ks)).yld i H x H' → g x (wipe σ vs) H' fun σ2 H2 => wipe σ2 vs = wipe σ vs ∧ tt σ2 H2 fun b H3 =>
        if b = true then te σ2 H3 fun y H4 => ∃ acc, H4 D = some (.lst acc) ∧ acc.length < sizeLine ∧ Nx (upd H4 D (.lst (acc ++ [y]))) else Nx H3) := by
  refine ⟨fun i m H => m = ks.length - i ∧ i ≤ ks.length ∧ Acc R H1 H D ((ks.take i).map f), ⟨ks.length, by simp, Nat.zero_le _, Acc.start (Same.refl H1) hD⟩, fun i m' H ⟨em, hi, A⟩ => ?_⟩
  have q := A.same _ _ hl
  by_cases hlt : i < ks.length
  · have hk : ks[i]? = some ks[i] := List.getElem?_eq_getElem hlt
    refine .inr ⟨⟨q, by rw [kvF_len]; exact hlt⟩, fun H'' => Acc R H1 H'' D ((ks.take (i + 1)).map f), fun H' p' => ⟨ks.length - (i + 1), by omega, rfl, hlt, p'⟩, fun x H' ⟨e1, k, v, e2, e3⟩ => ?_⟩
    unfold kvF at e2
    rw [List.getElem?_map, hk] at e2
    have e4 := Option.some.inj e2
    have ek : k = Sum.inl (ks[i].1 : Int) := (congrArg Prod.fst e4).symm
    have e5 : x = nv ks[i].1 := by rw [e3, ek]; rfl
    rw [e1, e5]
    refine hs i ks[i] H _ hk A.same fun H4 z s r => ?_
    obtain ⟨acc, h1, h2, h3⟩ := A.push m s r
    refine ⟨acc, h1, ?_, ?_⟩
    · rw [h2, List.length_map, List.length_take]
      exact Nat.lt_of_le_of_lt (show min i ks.length ≤ 100000 by omega) (by decide)
    · rw [List.take_add_one, hk, List.map_append]
      exact h3
  · have e : i = ks.length := by omega
    rw [e, List.take_length] at A
    exact .inl ⟨⟨q, by rw [kvF_len]; omega⟩, hd H A.same (A.done m)⟩
theorem unlock_same {H H' : Hp} {d : Addr} {o : Obj} {u : HO} (h : H d = some u) (s : Same (upd H d (.frz o u)) H') : Same H (upd H' d u) := fun b w e => by
  by_cases z : b = d
  · rw [z] at e ⊢
    rw [h] at e
    rw [upd_same]
    exact e
  · rw [upd_ne z]
    exact s _ _ (by rw [upd_ne z]; exact e)
theorem lookup_of_mem : ∀ {e : Sx34.Env} {x v : Nat}, (e.map (·.1)).Nodup → (x, v) ∈ e → e.lookup x = some v
  | (a, b) :: e, x, v, hn, h => by
    obtain ⟨h1, h2⟩ := List.nodup_cons.mp hn
    rcases List.mem_cons.mp h with z | z
    · cases z
      exact lookup_cons_self _ _ _
    · have : x ≠ a := fun q => h1 (by rw [← q]; exact List.mem_map.mpr ⟨_, z, rfl⟩)
      rw [lookup_cons_ne _ this]
      exact lookup_of_mem h2 z
theorem lookup_rev {kvs : List (Nat × Nat)} (hn : (kvs.map (·.1)).Nodup) (x : Nat) : kvs.reverse.lookup x = lookN kvs x := by
  have hr : (kvs.reverse.map (·.1)).Nodup := by rw [List.map_reverse]; exact (List.reverse_perm _).nodup_iff.mpr hn
  cases e : lookN kvs x with
  | some v => exact lookup_of_mem hr (List.mem_reverse.mpr (lookN_mem e))
  | none =>
    cases e2 : kvs.reverse.lookup x with
    | none => rfl
    | some v => exact absurd (List.mem_map.mpr ⟨_, List.mem_reverse.mp (lookup_mem e2), rfl⟩) (lookN_none_iff.mp e)
theorem pk_sum : ∀ e : Sx34.Env, pk e = (e.map fun xv => cho xv.1 xv.2).sum
  | [] => rfl
  | (x, v) :: r => by
    rw [List.map_cons, List.sum_cons, ← pk_sum r]
    rfl
theorem pk_rev (kvs : List (Nat × Nat)) : pk kvs.reverse = (kvs.map fun xv => cho xv.1 xv.2).sum := by
  rw [pk_sum, List.map_reverse, List.sum_reverse]
theorem int_sum : ∀ l : List Nat, (l.map fun (c : Nat) => (c : Int)).sum = ((l.sum : Nat) : Int)
  | [] => rfl
  | a :: l => by rw [List.map_cons, List.sum_cons, int_sum l, List.sum_cons]; omega
abbrev FitR : Rel (Nat × List Nat) := T2 NR NsR
theorem mono_Fit : Mono FitR := mono_T2 mono_N mono_Ns
theorem Fit_out {H : Hp} {v : V} {f : Nat × List Nat} (h : FitR H v f) : ∃ b c, v = .ref b ∧ H b = some (.tup [nv f.1, .ref c]) ∧ H c = some (.lst (f.2.map nv)) := by
  obtain ⟨b, x, y, e, hb, e1, c, e2, hc⟩ := h
  cases e1
  cases e2
  exact ⟨b, c, e, hb, hc⟩
def OpR1 : Rel (Option Nat) := fun _ v o => match o with
  | some n => v = nv n
  | none => v = .non
theorem mono_Op : Mono OpR1 := fun _ _ _ _ _ h => h
theorem nv_ints (l : List Nat) : l.map nv = (l.map fun (c : Nat) => (c : Int)).map V.int := by
  rw [List.map_map]
  rfl
theorem chs_two (p : Sa97.Row) : ∀ d : Sa97.Rows, List.filterMap (fun o : Option Nat => o) (d.filterMap fun r => if r.table = p.table then some ((Sx34.unify (p.at_.zip r.at_) []).map pk) else none) = chs p d
  | [] => rfl
  | r :: d => by
    have ih := chs_two p d
    unfold chs at ih ⊢
    rw [List.filterMap_cons]
    by_cases h : r.table = p.table
    · rw [List.filter_cons_of_pos (by simpa using h), List.filterMap_cons, if_pos h, ← ih]
      show List.filterMap (fun o : Option Nat => o) (_ :: _) = _
      rw [List.filterMap_cons]
    · rw [List.filter_cons_of_neg (by simpa using h), if_neg h, ← ih]
theorem rows_len {d : Sa97.Rows} {n : Int} (h : Sa97.rows d n = true) : d.length ≤ 128 := by
  unfold Sa97.rows Sa97.within at h
  simp only [Bool.and_eq_true, decide_eq_true_eq] at h
  have h1 : (d.length : Int) = n := h.2.1
  omega
theorem rows_ok {d : Sa97.Rows} {n : Int} (h : Sa97.rows d n = true) : RowsOk d := fun r hr => by
  unfold Sa97.rows at h
  simp only [Bool.and_eq_true] at h
  obtain ⟨_, h2, h3⟩ := good_part (List.all_eq_true.mp h.2.2 r hr)
  exact ⟨h2, h3⟩
end Cq

set_option Elab.async false
set_option linter.all false
set_option maxRecDepth 100000
set_option maxHeartbeats 2000000
namespace Cq
open PySem PySem.Spec PyProof.Rows L2
section
open PySem.SeqAt
open PySem.AutoSeq1 (wpAny_loadPart')
open PySem.MeetsSeq PySem.MeetsSeq2 PySem.MeetsSeq3
open HT (lexLt)
theorem ints_at : ∀ {vs : List Value} {ns : List Int} {i : Nat} {v : Value}, IntsAre vs ns → vs[i]? = some v → ∃ t, v = .int (ns.getD i 0) t ∧ ns.drop i = ns.getD i 0 :: ns.drop (i + 1)
  | _, _, i, v, .nil, h => by simp at h
  | _, _, 0, v, .cons n t hr, h => ⟨t, (Option.some.inj h).symm, rfl⟩
  | _, _, i + 1, v, .cons n t hr, h => by
    obtain ⟨t', e1, e2⟩ := ints_at (i := i) hr h
    exact ⟨t', e1, e2⟩
theorem lt_loop (x y : Addr) (xs ys : Array Value) (n m : Nat) (dx dy : Option Addr) (sx sy : Array (Option Value)) (ns ms : List Int) (hi : IntsAre xs.toList ns) (hj : IntsAre ys.toList ms) (k : Nat) :
    ∀ i : Nat, xs.size - i = k → i ≤ xs.size → i ≤ ys.size → Meets (Builtin.«list.__eq__.loop» ⟨[.ref x, .ref y, rawInt i, rawInt 0], []⟩)
      (fun _ R s => s.heap.get? x = some { cls := .type "list", dict := dx, data := .seq xs n, slots := sx } ∧ s.heap.get? y = some { cls := .type "list", dict := dy, data := .seq ys m, slots := sy } ∧
        R (.ok (.ret (.bool (lexLt (ns.drop i) (ms.drop i))))) s) := by
  have zx : xs.size = ns.length := by rw [← hi.length]; simp
  have zy : ys.size = ms.length := by rw [← hj.length]; simp
  induction k with
  | zero =>
    intro i hk h1 h2 prog w A R s h
    obtain ⟨hp, g, d, tk, os⟩ := s; obtain ⟨hx, hy, h⟩ := h
    wp_walk using wpAny_loadPart' hx, wpAny_loadPart' hy
    have e1 : xs[((i : Nat) : Int).toNat]? = none := by simp; omega
    rw [e1]
    wp_walk using wpAny_loadPart' hx, wpAny_loadPart' hy
    show R (.ok (.ret (.bool (decide (xs.size < ys.size))))) _
    have e2 : decide (xs.size < ys.size) = lexLt (ns.drop i) (ms.drop i) := by
      rw [List.drop_eq_nil_of_le (show ns.length ≤ i by omega)]
      cases e : ms.drop i with
      | nil =>
        have : ms.length ≤ i := List.drop_eq_nil_iff.mp e
        exact decide_eq_false (by omega)
      | cons c r =>
        have : ¬ ms.length ≤ i := fun z => by rw [List.drop_eq_nil_of_le z] at e; cases e
        exact decide_eq_true (by omega)
    rw [e2]
    exact h
  | succ k ih =>
    intro i hk h1 h2 prog w A R s h
    obtain ⟨hp, g, d, tk, os⟩ := s; obtain ⟨hx, hy, h⟩ := h
    wp_walk using wpAny_loadPart' hx, wpAny_loadPart' hy
    have lx : i < xs.size := by omega
    have e1 : xs[((i : Nat) : Int).toNat]? = some xs[i] := by simp [lx]
    obtain ⟨t1, v1, d1⟩ := ints_at (i := i) (v := xs[i]) hi (by simp [lx])
    by_cases ly : i < ys.size
    · have e2 : ys[((i : Nat) : Int).toNat]? = some ys[i] := by simp [ly]
      obtain ⟨t2, v2, d2⟩ := ints_at (i := i) (v := ys[i]) hj (by simp [ly])
      rw [e1, e2]
      rw [d1, d2, HT.lexLt_cons] at h
      obtain ⟨e, he, hiff⟩ := HT.eqAt_int A.in1 ⟨hp, g, d, tk, os⟩ (ns.getD i 0) t1 (ms.getD i 0) t2
      rw [← v1, ← v2] at he
      refine wpAny_bind (he prog w _ _ ?_)
      cases e with
      | true =>
        rw [if_pos (hiff.mp rfl)] at h
        wp_walk
        rw [show ((i : Int) + 1) = ((i + 1 : Nat) : Int) by omega]
        exact ⟨plainId_quiet plain_eq_loop _, codeAny_builtin entry_eq_loop (by rw [Around.under_plainId plain_eq_loop _]; exact ih (i + 1) (by omega) (by omega) (by omega) prog w A R _ ⟨hx, hy, h⟩)⟩
      | false =>
        rw [if_neg (fun q => absurd (hiff.mpr q) Bool.false_ne_true)] at h
        wp_walk using wpAny_loadPart' hx, wpAny_loadPart' hy
        rw [e1, e2]
        have hri := HT.rcLt_int A.in1 ⟨hp, g, d, tk, os⟩ (ns.getD i 0) t1 (ms.getD i 0) t2 prog w
        rw [← v1, ← v2] at hri
        wp_walk using hri
        exact h
    · have e2 : ys[((i : Nat) : Int).toNat]? = none := by simp; omega
      rw [e1, e2]
      rw [d1, List.drop_eq_nil_of_le (show ms.length ≤ i by omega)] at h
      wp_walk using wpAny_loadPart' hx, wpAny_loadPart' hy
      show R (.ok (.ret (.bool (decide (xs.size < ys.size))))) _
      rw [decide_eq_false (by omega)]
      exact h
theorem list_lt (x y : Addr) (xs ys : Array Value) (n m : Nat) (dx dy : Option Addr) (sx sy : Array (Option Value)) (ns ms : List Int) (hi : IntsAre xs.toList ns) (hj : IntsAre ys.toList ms) :
    Meets (Builtin.«list.__lt__» ⟨[.ref x, .ref y], []⟩)
      (fun _ R s => s.heap.get? x = some { cls := .type "list", dict := dx, data := .seq xs n, slots := sx } ∧ s.heap.get? y = some { cls := .type "list", dict := dy, data := .seq ys m, slots := sy } ∧
        R (.ok (.ret (.bool (lexLt ns ms)))) s) := by
  intro prog w A R s h
  obtain ⟨hp, g, d, tk, os⟩ := s; obtain ⟨hx, hy, h⟩ := h
  have sub1 := AutoSeq1.sub_list_list
  wp_walk using wpAny_loadPart' hx, wpAny_loadPart' hy
  exact ⟨plainId_quiet plain_eq_loop _, codeAny_builtin entry_eq_loop (by rw [Around.under_plainId plain_eq_loop _]; exact lt_loop x y xs ys n m dx dy sx sy ns ms hi hj _ 0 rfl (Nat.zero_le _) (Nat.zero_le _) prog w A R _ ⟨hx, hy, h⟩)⟩
end
section
variable {prog : Program} {w : World} {A : Around} {E : Value → Shared → Prop} {s : Shared}
theorem rc_lists {x y : Addr} {xs ys : List Value} {ns ms : List Int} {Q : Value → Shared → Prop} (hx : s.heap.IsList x xs.toArray) (hy : s.heap.IsList y ys.toArray) (hi : IntsAre xs ns) (hj : IntsAre ys ms) (hu : A.units < cLine) (h : Q (.bool (HT.lexLt ns ms)) s) :
    wpAny (model prog w) A (richCompare .Lt (.ref x) (.ref y)) Q E s := by
  obtain ⟨⟨c1, d1, a1, l1⟩, o1, e1, n, f1⟩ := id hx
  obtain ⟨⟨c2, d2, a2, l2⟩, o2, e2, m, f2⟩ := id hy
  simp only at e1 f1 e2 f2
  subst e1 f1 e2 f2
  exact richCompare_meets_room (op := .Lt) ⟨_, o1, rfl⟩ ⟨_, o2, rfl⟩ PySem.F.slot_list_lt PySem.F.entry_list_lt (PySem.F.args_list_lt_2 _ _) (list_lt x y xs.toArray ys.toArray n m d1 d2 l1 l2 ns ms (by simpa using hi) (by simpa using hj)) ⟨o1, o2, (fun z => nomatch z), h⟩ hu
end
section
variable {prog : Program} {w : World} {A : Around} {E : Value → Shared → Prop} {s : Shared}
theorem min_end {I S : Addr} {fp wr : List Addr} {n : Nat} {P : Nat → Value → Prop} {St : Nat → Heap → Prop} {R : Result → Shared → Prop} (W : Walks prog w A.in1 I fp wr n P St) (hS : S ∉ fp) {v : Value} {c : Nat} (st : St n s.heap)
    (hb : s.heap.get? S = some { cls := .type "list", dict := none, data := .seq #[v, v] c, slots := #[] })
    (hR : ∀ h' tk, (∀ b o, b ∉ wr → b ≠ S → s.heap.get? b = some o → h'.get? b = some o) → R (.ok (.ret v)) { s with heap := h', toks := tk }) :
    codeAny (model prog w) A (.builtin "min.loop" ⟨[.ref I, .none, .ref S], []⟩) R s := by
  have hw : S ∉ wr := fun z => hS (W.sub _ z)
  refine codeAny_builtin F.entry_min_loop ?_
  rw [Around.under_plainId F.plain_min_loop _]
  refine wpAny_bind (m := seqItems? (.ref S)) (wpAny_seqItems hb rfl (wpAny_bind (m := tryCatch (pyNext (.ref I)) _) (wpAny_tryCatch (W.done s _ _ st fun h' tk kp => ?_))))
  refine wpAny_bind (m := updateSeq S (fun _ => #[])) (wpAny_updateSeq (kp S _ hw hb) rfl (wpAny_bind (wpAny_letGo (wpAny_pure ?_))))
  exact hR _ tk fun b o h1 h2 e => (Heap.get?_update_other _ _ (Ne.symm h2)).trans (kp b o h1 e)
theorem min_next {I S : Addr} {fp wr : List Addr} {P : Nat → Value → Prop} {St : Nat → Heap → Prop} {R : Result → Shared → Prop} (W : Walks prog w A.in1 I fp wr 2 P St) (hS : S ∉ fp) {va : Value} {c : Nat} (st : St 1 s.heap)
    (hb : s.heap.get? S = some { cls := .type "list", dict := none, data := .seq #[va, va] c, slots := #[] })
    {C : Bool → Prop} (hcmp : ∀ (vb : Value) (s1 : Shared) (Q1 : Value → Shared → Prop) (E1 : Value → Shared → Prop), P 1 vb → (∀ b o, b ∉ wr → s.heap.get? b = some o → s1.heap.get? b = some o) → (∀ r : Bool, C r → Q1 (.bool r) s1) → wpAny (model prog w) A.in1 (richCompare .Lt vb va) Q1 E1 s1)
    (hR : ∀ v h' tk, (v = va ∧ C false ∨ P 1 v ∧ C true) → (∀ b o, b ∉ wr → b ≠ S → s.heap.get? b = some o → h'.get? b = some o) → R (.ok (.ret v)) { s with heap := h', toks := tk }) :
    codeAny (model prog w) A (.builtin "min.loop" ⟨[.ref I, .none, .ref S], []⟩) R s := by
  have hw : S ∉ wr := fun z => hS (W.sub _ z)
  have nm : (toString "min" ++ toString ".loop" : String) = "min.loop" := by decide
  refine codeAny_builtin F.entry_min_loop ?_
  rw [Around.under_plainId F.plain_min_loop _]
  refine wpAny_bind (m := seqItems? (.ref S)) (wpAny_seqItems hb rfl (wpAny_bind (m := tryCatch (pyNext (.ref I)) _) (wpAny_tryCatch (W.item 1 s _ _ (by decide) st fun v h' tk hP st' kp => ?_))))
  have hb' := kp S _ hw hb
  refine wpAny_bind (m := tryCatch (holding [v, v] (richCompare .Lt v va >>= _)) _) (wpAny_tryCatch (wpAny_holding (wpAny_bind (hcmp v _ _ _ hP kp fun r hC => wpAny_bind (wpAny_holding (wpAny_truthy_bool (wpAny_bind (wpAny_letGo (wpAny_pure ?_)))))))))
  cases r with
  | true =>
    refine wpAny_bind (m := updateSeq S (fun _ => #[v, v])) (wpAny_updateSeq hb' rfl (wpAny_bind (wpAny_letGo ?_)))
    rw [nm]
    refine wpAny_pure ⟨plainId_quiet F.plain_min_loop _, min_end W hS (v := v) (W.frame _ _ _ st' fun b hbf o e => ?_) (Heap.get?_update_self _ hb' rfl) fun h'' tk'' kp'' => ?_⟩
    · exact (Heap.get?_update_other _ _ (fun z : S = b => hS (by rw [z]; exact hbf))).trans e
    · exact hR v h'' tk'' (.inr ⟨hP, hC⟩) fun b o h1 h2 e => kp'' b o h1 h2 ((Heap.get?_update_other _ _ (Ne.symm h2)).trans (kp b o h1 e))
  | false =>
    refine wpAny_bind (wpAny_letGo ?_)
    rw [nm]
    exact wpAny_pure ⟨plainId_quiet F.plain_min_loop _, min_end W hS (v := va) st' hb' fun h'' tk'' kp'' => hR va h'' tk'' (.inl ⟨rfl, hC⟩) fun b o h1 h2 e => kp'' b o h1 h2 (kp b o h1 e)⟩
theorem min_first {I S : Addr} {fp wr : List Addr} {P : Nat → Value → Prop} {St : Nat → Heap → Prop} {R : Result → Shared → Prop} (W : Walks prog w A.in1 I fp wr 2 P St) (hS : S ∉ fp) {c : Nat} (st : St 0 s.heap)
    (hb : s.heap.get? S = some { cls := .type "list", dict := none, data := .seq #[] c, slots := #[] })
    {C : Bool → Prop} (hcmp : ∀ (va vb : Value) (s1 : Shared) (Q1 : Value → Shared → Prop) (E1 : Value → Shared → Prop), P 0 va → P 1 vb → (∀ b o, b ∉ wr → b ≠ S → s.heap.get? b = some o → s1.heap.get? b = some o) → (∀ r : Bool, C r → Q1 (.bool r) s1) → wpAny (model prog w) A.in1 (richCompare .Lt vb va) Q1 E1 s1)
    (hR : ∀ v h' tk, (P 0 v ∧ C false ∨ P 1 v ∧ C true) → (∀ b o, b ∉ wr → b ≠ S → s.heap.get? b = some o → h'.get? b = some o) → R (.ok (.ret v)) { s with heap := h', toks := tk }) :
    codeAny (model prog w) A (.builtin "min.loop" ⟨[.ref I, .none, .ref S], []⟩) R s := by
  have hw : S ∉ wr := fun z => hS (W.sub _ z)
  have nm : (toString "min" ++ toString ".loop" : String) = "min.loop" := by decide
  refine codeAny_builtin F.entry_min_loop ?_
  rw [Around.under_plainId F.plain_min_loop _]
  refine wpAny_bind (m := seqItems? (.ref S)) (wpAny_seqItems hb rfl (wpAny_bind (m := tryCatch (pyNext (.ref I)) _) (wpAny_tryCatch (W.item 0 s _ _ (by decide) st fun v h' tk hP st' kp => ?_))))
  have hb' := kp S _ hw hb
  refine wpAny_bind (m := updateSeq S (fun _ => #[v, v])) (wpAny_updateSeq hb' rfl ?_)
  rw [nm]
  have up1 : ∀ b o, b ∉ wr → b ≠ S → s.heap.get? b = some o → (h'.update S (Obj.mapSeq fun _ => #[v, v])).get? b = some o := fun b o h1 h2 e => (Heap.get?_update_other _ _ (Ne.symm h2)).trans (kp b o h1 e)
  refine wpAny_pure ⟨plainId_quiet F.plain_min_loop _, min_next (C := C) W hS (va := v) (W.frame _ _ _ st' fun b hbf o e => ?_) (Heap.get?_update_self _ hb' rfl) (fun vb s1 Q1 E1 hP1 kp1 hq => hcmp v vb s1 Q1 E1 hP hP1 (fun b o h1 h2 e => kp1 b o h1 (up1 b o h1 h2 e)) hq) fun u h'' tk'' hu kp'' => ?_⟩
  · exact (Heap.get?_update_other _ _ (fun z : S = b => hS (by rw [z]; exact hbf))).trans e
  · exact hR u h'' tk'' (hu.imp (fun z => by rw [z.1]; exact ⟨hP, z.2⟩) id) fun b o h1 h2 e => kp'' b o h1 h2 (up1 b o h1 h2 e)
/-- min(a, b) of any two values that can be compared: one of them -/
theorem min_pair {va vb : Value} {C : Bool → Prop} {Q : Value → Shared → Prop} (hh : A.handled = none)
    (hcmp : ∀ (s1 : Shared) (R : Value → Shared → Prop) (E1 : Value → Shared → Prop), (∀ c o, s.heap.get? c = some o → s1.heap.get? c = some o) → (∀ r : Bool, C r → R (.bool r) s1) → wpAny (model prog w) A.in1 (richCompare .Lt vb va) R E1 s1)
    (h : ∀ v h' tk, (v = va ∧ C false ∨ v = vb ∧ C true) → (∀ c o, s.heap.get? c = some o → h'.get? c = some o) → Q v { s with heap := h', toks := tk }) : wpAny (model prog w) A (call (.builtin "min") [va, vb]) Q E s := by
  have nm : (toString "min" ++ toString ".loop" : String) = "min.loop" := by decide
  have hT : (s.heap.push { cls := .type "tuple", data := .seq #[va, vb] }).IsTuple s.heap.objs.size #[va, vb] := ⟨_, Heap.get?_push_size _ rfl, rfl, 0, rfl⟩
  refine call_function_tree F.kind_min F.plain_min F.entry_min (F.args_min2 _ _) (wpAny_bind (m := Builtin.Builtins.bindParams "min" ["key", "default"] 0 ⟨[], []⟩) (wpAny_of_eq (show Builtin.Builtins.bindParams "min" ["key", "default"] 0 ⟨[], []⟩ = pure [none, none] from rfl) (wpAny_bind (m := newTuple [va, vb]) (wpAny_newObj_type (wpAny_bind (wpAny_pyIter_tuple hT ?_))))))
  refine wpAny_bind (wpAny_newObj_type ?_)
  rw [nm]
  have sz1 : (s.heap.push { cls := .type "tuple", data := .seq #[va, vb] }).objs.size = s.heap.objs.size + 1 := size_push' _ _
  have sz2 : ((s.heap.push { cls := .type "tuple", data := .seq #[va, vb] }).push { cls := .type "tuple_iterator", data := .fields #[.ref s.heap.objs.size, .int 0 0] }).objs.size = s.heap.objs.size + 2 := by rw [size_push', sz1]
  refine wpAny_pure ⟨plainId_quiet F.plain_min_loop _, ?_⟩
  refine min_first (C := C) (Walks.tuple (A := A.in1) hh _ s.heap.objs.size (by rw [sz1]; exact Nat.ne_of_lt (Nat.lt_succ_self _)) #[va, vb]) (fun z => ?_) ⟨⟨_, Heap.get?_push_of_some _ (Heap.get?_push_size _ rfl), rfl, rfl⟩, (hT.push _).push _⟩ (Heap.get?_push_size _ rfl) (fun a b s1 Q1 E1 h0 h1 kp hq => ?_) fun v h' tk hv kp => ?_
  · rcases List.mem_cons.mp z with z | z
    · have z2 := sz2.symm.trans (z.trans sz1)
      exact absurd z2 (by omega)
    · have z2 := sz2.symm.trans (List.mem_singleton.mp z)
      exact absurd z2 (by omega)
  · cases Option.some.inj (show some va = some a from h0)
    cases Option.some.inj (show some vb = some b from h1)
    refine hcmp s1 Q1 E1 (fun c o e => kp c o (fun z => ?_) (fun z => ?_) (Heap.get?_push_of_some _ (Heap.get?_push_of_some _ (Heap.get?_push_of_some _ e)))) hq
    · have z2 := (List.mem_singleton.mp z).trans sz1
      have := Heap.lt_size e
      rw [z2] at this
      exact absurd this (Nat.not_lt.mpr (Nat.le_succ _))
    · have z2 := z.trans sz2
      have := Heap.lt_size e
      rw [z2] at this
      exact absurd this (Nat.not_lt.mpr (Nat.le_add_right _ _))
  · refine h v h' tk (hv.imp (fun z => ⟨(Option.some.inj (show some va = some v from z.1)).symm, z.2⟩) (fun z => ⟨(Option.some.inj (show some vb = some v from z.1)).symm, z.2⟩)) fun c o e => kp c o (fun z => ?_) (fun z => ?_) (Heap.get?_push_of_some _ (Heap.get?_push_of_some _ (Heap.get?_push_of_some _ e)))
    · have z2 := (List.mem_singleton.mp z).trans sz1
      have := Heap.lt_size e
      rw [z2] at this
      exact absurd this (Nat.not_lt.mpr (Nat.le_succ _))
    · have z2 := z.trans sz2
      have := Heap.lt_size e
      rw [z2] at this
      exact absurd this (Nat.not_lt.mpr (Nat.le_add_right _ _))
end
section
open PySem.SeqAt
open PySem.AutoSeq1 (wpAny_loadPart')
open PySem.MeetsSeq PySem.MeetsSeq2 PySem.MeetsSeq3
theorem eq_int_lists {A : Around} {s : Shared} {x y : Addr} {xs ys : List Value} {ns ms : List Int} (hx : s.heap.IsList x xs.toArray) (hy : s.heap.IsList y ys.toArray) (hi : IntsAre xs ns) (hj : IntsAre ys ms) (hu : A.units < cLine) : ∃ e, EqAt A s (.ref x) (.ref y) e := by
  by_cases h : x = y
  · subst h
    exact ⟨true, EqAt.same _⟩
  · by_cases z : xs.length = ys.length
    · have key : ∀ j (h1 : j < xs.toArray.size) (h2 : j < ys.toArray.size), EqAt A.in1 s xs.toArray[j] ys.toArray[j] (ns.getD j 0 == ms.getD j 0) := fun j h1 h2 => by
        obtain ⟨t, e1, _⟩ := ints_at (i := j) (v := xs.toArray[j]) hi (by simp)
        obtain ⟨u, e2, _⟩ := ints_at (i := j) (v := ys.toArray[j]) hj (by simp)
        rw [e1, e2]
        exact EqAt.int_int _ t _ u
      exact ⟨_, EqAt.of_refs h (RcAt.lists hx hy (by simpa using z) hu key)⟩
    · exact ⟨_, EqAt.of_refs h (RcAt.lists_lengths hx hy (by simpa using z) hu)⟩
theorem pair_lt (x y l1 l2 : Addr) (i j : Int) (t u : Tok) (xs ys : List Value) (ns ms : List Int) (n m : Nat) (dx dy : Option Addr) (sx sy : Array (Option Value)) (hi : IntsAre xs ns) (hj : IntsAre ys ms) :
    Meets (Builtin.«tuple.__lt__» ⟨[.ref x, .ref y], []⟩)
      (fun A R s => s.heap.get? x = some { cls := .type "tuple", dict := dx, data := .seq #[.int i t, .ref l1] n, slots := sx } ∧ s.heap.get? y = some { cls := .type "tuple", dict := dy, data := .seq #[.int j u, .ref l2] m, slots := sy } ∧
        s.heap.IsList l1 xs.toArray ∧ s.heap.IsList l2 ys.toArray ∧ A.in1.units < cLine ∧ ∀ r : Bool, (r = true → i ≤ j) → (r = false → j ≤ i) → R (.ok (.ret (.bool r))) s) :=
  .of_wp fun prog w A R s h => by
    obtain ⟨hp, g, d, tk, os⟩ := s; obtain ⟨hx, hy, hl1, hl2, hu, h⟩ := h
    have sub1 := AutoSeq1.sub_tuple_tuple
    obtain ⟨e1, he1, hiff⟩ := HT.eqAt_int A.in1 ⟨hp, g, d, tk, os⟩ i t j u
    obtain ⟨e2, he2⟩ := eq_int_lists (A := A.in1) (s := ⟨hp, g, d, tk, os⟩) hl1 hl2 hi hj hu
    have hr1 := HT.rcLt_int A.in1 ⟨hp, g, d, tk, os⟩ i t j u prog w
    wp_walk using wpAny_loadPart' hx, wpAny_loadPart' hy, wpAny_forIn_list _ (fun rest b s' => b.1 = none ∧ s' = ⟨hp, g, d, tk, os⟩ ∧ (rest = [(.int i t, .int j u), (.ref l1, .ref l2)] ∨ (i = j ∧ rest = [(.ref l1, .ref l2)]) ∨ (i = j ∧ rest = []))) _
    case turn =>
      rintro ⟨p, q⟩ rest b s' ⟨hb, rfl, hr | ⟨hij, hr⟩ | ⟨hij, hr⟩⟩
      · injection hr with hr2 hr3
        injection hr2 with ha hb2
        subst ha hb2 hr3
        refine wpAny_bind (he1 prog w _ _ ?_)
        cases e1 with
        | true =>
          wp_walk
          exact ⟨rfl, rfl, .inr (.inl ⟨hiff.mp rfl, rfl⟩)⟩
        | false =>
          wp_walk using hr1
          exact ⟨_, rfl, h _ (fun z => Int.le_of_lt (of_decide_eq_true z)) (fun z => Int.not_lt.mp (of_decide_eq_false z))⟩
      · injection hr with hr2 hr3
        injection hr2 with ha hb2
        subst ha hb2 hr3
        refine wpAny_bind (he2 prog w _ _ ?_)
        cases e2 with
        | true =>
          wp_walk
          exact ⟨rfl, rfl, .inr (.inr ⟨hij, rfl⟩)⟩
        | false =>
          have hr2 := fun (E : Value → Shared → Prop) (Q : Value → Shared → Prop) (hq : Q (.bool (HT.lexLt ns ms)) ⟨hp, g, d, tk, os⟩) => rc_lists (prog := prog) (w := w) (A := A.in1) (E := E) (Q := Q) hl1 hl2 hi hj hu hq
          wp_walk using hr2
          exact ⟨_, rfl, h _ (fun _ => Int.le_of_eq hij) (fun _ => Int.le_of_eq hij.symm)⟩
      · cases hr
    case fin =>
      rintro ⟨b1, b2⟩ s' ⟨hb, rfl, hr | ⟨hij, hr⟩ | ⟨hij, hr⟩⟩
      · cases hr
      · cases hr
      · have hb : b1 = none := hb
        subst hb
        wp_walk
        exact ⟨_, rfl, h _ (fun _ => Int.le_of_eq hij) (fun _ => Int.le_of_eq hij.symm)⟩
    case h => exact ⟨rfl, rfl, .inl rfl⟩
end
theorem fit_at {P : Program} {w : World} {H : Hp} {h : Heap} {a : Addr} {f : Nat × List Nat} (ok : HOk P w H h) (r : FitR H (.ref a) f) : ∃ (t : Tok) (c : Addr) (xs : List Value) (o : Obj) (n : Nat), h.get? a = some o ∧ o.cls = .type "tuple" ∧ o.data = .seq #[.int (f.1 : Int) t, .ref c] n ∧
    h.IsList c xs.toArray ∧ IntsAre xs (f.2.map fun (c : Nat) => (c : Int)) := by
  obtain ⟨b, c, e, hb, hc⟩ := Fit_out r
  cases e
  obtain ⟨_, its, rv, o, ho, hcl, n, hd⟩ := ok a _ hb
  obtain ⟨_, xs, m, rx, hx⟩ := ok c _ hc
  obtain ⟨u, v, rfl, r1, r2⟩ := Vals.two rv
  obtain ⟨t, rfl⟩ := r1
  cases r2
  rw [nv_ints] at rx
  exact ⟨t, c, xs, o, n, ho, hcl, hd, ⟨_, hx, rfl, m, rfl⟩, rx.ints⟩
def rMinT : List V → Hp → VK → Prop := fun vs H Q => ∃ (a b : Addr) (f g : Nat × List Nat), vs = [V.ref a, V.ref b] ∧ FitR H (.ref a) f ∧ FitR H (.ref b) g ∧ (f.1 ≤ g.1 → Q (.ref a) H) ∧ (g.1 ≤ f.1 → Q (.ref b) H)
theorem cr_minT {X : Cx} (hc : X.calm = true) (hu : X.A.units + 64 < cLine) : CallR X (.builtin "min") rMinT := by
  intro pins s σ H vs us Q I r h
  obtain ⟨a, b, f, g, rfl, hf, hg, qa, qb⟩ := h
  obtain ⟨u, v, rfl, r1, r2⟩ := Vals.two r
  cases r1
  cases r2
  obtain ⟨t1, c1, xs, ⟨k1, d1, a1, l1⟩, n1, o1, e1, f1, il1, ia1⟩ := fit_at I.hok hf
  obtain ⟨t2, c2, ys, ⟨k2, d2, a2, l2⟩, n2, o2, e2, f2, il2, ia2⟩ := fit_at I.hok hg
  simp only at e1 f1 e2 f2
  subst e1 f1 e2 f2
  refine min_pair (C := fun r => (r = true → g.1 ≤ f.1) ∧ (r = false → f.1 ≤ g.1)) (I.ok.hd hc) (fun s1 R E1 kp hR => ?_) fun v h' tk hv kp => ?_
  · have kl : ∀ {c : Addr} {zs : Array Value}, s.heap.IsList c zs → s1.heap.IsList c zs := fun ⟨o, h1, h2⟩ => ⟨o, kp _ _ h1, h2⟩
    exact richCompare_meets_room (op := .Lt) ⟨_, kp _ _ o2, rfl⟩ ⟨_, kp _ _ o1, rfl⟩ PySem.F.slot_tuple_lt PySem.F.entry_tuple_lt (PySem.F.args_tuple_lt_2 _ _)
      (pair_lt b a c2 c1 _ _ t2 t1 ys xs _ _ n2 n1 d2 d1 l2 l1 ia2 ia1) ⟨kp _ _ o2, kp _ _ o1, kl il2, kl il1, (by show X.A.units + 1 + 1 < cLine; omega), fun r c1 c2 => ⟨(fun z => nomatch z), hR r ⟨fun z => by have := c1 z; omega, fun z => by have := c2 z; omega⟩⟩⟩ (by show X.A.units + 1 < cLine; omega)
  · rcases hv with ⟨rfl, c⟩ | ⟨rfl, c⟩
    · exact ⟨.ref a, H, I.kept kp, rfl, qa (c.2 rfl)⟩
    · exact ⟨.ref b, H, I.kept kp, rfl, qb (c.1 rfl)⟩
end Cq

set_option Elab.async false
set_option linter.all false
set_option maxRecDepth 100000
set_option maxHeartbeats 2000000
namespace Cq
open PySem PySem.Spec PyProof.Rows L2
theorem lc_rng {β : Type} {R : Rel β} (m : Mono R) {n : Nat} {g : TG} {tt : TT} {te : TE} {vs : List Nat} {σ : L2.St} {H1 : Hp} {D : Addr} {Qd : Hp → Prop} (hD : H1 D = none) (f : Nat → Option β) (hz : n ≤ 1000)
    (hs : ∀ (i : Nat) (H' : Hp) (N : Hp → Prop), i < n → Same H1 H' → (∀ H4 z w, f i = some w → Same H' H4 → R (sub H4 H') z w → ∃ acc, H4 D = some (.lst acc) ∧ acc.length < sizeLine ∧ N (upd H4 D (.lst (acc ++ [z])))) →
      (∀ H3, f i = none → Same H' H3 → N H3) → g (.int (0 + (i : Nat))) (wipe σ vs) H' fun σ2 H2 => wipe σ2 vs = wipe σ vs ∧ tt σ2 H2 fun b H3 =>
        if b = true then te σ2 H3 fun z H4 => ∃ acc, H4 D = some (.lst acc) ∧ acc.length < sizeLine ∧ N (upd H4 D (.lst (acc ++ [z]))) else N H3)
    (hd : ∀ H', Same H1 H' → LR R (sub H' H1) (.ref D) ((List.range n).filterMap f) → Qd H') :
    ∃ W : Nat → Nat → Hp → Prop, (∃ m, W 0 m (upd H1 D (.lst []))) ∧ ∀ i m H, W i m H →
      ((Itr 0 n).stop i H ∧ Qd H) ∨ ((Itr 0 n).go i H ∧ ∃ Nx : Hp → Prop, (∀ H', Nx H' → ∃ m', m' < m ∧ W (i + 1) m' H') ∧ ∀ x H', (Itr 0 n).yld i H x H' → g x (wipe σ vs) H' fun σ2 H2 => wipe σ2 vs = wipe σ vs ∧ tt σ2 H2 fun b H3 =>
        if b = true then te σ2 H3 fun y H4 => ∃ acc, H4 D = some (.lst acc) ∧ acc.length < sizeLine ∧ Nx (upd H4 D (.lst (acc ++ [y]))) else Nx H3) := by
  refine lc_range (fun i H' => Acc R H1 H' D ((List.range i).filterMap f)) (Acc.start (Same.refl H1) hD) (fun i H' hi A => ?_) (fun H' A => hd H' A.same (A.done m))
  have tk : (List.range (i + 1)).filterMap f = (List.range i).filterMap f ++ (f i).toList := by
    rw [List.range_succ, List.filterMap_append]
    show _ ++ List.filterMap f [i] = _
    rw [List.filterMap_cons]
    cases f i <;> rfl
  refine hs i H' (fun H'' => Acc R H1 H'' D ((List.range (i + 1)).filterMap f)) hi A.same (fun H4 z w e s r => ?_) fun H3 e s => ?_
  · obtain ⟨acc, h1, h2, h3⟩ := A.push m s r
    refine ⟨acc, h1, ?_, ?_⟩
    · rw [h2]
      refine small1000 (Nat.le_trans (List.length_filterMap_le _ _) ?_)
      rw [List.length_range]
      omega
    · rw [tk, e]
      exact h3
  · rw [tk, e]
    simpa using A.keep m s
theorem v_cval (c n : Nat) : V.int (Builtin.bitAnd ((c : Int) / 2 ^ ((4 : Int) * (n : Int)).toNat) 15) = nv (cval c n) := by
  refine congrArg V.int ?_
  have e1 : ((c : Int) / 2 ^ ((4 : Int) * (n : Int)).toNat) = ((c / 2 ^ (4 * n) : Nat) : Int) := by
    rw [show ((4 : Int) * (n : Int)).toNat = 4 * n by omega, Int.natCast_ediv, Int.natCast_pow]
    rfl
  rw [e1, show (15 : Int) = ((15 : Nat) : Int) from rfl, b_and]
  unfold cval
  congr 1
  have := Nat.and_two_pow_sub_one_eq_mod (c / 2 ^ (4 * n)) 4
  simpa using this
theorem v_pow (v : Nat) : V.int ((1 : Int) * 2 ^ ((v : Int)).toNat) = nv (2 ^ v) := by
  refine congrArg V.int ?_
  rw [Int.one_mul, Int.toNat_natCast, Int.natCast_pow]
  rfl
theorem and_pow (a v : Nat) : a &&& 2 ^ v = if a.testBit v = true then 2 ^ v else 0 := Nat.eq_of_testBit_eq fun j => by
  rw [Nat.testBit_and, Nat.testBit_two_pow]
  by_cases h : a.testBit v = true
  · rw [if_pos h, Nat.testBit_two_pow]
    by_cases e : v = j
    · rw [← e, h]
      simp
    · simp [e]
  · rw [if_neg h, Nat.zero_testBit]
    by_cases e : v = j
    · rw [← e]
      simp [h]
    · simp [e]
theorem and_pow_ne (a v : Nat) : (((a &&& 2 ^ v : Nat) : Int) != 0) = a.testBit v := by
  rw [and_pow]
  cases a.testBit v with
  | true =>
    have : 0 < 2 ^ v := Nat.two_pow_pos v
    rw [if_pos rfl]
    have h2 : ((2 ^ v : Nat) : Int) ≠ 0 := by omega
    exact bne_iff_ne.mpr h2
  | false => rfl
abbrev LimR : Rel Lim := T2 NR DN
theorem mono_Lim : Mono LimR := mono_T2 mono_N mono_D
theorem Lim_out {H : Hp} {v : V} {f : Lim} (h : LimR H v f) : ∃ b c, v = .ref b ∧ H b = some (.tup [nv f.1, .ref c]) ∧ H c = some (.dK (kvF nv f.2)) := by
  obtain ⟨b, x, y, e, hb, e1, c, e2, hc⟩ := h
  cases e1
  cases e2
  exact ⟨b, c, e, hb, hc⟩
abbrev StepR : Rel Stp := T3 NR (LR LimR) NR
theorem mono_Step : Mono StepR := mono_T3 mono_N (mono_L mono_Lim) mono_N
def hmv (fs : List (Nat × List Nat)) (n : Nat) : Nat := fs.foldl (fun a f => if f.1 &&& cho n 15 ≠ 0 then a &&& (lookN (vbes f.2 0 n) 0).getD 0 else a) 65535
def hmN (fs : List (Nat × List Nat)) (n : Nat) : Nat := (valsOf (hmv fs n)).length
theorem hmN_le (fs : List (Nat × List Nat)) (n : Nat) : hmN fs n ≤ 16 := by
  unfold hmN valsOf
  exact Nat.le_trans (List.length_filter_le _ _) (by rw [List.length_range]; exact Nat.le_refl _)
theorem msk_one (n : Nat) : msk [n] = cho n 15 := Nat.or_zero _
abbrev Siz := Nat × Nat × Nat
abbrev SizR : Rel Siz := T3 NR NR NR
theorem mono_Siz : Mono SizR := mono_T3 mono_N mono_N mono_N
theorem Siz_out {H : Hp} {v : V} {f : Siz} (h : SizR H v f) : ∃ b, v = .ref b ∧ H b = some (.tup [nv f.1, nv f.2.1, nv f.2.2]) := by
  obtain ⟨b, x, y, z, e, hb, e1, e2, e3⟩ := h
  cases e1
  cases e2
  cases e3
  exact ⟨b, e, hb⟩
theorem Step_out {H : Hp} {v : V} {f : Stp} (h : StepR H v f) : ∃ b y, v = .ref b ∧ H b = some (.tup [nv f.1, y, nv f.2.2]) ∧ LR LimR H y f.2.1 := by
  obtain ⟨b, x, y, z, e, hb, e1, e2, e3⟩ := h
  cases e1
  cases e3
  exact ⟨b, y, e, hb, e2⟩
def mcN (nd : Nat) (sz : List Siz) : Nat := sz.foldl (fun p s => if nd &&& s.2.1 ≠ 0 then p * s.2.2 else p) 1
theorem ne_zero_int (n : Nat) : (((n : Nat) : Int) != 0) = true ↔ n ≠ 0 := by
  rw [bne_iff_ne]
  omega
end Cq

set_option Elab.async false
set_option linter.all false
set_option maxRecDepth 100000
set_option maxHeartbeats 2000000
namespace Cq
open PySem PySem.Spec PyProof.Rows L2
/-- what a step costs: c the choices ahead of it -/
def cstR (fs : List (Nat × List Nat)) (kp : Nat) (sz : List Siz) : List Nat → Nat
  | [] => 0
  | x :: r => cstR fs kp sz r + mcN (ndOf fs kp (msk r)) sz * hmN fs x
/-- an order's cost -/
def cst (fs : List (Nat × List Nat)) (kp : Nat) (sz : List Siz) (o : List Nat) : Nat := cstR fs kp sz o.reverse
theorem msk_mem {a b : List Nat} (h : ∀ x, x ∈ a ↔ x ∈ b) : msk a = msk b := Nat.eq_of_testBit_eq fun j => by
  rw [bit_msk, bit_msk]
  congr 1
  exact propext (h _)
theorem mem_msk {a b : List Nat} (h : msk a = msk b) (x : Nat) : x ∈ a ↔ x ∈ b := by
  have e := congrArg (fun n => n.testBit (4 * x)) h
  simp only [bit_msk, show 4 * x / 4 = x by omega] at e
  by_cases p : x ∈ a
  · rw [decide_eq_true p] at e
    exact ⟨fun _ => of_decide_eq_true e.symm, fun _ => p⟩
  · rw [decide_eq_false p] at e
    exact ⟨fun z => absurd z p, fun z => absurd z (of_decide_eq_false e.symm)⟩
theorem msk_snoc (o : List Nat) (x : Nat) : msk (o ++ [x]) = msk o ||| cho x 15 := by
  rw [msk_cons]
  refine msk_mem fun y => ?_
  simp [or_comm]
theorem cst_snoc (fs : List (Nat × List Nat)) (kp : Nat) (sz : List Siz) (o : List Nat) (x : Nat) : cst fs kp sz (o ++ [x]) = cst fs kp sz o + mcN (ndOf fs kp (msk o)) sz * hmN fs x := by
  unfold cst
  rw [List.reverse_append]
  show cstR fs kp sz o.reverse + mcN (ndOf fs kp (msk o.reverse)) sz * hmN fs x = _
  rw [msk_mem (a := o.reverse) (b := o) fun y => List.mem_reverse]
abbrev Ord := Nat × List Nat
/-- an entry tells an order of L of the names -/
structure Ent (fs : List (Nat × List Nat)) (kp : Nat) (sz : List Siz) (ns : List Nat) (L : Nat) (e : Nat × Ord) : Prop where
  nd : e.2.2.Nodup
  mem : ∀ x ∈ e.2.2, x ∈ ns
  len : e.2.2.length = L
  key : msk e.2.2 = e.1
  cost : cst fs kp sz e.2.2 = e.2.1
structure Tab (fs : List (Nat × List Nat)) (kp : Nat) (sz : List Siz) (ns : List Nat) (L : Nat) (kvs : List (Nat × Ord)) : Prop where
  keys : (kvs.map (·.1)).Nodup
  ent : ∀ e ∈ kvs, Ent fs kp sz ns L e
/-- none is cheaper -/
def Cvr (fs : List (Nat × List Nat)) (kp : Nat) (sz : List Siz) (ns : List Nat) (L : Nat) (kvs : List (Nat × Ord)) : Prop := ∀ r : List Nat, r.Nodup → (∀ x ∈ r, x ∈ ns) → r.length = L → ∃ c o, lookN kvs (msk r) = some (c, o) ∧ c ≤ cst fs kp sz r
section
variable {fs : List (Nat × List Nat)} {kp : Nat} {sz : List Siz} {ns : List Nat} {L : Nat} {kvs : List (Nat × Ord)}
theorem Tab.len (T : Tab fs kp sz ns L kvs) (h8 : ∀ x ∈ ns, x < 8) : kvs.length ≤ 256 := by
  have inj : ((kvs.map (·.1)).map fun k => mk2 ((List.range 8).filter fun n => decide (cval k n ≠ 0))).Nodup := by
    have nk := T.keys
    rw [List.Nodup, List.pairwise_map] at nk ⊢
    rw [List.pairwise_map]
    refine List.Pairwise.imp_of_mem (R := fun a b => a.1 ≠ b.1) (fun {a b} ha hb hab e => hab ?_) nk
    have ea := T.ent a ha
    have eb := T.ent b hb
    rw [← ea.key, ← eb.key]
    refine msk_mem fun x => ?_
    have bit := congrArg (fun n => n.testBit x) e
    simp only [mk2_bit (List.nodup_range.filter _)] at bit
    have vm : ∀ (o : List Nat) (y : Nat), cval (msk o) y ≠ 0 ↔ y ∈ o := fun o y => by
      have c := cval_msk (msk [y]) o y
      have e15 : cval (msk [y]) y = 15 := by rw [msk_one, cval_cho (by decide), if_pos rfl]
      constructor
      · intro z
        refine Classical.byContradiction fun w => z ?_
        refine Nat.eq_of_testBit_eq fun j => ?_
        rw [bit_cval, bit_msk, Nat.zero_testBit]
        by_cases hj : j < 4
        · rw [decide_eq_true hj, show (4 * y + j) / 4 = y by omega, decide_eq_false w]
          rfl
        · rw [decide_eq_false hj]
          rfl
      · intro z w
        have : (cval (msk o) y).testBit 0 = true := by
          rw [bit_cval, bit_msk, show (4 * y + 0) / 4 = y by omega, decide_eq_true z]
          rfl
        rw [w] at this
        cases this
    have f : ∀ (k : Nat), x ∈ (List.range 8).filter (fun n => decide (cval k n ≠ 0)) ↔ x < 8 ∧ cval k x ≠ 0 := fun k => by rw [List.mem_filter, List.mem_range, decide_eq_true_iff]
    constructor
    · intro hx
      have h1 : x ∈ (List.range 8).filter (fun n => decide (cval a.1 n ≠ 0)) := (f _).mpr ⟨h8 x (ea.mem x hx), by rw [← ea.key]; exact (vm _ _).mpr hx⟩
      rw [decide_eq_true h1] at bit
      have h2 := (f b.1).mp (of_decide_eq_true bit.symm)
      rw [← eb.key] at h2
      exact (vm _ _).mp h2.2
    · intro hx
      have h1 : x ∈ (List.range 8).filter (fun n => decide (cval b.1 n ≠ 0)) := (f _).mpr ⟨h8 x (eb.mem x hx), by rw [← eb.key]; exact (vm _ _).mpr hx⟩
      rw [decide_eq_true h1] at bit
      have h2 := (f a.1).mp (of_decide_eq_true bit)
      rw [← ea.key] at h2
      exact (vm _ _).mp h2.2
  have := nodup_bound 256 _ inj fun x hx => by
    obtain ⟨k, _, rfl⟩ := List.mem_map.mp hx
    exact mk2_lt (n := 8) (List.nodup_range.filter _) fun i hi => List.mem_range.mp (List.mem_filter.mp hi).1
  rwa [List.length_map, List.length_map] at this
theorem key_free {e : Nat × Ord} (E : Ent fs kp sz ns L e) (x : Nat) : e.1 &&& cho x 15 ≠ 0 ↔ x ∈ e.2.2 := and_cho_ne e.2.2 E.key.symm
/-- one name more -/
theorem Ent.snoc {e : Nat × Ord} (E : Ent fs kp sz ns L e) {x : Nat} (hx : x ∈ ns) (hf : ¬ e.1 &&& cho x 15 ≠ 0) : Ent fs kp sz ns (L + 1) (e.1 ||| cho x 15, (e.2.1 + mcN (ndOf fs kp e.1) sz * hmN fs x, e.2.2 ++ [x])) := by
  have hxo : x ∉ e.2.2 := fun z => hf ((key_free E x).mpr z)
  refine ⟨nd_snoc E.nd hxo, fun y hy => ?_, by rw [List.length_append, E.len]; rfl, by rw [msk_snoc, E.key], by rw [cst_snoc, E.cost, E.key]⟩
  rcases List.mem_append.mp hy with z | z
  · exact E.mem y z
  · rw [List.mem_singleton.mp z]
    exact hx
theorem Tab.put (T : Tab fs kp sz ns L kvs) {k : Nat} {o : Ord} (E : Ent fs kp sz ns L (k, o)) : Tab fs kp sz ns L (putN kvs k o) := by
  refine ⟨putN_nodup T.keys, fun e he => ?_⟩
  have h := lookN_of_mem (putN_nodup T.keys) (show (e.1, e.2) ∈ putN kvs k o from he)
  rw [lookN_put] at h
  by_cases z : e.1 = k
  · rw [if_pos z] at h
    have := Option.some.inj h
    rw [show e = (k, o) from Prod.ext z this.symm]
    exact E
  · rw [if_neg z] at h
    exact T.ent _ (lookN_mem h)
theorem cvr_next {kv2 : List (Nat × Ord)} (h8 : ns.Nodup) (T : Tab fs kp sz ns L kvs) (c : Cvr fs kp sz ns L kvs)
    (h : ∀ e ∈ kvs, ∀ x ∈ ns, ¬ e.1 &&& cho x 15 ≠ 0 → ∃ c' o', lookN kv2 (e.1 ||| cho x 15) = some (c', o') ∧ c' ≤ e.2.1 + mcN (ndOf fs kp e.1) sz * hmN fs x) : Cvr fs kp sz ns (L + 1) kv2 := by
  intro r hn hm hl
  rcases List.eq_nil_or_concat r with z | ⟨r', x, z⟩
  · rw [z] at hl
    cases hl
  · rw [List.concat_eq_append] at z
    subst z
    have hn' := List.nodup_append.mp hn
    obtain ⟨c1, o1, h1, h2⟩ := c r' hn'.1 (fun y hy => hm y (List.mem_append_left _ hy)) (by rw [List.length_append] at hl; simpa using hl)
    have me := lookN_mem h1
    have E := T.ent _ me
    have hxo : ¬ msk r' &&& cho x 15 ≠ 0 := fun w => by
      have := (key_free E x).mp w
      have hx : x ∈ r' := (mem_msk E.key x).mp this
      exact hn'.2.2 x hx x (List.mem_singleton.mpr rfl) rfl
    obtain ⟨c2, o2, h3, h4⟩ := h _ me x (hm x (List.mem_append_right _ (List.mem_singleton.mpr rfl))) hxo
    refine ⟨c2, o2, by rw [msk_snoc]; exact h3, Nat.le_trans h4 ?_⟩
    rw [cst_snoc]
    have : (msk r', c1, o1).2.1 = c1 := rfl
    show c1 + mcN (ndOf fs kp (msk r')) sz * hmN fs x ≤ _
    omega
end
section
variable {α : Type}
theorem pair_any {R : V → α → Prop} {k : Nat} : ∀ {ks : List (Key × V)} {kvs : List (Nat × α)}, Paired (fun (p : Key × V) (q : Nat × α) => p.1 = Sum.inl (q.1 : Int) ∧ R p.2 q.2) ks kvs → (ks.any fun kv => decide (kv.1 = Sum.inl (k : Int))) = kvs.any fun kv => decide (kv.1 = k)
  | _, _, .nil => rfl
  | _, _, .cons (l₁ := l) (l₂ := m) (a := p) (b := q) h r => by
    rw [List.any_cons, List.any_cons, pair_any r, h.1]
    congr 1
    by_cases z : q.1 = k
    · simp [z]
    · have : ¬ (Sum.inl (q.1 : Int) : Key) = Sum.inl (k : Int) := fun w => z (by have := Sum.inl.inj w; omega)
      rw [decide_eq_false z, decide_eq_false this]
theorem pair_map {R : V → α → Prop} {k : Nat} {v : V} {x : α} (hv : R v x) : ∀ {ks : List (Key × V)} {kvs : List (Nat × α)}, Paired (fun (p : Key × V) (q : Nat × α) => p.1 = Sum.inl (q.1 : Int) ∧ R p.2 q.2) ks kvs →
    Paired (fun (p : Key × V) (q : Nat × α) => p.1 = Sum.inl (q.1 : Int) ∧ R p.2 q.2) (ks.map fun kv => if kv.1 = Sum.inl (k : Int) then (kv.1, v) else kv) (kvs.map fun kv => if kv.1 = k then (kv.1, x) else kv)
  | _, _, .nil => .nil
  | _, _, .cons (a := p) (b := q) h r => by
    refine .cons ?_ (pair_map hv r)
    dsimp only
    by_cases z : q.1 = k
    · rw [if_pos z, if_pos (by rw [h.1, z])]
      exact ⟨h.1, hv⟩
    · rw [if_neg z, if_neg (fun w => z (by rw [h.1] at w; have := Sum.inl.inj w; omega))]
      exact h
theorem pair_put {R : V → α → Prop} {k : Nat} {v : V} {x : α} (hv : R v x) {ks : List (Key × V)} {kvs : List (Nat × α)} (h : Paired (fun (p : Key × V) (q : Nat × α) => p.1 = Sum.inl (q.1 : Int) ∧ R p.2 q.2) ks kvs) :
    Paired (fun (p : Key × V) (q : Nat × α) => p.1 = Sum.inl (q.1 : Int) ∧ R p.2 q.2) (putK ks (Sum.inl (k : Int)) v) (putN kvs k x) := by
  unfold putK putN
  rw [pair_any h]
  by_cases z : (kvs.any fun kv => decide (kv.1 = k)) = true
  · rw [if_pos z, if_pos z]
    exact pair_map hv h
  · rw [if_neg z, if_neg z]
    exact paired_snoc ⟨rfl, hv⟩ h
theorem pair_val {R : V → α → Prop} {k : Nat} : ∀ {ks : List (Key × V)} {kvs : List (Nat × α)}, Paired (fun (p : Key × V) (q : Nat × α) => p.1 = Sum.inl (q.1 : Int) ∧ R p.2 q.2) ks kvs →
    (lookN kvs k = none ∧ valV ks (Sum.inl (k : Int)) = none) ∨ ∃ x v, lookN kvs k = some x ∧ valV ks (Sum.inl (k : Int)) = some v ∧ R v x
  | _, _, .nil => .inl ⟨rfl, rfl⟩
  | _, _, .cons (a := p) (b := q) h r => by
    obtain ⟨a, x⟩ := q
    by_cases z : a = k
    · subst z
      exact .inr ⟨x, p.2, lookN_pos, valV_pos h.1, h.2⟩
    · rw [lookN_neg z, valV_neg (fun w => z (by rw [h.1] at w; have := Sum.inl.inj w; omega))]
      exact pair_val r
end
end Cq

set_option Elab.async false
set_option linter.all false
set_option maxRecDepth 100000
set_option maxHeartbeats 2000000
namespace Cq
open PySem PySem.Spec PyProof.Rows L2
structure Kp (H H' : Hp) : Prop where
  ls : ∀ b xs, H b = some (.lst xs) → H' b = some (.lst xs)
  tp : ∀ b xs, H b = some (.tup xs) → H' b = some (.tup xs)
theorem Kp.same {H H' : Hp} (s : Same H H') : Kp H H' := ⟨fun _ _ e => s _ _ e, fun _ _ e => s _ _ e⟩
theorem Kp.trans {H H' H2 : Hp} (a : Kp H H') (b : Kp H' H2) : Kp H H2 := ⟨fun _ _ e => b.ls _ _ (a.ls _ _ e), fun _ _ e => b.tp _ _ (a.tp _ _ e)⟩
theorem Kp.put {H : Hp} {d : Addr} {ks : List (Key × V)} {o : HO} (h : H d = some (.dK ks)) : Kp H (upd H d o) :=
  ⟨fun b xs e => by rw [upd_ne (fun z => by rw [z, h] at e; cases e)]; exact e, fun b xs e => by rw [upd_ne (fun z => by rw [z, h] at e; cases e)]; exact e⟩
theorem Kp.frz {H : Hp} {d : Addr} {od : Obj} {u o : HO} (h : H d = some (.frz od u)) : Kp H (upd H d o) :=
  ⟨fun b xs e => by rw [upd_ne (fun z => by rw [z, h] at e; cases e)]; exact e, fun b xs e => by rw [upd_ne (fun z => by rw [z, h] at e; cases e)]; exact e⟩
theorem Kp.fit {H H' H1 : Hp} {v : V} {f : Nat × List Nat} (k : Kp H H') (h : FitR (sub H H1) v f) : FitR (sub H' H1) v f := by
  obtain ⟨b, x, y, e, hb, e1, c, e2, hc⟩ := h
  have qb := sub_iff.mp hb
  have qc := sub_iff.mp hc
  exact ⟨b, x, y, e, sub_iff.mpr ⟨qb.1, k.tp _ _ qb.2⟩, e1, c, e2, sub_iff.mpr ⟨qc.1, k.ls _ _ qc.2⟩⟩
/-- a dict's pairs: whole numbers, and orders with their costs -/
abbrev PR (H : Hp) (ks : List (Key × V)) (kvs : List (Nat × Ord)) : Prop := Paired (fun (p : Key × V) (q : Nat × Ord) => p.1 = Sum.inl (q.1 : Int) ∧ FitR H p.2 q.2) ks kvs
theorem Kp.pr {H H' H1 : Hp} {ks : List (Key × V)} {kvs : List (Nat × Ord)} (k : Kp H H') (h : PR (sub H H1) ks kvs) : PR (sub H' H1) ks kvs := paired_imp (fun _ _ q => ⟨q.1, k.fit q.2⟩) h
def szOf (fs : List (Nat × List Nat)) (ns : List Nat) : List Siz := ns.map fun n => (n, cho n 15, hmN fs n)
def Cvd (kvs : List (Nat × Ord)) (k c : Nat) : Prop := ∃ c' o', lookN kvs k = some (c', o') ∧ c' ≤ c
theorem Cvd.put {kvs : List (Nat × Ord)} {k c k' : Nat} {z : Ord} (h : Cvd kvs k c) (hz : ∀ c1 o1, lookN kvs k' = some (c1, o1) → z.1 ≤ c1) : Cvd (putN kvs k' z) k c := by
  obtain ⟨c1, o1, h1, h2⟩ := h
  by_cases e : k = k'
  · subst e
    exact ⟨z.1, z.2, by rw [lookN_put, if_pos rfl], Nat.le_trans (hz _ _ h1) h2⟩
  · exact ⟨c1, o1, by rw [lookN_put, if_neg e, h1], h2⟩
theorem Cvd.new {kvs : List (Nat × Ord)} {k c : Nat} {z : Ord} (h : z.1 ≤ c) : Cvd (putN kvs k z) k c := ⟨z.1, z.2, by rw [lookN_put, if_pos rfl], h⟩
theorem nodup_perm : ∀ {a b : List Nat}, a.Nodup → b.Nodup → (∀ x, x ∈ a ↔ x ∈ b) → a.Perm b
  | [], b, _, _, h => by
    cases b with
    | nil => exact .nil
    | cons y r => exact absurd ((h y).mpr (List.mem_cons_self ..)) (by simp)
  | x :: a, b, ha, hb, h => by
    have hx : x ∈ b := (h x).mp (List.mem_cons_self ..)
    have na := List.nodup_cons.mp ha
    refine List.Perm.trans (List.Perm.cons x (nodup_perm na.2 (hb.erase x) fun y => ?_)) (List.perm_cons_erase hx).symm
    rw [hb.mem_erase_iff]
    constructor
    · intro hy
      exact ⟨fun z => na.1 (z ▸ hy), (h y).mp (List.mem_cons_of_mem _ hy)⟩
    · rintro ⟨h1, h2⟩
      rcases List.mem_cons.mp ((h y).mpr h2) with z | z
      · exact absurd z h1
      · exact z
theorem fit_ref {H : Hp} {v : V} {f : Nat × List Nat} (h : FitR H v f) : ∃ b, v = .ref b := by
  obtain ⟨b, _, e, _⟩ := Fit_out h
  exact ⟨b, e⟩
end Cq

set_option Elab.async false
set_option linter.all false
set_option maxRecDepth 100000
set_option maxHeartbeats 2000000
namespace Cq
open PySem PySem.Spec PyProof.Rows L2
theorem steps_len (fs : List (Nat × List Nat)) (kp : Nat) : ∀ (o : List Nat) (d : Nat), (stepsOf fs kp o d).length = o.length
  | [], _ => rfl
  | n :: r, d => congrArg (· + 1) (steps_len fs kp r (d ||| cho n 15))
def itC1 (s : Stp) (kn : Nat × Nat) : List (Nat × Nat) := (valsOf (alwd s.2.1 kn.1)).map fun v => ((kn.1 ||| cho s.1 v) &&& s.2.2, kn.2)
def itC (g : List (Nat × Nat)) (s : Stp) : List (Nat × Nat) := g.flatMap (itC1 s)
theorem itC1_len (s : Stp) (kn : Nat × Nat) : (itC1 s kn).length = (valsOf (alwd s.2.1 kn.1)).length := List.length_map ..
theorem itC1_at {s : Stp} {kn : Nat × Nat} {j v : Nat} (h : (valsOf (alwd s.2.1 kn.1))[j]? = some v) : (itC1 s kn)[j]? = some ((kn.1 ||| cho s.1 v) &&& s.2.2, kn.2) := by
  unfold itC1
  rw [List.getElem?_map, h]
  rfl
theorem take_flat {α β : Type} {f : α → List β} {l : List α} {i : Nat} {a : α} (h : l[i]? = some a) : (l.take (i + 1)).flatMap f = (l.take i).flatMap f ++ f a := by
  rw [List.take_add_one, h, List.flatMap_append]
  show _ ++ [a].flatMap f = _
  rw [List.flatMap_singleton]
theorem mem_take_flat {α β : Type} {f : α → List β} {l : List α} {i j : Nat} {a : α} {x : β} (h : l[i]? = some a) (hx : x ∈ (l.take i).flatMap f ++ (f a).take j) : x ∈ l.flatMap f := by
  rcases List.mem_append.mp hx with z | z
  · obtain ⟨b, hb, hxb⟩ := List.mem_flatMap.mp z
    exact List.mem_flatMap.mpr ⟨b, List.mem_of_mem_take hb, hxb⟩
  · exact List.mem_flatMap.mpr ⟨a, List.mem_of_getElem? h, List.mem_of_mem_take z⟩
theorem same_lock {H : Hp} {d r : Addr} {o u : HO} (hd : H d = none) : Same (upd H r o) (upd (upd H d u) r o) := fun b x e => by
  by_cases z : b = r
  · rw [z, upd_same] at e ⊢
    exact e
  · rw [upd_ne z] at e ⊢
    rw [upd_ne (ne_of_none e hd)]
    exact e
theorem del_lock {H : Hp} {r : Addr} {o : HO} : Same (del H r) (upd H r o) := del_upd
theorem vals_lt {a v : Nat} (h : v ∈ valsOf a) : v < 16 := List.mem_range.mp (List.mem_filter.mp h).1
theorem chs_len (p : Sa97.Row) (d : Sa97.Rows) : (chs p d).length ≤ d.length := by
  unfold chs
  exact Nat.le_trans (List.length_filterMap_le _ _) (List.length_filter_le _ _)
end Cq

set_option Elab.async false
set_option linter.all false
set_option maxRecDepth 100000
set_option maxHeartbeats 2000000
namespace Cq
open PySem PySem.Spec PyProof.Rows L2
open Sx34Neutral (question)
end Cq

set_option Elab.async false
set_option linter.all false
set_option maxRecDepth 100000
set_option maxHeartbeats 2000000
namespace Cq
open PySem PySem.Spec PyProof.Rows L2
section
variable {X : Cx}
def sDPut2 (td ty tv : TE) : TS := fun D σ H => tv σ H fun v H1 => td σ H1 fun x H2 => ty σ H2 fun y H3 => ∃ a kvs k, x = .ref a ∧ H3 a = some (.dK kvs) ∧ y = kV k ∧ (putK kvs k v).length ≤ sizeLine ∧ D.nx σ (upd H3 a (.dK (putK kvs k v)))
theorem put_item {pins : List (Addr × Obj)} {s : Shared} {σ : L2.St} {H : Hp} {A : Around} {E : Value → Shared → Prop} {a : Addr} {kvs : List (Key × V)} {k : Key} {v : V} {u r : Value} {Q : Unit → Shared → Prop} (I : Inv X pins σ H s) (e : H a = some (.dK kvs)) (hl : (putK kvs k v).length ≤ sizeLine) (ry : RelV (kV k) u) (rv : RelV v r)
    (h : ∀ s', Inv X pins σ (upd H a (.dK (putK kvs k v))) s' → Q () s') : wpAny (model X.prog X.w) A (setItem (.ref a) u r) Q E s := by
  obtain ⟨z, hd, vs, rel, dd⟩ := dk_of I.hok e
  refine wpAny_setItem_pairs (hsz := (by rw [← rel.length]; exact z)) (kV_is ry) dd fun h' dd' hs => h _ ?_
  exact d_write I (by rw [e]; exact True.intro) hs (let ⟨q, _, _, hq, _⟩ := dd'; ⟨q, hq⟩) (dk_new hl hd (rel.put k rv) dd')
theorem ps_dput2 {o i value : Expr} {td ty tv : TE} {pos pos' : Pos} (hu : X.A.units + 1 < cLine) (ho : PE X o td) (hi : PE X i ty) (hv : PE X value tv) (hs : swapsWith value (some (.Subscript o i pos')) pos.line X.env = pure false) :
    PS X (.Assign [.Subscript o i pos'] value pos) (sDPut2 td ty tv) := by
  intro pins s σ H D I h
  refine wpAny_Assign_Subscript (thn (hv pins s σ H _ I h) fun r s1 ⟨v, H1, I1, rv, q1⟩ => thn (ho pins s1 σ H1 _ I1 q1) fun u s2 ⟨x, H2, I2, rx, q2⟩ => thn (hi pins s2 σ H2 _ I2 q2) fun iv s3 ⟨y, H3, I3, ry, q3⟩ => ?_) hs
  obtain ⟨a, kvs, k, ex, e, ey, hl, q4⟩ := q3
  subst ex ey
  obtain rfl : u = Value.ref a := rx
  exact put_item I3 e hl ry rv fun s4 I4 => ⟨σ, _, I4, q4⟩
end
theorem add_keys (L : List (Nat × Nat)) (k : Nat) : ∀ g : List (Nat × Nat), k ∈ (L.foldl addK g).map (·.1) ↔ k ∈ L.map (·.1) ∨ k ∈ g.map (·.1) := by
  induction L with
  | nil => intro g; simp
  | cons x L ih =>
    intro g
    rw [List.foldl_cons, ih]
    unfold addK
    rw [putN_keys, List.map_cons, List.mem_cons]
    by_cases q : x.1 ∈ g.map (·.1)
    · rw [if_pos q]
      constructor
      · rintro (z | z)
        · exact .inl (.inr z)
        · exact .inr z
      · rintro ((z | z) | z)
        · exact .inr (by rw [z]; exact q)
        · exact .inl z
        · exact .inr z
    · rw [if_neg q, List.mem_append, List.mem_singleton]
      constructor
      · rintro (z | z | z)
        · exact .inl (.inr z)
        · exact .inr z
        · exact .inl (.inl z)
      · rintro ((z | z) | z)
        · exact .inr (.inr z)
        · exact .inl z
        · exact .inr (.inl z)
theorem add_nodup : ∀ (L g : List (Nat × Nat)), (g.map (·.1)).Nodup → ((L.foldl addK g).map (·.1)).Nodup
  | [], _, h => h
  | _ :: L, _, h => add_nodup L _ (putN_nodup h)
theorem add_len {L L' : List (Nat × Nat)} (h : ∀ x ∈ L', x ∈ L) : (L'.foldl addK []).length ≤ (L.foldl addK []).length := by
  have := nodup_sub (l := (L'.foldl addK []).map (·.1)) (l' := (L.foldl addK []).map (·.1)) (add_nodup L' [] List.nodup_nil) fun k hk => (add_keys L k []).mpr (by
    rcases (add_keys L' k []).mp hk with z | z
    · obtain ⟨x, hx, rfl⟩ := List.mem_map.mp z
      exact .inl (List.mem_map.mpr ⟨x, h x hx, rfl⟩)
    · exact .inr z)
  rwa [List.length_map, List.length_map] at this
end Cq

set_option Elab.async false
set_option linter.all false
set_option maxRecDepth 100000
set_option maxHeartbeats 2000000
namespace Cq
open Sa97 Sx34 Sx34Neutral
def prd (f : Nat → Nat) (l : List Nat) : Nat := l.foldr (fun n a => f n * a) 1
theorem prd_cons (f : Nat → Nat) (x : Nat) (l : List Nat) : prd f (x :: l) = f x * prd f l := rfl
theorem prd_app (f : Nat → Nat) : ∀ (a b : List Nat), prd f (a ++ b) = prd f a * prd f b
  | [], b => (Nat.one_mul _).symm
  | x :: a, b => by rw [List.cons_append, prd_cons, prd_cons, prd_app f a b, Nat.mul_assoc]
theorem prd_perm {f : Nat → Nat} {a b : List Nat} (h : a.Perm b) : prd f a = prd f b := by
  induction h with
  | nil => rfl
  | cons x _ ih => rw [prd_cons, prd_cons, ih]
  | swap x y l => rw [prd_cons, prd_cons, prd_cons, prd_cons, Nat.mul_left_comm]
  | trans _ _ i1 i2 => rw [i1, i2]
theorem prd_le {f g : Nat → Nat} : ∀ (l : List Nat), (∀ x ∈ l, f x ≤ g x) → prd f l ≤ prd g l
  | [], _ => Nat.le_refl _
  | x :: l, h => Nat.mul_le_mul (h x (List.mem_cons_self ..)) (prd_le l fun y hy => h y (List.mem_cons_of_mem _ hy))
theorem prd_pow {f : Nat → Nat} {b : Nat} (h : ∀ x, f x ≤ b) : ∀ (l : List Nat), prd f l ≤ b ^ l.length
  | [] => Nat.le_refl _
  | x :: l => by
    rw [prd_cons, List.length_cons, Nat.pow_succ, Nat.mul_comm]
    exact Nat.mul_le_mul (prd_pow h l) (h x)
theorem prd_pos {f : Nat → Nat} (h : ∀ x, 1 ≤ f x) : ∀ (l : List Nat), 1 ≤ prd f l
  | [] => Nat.le_refl _
  | x :: l => Nat.mul_le_mul (h x) (prd_pos h l)
/-- each name once: a part of the names makes no more -/
theorem prd_sub {f : Nat → Nat} (h : ∀ x, 1 ≤ f x) : ∀ {a b : List Nat}, a.Nodup → (∀ x ∈ a, x ∈ b) → prd f a ≤ prd f b
  | [], b, _, _ => prd_pos h b
  | x :: a, b, hn, hs => by
    have hn := List.nodup_cons.mp hn
    have hx := hs x (List.mem_cons_self ..)
    rw [prd_perm (List.perm_cons_erase hx), prd_cons, prd_cons]
    refine Nat.mul_le_mul (Nat.le_refl _) (prd_sub h hn.2 fun y hy => ?_)
    have ne : y ≠ x := fun z => hn.1 (z ▸ hy)
    exact (List.mem_erase_of_ne ne).mpr (hs y (List.mem_cons_of_mem _ hy))
theorem prodF_prd {hm : Nat → Nat} (F : Nat → Fea) (h : ∀ m, (F m).2.length = hm m) : ∀ (l : List Nat), prodF (l.map F) = prd hm l
  | [] => rfl
  | m :: l => by
    show (F m).2.length * prodF (l.map F) = _
    rw [h, prodF_prd F h l, prd_cons]
theorem mc_fold (nd : Nat) (hm : Nat → Nat) : ∀ (ns : List Nat) (p : Nat), (ns.map fun n => (n, cho n 15, hm n)).foldl (fun p (s : Siz) => if nd &&& s.2.1 ≠ 0 then p * s.2.2 else p) p = p * prd hm (ns.filter fun n => decide (nd &&& cho n 15 ≠ 0))
  | [], p => (Nat.mul_one _).symm
  | n :: ns, p => by
    rw [List.map_cons, List.foldl_cons, mc_fold nd hm ns]
    dsimp only
    by_cases c : nd &&& cho n 15 ≠ 0
    · rw [if_pos c, List.filter_cons_of_pos (by simpa using c), prd_cons, Nat.mul_assoc]
    · rw [if_neg c, List.filter_cons_of_neg (by simpa using c)]
theorem mc_eq (nd : Nat) (fs : List (Nat × List Nat)) (ns : List Nat) : mcN nd (szOf fs ns) = prd (hmN fs) (ns.filter fun n => decide (nd &&& cho n 15 ≠ 0)) := by
  unfold mcN szOf
  rw [mc_fold, Nat.one_mul]
/-- of the names l that are done: kept, or beside one that is not done -/
def Ndd (F : Fs) (K l : List Nat) (x : Nat) : Prop := x ∈ K ∨ ∃ f ∈ F, x ∈ f.1 ∧ ∃ y ∈ f.1, y ∉ l
open Classical in
noncomputable def ndB (F : Fs) (K l : List Nat) (x : Nat) : Bool := decide (Ndd F K l x)
theorem ndB_iff {F : Fs} {K l : List Nat} {x : Nat} : ndB F K l x = true ↔ Ndd F K l x := by
  unfold ndB
  exact @decide_eq_true_iff _ (Classical.propDecidable _)
theorem and_msk_ne (a l : List Nat) : msk a &&& msk l ≠ msk a ↔ ∃ y ∈ a, y ∉ l := by
  constructor
  · intro h
    refine Classical.byContradiction fun z => h (Nat.eq_of_testBit_eq fun j => ?_)
    rw [Nat.testBit_and, bit_msk, bit_msk]
    by_cases c : j / 4 ∈ a
    · have : j / 4 ∈ l := Classical.byContradiction fun w => z ⟨_, c, w⟩
      simp [c, this]
    · simp [c]
  · rintro ⟨y, h1, h2⟩ e
    have := congrArg (fun n => n.testBit (4 * y)) e
    simp only [Nat.testBit_and, bit_msk, show 4 * y / 4 = y by omega] at this
    simp [h1, h2] at this
theorem nd_msk (F : Fs) (K l : List Nat) : ndOf (mfs F) (msk K) (msk l) = msk (l.filter (ndB F K l)) := by
  refine Nat.eq_of_testBit_eq fun j => ?_
  have key : (ndOf (mfs F) (msk K) (msk l)).testBit j = true ↔ (msk (l.filter (ndB F K l))).testBit j = true := by
    rw [bit_nd, bit_msk, bit_msk, bit_msk, decide_eq_true_iff, decide_eq_true_iff, decide_eq_true_iff, List.mem_filter, ndB_iff]
    refine and_congr_right fun _ => or_congr_right ?_
    constructor
    · rintro ⟨f, hf, h1, h2⟩
      obtain ⟨g, hg, rfl⟩ := List.mem_map.mp hf
      rw [bit_msk, decide_eq_true_iff] at h2
      exact ⟨g, hg, h2, (and_msk_ne _ _).mp h1⟩
    · rintro ⟨g, hg, h2, h1⟩
      refine ⟨(msk g.1, g.2), List.mem_map.mpr ⟨g, hg, rfl⟩, (and_msk_ne _ _).mpr h1, ?_⟩
      show (msk g.1).testBit j = true
      rw [bit_msk, decide_eq_true_iff]
      exact h2
  cases a : (ndOf (mfs F) (msk K) (msk l)).testBit j with
  | true => exact (key.mp a).symm
  | false =>
    cases b : (msk (l.filter (ndB F K l))).testBit j with
    | true => rw [key.mpr b] at a; cases a
    | false => rfl
section
variable {F : Fs} {fs : List (Nat × List Nat)} {K ns l : List Nat}
theorem mc_need (x : Nat) : ndOf (mfs F) (msk K) (msk l) &&& cho x 15 ≠ 0 ↔ x ∈ l ∧ Ndd F K l x := by
  rw [nd_msk, and_cho_ne _ rfl, List.mem_filter, ndB_iff]
theorem mc_exact (hn : ns.Nodup) (hl : l.Nodup) (hs : ∀ x ∈ l, x ∈ ns) (ha : ∀ x ∈ l, Ndd F K l x) : mcN (ndOf (mfs F) (msk K) (msk l)) (szOf fs ns) = prd (hmN fs) l := by
  rw [mc_eq]
  refine prd_perm (nodup_perm (hn.filter _) hl fun x => ?_)
  rw [List.mem_filter, decide_eq_true_iff, mc_need]
  exact ⟨fun h => h.2.1, fun h => ⟨hs x h, h, ha x h⟩⟩
def big (fs : List (Nat × List Nat)) (x : Nat) : Nat := max 1 (hmN fs x)
theorem mc_le {l' : List Nat} (hn : ns.Nodup) (h : ∀ x ∈ l, Ndd F K l x → x ∈ l') : mcN (ndOf (mfs F) (msk K) (msk l)) (szOf fs ns) ≤ prd (big fs) l' := by
  rw [mc_eq]
  refine Nat.le_trans (prd_le (g := big fs) _ fun x _ => Nat.le_max_right _ _) (prd_sub (fun x => Nat.le_max_left _ _) (hn.filter _) fun x hx => ?_)
  rw [List.mem_filter, decide_eq_true_iff, mc_need] at hx
  exact h x hx.2.1 hx.2.2
end
theorem small17 : ∀ a < 17, ∀ b < 17, 17 ≤ a * b → 16 * a + 10 * b < 10 * (a * b) := by decide
theorem sum_lt {a b e1 e2 e3 e4 e5 : Nat} (ha : a ≤ 16) (hb : b ≤ 16) (h5 : 2 ≤ e5) (hab : 17 ≤ a * b) (h12 : 17 ≤ e1 * e2) (h23 : 17 ≤ e2 * e3) (h34 : 17 ≤ e3 * e4) (h45 : 17 ≤ e4 * e5) :
    1 + a + a * e1 + a * e1 * e2 + a * e1 * e2 * e3 + a * e1 * e2 * e3 * e4 + a * e1 * e2 * e3 * e4 * e5 + e1 * e2 * e3 * e4 * e5 * b < a * e1 * e2 * e3 * e4 * e5 * b := by
  have s := small17 a (by omega) b (by omega) hab
  have a0 : 1 ≤ a := by
    rcases Nat.eq_zero_or_pos a with z | z
    · rw [z, Nat.zero_mul] at hab; omega
    · exact z
  have two : ∀ p x y : Nat, 17 ≤ x * y → 17 * p ≤ p * x * y := fun p x y h => by
    rw [Nat.mul_assoc, Nat.mul_comm 17]
    exact Nat.mul_le_mul (Nat.le_refl _) h
  have t1 := two a e1 e2 h12
  have t2 := two (a * e1) e2 e3 h23
  have t3 := two (a * e1 * e2) e3 e4 h34
  have t4 := two (a * e1 * e2 * e3) e4 e5 h45
  have t5 : 2 * (a * e1 * e2 * e3 * e4) ≤ a * e1 * e2 * e3 * e4 * e5 := by
    rw [Nat.mul_comm 2]
    exact Nat.mul_le_mul (Nat.le_refl _) h5
  have eC : a * e1 * e2 * e3 * e4 * e5 = a * (e1 * e2 * e3 * e4 * e5) := by simp only [Nat.mul_assoc]
  generalize hC : e1 * e2 * e3 * e4 * e5 = C at *
  have cp : 0 < C := by
    rcases Nat.eq_zero_or_pos C with z | z
    · rw [z, Nat.mul_zero] at eC
      rw [eC] at t4 t5
      have q1 : a * e1 * e2 = 0 := by omega
      have q2 : a = 0 := by
        rw [q1] at t1
        omega
      omega
    · exact z
  have m := Nat.mul_lt_mul_of_pos_right s cp
  rw [Nat.add_mul] at m
  rw [eC]
  have m1 : 16 * a * C = 16 * (a * C) := Nat.mul_assoc ..
  have m2 : 10 * b * C = 10 * (C * b) := by rw [Nat.mul_assoc, Nat.mul_comm b]
  have m3 : 10 * (a * b) * C = 10 * (a * C * b) := by rw [Nat.mul_assoc, Nat.mul_assoc, Nat.mul_assoc, Nat.mul_comm b]
  rw [m1, m2, m3] at m
  omega
section
variable {parts : List Row} {d : Rows} {K S : List Nat}
theorem hist_at {order : List Nat} (kp : Nat) (hn : order.Nodup) : Hist (runC (mfs (fsOf parts d)) kp order 0 [(0, 1)]) ((runW (mfs (fsOf parts d)) order 0 [0]).map (· &&& ndOf (mfs (fsOf parts d)) kp (msk (order.reverse ++ [])))) := by
  have h0 : Hist [(0, 1)] (([0] : List Nat).map (· &&& ndOf (mfs (fsOf parts d)) kp (msk []))) := ⟨by simp, fun kn m => by
    have : kn = (0, 1) := by simpa using m
    subst this
    decide, by simp [expand]⟩
  exact run_hist (fsOf parts d) kp order [] [0] [(0, 1)] (wok_zero _) hn (fun _ _ => by simp) h0
theorem hmv_fold (n v : Nat) : ∀ (fs : List (Nat × List Nat)) (a : Nat), a.testBit v = true → (∀ f ∈ fs, f.1 &&& cho n 15 ≠ 0 → ((lookN (vbes f.2 0 n) 0).getD 0).testBit v = true) →
    (fs.foldl (fun a f => if f.1 &&& cho n 15 ≠ 0 then a &&& (lookN (vbes f.2 0 n) 0).getD 0 else a) a).testBit v = true
  | [], _, h, _ => h
  | f :: fs, a, h, hf => by
    rw [List.foldl_cons]
    refine hmv_fold n v fs _ ?_ fun g hg => hf g (List.mem_cons_of_mem _ hg)
    by_cases c : f.1 &&& cho n 15 ≠ 0
    · rw [if_pos c, Nat.testBit_and, h, hf f (List.mem_cons_self ..) c]
      rfl
    · rw [if_neg c]
      exact h
theorem hm_val {F : Fs} {c m : Nat} (h : Inw F S c) (hm : m ∈ S) : cval c m ∈ valsOf (hmv (mfs F) m) := by
  unfold valsOf
  rw [List.mem_filter, List.mem_range]
  refine ⟨cval_lt _ _, hmv_fold _ _ _ _ ?_ fun f hf hc => ?_⟩
  · rw [show (65535 : Nat) = 2 ^ 16 - 1 from rfl, Nat.testBit_two_pow_sub_one]
    exact decide_eq_true (cval_lt _ _)
  · obtain ⟨g, hg, rfl⟩ := List.mem_map.mp hf
    have hmg := (and_cho_ne g.1 rfl).mp hc
    obtain ⟨c', h1, h2⟩ := h.2 g hg ⟨m, hmg, hm⟩
    exact vbes_iff.mpr ⟨c', h1, Nat.and_zero _, h2 m hmg hm⟩
theorem inw_mem {F : Fs} {S' : List Nat} {c : Nat} (e : ∀ x, x ∈ S ↔ x ∈ S') (h : Inw F S c) : Inw F S' c :=
  ⟨fun m hm => h.1 m fun z => hm ((e m).mp z), fun f hf ⟨m, h1, h2⟩ => by
    obtain ⟨c', h3, h4⟩ := h.2 f hf ⟨m, h1, (e m).mpr h2⟩
    exact ⟨c', h3, fun x hx hs => h4 x hx ((e x).mpr hs)⟩⟩
theorem keys_of (hS : S.Nodup) {k : Nat} (hk : k ∈ (runC (mfs (fsOf parts d)) (msk K) S 0 [(0, 1)]).map (·.1)) : ∃ c, Inw (fsOf parts d) S c ∧ k = c &&& msk (S.filter (ndB (fsOf parts d) K S)) := by
  have H := hist_at (parts := parts) (d := d) (msk K) hS
  obtain ⟨c, hc, rfl⟩ := List.mem_map.mp ((hist_mem H k).mp hk)
  have W := wok_run (fsOf parts d) S [] [0] (wok_zero _) hS (fun _ _ => by simp)
  have em : ∀ x, x ∈ S.reverse ++ [] ↔ x ∈ S := fun x => by rw [List.append_nil, List.mem_reverse]
  refine ⟨c, inw_mem em ((W.mem c).mp hc), ?_⟩
  rw [msk_mem em, nd_msk]
theorem cnt_few (hS : S.Nodup) : (runC (mfs (fsOf parts d)) (msk K) S 0 [(0, 1)]).length ≤ prd (hmN (mfs (fsOf parts d))) (S.filter (ndB (fsOf parts d) K S)) := by
  have H := hist_at (parts := parts) (d := d) (msk K) hS
  have := count_le ((S.filter (ndB (fsOf parts d) K S)).map fun m => ((fun k => cval k m), valsOf (hmv (mfs (fsOf parts d)) m))) ((runC (mfs (fsOf parts d)) (msk K) S 0 [(0, 1)]).map (·.1)) H.nd (fun k hk f hf => by
    obtain ⟨m, hm, rfl⟩ := List.mem_map.mp hf
    obtain ⟨c, hc, rfl⟩ := keys_of hS hk
    show cval _ m ∈ _
    rw [cval_msk, if_pos hm]
    exact hm_val hc (List.mem_filter.mp hm).1) fun k hk k' hk' e => ext_cval fun m => by
      by_cases hm : m ∈ S.filter (ndB (fsOf parts d) K S)
      · exact e _ (List.mem_map.mpr ⟨m, hm, rfl⟩)
      · obtain ⟨c, _, rfl⟩ := keys_of hS hk
        obtain ⟨c', _, rfl⟩ := keys_of hS hk'
        rw [cval_msk, cval_msk, if_neg hm, if_neg hm]
  rw [List.length_map, prodF_prd (hm := hmN (mfs (fsOf parts d))) _ (fun m => rfl)] at this
  exact this
theorem cnt_three (hS : S.Nodup) {p : Row} (hp : p ∈ parts) {a b c : Nat} {R : List Nat} (hN : (S.filter (ndB (fsOf parts d) K S)).Perm (a :: b :: c :: R)) (ha : a ∈ p.at_) (hb : b ∈ p.at_) (hc : c ∈ p.at_) :
    (runC (mfs (fsOf parts d)) (msk K) S 0 [(0, 1)]).length ≤ d.length * 16 ^ R.length := by
  have H := hist_at (parts := parts) (d := d) (msk K) hS
  have inN : ∀ m, m ∈ S.filter (ndB (fsOf parts d) K S) ↔ m ∈ [a, b, c] ∨ m ∈ R := fun m => by
    rw [hN.mem_iff]
    simp [or_assoc]
  have inS : ∀ m, m ∈ [a, b, c] → m ∈ S ∧ m ∈ p.at_ := fun m hm => ⟨(List.mem_filter.mp ((inN m).mpr (.inl hm))).1, by
    simp only [List.mem_cons, List.not_mem_nil, or_false] at hm
    rcases hm with z | z | z
    · rw [z]; exact ha
    · rw [z]; exact hb
    · rw [z]; exact hc⟩
  have := count_le (((fun k => k &&& msk [a, b, c]), (chs p d).map (· &&& msk [a, b, c])) :: R.map fun m => ((fun k => cval k m), List.range 16)) ((runC (mfs (fsOf parts d)) (msk K) S 0 [(0, 1)]).map (·.1)) H.nd (fun k hk f hf => by
    rcases List.mem_cons.mp hf with rfl | hf
    · obtain ⟨x, hx, rfl⟩ := keys_of hS hk
      obtain ⟨c', h1, h2⟩ := hx.2 (p.at_, chs p d) (List.mem_map.mpr ⟨p, hp, rfl⟩) ⟨a, ha, (inS a (by simp)).1⟩
      refine List.mem_map.mpr ⟨c', h1, ext_cval fun m => ?_⟩
      show cval (c' &&& msk [a, b, c]) m = cval (_ &&& msk [a, b, c]) m
      rw [cval_msk, cval_msk]
      by_cases hm : m ∈ [a, b, c]
      · rw [if_pos hm, if_pos hm, cval_msk, if_pos ((inN m).mpr (.inl hm))]
        exact h2 m (inS m hm).2 (inS m hm).1
      · rw [if_neg hm, if_neg hm]
    · obtain ⟨m, hm, rfl⟩ := List.mem_map.mp hf
      exact List.mem_range.mpr (cval_lt _ _)) fun k hk k' hk' e => ext_cval fun m => by
      by_cases hm : m ∈ R
      · exact e _ (List.mem_cons_of_mem _ (List.mem_map.mpr ⟨m, hm, rfl⟩))
      · by_cases h3 : m ∈ [a, b, c]
        · have q : k &&& msk [a, b, c] = k' &&& msk [a, b, c] := e _ (List.mem_cons_self ..)
          have q := congrArg (fun z => cval z m) q
          simp only [cval_msk, if_pos h3] at q
          exact q
        · have hn : m ∉ S.filter (ndB (fsOf parts d) K S) := fun z => by
            rcases (inN m).mp z with w | w
            · exact h3 w
            · exact hm w
          obtain ⟨x, _, rfl⟩ := keys_of hS hk
          obtain ⟨x', _, rfl⟩ := keys_of hS hk'
          rw [cval_msk, cval_msk, if_neg hn, if_neg hn]
  rw [List.length_map] at this
  refine Nat.le_trans this ?_
  show ((chs p d).map (· &&& msk [a, b, c])).length * prodF (R.map fun m => ((fun k => cval k m), List.range 16)) ≤ _
  rw [List.length_map, prodF_pow _ (fun _ => List.length_range)]
  exact Nat.mul_le_mul (chs_len p d) (Nat.le_refl _)
/-- two names that no part has both, the first not kept -/
theorem lone_pair (hpl : parts.length ≤ 10) (hK : K.length ≤ 4) (hS : S.Nodup) (h7 : S.length = 7)
    (h3 : ∀ p ∈ parts, ∀ a b c, a ∈ S → b ∈ S → c ∈ S → a ∈ p.at_ → b ∈ p.at_ → c ∈ p.at_ → a ≠ b → a ≠ c → b ≠ c → False) :
    ∃ y h, y ∈ S ∧ h ∈ S ∧ y ≠ h ∧ y ∉ K ∧ ∀ p ∈ parts, y ∈ p.at_ → h ∉ p.at_ := by
  have two : ∃ y1 y2, y1 ∈ S ∧ y2 ∈ S ∧ y1 ≠ y2 ∧ y1 ∉ K ∧ y2 ∉ K := by
    have e : S.length = (S.filter fun x => decide (x ∈ K)).length + (S.filter fun x => !decide (x ∈ K)).length := by
      have q : ∀ l : List Nat, l.length = (l.filter fun x => decide (x ∈ K)).length + (l.filter fun x => !decide (x ∈ K)).length := fun l => by
        induction l with
        | nil => rfl
        | cons x l ih =>
          by_cases c : x ∈ K
          · rw [List.filter_cons_of_pos (by simp [c]), List.filter_cons_of_neg (by simp [c]), List.length_cons, List.length_cons]
            omega
          · rw [List.filter_cons_of_neg (by simp [c]), List.filter_cons_of_pos (by simp [c]), List.length_cons, List.length_cons]
            omega
      exact q S
    have l1 : (S.filter fun x => decide (x ∈ K)).length ≤ K.length := nodup_sub (hS.filter _) fun x hx => of_decide_eq_true (List.mem_filter.mp hx).2
    have nd := hS.filter fun x => !decide (x ∈ K)
    have mem : ∀ x ∈ (S.filter fun x => !decide (x ∈ K)), x ∈ S ∧ x ∉ K := fun x hx => by
      have := List.mem_filter.mp hx
      exact ⟨this.1, by simpa using this.2⟩
    match hq : (S.filter fun x => !decide (x ∈ K)), nd, mem with
    | [], _, _ => rw [hq] at e; simp at e; omega
    | [x], _, _ => rw [hq] at e; simp at e; omega
    | x :: y :: r, nd, mem =>
      refine ⟨x, y, (mem x (by simp)).1, (mem y (by simp)).1, ?_, (mem x (by simp)).2, (mem y (by simp)).2⟩
      intro z
      rw [z] at nd
      simp at nd
  obtain ⟨y1, y2, hy1, hy2, hne, hk1, hk2⟩ := two
  refine Classical.byContradiction fun no => ?_
  have cov : ∀ y h, y ∈ S → h ∈ S → y ≠ h → y ∉ K → ∃ p ∈ parts, y ∈ p.at_ ∧ h ∈ p.at_ := fun y h a b c e => Classical.byContradiction fun z => no ⟨y, h, a, b, c, e, fun p hp q w => z ⟨p, hp, q, w⟩⟩
  let g : Nat × Nat → Nat := fun q => parts.findIdx fun p => decide (q.1 ∈ p.at_) && decide (q.2 ∈ p.at_)
  have hg : ∀ y h, (∃ p ∈ parts, y ∈ p.at_ ∧ h ∈ p.at_) → ∃ l : g (y, h) < parts.length, y ∈ (parts[g (y, h)]'l).at_ ∧ h ∈ (parts[g (y, h)]'l).at_ := fun y h ⟨p, hp, q1, q2⟩ => by
    have l : g (y, h) < parts.length := List.findIdx_lt_length_of_exists ⟨p, hp, by simp [q1, q2]⟩
    refine ⟨l, ?_⟩
    have := List.findIdx_getElem (w := l)
    simpa using this
  have m1 : ∀ x, x ∈ S.erase y1 ↔ x ∈ S ∧ x ≠ y1 := fun x => by rw [hS.mem_erase_iff]; exact And.comm
  have nd1 : (S.erase y1).Nodup := hS.erase _
  have m2 : ∀ x, x ∈ (S.erase y1).erase y2 ↔ x ∈ S ∧ x ≠ y1 ∧ x ≠ y2 := fun x => by
    rw [nd1.mem_erase_iff, m1]
    exact ⟨fun ⟨a, b, c⟩ => ⟨b, c, a⟩, fun ⟨a, b, c⟩ => ⟨c, a, b⟩⟩
  have nd2 : ((S.erase y1).erase y2).Nodup := nd1.erase _
  have L1 : (S.erase y1).length = 6 := by rw [List.length_erase_of_mem hy1, h7]
  have L2 : ((S.erase y1).erase y2).length = 5 := by rw [List.length_erase_of_mem ((m1 y2).mpr ⟨hy2, hne.symm⟩), L1]
  have inj : (((S.erase y1).map fun h => (y1, h)) ++ (((S.erase y1).erase y2).map fun h => (y2, h))).Pairwise fun q q' => g q ≠ g q' := by
    rw [List.pairwise_append]
    have c1 : ∀ h, h ∈ S → h ≠ y1 → ∃ l : g (y1, h) < parts.length, y1 ∈ (parts[g (y1, h)]'l).at_ ∧ h ∈ (parts[g (y1, h)]'l).at_ := fun h a b => hg y1 h (cov y1 h hy1 a b.symm hk1)
    have c2 : ∀ h, h ∈ S → h ≠ y2 → ∃ l : g (y2, h) < parts.length, y2 ∈ (parts[g (y2, h)]'l).at_ ∧ h ∈ (parts[g (y2, h)]'l).at_ := fun h a b => hg y2 h (cov y2 h hy2 a b.symm hk2)
    have same : ∀ {i j : Nat} (li : i < parts.length) (lj : j < parts.length), i = j → parts[i]'li = parts[j]'lj := fun li lj e => by subst e; rfl
    refine ⟨?_, ?_, ?_⟩
    · rw [List.pairwise_map]
      refine List.Pairwise.imp_of_mem (R := fun a b => a ≠ b) (fun {a b} ha hb hab e => ?_) nd1
      obtain ⟨la, a1, a2⟩ := c1 a ((m1 a).mp ha).1 ((m1 a).mp ha).2
      obtain ⟨lb, b1, b2⟩ := c1 b ((m1 b).mp hb).1 ((m1 b).mp hb).2
      rw [← same la lb e] at b2
      exact h3 _ (List.getElem_mem la) y1 a b hy1 ((m1 a).mp ha).1 ((m1 b).mp hb).1 a1 a2 b2 ((m1 a).mp ha).2.symm ((m1 b).mp hb).2.symm hab
    · rw [List.pairwise_map]
      refine List.Pairwise.imp_of_mem (R := fun a b => a ≠ b) (fun {a b} ha hb hab e => ?_) nd2
      obtain ⟨la, a1, a2⟩ := c2 a ((m2 a).mp ha).1 ((m2 a).mp ha).2.2
      obtain ⟨lb, b1, b2⟩ := c2 b ((m2 b).mp hb).1 ((m2 b).mp hb).2.2
      rw [← same la lb e] at b2
      exact h3 _ (List.getElem_mem la) y2 a b hy2 ((m2 a).mp ha).1 ((m2 b).mp hb).1 a1 a2 b2 ((m2 a).mp ha).2.2.symm ((m2 b).mp hb).2.2.symm hab
    · intro q hq q' hq' e
      obtain ⟨a, ha, rfl⟩ := List.mem_map.mp hq
      obtain ⟨b, hb, rfl⟩ := List.mem_map.mp hq'
      obtain ⟨la, a1, a2⟩ := c1 a ((m1 a).mp ha).1 ((m1 a).mp ha).2
      obtain ⟨lb, b1, b2⟩ := c2 b ((m2 b).mp hb).1 ((m2 b).mp hb).2.2
      rw [← same la lb e] at b1 b2
      exact h3 _ (List.getElem_mem la) y1 y2 b hy1 hy2 ((m2 b).mp hb).1 a1 b1 b2 hne ((m2 b).mp hb).2.1.symm ((m2 b).mp hb).2.2.symm
  have nb := nodup_bound 10 ((((S.erase y1).map fun h => (y1, h)) ++ (((S.erase y1).erase y2).map fun h => (y2, h))).map g) (by rw [List.Nodup, List.pairwise_map]; exact inj) fun x hx => by
    obtain ⟨q, hq, rfl⟩ := List.mem_map.mp hx
    rcases List.mem_append.mp hq with z | z
    · obtain ⟨a, ha, rfl⟩ := List.mem_map.mp z
      obtain ⟨l, _⟩ := hg y1 a (cov y1 a hy1 ((m1 a).mp ha).1 ((m1 a).mp ha).2.symm hk1)
      omega
    · obtain ⟨a, ha, rfl⟩ := List.mem_map.mp z
      obtain ⟨l, _⟩ := hg y2 a (cov y2 a hy2 ((m2 a).mp ha).1 ((m2 a).mp ha).2.2.symm hk2)
      omega
  rw [List.length_map, List.length_append, List.length_map, List.length_map, L1, L2] at nb
  omega
theorem five {x1 x2 x3 x4 x5 : Nat} (h1 : x1 ≤ 16) (h2 : x2 ≤ 16) (h3 : x3 ≤ 16) (h4 : x4 ≤ 16) (h5 : x5 ≤ 16) : x1 * x2 * x3 * x4 * x5 ≤ 1048576 :=
  Nat.mul_le_mul (Nat.mul_le_mul (Nat.mul_le_mul (Nat.mul_le_mul h1 h2) h3) h4) h5
theorem two_big {P u r : Nat} (hP : 2 ^ 24 < P) (e : P = u * r) (hr : r ≤ 1048576) : 17 ≤ u := by
  refine Classical.byContradiction fun z => ?_
  have : u * r ≤ 16 * 1048576 := Nat.mul_le_mul (by omega) hr
  omega
theorem cost_last {F : Fs} {ns T : List Nat} {w z : Nat} (hn : ns.Nodup) (hS : (T ++ [w]).Nodup) (hs : ∀ x ∈ T ++ [w], x ∈ ns) (ha : ∀ x ∈ T ++ [w], Ndd F K (T ++ [w]) x) :
    prd (hmN (mfs F)) (T ++ [w]) + prd (hmN (mfs F)) (T ++ [w]) * hmN (mfs F) z ≤ cst (mfs F) (msk K) (szOf (mfs F) ns) (T ++ [w] ++ [z]) := by
  have nT := (List.nodup_append.mp hS).1
  rw [cst_snoc, cst_snoc, mc_exact hn hS hs ha, mc_exact hn nT (fun x hx => hs x (List.mem_append_left _ hx)) fun x hx => by
    rcases ha x (List.mem_append_left _ hx) with q | ⟨f, hf, h1, y, hy, hyo⟩
    · exact .inl q
    · exact .inr ⟨f, hf, h1, y, hy, fun q => hyo (List.mem_append_left _ q)⟩]
  have e : prd (hmN (mfs F)) (T ++ [w]) = prd (hmN (mfs F)) T * hmN (mfs F) w := by rw [prd_app, prd_cons]; exact congrArg _ (Nat.mul_one _)
  rw [e]
  omega
theorem counts_few {order ns : List Nat} (hp : PartsOk parts) (hd : RowsOk d) (hpl : parts.length ≤ 10) (hdl : d.length ≤ 128) (h8 : ∀ p ∈ parts, ∀ x ∈ p.at_, x < 8) (hK : K.length ≤ 4) (hn : ns.Nodup) (hns : ∀ x, x ∈ ns ↔ ∃ p ∈ parts, x ∈ p.at_) (po : order.Perm ns)
    (co : ∀ o', o'.Perm ns → cst (mfs (fsOf parts d)) (msk K) (szOf (mfs (fsOf parts d)) ns) order ≤ cst (mfs (fsOf parts d)) (msk K) (szOf (mfs (fsOf parts d)) ns) o') (i : Nat) :
    (runC (mfs (fsOf parts d)) (msk K) (order.take i) 0 [(0, 1)]).length ≤ 2 ^ 24 := by
  have on : order.Nodup := po.nodup_iff.mpr hn
  have hS : (order.take i).Nodup := on.sublist (List.take_sublist i order)
  have o8 : ∀ x ∈ order, x < 8 := fun x hx => by
    obtain ⟨p, hp, hx⟩ := (hns x).mp (po.mem_iff.mp hx)
    exact h8 p hp x hx
  have ol : order.length ≤ 8 := nodup_bound 8 order on o8
  have few := cnt_few (parts := parts) (d := d) (K := K) hS
  by_cases h6 : ((order.take i).filter (ndB (fsOf parts d) K (order.take i))).length ≤ 6
  · exact Nat.le_trans few (Nat.le_trans (prd_pow (hmN_le _) _) (Nat.le_trans (Nat.pow_le_pow_right (by decide) h6) (by decide)))
  · have fl := List.length_filter_le (ndB (fsOf parts d) K (order.take i)) (order.take i)
    have tl : (order.take i).length = min i order.length := List.length_take
    have lt : i < order.length := Classical.byContradiction fun z => by
      rw [List.take_of_length_le (by omega)] at h6
      have := nodup_sub (l := order.filter (ndB (fsOf parts d) K order)) (l' := K) (on.filter _) fun x hx => by
        rcases ndB_iff.mp (List.mem_filter.mp hx).2 with w | ⟨f, hf, _, y, hy, hyo⟩
        · exact w
        · obtain ⟨p, hp, rfl⟩ := List.mem_map.mp hf
          exact absurd (po.mem_iff.mpr ((hns y).mpr ⟨p, hp, hy⟩)) hyo
      omega
    have i7 : i = 7 := by omega
    have ol8 : order.length = 8 := by omega
    have sl : (order.take i).length = 7 := by omega
    have ez : ∃ z, order = order.take i ++ [z] := by
      have e := (List.take_append_drop i order).symm
      have dl : (order.drop i).length = 1 := by rw [List.length_drop]; omega
      match hq : order.drop i, dl with
      | [z], _ => rw [hq] at e; exact ⟨z, e⟩
    obtain ⟨z, ez⟩ := ez
    have all : ∀ x ∈ order.take i, Ndd (fsOf parts d) K (order.take i) x := fun x hx => ndB_iff.mp ((List.length_filter_eq_length_iff.mp (by omega)) x hx)
    have fe : (order.take i).filter (ndB (fsOf parts d) K (order.take i)) = order.take i := List.filter_eq_self.mpr fun x hx => ndB_iff.mpr (all x hx)
    rw [fe] at few
    generalize hSe : order.take i = S at *
    by_cases h3 : ∃ p ∈ parts, ∃ a b c, a ∈ S ∧ b ∈ S ∧ c ∈ S ∧ a ∈ p.at_ ∧ b ∈ p.at_ ∧ c ∈ p.at_ ∧ a ≠ b ∧ a ≠ c ∧ b ≠ c
    · obtain ⟨p, hpp, a, b, c, ha, hb, hc, pa, pb, pc, n1, n2, n3⟩ := h3
      have hb1 : b ∈ S.erase a := (List.mem_erase_of_ne n1.symm).mpr hb
      have hc1 : c ∈ (S.erase a).erase b := (List.mem_erase_of_ne n3.symm).mpr ((List.mem_erase_of_ne n2.symm).mpr hc)
      have pm : S.Perm (a :: b :: c :: ((S.erase a).erase b).erase c) := (List.perm_cons_erase ha).trans (((List.perm_cons_erase hb1).trans ((List.perm_cons_erase hc1).cons b)).cons a)
      have rl : (((S.erase a).erase b).erase c).length = 4 := by
        have := pm.length_eq
        simp only [List.length_cons] at this
        omega
      have := cnt_three (parts := parts) (d := d) (K := K) hS hpp (by rw [fe]; exact pm) pa pb pc
      rw [rl] at this
      exact Nat.le_trans this (Nat.le_trans (Nat.mul_le_mul hdl (Nat.le_refl _)) (by decide))
    · refine Classical.byContradiction fun big24 => ?_
      have hP : 2 ^ 24 < prd (hmN (mfs (fsOf parts d))) S := by omega
      obtain ⟨y, h, hyS, hhS, hyh, hyK, lone⟩ := lone_pair (parts := parts) (K := K) hpl hK hS sl fun p hpp a b c ha hb hc pa pb pc n1 n2 n3 => h3 ⟨p, hpp, a, b, c, ha, hb, hc, pa, pb, pc, n1, n2, n3⟩
      have hh1 : h ∈ S.erase y := (List.mem_erase_of_ne hyh.symm).mpr hhS
      have pm : S.Perm (y :: h :: (S.erase y).erase h) := (List.perm_cons_erase hyS).trans ((List.perm_cons_erase hh1).cons y)
      have el : ((S.erase y).erase h).length = 5 := by
        have := pm.length_eq
        simp only [List.length_cons] at this
        omega
      match hE : (S.erase y).erase h, el with
      | [e1, e2, e3, e4, e5], _ =>
        rw [hE] at pm
        have po2 : [z, y, e1, e2, e3, e4, e5, h].Perm ns := by
          refine List.Perm.trans ?_ po
          rw [ez]
          refine List.Perm.trans ?_ (List.perm_append_comm (l₁ := [z]) (l₂ := S))
          refine List.Perm.cons z ?_
          refine List.Perm.trans ?_ pm.symm
          exact List.Perm.cons y (List.perm_append_comm (l₁ := [e1, e2, e3, e4, e5]) (l₂ := [h]))
        have le := co _ po2
        have lo : prd (hmN (mfs (fsOf parts d))) S + prd (hmN (mfs (fsOf parts d))) S * hmN (mfs (fsOf parts d)) z ≤ cst (mfs (fsOf parts d)) (msk K) (szOf (mfs (fsOf parts d)) ns) order := by
          rw [ez]
          have sne : S ≠ [] := fun q => by rw [q] at sl; cases sl
          have sp := (List.dropLast_concat_getLast sne).symm
          rw [sp] at hS all ⊢
          refine cost_last hn hS (fun x hx => ?_) all
          rw [← sp] at hx
          exact po.mem_iff.mp (by rw [ez]; exact List.mem_append_left _ hx)
        generalize hfs : mfs (fsOf parts d) = fs at *
        generalize hsz : szOf fs ns = sz at *
        have m0 : mcN (ndOf fs (msk K) (msk [])) sz ≤ prd (big fs) [] := by rw [← hfs, ← hsz, ← hfs]; exact mc_le hn fun x hx _ => hx
        have m1 : mcN (ndOf fs (msk K) (msk [z])) sz ≤ prd (big fs) [z] := by rw [← hfs, ← hsz, ← hfs]; exact mc_le hn fun x hx _ => hx
        have m2 : mcN (ndOf fs (msk K) (msk [z, y])) sz ≤ prd (big fs) [z, y] := by rw [← hfs, ← hsz, ← hfs]; exact mc_le hn fun x hx _ => hx
        have m3 : mcN (ndOf fs (msk K) (msk [z, y, e1])) sz ≤ prd (big fs) [z, y, e1] := by rw [← hfs, ← hsz, ← hfs]; exact mc_le hn fun x hx _ => hx
        have m4 : mcN (ndOf fs (msk K) (msk [z, y, e1, e2])) sz ≤ prd (big fs) [z, y, e1, e2] := by rw [← hfs, ← hsz, ← hfs]; exact mc_le hn fun x hx _ => hx
        have m5 : mcN (ndOf fs (msk K) (msk [z, y, e1, e2, e3])) sz ≤ prd (big fs) [z, y, e1, e2, e3] := by rw [← hfs, ← hsz, ← hfs]; exact mc_le hn fun x hx _ => hx
        have m6 : mcN (ndOf fs (msk K) (msk [z, y, e1, e2, e3, e4])) sz ≤ prd (big fs) [z, y, e1, e2, e3, e4] := by rw [← hfs, ← hsz, ← hfs]; exact mc_le hn fun x hx _ => hx
        have m7 : mcN (ndOf fs (msk K) (msk [z, y, e1, e2, e3, e4, e5])) sz ≤ prd (big fs) [z, e1, e2, e3, e4, e5] := by
          rw [← hfs, ← hsz, ← hfs]
          refine mc_le hn fun x hx hnd => ?_
          rcases List.mem_cons.mp hx with q | q
          · rw [q]; exact List.mem_cons_self ..
          · rcases List.mem_cons.mp q with q | q
            · exfalso
              rw [q] at hnd
              rcases hnd with w | ⟨f, hf, h1, u, hu, huo⟩
              · exact hyK w
              · obtain ⟨p, hpp, rfl⟩ := List.mem_map.mp hf
                have := po2.mem_iff.mpr ((hns u).mpr ⟨p, hpp, hu⟩)
                have uh : u = h := by
                  have h2 : u ∈ [z, y, e1, e2, e3, e4, e5] ++ [h] := this
                  rcases List.mem_append.mp h2 with w | w
                  · exact absurd w huo
                  · exact List.mem_singleton.mp w
                rw [uh] at hu
                exact lone p hpp h1 hu
            · exact List.mem_cons_of_mem _ q
        have c1 : cst fs (msk K) sz [z] = cst fs (msk K) sz [] + _ := cst_snoc fs (msk K) sz [] z
        have c2 : cst fs (msk K) sz [z, y] = cst fs (msk K) sz [z] + _ := cst_snoc fs (msk K) sz [z] y
        have c3 : cst fs (msk K) sz [z, y, e1] = cst fs (msk K) sz [z, y] + _ := cst_snoc fs (msk K) sz [z, y] e1
        have c4 : cst fs (msk K) sz [z, y, e1, e2] = cst fs (msk K) sz [z, y, e1] + _ := cst_snoc fs (msk K) sz [z, y, e1] e2
        have c5 : cst fs (msk K) sz [z, y, e1, e2, e3] = cst fs (msk K) sz [z, y, e1, e2] + _ := cst_snoc fs (msk K) sz [z, y, e1, e2] e3
        have c6 : cst fs (msk K) sz [z, y, e1, e2, e3, e4] = cst fs (msk K) sz [z, y, e1, e2, e3] + _ := cst_snoc fs (msk K) sz [z, y, e1, e2, e3] e4
        have c7 : cst fs (msk K) sz [z, y, e1, e2, e3, e4, e5] = cst fs (msk K) sz [z, y, e1, e2, e3, e4] + _ := cst_snoc fs (msk K) sz [z, y, e1, e2, e3, e4] e5
        have c8 : cst fs (msk K) sz [z, y, e1, e2, e3, e4, e5, h] = cst fs (msk K) sz [z, y, e1, e2, e3, e4, e5] + _ := cst_snoc fs (msk K) sz [z, y, e1, e2, e3, e4, e5] h
        have c0 : cst fs (msk K) sz [] = 0 := rfl
        have g : ∀ {m b : Nat} (x : Nat), m ≤ b → m * hmN fs x ≤ b * hmN fs x := fun x q => Nat.mul_le_mul q (Nat.le_refl _)
        have g0 := g z m0
        have g1 := g y m1
        have g2 := g e1 m2
        have g3 := g e2 m3
        have g4 := g e3 m4
        have g5 := g e4 m5
        have g6 := g e5 m6
        have g7 := g h m7
        have hi : cst fs (msk K) sz [z, y, e1, e2, e3, e4, e5, h] ≤ prd (big fs) [] * hmN fs z + prd (big fs) [z] * hmN fs y + prd (big fs) [z, y] * hmN fs e1 + prd (big fs) [z, y, e1] * hmN fs e2 + prd (big fs) [z, y, e1, e2] * hmN fs e3 + prd (big fs) [z, y, e1, e2, e3] * hmN fs e4 + prd (big fs) [z, y, e1, e2, e3, e4] * hmN fs e5 + prd (big fs) [z, e1, e2, e3, e4, e5] * hmN fs h := by omega
        rw [prd_perm pm] at lo hP
        clear g0 g1 g2 g3 g4 g5 g6 g7 m0 m1 m2 m3 m4 m5 m6 m7 c0 c1 c2 c3 c4 c5 c6 c7 c8
        have tot := Nat.le_trans lo (Nat.le_trans le hi)
        have k1 := hmN_le fs y
        have k2 := hmN_le fs h
        have k3 := hmN_le fs e1
        have k4 := hmN_le fs e2
        have k5 := hmN_le fs e3
        have k6 := hmN_le fs e4
        have k7 := hmN_le fs e5
        have zb : big fs z ≤ 1 + hmN fs z := by unfold big; omega
        have zb1 : 1 ≤ big fs z := Nat.le_max_left _ _
        have zb2 : hmN fs z ≤ big fs z := Nat.le_max_right _ _
        have bg : ∀ x, 1 ≤ hmN fs x → big fs x = hmN fs x := fun x q => Nat.max_eq_right q
        have by_ := bg y
        have b1 := bg e1
        have b2 := bg e2
        have b3 := bg e3
        have b4 := bg e4
        have b5 := bg e5
        simp only [prd, List.foldr_cons, List.foldr_nil, Nat.mul_one] at hP tot
        generalize hmN fs y = a at *
        generalize hmN fs h = b at *
        generalize hmN fs e1 = v1 at *
        generalize hmN fs e2 = v2 at *
        generalize hmN fs e3 = v3 at *
        generalize hmN fs e4 = v4 at *
        generalize hmN fs e5 = v5 at *
        generalize hmN fs z = mz at *
        generalize big fs z = bz at *
        have pab : 17 ≤ a * b := two_big hP (r := v1 * v2 * v3 * v4 * v5) (by ac_rfl) (five k3 k4 k5 k6 k7)
        have p12 : 17 ≤ v1 * v2 := two_big hP (r := a * b * v3 * v4 * v5) (by ac_rfl) (five k1 k2 k5 k6 k7)
        have p23 : 17 ≤ v2 * v3 := two_big hP (r := a * b * v1 * v4 * v5) (by ac_rfl) (five k1 k2 k3 k6 k7)
        have p34 : 17 ≤ v3 * v4 := two_big hP (r := a * b * v1 * v2 * v5) (by ac_rfl) (five k1 k2 k3 k4 k7)
        have p45 : 17 ≤ v4 * v5 := two_big hP (r := a * b * v1 * v2 * v3) (by ac_rfl) (five k1 k2 k3 k4 k5)
        have l5 : 2 ≤ v5 := Classical.byContradiction fun q => by
          have : v4 * v5 ≤ 16 * 1 := Nat.mul_le_mul k6 (by omega)
          omega
        have ps : ∀ {u v : Nat}, 17 ≤ u * v → 1 ≤ u ∧ 1 ≤ v := fun {u v} q => by
          refine ⟨Classical.byContradiction fun w => ?_, Classical.byContradiction fun w => ?_⟩
          · rw [show u = 0 by omega, Nat.zero_mul] at q; omega
          · rw [show v = 0 by omega, Nat.mul_zero] at q; omega
        have sm := sum_lt k1 k2 l5 pab p12 p23 p34 p45
        rw [by_ (ps pab).1, b1 (ps p12).1, b2 (ps p12).2, b3 (ps p34).1, b4 (ps p34).2, b5 (ps p45).2] at tot
        have sm2 := Nat.mul_lt_mul_of_pos_left sm (show 0 < bz by omega)
        simp only [Nat.mul_add] at sm2
        have f0 : a * v1 * v2 * v3 * v4 * v5 * b = a * (b * (v1 * (v2 * (v3 * (v4 * v5))))) := by ac_rfl
        rw [f0] at sm2
        generalize hQ : a * (b * (v1 * (v2 * (v3 * (v4 * v5))))) = Q at *
        have f1 : bz * Q ≤ Q + Q * mz := by
          have := Nat.mul_le_mul zb (Nat.le_refl Q)
          rw [Nat.add_mul, Nat.one_mul, Nat.mul_comm mz] at this
          exact this
        have t1 : bz * (a * v1) = bz * a * v1 := by ac_rfl
        have t2 : bz * (a * v1 * v2) = bz * (a * v1) * v2 := by ac_rfl
        have t3 : bz * (a * v1 * v2 * v3) = bz * (a * (v1 * v2)) * v3 := by ac_rfl
        have t4 : bz * (a * v1 * v2 * v3 * v4) = bz * (a * (v1 * (v2 * v3))) * v4 := by ac_rfl
        have t5 : bz * (a * v1 * v2 * v3 * v4 * v5) = bz * (a * (v1 * (v2 * (v3 * v4)))) * v5 := by ac_rfl
        have t6 : bz * (v1 * v2 * v3 * v4 * v5 * b) = bz * (v1 * (v2 * (v3 * (v4 * v5)))) * b := by ac_rfl
        rw [t1, t2, t3, t4, t5, t6] at sm2
        rw [Nat.one_mul] at tot
        rw [Nat.mul_one] at sm2
        rw [← t1] at sm2
        omega
end
/-- the answers, in order -/
def ansL (q d : List Int) : List (List Nat) := sorted ((waysOf (question q).parts (four (d.length / 4) d).eraseDups).map fun e => (question q).head.map (value e))
theorem answers_eq (n m : Int) (q d : List Int) : PySx34.cq_answers n m q d = (Sx34.does (.answers (question q) (four (d.length / 4) d) n m)).v :: (Sx34.does (.answers (question q) (four (d.length / 4) d) n m)).l.map fun (y : Nat) => (y : Int) := rfl
theorem does_answers (q : Question) (d : Rows) (n m : Int) : Sx34.does (.answers q d n m) = if (q.good && (rows d n && decide (0 ≤ m))) = false then ok (-2) else if m < nat (sorted ((waysOf q.parts d.eraseDups).map fun e => q.head.map (value e))).length then ok (-1) else ⟨nat (sorted ((waysOf q.parts d.eraseDups).map fun e => q.head.map (value e))).length, (sorted ((waysOf q.parts d.eraseDups).map fun e => q.head.map (value e))).flatten⟩ := rfl
theorem answers_out {n m : Int} {q d : List Int} (h : ((question q).good && (rows (four (d.length / 4) d) n && decide (0 ≤ m))) = false) : PySx34.cq_answers n m q d = [-2] := by
  rw [answers_eq, does_answers, if_pos h]
  rfl
theorem answers_many {n m : Int} {q d : List Int} (h : ((question q).good && (rows (four (d.length / 4) d) n && decide (0 ≤ m))) = true) (hm : m < ((ansL q d).length : Int)) : PySx34.cq_answers n m q d = [-1] := by
  rw [answers_eq, does_answers, if_neg (by rw [h]; decide), if_pos (show m < nat (sorted _).length from hm)]
  rfl
theorem answers_in {n m : Int} {q d : List Int} (h : ((question q).good && (rows (four (d.length / 4) d) n && decide (0 ≤ m))) = true) (hm : ¬ m < ((ansL q d).length : Int)) : PySx34.cq_answers n m q d = (((ansL q d).length :: (ansL q d).flatten).map fun (y : Nat) => (y : Int)) := by
  rw [answers_eq, does_answers, if_neg (by rw [h]; decide), if_neg (show ¬ m < nat (sorted _).length from hm)]
  rfl
end Cq

set_option Elab.async false
set_option linter.all false
set_option maxRecDepth 100000
set_option maxHeartbeats 2000000
namespace Cq
open PySem PyProof.Rows
theorem runs_one {M : Model} {Γ : Ctx} {p : Pos} {t : Sem PySem.Fin} {fs : List Frame} {s : Shared} {e : End} {s' : Shared} (h : Runs M Γ p t fs s e s') : ∀ {e2 : End} {s2 : Shared}, Runs M Γ p t fs s e2 s2 → e2 = e ∧ s2 = s' := by
  induction h with
  | done => intro e2 s2 h2; cases h2; exact ⟨rfl, rfl⟩
  | raise => intro e2 s2 h2; cases h2; exact ⟨rfl, rfl⟩
  | again hq h ih => intro e2 s2 h2; cases h2; rename_i h3; exact ih h3
  | rule h ih => intro e2 s2 h2; cases h2; rename_i h3; exact ih h3
  | «at» h ih => intro e2 s2 h2; cases h2; rename_i h3; exact ih h3
  | load ho h ih => intro e2 s2 h2; cases h2; rename_i o2 ho2 h3; rw [ho] at ho2; cases ho2; exact ih h3
  | update ho h ih => intro e2 s2 h2; cases h2; rename_i ho2 h3; exact ih h3
  | loadIfAlive h ih => intro e2 s2 h2; cases h2; rename_i h3; exact ih h3
  | point h ih => intro e2 s2 h2; cases h2; rename_i h3; exact ih h3
  | alloc h ih => intro e2 s2 h2; cases h2; rename_i h3; exact ih h3
  | fresh h ih => intro e2 s2 h2; cases h2; rename_i h3; exact ih h3
  | ask h ih => intro e2 s2 h2; cases h2; rename_i h3; exact ih h3
  | choose hn h ih => intro e2 s2 h2; cases h2; rename_i hn2 h3; exact ih h3
  | os h ih => intro e2 s2 h2; cases h2; rename_i h3; exact ih h3
  | handled h ih => intro e2 s2 h2; cases h2; rename_i h3; exact ih h3
  | genState ho h ih => intro e2 s2 h2; cases h2; rename_i o2 ho2 h3; rw [ho] at ho2; cases ho2; exact ih h3
  | stack h ih => intro e2 s2 h2; cases h2; rename_i h3; exact ih h3
  | thread h ih => intro e2 s2 h2; cases h2; rename_i h3; exact ih h3
  | newGen h ih => intro e2 s2 h2; cases h2; rename_i h3; exact ih h3
  | call h1 h ih1 ih =>
    intro e2 s2 h2
    cases h2 with
    | call h3 h4 =>
      obtain ⟨a, b⟩ := ih1 h3
      cases a
      subst b
      exact ih h4
    | callSusp h3 =>
      obtain ⟨a, b⟩ := ih1 h3
      cases a
  | callSusp h1 ih1 =>
    intro e2 s2 h2
    cases h2 with
    | call h3 h4 =>
      obtain ⟨a, b⟩ := ih1 h3
      cases a
    | callSusp h3 =>
      obtain ⟨a, b⟩ := ih1 h3
      cases a
      exact ⟨rfl, b⟩
  | yield => intro e2 s2 h2; cases h2; exact ⟨rfl, rfl⟩
  | resumeFresh hg h1 hq h ih1 ih =>
    intro e2 s2 h2
    cases h2 with
    | resumeFresh hg2 h3 hq2 h4 =>
      rw [hg] at hg2
      cases hg2
      obtain ⟨a, b⟩ := ih1 h3
      subst a b
      exact ih h4
    | resumeSuspended hg2 _ _ _ => rw [hg] at hg2; cases hg2
    | resumeJustStarted hg2 hv _ => exact absurd rfl hv
    | resumeRunning hg2 _ => rw [hg] at hg2; cases hg2
    | resumeFinished hg2 _ => rw [hg] at hg2; cases hg2
  | resumeSuspended hg h1 hq h ih1 ih =>
    intro e2 s2 h2
    cases h2 with
    | resumeFresh hg2 h3 hq2 h4 => rw [hg] at hg2; cases hg2
    | resumeSuspended hg2 h3 hq2 h4 =>
      rw [hg] at hg2
      cases hg2
      obtain ⟨a, b⟩ := ih1 h3
      subst a b
      exact ih h4
    | resumeJustStarted hg2 hv _ => rw [hg] at hg2; cases hg2
    | resumeThrowFresh hg2 _ => rw [hg] at hg2; cases hg2
    | resumeRunning hg2 _ => rw [hg] at hg2; cases hg2
    | resumeFinished hg2 _ => rw [hg] at hg2; cases hg2
  | resumeJustStarted hg hv h ih =>
    intro e2 s2 h2
    cases h2 with
    | resumeFresh hg2 h3 hq2 h4 => exact absurd rfl hv
    | resumeSuspended hg2 h3 hq2 h4 => rw [hg] at hg2; cases hg2
    | resumeJustStarted hg2 hv h3 => exact ih h3
    | resumeRunning hg2 _ => rw [hg] at hg2; cases hg2
    | resumeFinished hg2 _ => rw [hg] at hg2; cases hg2
  | resumeThrowFresh hg h ih =>
    intro e2 s2 h2
    cases h2 with
    | resumeSuspended hg2 h3 hq2 h4 => rw [hg] at hg2; cases hg2
    | resumeThrowFresh hg2 h3 => exact ih h3
    | resumeRunning hg2 _ => rw [hg] at hg2; cases hg2
    | resumeFinished hg2 _ => rw [hg] at hg2; cases hg2
  | resumeRunning hg h ih =>
    intro e2 s2 h2
    cases h2 with
    | resumeFresh hg2 h3 hq2 h4 => rw [hg] at hg2; cases hg2
    | resumeSuspended hg2 h3 hq2 h4 => rw [hg] at hg2; cases hg2
    | resumeJustStarted hg2 hv h3 => rw [hg] at hg2; cases hg2
    | resumeThrowFresh hg2 h3 => rw [hg] at hg2; cases hg2
    | resumeRunning hg2 h3 => exact ih h3
    | resumeFinished hg2 _ => rw [hg] at hg2; cases hg2
  | resumeFinished hg h ih =>
    intro e2 s2 h2
    cases h2 with
    | resumeFresh hg2 h3 hq2 h4 => rw [hg] at hg2; cases hg2
    | resumeSuspended hg2 h3 hq2 h4 => rw [hg] at hg2; cases hg2
    | resumeJustStarted hg2 hv h3 => rw [hg] at hg2; cases hg2
    | resumeThrowFresh hg2 h3 => rw [hg] at hg2; cases hg2
    | resumeRunning hg2 h3 => rw [hg] at hg2; cases hg2
    | resumeFinished hg2 h3 => exact ih h3
  | segRet h1 h ih1 ih =>
    intro e2 s2 h2
    cases h2 with
    | segRet h3 h4 =>
      obtain ⟨a, b⟩ := ih1 h3
      cases a
      subst b
      exact ih h4
    | segSuspOut _ h3 => obtain ⟨a, b⟩ := ih1 h3; cases a
    | segSuspGen _ h3 _ _ => obtain ⟨a, b⟩ := ih1 h3; cases a
  | segGen h1 h ih1 ih =>
    intro e2 s2 h2
    cases h2 with
    | segGen h3 h4 =>
      obtain ⟨a, b⟩ := ih1 h3
      cases a
      subst b
      exact ih h4
    | segSuspOut _ h3 => obtain ⟨a, b⟩ := ih1 h3; cases a
    | segSuspGen _ h3 _ _ => obtain ⟨a, b⟩ := ih1 h3; cases a
  | segSuspOut hs h1 ih1 =>
    intro e2 s2 h2
    cases h2 with
    | segRet h3 h4 => obtain ⟨a, b⟩ := ih1 h3; cases a
    | segGen h3 h4 => obtain ⟨a, b⟩ := ih1 h3; cases a
    | segSuspOut _ h3 =>
      obtain ⟨a, b⟩ := ih1 h3
      cases a
      exact ⟨rfl, b⟩
    | segSuspGen hs2 h3 _ _ => rw [hs] at hs2; cases hs2
  | segSuspGen hs h1 hq h ih1 ih =>
    intro e2 s2 h2
    cases h2 with
    | segRet h3 h4 => obtain ⟨a, b⟩ := ih1 h3; cases a
    | segGen h3 h4 => obtain ⟨a, b⟩ := ih1 h3; cases a
    | segSuspOut hs2 h3 => rw [hs] at hs2; cases hs2
    | segSuspGen hs2 h3 hq2 h4 =>
      rw [hs] at hs2
      cases hs2
      obtain ⟨a, b⟩ := ih1 h3
      cases a
      subst b
      exact ih h4
theorem wakes_one {M : Model} {Γ : Ctx} {p : Pos} {g : Nat} {r : Resume} {s : Shared} {a b : GenResult} {s1 s2 : Shared} (h : Wakes M Γ p g r s a s1) (h2 : Wakes M Γ p g r s b s2) : b = a ∧ s2 = s1 := by
  unfold Wakes at h h2
  cases hg : s.gens[g]? with
  | none => rw [hg] at h; exact h.elim
  | some x =>
    rw [hg] at h h2
    cases x with
    | fresh c =>
      cases r with
      | send v =>
        by_cases hv : v = .none
        · subst hv
          obtain ⟨e1, t1, r1, _, rfl, rfl⟩ := h
          obtain ⟨e2, t2, r2, _, rfl, rfl⟩ := h2
          obtain ⟨q1, q2⟩ := runs_one r1 r2
          subst q1 q2
          exact ⟨rfl, rfl⟩
        · have k : ∀ z t, (match (Resume.send v : Resume) with
            | .send .none => ∃ e₁ s₁, Runs M (Γ.wake c p) p (M.den c) [] (s.setGen g .running) e₁ s₁ ∧ e₁.quiet = true ∧ z = e₁.result ∧ t = s₁.setGen g e₁.genState
            | .send _ => z = GenResult.justStarted ∧ t = s
            | .throw x => z = .raised x ∧ t = s.setGen g .finished) → z = GenResult.justStarted ∧ t = s := fun z t q => by
            cases v <;> first | exact q | exact absurd rfl hv
          obtain ⟨q1, q2⟩ := k _ _ h
          obtain ⟨q3, q4⟩ := k _ _ h2
          exact ⟨q3.trans q1.symm, q4.trans q2.symm⟩
      | throw x =>
        obtain ⟨rfl, rfl⟩ := h
        obtain ⟨rfl, rfl⟩ := h2
        exact ⟨rfl, rfl⟩
    | suspended k0 l0 c0 p0 fs0 cl0 =>
      obtain ⟨e1, t1, r1, _, rfl, rfl⟩ := h
      obtain ⟨e2, t2, r2, _, rfl, rfl⟩ := h2
      obtain ⟨q1, q2⟩ := runs_one r1 r2
      subst q1 q2
      exact ⟨rfl, rfl⟩
    | running =>
      obtain ⟨rfl, rfl⟩ := h
      obtain ⟨rfl, rfl⟩ := h2
      exact ⟨rfl, rfl⟩
    | finished =>
      obtain ⟨rfl, rfl⟩ := h
      obtain ⟨rfl, rfl⟩ := h2
      exact ⟨rfl, rfl⟩
theorem wp_one {M : Model} {Γ : Ctx} {α : Type} {Q Q' : α → Pos → Shared → Prop} {E E' : Value → Pos → Shared → Prop} (t : Sem α) : ∀ {p : Pos} {s : Shared}, Sem.wp M Γ t Q E p s → Sem.wp M Γ t Q' E' p s → (∃ a p' s', Q a p' s' ∧ Q' a p' s') ∨ ∃ e p' s', E e p' s' ∧ E' e p' s' := by
  induction t with
  | pure a => intro p s h h'; exact .inl ⟨a, p, s, h, h'⟩
  | raise e => intro p s h h'; exact .inr ⟨e, p, s, h, h'⟩
  | unsupported w => intro p s h h'; exact h.elim
  | finish w => intro p s h h'; exact h.elim
  | rule t k ih => intro p s h h'; exact ih _ h h'
  | «at» p k ih => intro p s h h'; exact ih _ h h'
  | load a pt k ih =>
    intro p s h h'
    obtain ⟨o, h1, h2⟩ := h
    obtain ⟨o', h3, h4⟩ := h'
    rw [h1] at h3
    cases h3
    exact ih _ h2 h4
  | update a pt f k ih => intro p s h h'; exact ih _ h.2 h'.2
  | alloc o k ih => intro p s h h'; exact ih _ h h'
  | loadIfAlive a k ih => intro p s h h'; exact ih _ h h'
  | point l k ih => intro p s h h'; exact ih _ h h'
  | register a k ih => intro p s h h'; exact h.elim
  | fresh k ih => intro p s h h'; exact ih _ h h'
  | ask k ih => intro p s h h'; exact ih _ h h'
  | choose src n k ih => intro p s h h'; exact ih _ h.2 h'.2
  | os q l k ih => intro p s h h'; exact ih _ h h'
  | call c m g l k ih =>
    intro p s h h'
    obtain ⟨r, s1, h1, h2⟩ := h
    obtain ⟨r', s2, h3, h4⟩ := h'
    obtain ⟨q1, q2⟩ := runs_one h1 h3
    cases q1
    subst q2
    exact ih _ h2 h4
  | handled o k ih => intro p s h h'; exact ih _ h h'
  | newGen c k ih => intro p s h h'; exact ih _ h h'
  | genState g k ih =>
    intro p s h h'
    obtain ⟨o, h1, h2⟩ := h
    obtain ⟨o', h3, h4⟩ := h'
    rw [h1] at h3
    cases h3
    exact ih _ h2 h4
  | resume g r l k ih =>
    intro p s h h'
    obtain ⟨r, s1, h1, h2⟩ := h
    obtain ⟨r', s2, h3, h4⟩ := h'
    obtain ⟨q1, q2⟩ := wakes_one h1 h3
    subst q1 q2
    exact ih _ h2 h4
  | yield v g l k ih => intro p s h h'; exact h.elim
  | stack k ih => intro p s h h'; exact ih _ h h'
  | fork c k ih => intro p s h h'; exact h.elim
  | thread k ih => intro p s h h'; exact ih _ h h'
  | await a t d l k ih => intro p s h h'; exact h.elim
end Cq

set_option Elab.async false
set_option linter.all false
set_option maxRecDepth 100000
set_option maxHeartbeats 2000000
namespace Cq
open PySem PyProof.Rows
structure Tw where
  prog : Program
  w : World
  A : Around
  E : Value → Shared → Prop
  s : Shared
  G : PySem.Ctx
  ph : Keyed → Keyed
  good : Keyed → Prop
  cmp : ∀ x y, good x → good y → ∃ b : Bool, (∀ Q : Bool → Shared → Prop, Q b s → wpAny (model prog w) A (keyLt' oneType' x.1 y.1) Q (fun _ _ => False) s) ∧
    ∀ (p : Pos) (Q : Bool → Pos → Shared → Prop) (E' : Value → Pos → Shared → Prop), Sem.wp (model prog w) G (keyLt' oneType' (ph x).1 (ph y).1) Q E' p s → ∃ p', Q b p' s
section
variable {T : Tw} {α β : Type}
def RK (T : Tw) (x y : Keyed) : Prop := T.good x ∧ y = T.ph x
def RA (T : Tw) (a b : Array Keyed) : Prop := (∀ x ∈ a, T.good x) ∧ b = a.map T.ph
structure RS (T : Tw) (x y : SortSt) : Prop where
  k1 : kindOf x = oneType'
  k2 : kindOf y = oneType'
  arr : RA T (arrOf x) (arrOf y)
  pend : pendingOf x = pendingOf y
  gal : gallopOf x = gallopOf y
  bad : failedOf x = failedOf y
def Ev (T : Tw) (m : StateT SortSt Sem α) (st : SortSt) (a : α) (st' : SortSt) : Prop := ∀ R : α → SortSt → Prop, R a st' → wpS (model T.prog T.w) T.A T.E T.s m R st
def Sim (T : Tw) (R : α → β → Prop) (m1 : StateT SortSt Sem α) (m2 : StateT SortSt Sem β) : Prop := ∀ st1 st2, RS T st1 st2 → ∀ (p : Pos) (Q : β × SortSt → Pos → Shared → Prop),
  Sem.wp (model T.prog T.w) T.G (m2.run st2) Q (fun _ _ _ => False) p T.s → ∃ r1 r2 st1' st2' p', R r1 r2 ∧ RS T st1' st2' ∧ Q (r2, st2') p' T.s ∧ Ev T m1 st1 r1 st1'
theorem sim_bind {α' β' : Type} {R : α → β → Prop} {R' : α' → β' → Prop} {m1 : StateT SortSt Sem α} {m2 : StateT SortSt Sem β} {g1 : α → StateT SortSt Sem α'} {g2 : β → StateT SortSt Sem β'} (h : Sim T R m1 m2) (k : ∀ a b, R a b → Sim T R' (g1 a) (g2 b)) : Sim T R' (m1 >>= g1) (m2 >>= g2) := by
  intro st1 st2 hs p Q hw
  rw [StateT.run_bind, Sem.wp_bind'] at hw
  obtain ⟨r1, r2, t1, t2, p', hr, ht, hq, ev⟩ := h st1 st2 hs p _ hw
  obtain ⟨r3, r4, t3, t4, p2, hr2, ht2, hq2, ev2⟩ := k r1 r2 hr t1 t2 ht p' Q hq
  exact ⟨r3, r4, t3, t4, p2, hr2, ht2, hq2, fun X hX => wpS_bind (ev _ (ev2 X hX))⟩
theorem sim_pure {R : α → β → Prop} {a : α} {b : β} (h : R a b) : Sim T R (pure a) (pure b) := by
  intro st1 st2 hs p Q hw
  rw [StateT.run_pure, Sem.wp_pure'] at hw
  exact ⟨a, b, st1, st2, p, h, hs, hw, fun X hX => wpS_pure hX⟩
theorem sim_get : Sim T (RS T) get get := by
  intro st1 st2 hs p Q hw
  rw [StateT.run_get, Sem.wp_pure'] at hw
  exact ⟨st1, st2, st1, st2, p, hs, hs, hw, fun X hX => wpS_get hX⟩
theorem sim_modify {f g : SortSt → SortSt} (h : ∀ a b, RS T a b → RS T (f a) (g b)) : Sim T (fun _ _ => True) (modify f) (modify g) := by
  intro st1 st2 hs p Q hw
  rw [StateT.run_modify, Sem.wp_pure'] at hw
  exact ⟨⟨⟩, ⟨⟩, f st1, g st2, p, trivial, h _ _ hs, hw, fun X hX => wpS_modify hX⟩
theorem sim_set {a b : SortSt} (h : RS T a b) : Sim T (fun _ _ => True) (set a) (set b) := by
  intro st1 st2 hs p Q hw
  rw [StateT.run_set, Sem.wp_pure'] at hw
  exact ⟨⟨⟩, ⟨⟩, a, b, p, trivial, h, hw, fun X hX => wpS_set hX⟩
theorem sim_mono {R R' : α → β → Prop} {m1 : StateT SortSt Sem α} {m2 : StateT SortSt Sem β} (h : Sim T R m1 m2) (k : ∀ a b, R a b → R' a b) : Sim T R' m1 m2 := by
  intro st1 st2 hs p Q hw
  obtain ⟨r1, r2, t1, t2, p', hr, ht, hq, ev⟩ := h st1 st2 hs p _ hw
  exact ⟨r1, r2, t1, t2, p', k _ _ hr, ht, hq, ev⟩
theorem sim_unsup {R : α → β → Prop} {m1 : StateT SortSt Sem α} {x : String} : Sim T R m1 (liftM (unsupported x : Sem β) : StateT SortSt Sem β) := by
  intro st1 st2 hs p Q hw
  exact hw.elim
theorem sim_rule (x : String) : Sim T (fun _ _ => True) (liftM (rule x) : StateT SortSt Sem Unit) (liftM (rule x) : StateT SortSt Sem Unit) := by
  intro st1 st2 hs p Q hw
  exact ⟨(), (), st1, st2, p, trivial, hs, hw, fun X hX => wpS_lift (wpAny_rule ⟨rfl, hX⟩)⟩
theorem sim_lt {x y x' y' : Keyed} (hx : RK T x x') (hy : RK T y y') : Sim T Eq (lt' x y) (lt' x' y') := by
  intro st1 st2 hs p Q hw
  obtain ⟨b, c1, c2⟩ := T.cmp x y hx.1 hy.1
  rw [lt'_eq] at hw
  have hw2 : Sem.wp (model T.prog T.w) T.G (keyLt' (kindOf st2) x'.1 y'.1).attempt (fun r p' s' => Sem.wp (model T.prog T.w) T.G (StateT.run (match r with | .ok b => (return some b : StateT SortSt Sem (Option Bool)) | .error e => (do modify (fun s => SortSt.mk' (kindOf s) (arrOf s) (pendingOf s) (gallopOf s) (some e)); return none)) st2) Q (fun _ _ _ => False) p' s') (fun _ _ _ => False) p T.s := by
    rw [StateT.run_bind, StateT.run_get, Sem.wp_bind', Sem.wp_pure', StateT.run_bind, Sem.wp_bind'] at hw
    have e : StateT.run (liftM (keyLt' (kindOf st2) x'.1 y'.1).attempt : StateT SortSt Sem _) st2 = ((keyLt' (kindOf st2) x'.1 y'.1).attempt >>= fun r => pure (r, st2)) := rfl
    have hw := (congrArg (fun t => Sem.wp (model T.prog T.w) T.G t _ _ p T.s) e).mp hw
    rw [Sem.wp_bind'] at hw
    exact hw
  rw [Sem.wp_attempt, hs.k2, hx.2, hy.2] at hw2
  obtain ⟨p', hq⟩ := c2 p _ _ hw2
  refine ⟨some b, some b, st1, st2, p', rfl, hs, hq, fun X hX => ?_⟩
  rw [lt'_eq]
  refine wpS_bind (wpS_get ?_)
  rw [hs.k1]
  refine wpS_bind (wpS_lift (wpAny_attempt (wpAny_mono (c1 (fun r s' => r = b ∧ s' = T.s) ⟨rfl, rfl⟩) (fun r s' q => ?_) fun _ _ q => q.elim)))
  obtain ⟨rfl, rfl⟩ := q
  exact ⟨rfl, wpS_pure hX⟩
theorem sim_elem {a b : Array Keyed} (h : RA T a b) (i : Nat) : Sim T (RK T) (elem' a i) (elem' b i) := by
  rw [elem'_eq, elem'_eq, h.2, Array.getElem?_map]
  cases e : a[i]? with
  | none => exact sim_unsup
  | some x => exact sim_pure ⟨h.1 x (Array.mem_of_getElem? e), rfl⟩
theorem sim_ite {R : α → β → Prop} {c c' : Prop} [Decidable c] [Decidable c'] {m1 n1 : StateT SortSt Sem α} {m2 n2 : StateT SortSt Sem β} (e : c ↔ c') (h1 : c → Sim T R m1 m2) (h2 : ¬ c → Sim T R n1 n2) : Sim T R (if c then m1 else n1) (if c' then m2 else n2) := by
  by_cases z : c
  · rw [if_pos z, if_pos (e.mp z)]
    exact h1 z
  · rw [if_neg z, if_neg (fun q => z (e.mpr q))]
    exact h2 z
/-- the same text on both sides -/
def Dg (T : Tw) (m : StateT SortSt Sem α) : Prop := Sim T Eq m m
theorem dg_bind {m : StateT SortSt Sem α} {g : α → StateT SortSt Sem β} (h : Dg T m) (k : ∀ a, Dg T (g a)) : Dg T (m >>= g) := sim_bind h fun a b e => by subst e; exact k a
theorem dg_pure {a : α} : Dg T (pure a) := sim_pure rfl
theorem dg_rule {x : String} : Dg T (liftM (rule x) : StateT SortSt Sem Unit) := sim_mono (sim_rule x) fun _ _ _ => rfl
theorem dg_of {m : StateT SortSt Sem Unit} (h : Sim T (fun _ _ => True) m m) : Dg T m := sim_mono h fun _ _ _ => rfl
theorem dg_ltAt {i j : Nat} : Dg T (ltAt' i j) := by
  unfold Dg
  rw [ltAt'_eq]
  exact sim_bind sim_get fun a b h => sim_bind (sim_elem h.arr i) fun x y hx => sim_bind (sim_elem h.arr j) fun z u hz => sim_lt hx hz
def SR (R : α → β → Prop) : ForInStep α → ForInStep β → Prop
  | .done a, .done b => R a b
  | .yield a, .yield b => R a b
  | _, _ => False
theorem sim_forL {R : α → β → Prop} {f1 : Nat → α → StateT SortSt Sem (ForInStep α)} {f2 : Nat → β → StateT SortSt Sem (ForInStep β)} (h : ∀ i a b, R a b → Sim T (SR R) (f1 i a) (f2 i b)) : ∀ (l : List Nat) (a : α) (b : β), R a b → Sim T R (forIn l a f1) (forIn l b f2)
  | [], a, b, r => by
    rw [List.forIn_nil, List.forIn_nil]
    exact sim_pure r
  | i :: l, a, b, r => by
    rw [List.forIn_cons, List.forIn_cons]
    refine sim_bind (h i a b r) fun x y hxy => ?_
    cases x <;> cases y
    · exact sim_pure hxy
    · exact hxy.elim
    · exact hxy.elim
    · exact sim_forL h l _ _ hxy
theorem sim_for {R : α → β → Prop} {x y : Nat} {f1 : Nat → α → StateT SortSt Sem (ForInStep α)} {f2 : Nat → β → StateT SortSt Sem (ForInStep β)} {a : α} {b : β} (h : ∀ i a b, R a b → Sim T (SR R) (f1 i a) (f2 i b)) (r : R a b) : Sim T R (forIn [x:y] a f1) (forIn [x:y] b f2) := by
  rw [Std.Legacy.Range.forIn_eq_forIn_range', Std.Legacy.Range.forIn_eq_forIn_range']
  exact sim_forL h _ _ _ r
theorem dg_for {x y : Nat} {f : Nat → α → StateT SortSt Sem (ForInStep α)} {a : α} (h : ∀ i a, Dg T (f i a)) : Dg T (forIn [x:y] a f) :=
  sim_for (fun i a b e => by
    subst e
    exact sim_mono (h i a) fun u v e => by subst e; cases u <;> exact rfl) rfl
theorem map_swap {γ δ : Type} (g : γ → δ) (xs : Array γ) (i j : Nat) : (xs.map g).swapIfInBounds i j = (xs.swapIfInBounds i j).map g := by
  by_cases hi : i < xs.size
  · by_cases hj : j < xs.size
    · refine Array.ext_getElem? fun k => ?_
      rw [getElem?_swapIB (by simpa using hi) (by simpa using hj), Array.getElem?_map, Array.getElem?_map, Array.getElem?_map, Array.getElem?_map, getElem?_swapIB hi hj]
      split
      · rfl
      · split <;> rfl
    · rw [Array.swapIfInBounds_def, Array.swapIfInBounds_def, dif_pos (by simpa using hi), dif_neg (by simpa using hj), dif_pos hi, dif_neg hj]
  · rw [Array.swapIfInBounds_def, Array.swapIfInBounds_def, dif_neg (by simpa using hi), dif_neg hi]
theorem map_swaps {γ δ ε : Type} (g : γ → δ) (p q : ε → Nat) : ∀ (l : List ε) (xs : Array γ), l.foldl (fun a k => a.swapIfInBounds (p k) (q k)) (xs.map g) = (l.foldl (fun a k => a.swapIfInBounds (p k) (q k)) xs).map g
  | [], xs => rfl
  | k :: l, xs => by
    rw [List.foldl_cons, List.foldl_cons, map_swap, map_swaps g p q l]
theorem ra_perm {a b a' b' : Array Keyed} (h : RA T a b) (hp : a'.Perm a) (e : b' = a'.map T.ph) : RA T a' b' := ⟨fun x hx => h.1 x (hp.mem_iff.mp hx), e⟩
theorem rs_arr {x y : SortSt} (h : RS T x y) {a b : Array Keyed} (r : RA T a b) : RS T (setArr x a) (setArr y b) := ⟨h.k1, h.k2, r, h.pend, h.gal, h.bad⟩
theorem dg_rev {i j : Nat} : Dg T (reverseSlice' i j) := by
  rw [reverseSlice'_eq]
  exact dg_of (sim_modify fun a b h => rs_arr h (ra_perm h.arr (mirror_perm _ _ _ _) (by rw [h.arr.2]; exact map_swaps _ _ _ _ _)))
theorem dg_down {i j : Nat} : Dg T (moveDown' i j) := by
  rw [moveDown'_eq]
  exact dg_of (sim_modify fun a b h => rs_arr h (ra_perm h.arr (bubble_perm _ _ _) (by rw [h.arr.2]; exact map_swaps _ _ _ _ _)))
theorem dg_min {g : Nat} : Dg T (setMinGallop' g) := by
  rw [setMinGallop'_eq]
  exact dg_of (sim_modify fun a b h => ⟨h.k1, h.k2, h.arr, h.pend, rfl, h.bad⟩)
theorem dg_count {lo n : Nat} : Dg T (countRun' lo n) := by
  rw [countRun'_eq]
  repeat' (first | exact dg_ltAt | exact dg_rev | exact dg_rule | exact dg_pure | refine dg_bind ?_ fun _ => ?_ | refine dg_for fun _ _ => ?_ | split | (dsimp only))
theorem dg_binary {lo n k : Nat} : Dg T (binarySort' lo n k) := by
  rw [binarySort'_eq]
  repeat' (first | exact dg_ltAt | exact dg_down | exact dg_rule | exact dg_pure | refine dg_bind ?_ fun _ => ?_ | refine dg_for fun _ _ => ?_ | split | (dsimp only))
theorem sim_bO {γ α' β' : Type} {R : α' → β' → Prop} {m1 m2 : StateT SortSt Sem (Option γ)} {g1 : Option γ → StateT SortSt Sem α'} {g2 : Option γ → StateT SortSt Sem β'} (h : Sim T Eq m1 m2) (hn : Sim T R (g1 none) (g2 none)) (hs : ∀ b, Sim T R (g1 (some b)) (g2 (some b))) : Sim T R (m1 >>= g1) (m2 >>= g2) :=
  sim_bind h fun a b e => by
    subst e
    cases a
    · exact hn
    · exact hs _
theorem sim_bP {γ σ α' β' : Type} {R : α' → β' → Prop} {m1 m2 : StateT SortSt Sem (Option γ × σ)} {g1 : Option γ × σ → StateT SortSt Sem α'} {g2 : Option γ × σ → StateT SortSt Sem β'} (h : Sim T Eq m1 m2) (hn : ∀ s, Sim T R (g1 (none, s)) (g2 (none, s))) (hs : ∀ r s, Sim T R (g1 (some r, s)) (g2 (some r, s))) : Sim T R (m1 >>= g1) (m2 >>= g2) :=
  sim_bind h fun a b e => by
    subst e
    obtain ⟨o, s⟩ := a
    cases o
    · exact hn s
    · exact hs _ s
theorem sim_forE {x y : Nat} {f1 f2 : Nat → α → StateT SortSt Sem (ForInStep α)} {a : α} (h : ∀ i a, Sim T Eq (f1 i a) (f2 i a)) : Sim T Eq (forIn [x:y] a f1) (forIn [x:y] a f2) :=
  sim_for (fun i a b e => by
    subst e
    exact sim_mono (h i a) fun u v e => by subst e; cases u <;> exact rfl) rfl
theorem sim_beyond {l : Bool} {k k' : Keyed} {a a' : Array Keyed} {base i : Nat} (hk : RK T k k') (ha : RA T a a') : Sim T Eq (beyond' l k a base i) (beyond' l k' a' base i) := by
  unfold beyond'
  refine sim_bind (sim_elem ha _) fun x y hx => sim_ite Iff.rfl (fun _ => sim_lt hx hk) fun _ => sim_bind (sim_lt hk hx) fun u v e => ?_
  subst e
  exact sim_pure rfl
theorem sim_gallop {l : Bool} {k k' : Keyed} {a a' : Array Keyed} {base n hint : Nat} (hk : RK T k k') (ha : RA T a a') : Sim T Eq (gallop' l k a base n hint) (gallop' l k' a' base n hint) := by
  rw [gallop'_eq, gallop'_eq]
  have hB : ∀ i, Sim T Eq (beyond' l k a base i) (beyond' l k' a' base i) := fun i => sim_beyond hk ha
  repeat' (first | exact sim_pure rfl | refine sim_bO (hB _) ?_ fun _ => ?_ | refine sim_bP (sim_forE fun _ _ => ?_) (fun _ => ?_) fun _ _ => ?_ | refine sim_ite Iff.rfl (fun _ => ?_) fun _ => ?_ | (dsimp only))
theorem ra_push {a b : Array Keyed} {x y : Keyed} (h : RA T a b) (hx : RK T x y) : RA T (a.push x) (b.push y) := by
  refine ⟨fun z hz => ?_, by rw [Array.map_push, h.2, hx.2]⟩
  rcases Array.mem_push.mp hz with q | q
  · exact h.1 z q
  · rw [q]; exact hx.1
theorem ra_app {a b c d : Array Keyed} (h : RA T a b) (h2 : RA T c d) : RA T (a ++ c) (b ++ d) := by
  refine ⟨fun z hz => ?_, by rw [Array.map_append, h.2, h2.2]⟩
  rcases Array.mem_append.mp hz with q | q
  · exact h.1 z q
  · exact h2.1 z q
theorem ra_ext {a b : Array Keyed} {i j : Nat} (h : RA T a b) : RA T (a.extract i j) (b.extract i j) := by
  refine ⟨fun z hz => ?_, by rw [h.2, Array.map_extract]⟩
  obtain ⟨k, hk, e⟩ := Array.mem_iff_getElem.mp hz
  rw [← e, Array.getElem_extract]
  exact h.1 _ (Array.getElem_mem _)
theorem ra_rev {a b : Array Keyed} (h : RA T a b) : RA T a.reverse b.reverse :=
  ⟨fun z hz => h.1 z (Array.mem_reverse.mp hz), by rw [h.2, Array.map_reverse]⟩
theorem ra_one {x y : Keyed} (hx : RK T x y) : RA T #[x] #[y] :=
  ⟨fun z hz => by
    have : z = x := by simpa using hz
    rw [this]; exact hx.1, by rw [hx.2]; simp⟩
def ORA (T : Tw) : Option (Array Keyed) → Option (Array Keyed) → Prop
  | none, none => True
  | some a, some b => RA T a b
  | _, _ => False
def RP (T : Tw) {σ : Type} (p q : Option (Array Keyed) × Array Keyed × σ) : Prop := ORA T p.1 q.1 ∧ RA T p.2.1 q.2.1 ∧ p.2.2 = q.2.2
theorem rp_none {σ : Type} {a b : Array Keyed} {r : σ} (h : RA T a b) : RP T (none, a, r) (none, b, r) := ⟨trivial, h, rfl⟩
theorem sr_done {γ δ : Type} {R : γ → δ → Prop} {a : γ} {b : δ} (h : R a b) : SR R (.done a) (.done b) := h
theorem sr_yield {γ δ : Type} {R : γ → δ → Prop} {a : γ} {b : δ} (h : R a b) : SR R (.yield a) (.yield b) := h
theorem rp_some {σ : Type} {v u a b : Array Keyed} {r : σ} (h1 : RA T v u) (h : RA T a b) : RP T (some v, a, r) (some u, b, r) := ⟨h1, h, rfl⟩
theorem sim_forP {σ α' β' : Type} {R : α' → β' → Prop} {x y : Nat} {f1 f2 : Nat → Option (Array Keyed) × Array Keyed × σ → StateT SortSt Sem (ForInStep (Option (Array Keyed) × Array Keyed × σ))} {c1 c2 : Option (Array Keyed) × Array Keyed × σ} {g1 : Option (Array Keyed) × Array Keyed × σ → StateT SortSt Sem α'} {g2 : Option (Array Keyed) × Array Keyed × σ → StateT SortSt Sem β'}
    (h : ∀ i o1 o2 u1 u2 r, ORA T o1 o2 → RA T u1 u2 → Sim T (SR (RP T)) (f1 i (o1, u1, r)) (f2 i (o2, u2, r))) (r0 : RP T c1 c2)
    (hn : ∀ u1 u2 r, RA T u1 u2 → Sim T R (g1 (none, u1, r)) (g2 (none, u2, r))) (hs : ∀ v1 v2 u1 u2 r, RA T v1 v2 → RA T u1 u2 → Sim T R (g1 (some v1, u1, r)) (g2 (some v2, u2, r))) : Sim T R (forIn [x:y] c1 f1 >>= g1) (forIn [x:y] c2 f2 >>= g2) := by
  refine sim_bind (sim_for (R := RP T) (fun i a b e => ?_) r0) fun a b e => ?_
  · obtain ⟨o1, u1, r1⟩ := a
    obtain ⟨o2, u2, r2⟩ := b
    obtain ⟨e1, e2, e3⟩ := e
    have e3 : r1 = r2 := e3
    subst e3
    exact h i o1 o2 u1 u2 r1 e1 e2
  · obtain ⟨o1, u1, r1⟩ := a
    obtain ⟨o2, u2, r2⟩ := b
    obtain ⟨e1, e2, e3⟩ := e
    have e3 : r1 = r2 := e3
    subst e3
    cases o1 with
    | none =>
      cases o2 with
      | none => exact hn u1 u2 r1 e2
      | some v => exact e1.elim
    | some v1 =>
      cases o2 with
      | none => exact e1.elim
      | some v2 => exact hs v1 v2 u1 u2 r1 e1 e2
end
end Cq

set_option Elab.async false
set_option linter.all false
set_option maxRecDepth 100000
set_option maxHeartbeats 4000000
namespace Cq
open PySem PyProof.Rows
section
variable {T : Tw}
theorem sim_min {g : Nat} : Sim T Eq (setMinGallop' g) (setMinGallop' g) := dg_min
theorem sim_mergeLo {a a' b b' : Array Keyed} (ha : RA T a a') (hb : RA T b b') : Sim T (RA T) (mergeLo' a b) (mergeLo' a' b') := by
  have za : a'.size = a.size := by rw [ha.2, Array.size_map]
  have zb : b'.size = b.size := by rw [hb.2, Array.size_map]
  rw [mergeLo'_eq, mergeLo'_eq]
  dsimp only
  rw [za, zb]
  refine sim_bind (sim_rule _) fun _ _ _ => sim_bind (sim_elem hb _) fun x y hx => sim_ite Iff.rfl (fun _ => ?_) fun _ => sim_ite Iff.rfl (fun _ => ?_) fun _ => sim_bind sim_get fun s1 s2 hs => ?_
  · exact sim_pure (ra_app (ra_app (ra_one hx) (ra_ext ha)) (ra_ext hb))
  · exact sim_pure (ra_app (ra_app (ra_one hx) (ra_ext hb)) (ra_ext ha))
  rw [hs.gal]
  repeat' (first | with_reducible refine sim_bind (sim_rule _) fun _ _ _ => ?_ | with_reducible refine sim_bind (sim_elem (by assumption) _) fun _ _ _ => ?_ | with_reducible refine sim_bO (sim_lt (by assumption) (by assumption)) ?_ fun _ => ?_ | with_reducible refine sim_bO (sim_gallop (by assumption) (by assumption)) ?_ fun _ => ?_ | with_reducible refine sim_bind sim_min fun _ _ _ => ?_ | with_reducible refine sim_ite Iff.rfl (fun _ => ?_) fun _ => ?_ | with_reducible refine sim_forP (fun _ _ _ _ _ _ _ _ => ?_) ?_ (fun _ _ _ _ => ?_) fun _ _ _ _ _ _ _ => ?_ | with_reducible exact sim_unsup | with_reducible refine sim_pure ?_ | with_reducible refine sr_done ?_ | with_reducible refine sr_yield ?_ | with_reducible refine rp_none ?_ | with_reducible refine rp_some ?_ ?_ | with_reducible assumption | with_reducible refine ra_push ?_ ?_ | with_reducible refine ra_app ?_ ?_ | with_reducible refine ra_ext ?_ | with_reducible refine ra_rev ?_ | with_reducible refine ra_one ?_ | (dsimp only))
def RH (T : Tw) {σ : Type} (p q : Option (Array Keyed) × Nat × Nat × Array Keyed × σ) : Prop := ORA T p.1 q.1 ∧ p.2.1 = q.2.1 ∧ p.2.2.1 = q.2.2.1 ∧ RA T p.2.2.2.1 q.2.2.2.1 ∧ p.2.2.2.2 = q.2.2.2.2
theorem rh_none {σ : Type} {n m : Nat} {a b : Array Keyed} {r : σ} (h : RA T a b) : RH T (none, n, m, a, r) (none, n, m, b, r) := ⟨trivial, rfl, rfl, h, rfl⟩
theorem rh_some {σ : Type} {n m : Nat} {v u a b : Array Keyed} {r : σ} (h1 : RA T v u) (h : RA T a b) : RH T (some v, n, m, a, r) (some u, n, m, b, r) := ⟨h1, rfl, rfl, h, rfl⟩
theorem sim_forH {σ α' β' : Type} {R : α' → β' → Prop} {x y : Nat} {f1 f2 : Nat → Option (Array Keyed) × Nat × Nat × Array Keyed × σ → StateT SortSt Sem (ForInStep (Option (Array Keyed) × Nat × Nat × Array Keyed × σ))} {c1 c2 : Option (Array Keyed) × Nat × Nat × Array Keyed × σ} {g1 : Option (Array Keyed) × Nat × Nat × Array Keyed × σ → StateT SortSt Sem α'} {g2 : Option (Array Keyed) × Nat × Nat × Array Keyed × σ → StateT SortSt Sem β'}
    (h : ∀ i o1 o2 n m u1 u2 r, ORA T o1 o2 → RA T u1 u2 → Sim T (SR (RH T)) (f1 i (o1, n, m, u1, r)) (f2 i (o2, n, m, u2, r))) (r0 : RH T c1 c2)
    (hn : ∀ n m u1 u2 r, RA T u1 u2 → Sim T R (g1 (none, n, m, u1, r)) (g2 (none, n, m, u2, r))) (hs : ∀ v1 v2 n m u1 u2 r, RA T v1 v2 → RA T u1 u2 → Sim T R (g1 (some v1, n, m, u1, r)) (g2 (some v2, n, m, u2, r))) : Sim T R (forIn [x:y] c1 f1 >>= g1) (forIn [x:y] c2 f2 >>= g2) := by
  refine sim_bind (sim_for (R := RH T) (fun i a b e => ?_) r0) fun a b e => ?_
  all_goals
    obtain ⟨o1, n1, m1, u1, r1⟩ := a
    obtain ⟨o2, n2, m2, u2, r2⟩ := b
    obtain ⟨e1, e2, e3, e4, e5⟩ := id e
    have e2 : n1 = n2 := e2
    have e3 : m1 = m2 := e3
    have e5 : r1 = r2 := e5
    subst e2 e3 e5
  · exact h i o1 o2 n1 m1 u1 u2 r1 e1 e4
  · cases o1 with
    | none =>
      cases o2 with
      | none => exact hn n1 m1 u1 u2 r1 e4
      | some v => exact e1.elim
    | some v1 =>
      cases o2 with
      | none => exact e1.elim
      | some v2 => exact hs v1 v2 n1 m1 u1 u2 r1 e1 e4
theorem sim_mergeHi {a a' b b' : Array Keyed} (ha : RA T a a') (hb : RA T b b') : Sim T (RA T) (mergeHi' a b) (mergeHi' a' b') := by
  have za : a'.size = a.size := by rw [ha.2, Array.size_map]
  have zb : b'.size = b.size := by rw [hb.2, Array.size_map]
  rw [mergeHi'_eq, mergeHi'_eq]
  dsimp only
  rw [za, zb]
  refine sim_bind (sim_rule _) fun _ _ _ => sim_bind (sim_elem ha _) fun x y hx => sim_ite Iff.rfl (fun _ => ?_) fun _ => sim_ite Iff.rfl (fun _ => ?_) fun _ => sim_bind sim_get fun s1 s2 hs => ?_
  · exact sim_pure (ra_app (ra_app (ra_ext ha) (ra_ext hb)) (ra_rev (ra_one hx)))
  · exact sim_pure (ra_app (ra_app (ra_ext hb) (ra_ext ha)) (ra_rev (ra_one hx)))
  rw [hs.gal]
  repeat' (first | with_reducible refine sim_bind (sim_rule _) fun _ _ _ => ?_ | with_reducible refine sim_bind (sim_elem (by assumption) _) fun _ _ _ => ?_ | with_reducible refine sim_bO (sim_lt (by assumption) (by assumption)) ?_ fun _ => ?_ | with_reducible refine sim_bO (sim_gallop (by assumption) (by assumption)) ?_ fun _ => ?_ | with_reducible refine sim_bind sim_min fun _ _ _ => ?_ | with_reducible refine sim_ite Iff.rfl (fun _ => ?_) fun _ => ?_ | with_reducible refine sim_forH (fun _ _ _ _ _ _ _ _ _ _ => ?_) ?_ (fun _ _ _ _ _ _ => ?_) fun _ _ _ _ _ _ _ _ _ => ?_ | with_reducible exact sim_unsup | with_reducible refine sim_pure ?_ | with_reducible refine sr_done ?_ | with_reducible refine sr_yield ?_ | with_reducible refine rh_none ?_ | with_reducible refine rh_some ?_ ?_ | with_reducible assumption | with_reducible refine ra_push ?_ ?_ | with_reducible refine ra_app ?_ ?_ | with_reducible refine ra_ext ?_ | with_reducible refine ra_rev ?_ | with_reducible refine ra_one ?_ | (dsimp only))
theorem ra_set {a b : Array Keyed} {i : Nat} {x : Keyed} (h : RA T a b) (hx : T.good x) : RA T (a.setIfInBounds i x) (b.setIfInBounds i (T.ph x)) := by
  refine ⟨fun z hz => ?_, by rw [h.2, Array.map_setIfInBounds]⟩
  rcases Array.mem_or_eq_of_mem_setIfInBounds hz with q | q
  · exact h.1 z q
  · rw [q]; exact hx
theorem ra_fold {sa : Nat} : ∀ (l : List Keyed) (n : Nat) (a b : Array Keyed), (∀ x ∈ l, T.good x) → RA T a b →
    RA T ((l.zipIdx n).foldl (fun a (p, j) => a.setIfInBounds (sa + j) p) a) (((l.map T.ph).zipIdx n).foldl (fun a (p, j) => a.setIfInBounds (sa + j) p) b)
  | [], _, _, _, _, h => h
  | x :: l, n, a, b, hg, h => by
    rw [List.map_cons, List.zipIdx_cons, List.zipIdx_cons, List.foldl_cons, List.foldl_cons]
    exact ra_fold l (n + 1) _ _ (fun y hy => hg y (List.mem_cons_of_mem _ hy)) (ra_set h (hg x (List.mem_cons_self ..)))
theorem dg_mergeAt {i : Nat} : Dg T (mergeAt' i) := by
  unfold Dg
  rw [mergeAt'_eq]
  refine sim_bind sim_get fun s1 s2 hs => ?_
  rw [hs.pend]
  cases h1 : (pendingOf s2)[i]? with
  | none => exact sim_unsup
  | some x =>
    obtain ⟨sa, na, pw⟩ := x
    cases h2 : (pendingOf s2)[i + 1]? with
    | none => exact sim_unsup
    | some y =>
      obtain ⟨sb, nb, pw2⟩ := y
      dsimp only
      refine sim_bind (sim_set ⟨hs.k1, hs.k2, hs.arr, rfl, hs.gal, hs.bad⟩) fun _ _ _ => ?_
      refine sim_bind (sim_elem hs.arr _) fun x y hx => sim_bO (sim_gallop hx hs.arr) (sim_pure rfl) fun k => ?_
      dsimp only
      refine sim_ite Iff.rfl (fun _ => sim_pure rfl) fun _ => ?_
      refine sim_bind (sim_elem hs.arr _) fun x y hx => sim_bO (sim_gallop hx hs.arr) (sim_pure rfl) fun nb => ?_
      dsimp only
      refine sim_ite Iff.rfl (fun _ => sim_pure rfl) fun _ => ?_
      have fin : ∀ m1 m2, RA T m1 m2 → Sim T Eq (do
          modify fun s => setArr s (m1.toList.zipIdx.foldl (fun a (p, j) => a.setIfInBounds (sa + k + j) p) (arrOf s))
          return (failedOf (← get)).isNone) (do
          modify fun s => setArr s (m2.toList.zipIdx.foldl (fun a (p, j) => a.setIfInBounds (sa + k + j) p) (arrOf s))
          return (failedOf (← get)).isNone) := fun m1 m2 hm => by
        refine sim_bind (sim_modify fun a b h => rs_arr h ?_) fun _ _ _ => sim_bind sim_get fun s3 s4 h3 => ?_
        · rw [hm.2, Array.toList_map]
          exact ra_fold _ _ _ _ (fun x hx => hm.1 x (by simpa using hx)) h.arr
        · rw [h3.bad]
          exact sim_pure rfl
      refine sim_ite Iff.rfl (fun _ => sim_bind (sim_mergeLo (ra_ext hs.arr) (ra_ext hs.arr)) fun m1 m2 hm => fin m1 m2 hm) fun _ => sim_bind (sim_mergeHi (ra_ext hs.arr) (ra_ext hs.arr)) fun m1 m2 hm => fin m1 m2 hm
theorem dg_get {α : Type} {g : SortSt → StateT SortSt Sem α} (h : ∀ s1 s2, pendingOf s1 = pendingOf s2 → g s1 = g s2) (k : ∀ s, Dg T (g s)) : Dg T (get >>= g) :=
  sim_bind sim_get fun a b r => by
    rw [h a b r.pend]
    exact k b
end
end Cq

set_option Elab.async false
set_option linter.all false
set_option maxRecDepth 100000
set_option maxHeartbeats 4000000
namespace Cq
open PySem PyProof.Rows
section
variable {T : Tw}
theorem dg_runs : Dg T sortRuns' := by
  unfold Dg
  rw [sortRuns'_eq]
  refine sim_bind sim_get fun s1 s2 hs => ?_
  have e : (arrOf s1).size = (arrOf s2).size := by rw [hs.arr.2, Array.size_map]
  rw [e]
  show Dg T _
  repeat' (first | exact dg_count | exact dg_binary | exact dg_mergeAt | exact dg_rule | exact dg_pure | exact dg_of (sim_modify fun a b h => ⟨h.k1, h.k2, h.arr, by (try dsimp only); rw [h.pend], h.gal, h.bad⟩) | refine dg_get (fun s1 s2 e => by (try dsimp only); rw [e]) fun _ => ?_ | refine dg_bind ?_ fun _ => ?_ | refine dg_for fun _ _ => ?_ | split | (dsimp only))
end
end Cq

set_option Elab.async false
set_option linter.all false
set_option maxRecDepth 100000
set_option maxHeartbeats 4000000
namespace Cq
open PySem PyProof.Rows
def enc : List Nat → Nat
  | [] => 0
  | d :: r => d * 16 ^ r.length + enc r
theorem enc_lt : ∀ {l : List Nat}, (∀ d ∈ l, d < 16) → enc l < 16 ^ l.length
  | [], _ => by decide
  | d :: r, h => by
    have h1 := enc_lt (l := r) fun x hx => h x (List.mem_cons_of_mem _ hx)
    have h2 := Nat.mul_le_mul (show d ≤ 15 by have := h d (List.mem_cons_self ..); omega) (Nat.le_refl (16 ^ r.length))
    rw [List.length_cons, Nat.pow_succ]
    show d * 16 ^ r.length + enc r < _
    omega
theorem enc_step {d e x y k : Nat} (hx : x < k) (hy : y < k) : d * k + x < e * k + y ↔ d < e ∨ d = e ∧ x < y := by
  constructor
  · intro h
    rcases Nat.lt_trichotomy d e with q | q | q
    · exact .inl q
    · subst q
      exact .inr ⟨rfl, by omega⟩
    · have := Nat.mul_le_mul (show e + 1 ≤ d from q) (Nat.le_refl k)
      rw [Nat.add_mul] at this
      omega
  · rintro (h | ⟨rfl, h⟩)
    · have := Nat.mul_le_mul (show d + 1 ≤ e from h) (Nat.le_refl k)
      rw [Nat.add_mul] at this
      omega
    · omega
theorem enc_lex : ∀ {a b : List Nat}, a.length = b.length → (∀ d ∈ a, d < 16) → (∀ d ∈ b, d < 16) → HT.lexLt (a.map fun (k : Nat) => (k : Int)) (b.map fun (k : Nat) => (k : Int)) = decide ((enc a : Int) < (enc b : Int))
  | [], [], _, _, _ => rfl
  | [], _ :: _, h, _, _ => by cases h
  | _ :: _, [], h, _, _ => by cases h
  | d :: a, e :: b, h, ha, hb => by
    have hl : a.length = b.length := Nat.succ.inj h
    have ha' : ∀ x ∈ a, x < 16 := fun x hx => ha x (List.mem_cons_of_mem _ hx)
    have hb' : ∀ x ∈ b, x < 16 := fun x hx => hb x (List.mem_cons_of_mem _ hx)
    have ih := enc_lex hl ha' hb'
    have l1 := enc_lt ha'
    have l2 := enc_lt hb'
    rw [← hl] at l2
    have st := enc_step (d := d) (e := e) l1 l2
    have e1 : enc (d :: a) = d * 16 ^ a.length + enc a := rfl
    have e2 : enc (e :: b) = e * 16 ^ a.length + enc b := by rw [hl]; rfl
    rw [List.map_cons, List.map_cons, HT.lexLt_cons, ih, e1, e2]
    by_cases q : d = e
    · subst q
      rw [if_pos rfl]
      refine decide_eq_decide.mpr ?_
      omega
    · rw [if_neg (by omega)]
      refine decide_eq_decide.mpr ?_
      rw [Int.ofNat_lt, Int.ofNat_lt, st]
      exact ⟨fun z => .inl z, fun z => z.resolve_right fun w => q w.1⟩
theorem enc_before : ∀ {a b : List Nat}, a.length = b.length → (∀ d ∈ a, d < 16) → (∀ d ∈ b, d < 16) → Sa97.before a b = true → enc a < enc b
  | [], [], _, _, _, h => by cases h
  | [], _ :: _, h, _, _, _ => by cases h
  | _ :: _, [], h, _, _, _ => by cases h
  | d :: a, e :: b, h, ha, hb, hq => by
    have hl : a.length = b.length := Nat.succ.inj h
    have ha' : ∀ x ∈ a, x < 16 := fun x hx => ha x (List.mem_cons_of_mem _ hx)
    have hb' : ∀ x ∈ b, x < 16 := fun x hx => hb x (List.mem_cons_of_mem _ hx)
    have l1 := enc_lt ha'
    have l2 := enc_lt hb'
    rw [← hl] at l2
    have e1 : enc (d :: a) = d * 16 ^ a.length + enc a := rfl
    have e2 : enc (e :: b) = e * 16 ^ a.length + enc b := by rw [hl]; rfl
    rw [e1, e2]
    refine (enc_step l1 l2).mpr ?_
    have hq : (decide (d < e) || (d == e && Sa97.before a b)) = true := hq
    rw [Bool.or_eq_true, Bool.and_eq_true, decide_eq_true_iff, beq_iff_eq] at hq
    exact hq.imp id fun ⟨x, y⟩ => ⟨x, enc_before hl ha' hb' y⟩
section
variable {prog : Program} {w : World} {s : Shared} {A : Around} {E : Value → Shared → Prop}
/-- a list of small numbers stands there -/
def LAt (h : Heap) (v : Value) (l : List Nat) : Prop := ∃ b xs, v = .ref b ∧ h.IsList b xs.toArray ∧ IntsAre xs (l.map fun (k : Nat) => (k : Int))
theorem key_lists {x y : Value} {l m : List Nat} {Q : Bool → Shared → Prop} (hx : LAt s.heap x l) (hy : LAt s.heap y m) (hl : l.length = m.length) (h1 : ∀ d ∈ l, d < 16) (h2 : ∀ d ∈ m, d < 16) (hu : A.units < cLine) (h : Q (decide ((enc l : Int) < (enc m : Int))) s) :
    wpAny (model prog w) A (keyLt' oneType' x y) Q E s := by
  obtain ⟨b, xs, rfl, ⟨⟨c1, d1, a1, s1⟩, o1, q1, n, f1⟩, hi⟩ := hx
  obtain ⟨c, ys, rfl, ⟨⟨c2, d2, a2, s2⟩, o2, q2, m2, f2⟩, hj⟩ := hy
  simp only at q1 f1 q2 f2
  subst q1 f1 q2 f2
  rw [← enc_lex hl h1 h2] at h
  rw [keyLt'_oneType, oneLt'_eq, if_pos rfl]
  exact wpAny_bind (wpAny_cRoomFor hu (wpAny_bind (wpAny_callSpecialIfBound?_slot ⟨_, o1, rfl⟩ PySem.F.slot_list_lt (call_meets PySem.F.slot_list_lt ⟨_, o1, rfl⟩ PySem.F.entry_list_lt (PySem.F.args_list_lt_2 _ _)
    (list_lt b c xs.toArray ys.toArray n m2 d1 d2 s1 s2 _ _ (by simpa using hi) (by simpa using hj)) ⟨o1, o2, wpAny_truthy_bool h⟩))))
theorem key_ints {a b : Int} {t u : Tok} {Γ : PySem.Ctx} (hG : Γ.In A) (p : Pos) (Q : Bool → Pos → Shared → Prop) (E' : Value → Pos → Shared → Prop) (h : Sem.wp (model prog w) Γ (keyLt' oneType' (.int a t) (.int b u)) Q E' p s) : ∃ p', Q (decide (a < b)) p' s := by
  have f : wpAny (model prog w) A (keyLt' oneType' (.int a t) (.int b u)) (fun r s' => r = decide (a < b) ∧ s' = s) (fun _ _ => False) s := oneLt_int ⟨rfl, rfl⟩
  rcases wp_one _ h (f Γ p hG) with ⟨r, p', s', hq, rfl, rfl⟩ | ⟨_, _, _, _, z⟩
  · exact ⟨p', hq⟩
  · exact z.elim
/-- two sorts: of lists, and of their numbers -/
theorem runs_lists {vs : List Value} {n : Nat} (cd : Value → List Nat) (hk : ∀ v ∈ vs, LAt s.heap v (cd v) ∧ (cd v).length = n ∧ ∀ d ∈ cd v, d < 16) (hu : A.units < cLine) (h2 : 2 ≤ vs.length) {R : Unit → SortSt → Prop}
    (h : ∀ st', failedOf st' = none → ((arrOf st').map (·.2)).toList.Perm vs → ((arrOf st').map (·.2)).toList.Pairwise (fun x y => enc (cd x) ≤ enc (cd y)) → R () st') :
    wpS (model prog w) A E s sortRuns' R (SortSt.mk' oneType' (pairsOf vs) #[] 7 none) := by
  intro Γ p hG
  let T : Tw := ⟨prog, w, A, E, s, Γ, fun x => (.int (enc (cd x.1)) 0, x.2), fun x => x.1 = x.2 ∧ x.1 ∈ vs, fun x y hx hy => by
    obtain ⟨l1, n1, d1⟩ := hk _ hx.2
    obtain ⟨l2, n2, d2⟩ := hk _ hy.2
    exact ⟨decide ((enc (cd x.1) : Int) < (enc (cd y.1) : Int)), fun Q hQ => key_lists l1 l2 (by rw [n1, n2]) d1 d2 hu hQ, fun p Q E' hw => key_ints hG p Q E' hw⟩⟩
  have hg : ∀ x ∈ pairsOf vs, T.good x := fun x hx => by
    have hx : x ∈ (pairsOf vs).toList := by simpa using hx
    rw [pairsOf_toList] at hx
    obtain ⟨e, hm⟩ := mem_zip_self hx
    exact ⟨e, hm⟩
  have rs : RS T (SortSt.mk' oneType' (pairsOf vs) #[] 7 none) (SortSt.mk' oneType' ((pairsOf vs).map T.ph) #[] 7 none) := ⟨rfl, rfl, ⟨hg, rfl⟩, rfl, rfl, rfl⟩
  have t2 : wpS (model prog w) A (fun _ _ => False) s sortRuns' (fun _ st' => (arrOf st').Perm ((pairsOf vs).map T.ph) ∧ failedOf st' = none ∧ SortedToK PyProof.Rows.intKind (arrOf st') ((pairsOf vs).map T.ph).size) (SortSt.mk' oneType' ((pairsOf vs).map T.ph) #[] 7 none) :=
    wpS_sortRunsAny (κ := PyProof.Rows.intKind) intKind_oneLt (fun q hq => by
      have hq : q ∈ (pairsOf vs).map T.ph := Array.mem_def.mpr hq
      obtain ⟨x, _, rfl⟩ := Array.mem_map.mp hq
      exact ⟨_, rfl⟩) ⟨Array.Perm.refl _, rfl, rfl⟩ rfl (by rw [Array.size_map, pairsOf_size]; exact h2) fun st' a b c => ⟨a, b, c⟩
  obtain ⟨r1, r2, st1, st2, p', _, rs', ⟨_, hp, hf, hs⟩, ev⟩ := dg_runs (T := T) _ _ rs p _ (t2 Γ p hG)
  refine ev (fun a b => R a b) (h st1 (rs'.bad.trans hf) ?_ ?_) Γ p hG
  · have e1 : (arrOf st2).map (·.2) = (arrOf st1).map (·.2) := by
      rw [rs'.arr.2, Array.map_map]
      rfl
    have e2 : ((pairsOf vs).map T.ph).map (·.2) = (pairsOf vs).map (·.2) := by
      rw [Array.map_map]
      rfl
    have e3 : ((pairsOf vs).map (·.2)).toList = vs := by
      rw [Array.toList_map, pairsOf_toList]
      exact List.map_snd_zip (Nat.le_refl _)
    have q := (Array.perm_iff_toList_perm.mp hp).map (·.2)
    rw [← Array.toList_map, ← Array.toList_map, e1, e2] at q
    exact q.trans (.of_eq e3)
  · refine List.pairwise_iff_getElem.mpr fun i j hi hj hij => ?_
    have zi : i < (arrOf st1).size := by simpa using hi
    have zj : j < (arrOf st1).size := by simpa using hj
    have sz : (arrOf st1).size = (arrOf st2).size := by rw [rs'.arr.2, Array.size_map]
    have q := hs i j (Nat.le_of_lt hij) (by rw [← hp.size_eq, ← sz]; exact zj)
    have kk : ∀ k, (z : k < (arrOf st1).size) → KK PyProof.Rows.intKind (arrOf st2) k = (enc (cd ((arrOf st1)[k]'z).2) : Int) := fun k z => by
      have g := rs'.arr.1 _ (Array.getElem_mem z)
      have e : (arrOf st2)[k]? = some (T.ph ((arrOf st1)[k]'z)) := by rw [rs'.arr.2, Array.getElem?_map, Array.getElem?_eq_getElem z]; rfl
      unfold KK
      rw [e, ← g.1]
      rfl
    rw [kk i zi, kk j zj] at q
    have q : decide ((enc (cd ((arrOf st1)[j]'zj).2) : Int) < (enc (cd ((arrOf st1)[i]'zi).2) : Int)) = false := q
    have q := of_decide_eq_false q
    simp only [Array.getElem_toList, Array.getElem_map]
    omega
theorem pairs_snd (vs : List Value) : ((pairsOf vs).map (·.2)).toList = vs := by
  rw [Array.toList_map, pairsOf_toList]
  exact List.map_snd_zip (Nat.le_refl _)
/-- list.sort over lists of small numbers, whatever its length -/
theorem sort_lists {a : Addr} {vs : List Value} {m n : Nat} {P : PySem.Fin → Shared → Prop} (cd : Value → List Nat) (ho : s.heap.get? a = some (seqObj "list" vs.toArray m)) (hk : ∀ v ∈ vs, v ≠ .ref a ∧ LAt s.heap v (cd v) ∧ (cd v).length = n ∧ ∀ d ∈ cd v, d < 16) (hL : vs.length ≤ sizeLine) (hu : A.units < cLine)
    (h : ∀ out : Array Value, out.toList.Perm vs → out.toList.Pairwise (fun x y => enc (cd x) ≤ enc (cd y)) → P (.done (.ret .none)) { s with heap := sortedHeap s.heap a vs out }) :
    wpAny (model prog w) A (Builtin.«list.sort» ⟨[Value.ref a], []⟩) P E s := by
  have hz := hL
  rw [sizeLine_eq] at hz
  have lt := Heap.lt_size ho
  obtain ⟨k, hk1⟩ : ∃ k, (s.heap.update a (Obj.mapSeq fun _ => (#[] : Array Value))).get? a = some (seqObj "list" #[] k) := ⟨_, get?_update_seq ho _⟩
  have hk6 : (G.sortHeap6 s.heap a vs).get? a = some (seqObj "list" #[] k) := Heap.get?_push_of_some _ (Heap.get?_push_of_some _ hk1)
  have keep : ∀ v ∈ vs, LAt (G.sortHeap6 s.heap a vs) v (cd v) ∧ (cd v).length = n ∧ ∀ d ∈ cd v, d < 16 := fun v hv => by
    obtain ⟨ne, ⟨b, xs, e, ⟨o, ho2, q⟩, hi⟩, r⟩ := hk v hv
    refine ⟨⟨b, xs, e, ⟨o, Heap.get?_push_of_some _ (Heap.get?_push_of_some _ ((Heap.get?_update_ne _ _ _ _ fun z => ne (by rw [e, z])).trans ho2)), q⟩, hi⟩, r⟩
  rw [list_sort_plain]
  refine wpAny_bind (listItems_at ho rfl (wpAny_bind (listUpdate_at ho rfl (wpAny_bind (seqEpoch_at hk1 rfl (wpAny_bind (wpAny_newTuple (wpAny_bind (wpAny_newList (wpAny_holding ?_))))))))))
  show wpAny (model prog w) A _ P E { s with heap := G.sortHeap6 s.heap a vs }
  by_cases few : vs.toArray.size < 2
  · rw [if_pos few, if_pos few]
    have z : vs.length < 2 := few
    refine wpAny_bind <| wpAny_pure ?_
    dsimp only
    rw [StateT.run_pure]
    refine wpAny_bind (wpAny_pure (wpAny_bind (seqEpoch_at hk6 rfl (wpAny_bind (listUpdate_at hk6 rfl ?_ (hsz2 := ?_))))))
    · simp only [bne_self_eq_false, if_false, Bool.false_eq_true]
      refine wpAny_pure (h _ (.of_eq (pairs_snd vs)) ?_)
      have e := pairs_snd vs
      show List.Pairwise _ ((pairsOf vs).map (·.2)).toList
      rw [e]
      match vs, z with
      | [], _ => exact .nil
      | [v], _ => exact List.pairwise_singleton ..
    · rw [Array.size_map]
      refine Nat.le_succ_of_le (show (pairsOf vs).size ≤ sizeLine from ?_)
      rw [pairsOf_size]
      exact hL
  · rw [if_neg few, if_neg few]
    have z : 2 ≤ vs.length := Nat.le_of_not_lt few
    refine wpAny_bind (W.kas_kind (T := .type "list") z (fun v hv => ?_) (by decide) (by decide) (wpAny_bind (wpAny_mono (runs_lists (s := { s with heap := G.sortHeap6 s.heap a vs }) (R := fun _ st' => failedOf st' = none ∧ ((arrOf st').map (·.2)).toList.Perm vs ∧ ((arrOf st').map (·.2)).toList.Pairwise (fun x y => enc (cd x) ≤ enc (cd y))) cd keep hu z fun st' a1 a2 a3 => ⟨a1, a2, a3⟩) ?_ fun _ _ e => e)))
    · obtain ⟨⟨b, xs, e, ⟨o, ho2, q, _⟩, _⟩, _⟩ := keep v hv
      rw [e]
      exact W.kitAt_ty _ _ ⟨o, ho2, q⟩
    · rintro ⟨⟨⟩, st'⟩ s' ⟨rfl, hf, hp, hs⟩
      refine wpAny_bind (seqEpoch_at hk6 rfl (wpAny_bind (listUpdate_at hk6 rfl ?_ (hsz2 := ?_))))
      · rw [hf]
        simp only [bne_self_eq_false, if_false, Bool.false_eq_true]
        exact wpAny_pure (h _ hp hs)
      · have := hp.length_eq
        rw [Array.length_toList] at this
        refine Nat.le_succ_of_le (show ((arrOf st').map (·.2)).size ≤ sizeLine from ?_)
        rw [this]
        exact hL
end
end Cq

set_option Elab.async false
set_option linter.all false
set_option maxRecDepth 100000
set_option maxHeartbeats 4000000
namespace Cq
open PySem PySem.Spec PyProof.Rows L2
theorem vals_refs : ∀ (bs : List Addr), Vals (bs.map V.ref) (bs.map Value.ref)
  | [] => .nil
  | _ :: bs => .cons rfl (vals_refs bs)
def adrOf : Value → Addr
  | .ref b => b
  | _ => 0
def rSortedL : List V → Hp → VK → Prop := fun vs H Q => ∃ (a : Addr) (bs : List Addr) (f : Addr → List Nat) (n : Nat), vs = [V.ref a] ∧ H a = some (.lst (bs.map V.ref)) ∧ (∀ b ∈ bs, H b = some (.lst ((f b).map nv)) ∧ (f b).length = n ∧ ∀ d ∈ f b, d < 16) ∧
  ∀ (bs' : List Addr) (p : Addr), bs'.Perm bs → bs'.Pairwise (fun x y => enc (f x) ≤ enc (f y)) → H p = none → Q (.ref p) (upd H p (.lst (bs'.map V.ref)))
theorem cr_sortedL {X : Cx} (hu : X.A.units + 64 < cLine) : CallR X (.builtin "sorted") rSortedL := by
  intro pins s σ H vs us Q I r h
  obtain ⟨a, bs, f, n, rfl, ha, hb, q⟩ := h
  rw [Vals.ref1 r]
  obtain ⟨hz, its, ep, rv, hg⟩ := I.hok a _ ha
  have e := refs_at rv
  subst e
  rw [List.length_map] at hz
  have hL : (bs.map Value.ref).length ≤ sizeLine := by rw [List.length_map]; exact hz
  have zz : ((s.heap.push (seqObj "list" #[] 0)).update s.heap.objs.size (Obj.mapSeq (· ++ (bs.map Value.ref).toArray))).objs.size = s.heap.objs.size + 1 := (Heap.size_update ..).trans (size_push' ..)
  have old : ∀ b o, s.heap.get? b = some o → (((s.heap.push (seqObj "list" #[] 0)).update s.heap.objs.size (Obj.mapSeq (· ++ (bs.map Value.ref).toArray))).push (seqObj "list" (bs.map Value.ref).toArray 0)).get? b = some o := fun b o eb =>
    Heap.get?_push_of_some _ ((Heap.get?_update_ne _ _ _ _ (Nat.ne_of_lt (Heap.lt_size eb))).trans (Heap.get?_push_of_some _ eb))
  have hoL : (((s.heap.push (seqObj "list" #[] 0)).update s.heap.objs.size (Obj.mapSeq (· ++ (bs.map Value.ref).toArray))).push (seqObj "list" (bs.map Value.ref).toArray 0)).get? (s.heap.objs.size + 1) = some (seqObj "list" (bs.map Value.ref).toArray 0) := by
    rw [← zz]
    exact Heap.get?_push_size _ (by rfl)
  refine Calls.call_function_entry kind_sorted plain_sorted entry_sorted (args_sorted1 _) (wpAny_bind (m := checkCount "sorted" 1 1 _) (wpAny_pure (wpAny_bind (collect_list (hsz := hL) ⟨_, hg, rfl, _, rfl⟩ (wpAny_bind (wpAny_newList ?_ hL))))))
  rw [zz]
  refine wpAny_bind (wpAny_holding (wpAny_call_entry slot_list_sort ⟨_, hoL, rfl⟩ entry_list_sort (sort_lists (n := n) (fun v => f (adrOf v)) hoL (fun v hv => ?_) hL (by show X.A.units + 1 + 1 < cLine; omega) fun out h1 h2 => ⟨_, rfl, wpAny_pure ⟨_, rfl, ?_⟩⟩) (args_list_sort _)))
  · obtain ⟨b, mb, rfl⟩ := List.mem_map.mp hv
    obtain ⟨e1, e2, e3⟩ := hb b mb
    obtain ⟨_, xs, m, rx, hx⟩ := I.hok b _ e1
    rw [nv_ints] at rx
    have lt := Heap.lt_size hx
    refine ⟨fun z => ?_, ⟨b, xs, rfl, ⟨_, old b _ hx, rfl, m, rfl⟩, rx.ints⟩, e2, e3⟩
    have z : b = s.heap.objs.size + 1 := Value.ref.inj z
    rw [z] at lt
    exact Nat.lt_irrefl _ (Nat.lt_of_succ_lt lt)
  · obtain ⟨ep', he'⟩ := sortedAll_at s.heap (bs.map Value.ref) out
    have eo : out.toList = (out.toList.map adrOf).map Value.ref := by
      rw [List.map_map]
      refine (List.map_id' _).symm.trans (List.map_congr_left fun v hv => ?_)
      obtain ⟨b, _, rfl⟩ := List.mem_map.mp (h1.mem_iff.mp hv)
      rfl
    have pm : (out.toList.map adrOf).Perm bs := by
      have := h1.map adrOf
      rw [List.map_map] at this
      exact this.trans (.of_eq (List.map_id' bs))
    have rv2 : Vals ((out.toList.map adrOf).map V.ref) out.toList := by
      have := vals_refs (out.toList.map adrOf)
      rw [← eo] at this
      exact this
    refine ⟨.ref _, upd H (s.heap.objs.size + 1) (.lst ((out.toList.map adrOf).map V.ref)), I.laid (t' := s.toks) (fun _ _ => sortedAll_old) (Nat.le_succ _) ⟨?_, out.toList, ep', rv2, he'⟩, rfl, q _ _ pm ?_ (I.hok.fresh (Nat.le_succ _))⟩
    · rw [List.length_map, pm.length_eq]
      exact hz
    · rw [List.pairwise_map]
      exact h2
end Cq

set_option Elab.async false
set_option linter.all false
set_option maxRecDepth 100000
set_option maxHeartbeats 4000000
namespace Cq
open PySem PySem.Spec PyProof.Rows L2
def natV : V → Nat
  | .int i => i.toNat
  | _ => 0
def rdL (H : Hp) (b : Addr) : List Nat := match H b with
  | some (.lst us) => us.map natV
  | _ => []
theorem rdL_at {H : Hp} {b : Addr} {l : List Nat} (h : H b = some (.lst (l.map nv))) : rdL H b = l := by
  unfold rdL
  rw [h]
  show (l.map nv).map natV = l
  rw [List.map_map]
  exact (List.map_congr_left fun _ _ => rfl).trans (List.map_id' l)
theorem pairs_refs {H : Hp} : ∀ {vs : List V} {ls : List (List Nat)}, Paired (NsR H) vs ls → ∃ bs : List Addr, vs = bs.map V.ref ∧ ls = bs.map (rdL H) ∧ ∀ b ∈ bs, H b = some (.lst ((rdL H b).map nv))
  | _, _, .nil => ⟨[], rfl, rfl, fun _ h => absurd h (by simp)⟩
  | _, _, .cons (l₁ := l) (l₂ := m) (a := v) (b := x) h r => by
    obtain ⟨bs, e1, e2, e3⟩ := pairs_refs r
    obtain ⟨b, rfl, hb⟩ := h
    have q := rdL_at hb
    refine ⟨b :: bs, by rw [e1]; rfl, by rw [e2, ← q]; rfl, fun c hc => ?_⟩
    rcases List.mem_cons.mp hc with z | z
    · rw [z, q]; exact hb
    · exact e3 c z
theorem ans_sorted {parts : List Sa97.Row} {d : Sa97.Rows} {heads : List Nat} {g : List (Nat × Nat)} {l : List (List Nat)} (hp : ∀ e ∈ Sx34.waysOf parts d, Plain e) (h : Hist g ((Sx34.waysOf parts d).map fun e => pk e &&& msk heads))
    (pm : l.Perm (g.map fun kn => heads.map (cval kn.1))) (srt : l.Pairwise fun a b => enc a ≤ enc b) : l = Sx34.sorted ((Sx34.waysOf parts d).map fun e => heads.map (Sx34.value e)) := by
  have sh : ∀ x ∈ l, x.length = heads.length ∧ ∀ v ∈ x, v < 16 := fun x hx => by
    obtain ⟨kn, _, rfl⟩ := List.mem_map.mp (pm.mem_iff.mp hx)
    refine ⟨List.length_map .., fun v hv => ?_⟩
    obtain ⟨n, _, rfl⟩ := List.mem_map.mp hv
    exact cval_lt _ _
  refine ans_eq hp h pm (List.Pairwise.imp_of_mem (fun {a b} ha hb hab z => ?_) srt)
  have := enc_before (by rw [(sh b hb).1, (sh a ha).1]) (sh b hb).2 (sh a ha).2 z
  omega
theorem ans_len {parts : List Sa97.Row} {d : Sa97.Rows} {heads : List Nat} {g : List (Nat × Nat)} (hp : ∀ e ∈ Sx34.waysOf parts d, Plain e) (h : Hist g ((Sx34.waysOf parts d).map fun e => pk e &&& msk heads)) :
    (Sx34.sorted ((Sx34.waysOf parts d).map fun e => heads.map (Sx34.value e))).length = g.length := by
  have pm := List.mergeSort_perm (g.map fun kn => heads.map (cval kn.1)) (fun a b => decide (enc a ≤ enc b))
  have st := List.pairwise_mergeSort (le := fun a b => decide (enc a ≤ enc b)) (fun a b c h1 h2 => by simp only [decide_eq_true_eq] at *; omega) (fun a b => by simp only [Bool.or_eq_true, decide_eq_true_eq]; omega) (g.map fun kn => heads.map (cval kn.1))
  rw [← ans_sorted hp h pm (st.imp fun q => of_decide_eq_true q), pm.length_eq, List.length_map]
theorem keys_few {α : Type} {L : List α} {f : α → Nat} {heads : List Nat} {g : List (Nat × Nat)} (h : Hist g (L.map fun e => f e &&& msk heads)) : g.length ≤ 16 ^ heads.length := by
  have := count_le (heads.map fun m => ((fun k => cval k m), List.range 16)) (g.map (·.1)) h.nd (fun k _ q hq => by
    obtain ⟨m, _, rfl⟩ := List.mem_map.mp hq
    exact List.mem_range.mpr (cval_lt _ _)) fun k hk k' hk' e => ext_cval fun m => by
      by_cases hm : m ∈ heads
      · exact e _ (List.mem_map.mpr ⟨m, hm, rfl⟩)
      · obtain ⟨x, _, rfl⟩ := List.mem_map.mp ((hist_mem h k).mp hk)
        obtain ⟨y, _, rfl⟩ := List.mem_map.mp ((hist_mem h k').mp hk')
        rw [cval_msk, cval_msk, if_neg hm, if_neg hm]
  rwa [prodF_pow _ (fun _ => List.length_range), List.length_map] at this
theorem ways_plain2 {parts : List Sa97.Row} {d : Sa97.Rows} (hd : RowsOk d) : ∀ e ∈ Sx34.waysOf parts d.eraseDups, Plain e := fun e he => ways_plain (fun r hr => (hd r (List.mem_eraseDups.mp hr)).2) parts [[]] (fun e0 h0 => by
  have : e0 = [] := by simpa using h0
  subst this
  exact plain_nil) e he
end Cq

set_option maxRecDepth 100000
set_option maxHeartbeats 4000000
namespace Cq
open PySem PySem.Spec PyProof.Rows L2
open PySem.W (Codec)
def top (i : Nat) : Stmt := PySem.Challenge.pw_askedtables_s01_cq_answers.main.body.getD i (.Pass ⟨0, 0, 0, 0⟩)
abbrev s_cq_answers : Stmt := top 12
abbrev s_read_question : Stmt := top 13
abbrev s_read_rows : Stmt := top 14
abbrev s_read_fours : Stmt := top 15
abbrev s_standing_names : Stmt := top 16
abbrev s_count_ways : Stmt := top 17
abbrev s_count_values : Stmt := top 18
abbrev s_steps_through : Stmt := top 19
abbrev s_values_within : Stmt := top 20
abbrev s_values_of : Stmt := top 21
abbrev s_values_beside : Stmt := top 22
abbrev s_fits_of : Stmt := top 23
abbrev s_fitting_choices : Stmt := top 24
abbrev s_choice_of : Stmt := top 25
abbrev s_cheapest_order : Stmt := top 26
abbrev s_how_many_values : Stmt := top 27
abbrev s_most_choices : Stmt := top 28
abbrev s_still_needed : Stmt := top 29
abbrev s_chosen : Stmt := top 30
abbrev s_value_in : Stmt := top 31
abbrev s_values_in : Stmt := top 32
abbrev s_bits_of : Stmt := top 33
structure Txt (K : PySem.W.Frag) (mg : Str → Option Value) (PL : Addr) : Prop where
  c_MOST_ROWS : Con1 mg "MOST_ROWS" (.int (128))
  c_MOST_HEADS : Con1 mg "MOST_HEADS" (.int (4))
  c_MOST_PARTS : Con1 mg "MOST_PARTS" (.int (10))
  c_HIGHEST_NAME : Con1 mg "HIGHEST_NAME" (.int (7))
  c_HIGHEST_VALUE : Con1 mg "HIGHEST_VALUE" (.int (15))
  c_ALL_VALUES : Con1 mg "ALL_VALUES" (.int (65535))
  c_HEADS_AT : Con1 mg "HEADS_AT" (.int (2))
  c_PARTS_AT : Con1 mg "PARTS_AT" (.int (6))
  c_NOT_AS_TOLD : Con1 mg "NOT_AS_TOLD" (.int (-2))
  c_MORE_THAN_MOST : Con1 mg "MORE_THAN_MOST" (.int (-1))
  c_PLACES : Con1 mg "PLACES" (.ref PL)
  t_PLACES : ∀ H : Hp, SqT K H PL ([1, 1, 1, 2, 2, 2, 3, 3].map nv)
  n_len : mg "len" = none
  n_all : mg "all" = none
  n_sum : mg "sum" = none
  n_sorted : mg "sorted" = none
  n_min : mg "min" = none
  n_range : mg "range" = none
  n_zip : mg "zip" = none
section
variable {P : Program} {w : World} {K : PySem.W.Frag} {mg : Str → Option Value} {base : Heap} {PL : Addr}
theorem sc_read_fours : FnScope ["numbers", "start", "count", "highest", "found", "at", "table", "at_places", "number"] ["numbers", "start", "count", "highest"] (defScope s_read_fours) := ⟨rfl, rfl, rfl, by decide +kernel, rfl, by decide +kernel, by decide +kernel⟩
/-- so many rows from a place on, if all of them are good -/
def sp_read_fours (K : PySem.W.Frag) : Sp := fun vs H Q _ => ∃ (a : Addr) (ns : List Int) (s c m : Nat), vs = [.ref a, nv s, nv c, nv m] ∧ SqL K H a (ns.map V.int) ∧ s + 4 * c ≤ ns.length ∧ ns.length ≤ 1000 ∧ (∀ i x, s ≤ i → ns[i]? = some x → 0 ≤ x) ∧
  ((¬ ∀ i, i < c → (rowFrom ns (s + 4 * i)).good (m + 1) = true) → ∀ H' : Hp, Same H H' → Q .non H') ∧
  ((∀ i, i < c → (rowFrom ns (s + 4 * i)).good (m + 1) = true) → ∀ (v : V) (H' : Hp), Same H H' → LR RowR (sub H' H) v ((List.range c).map fun i => rowFrom ns (s + 4 * i)) → Q v H')
theorem ok_read_fours {f : Addr} {fd : FuncData} (F : Fun K "read_fours" "read_fours" s_read_fours f fd) (T : Txt K mg PL)  : FnOk P w K mg base CX0 1 f fd ["numbers", "start", "count", "highest"] (sp_read_fours K) := by
  refine F.ok sc_read_fours (fun vs H Q E h => ?_) (fun cdv A outer s H vs Q E hr h => ?_)
  · obtain ⟨a, ns, s, c, m, rfl, _⟩ := h
    rfl
  · obtain ⟨a, ns, st, c, m, rfl, ha, hlen, hbig, hpos, kNo, kYes⟩ := h
    have hu := hu_of hr
    refine ⟨_, (pss_cons (ps_set (i := 4) sc_read_fours.nd rfl (by first | exact Or.inl rfl | exact Or.inr rfl) (pe_lst pa_nil))
      (pss_cons (ps_for PassesOwn.never rfl (pi_range3 rfl T.n_range (pa_cons (pv 1) (pa_cons (pe_op op_add (pv 1) (pe_op op_mul pe_int (pv 2))) (pa_cons pe_int pa_nil)))) (pg_name (i := 5) sc_read_fours.nd rfl (by first | exact Or.inl rfl | exact Or.inr rfl))
      (pss_cons (ps_set (i := 6) sc_read_fours.nd rfl (by first | exact Or.inl rfl | exact Or.inr rfl) (pe_ix ix_list (pv 0) (pv 5) (fun _ _ => rfl)))
      (pss_cons (ps_if (pt_not (pt_chain op_le op_lt pe_int (pv 6) (pe_callB call_len_seq (by rfl) T.n_len b_len (pa_cons (pe_gl rfl T.c_PLACES) pa_nil)))) (pss_one (ps_ret pe_non)) pss_nil)
      (pss_cons (ps_set (i := 7) sc_read_fours.nd rfl (by first | exact Or.inl rfl | exact Or.inr rfl) (pe_slice sl_list (pv 0) (po_some (pe_op op_add (pv 5) pe_int)) (po_some (pe_op op_add (pe_op op_add (pv 5) pe_int) (pe_ix ix_tup (pe_gl rfl T.c_PLACES) (pv 6) (fun _ _ => rfl))))))
      (pss_cons (ps_if (pt_not (pt_val (pe_callB (cr_all rfl) (by rfl) T.n_all b_all (pa_cons (pe_lc (own := [(("number" : Str), 8)]) rfl sc_read_fours.nd (pi_list (pv 7)) (blkOk_by (N := ["numbers", "start", "count", "highest", "found", "at", "table", "at_places", "number"]) (sc := defScope s_read_fours) (by decide +kernel)) (fun _ _ _ _ _ => (pg_name (i := 8) sc_read_fours.nd rfl (by first | exact Or.inl rfl | exact Or.inr rfl))) (fun _ _ _ _ _ => pts_nil) (fun _ _ _ _ _ => (pe_chain op_le op_le pe_int (pv 8) (pv 3)))) pa_nil)))) (pss_one (ps_ret pe_non)) pss_nil)
      (pss_one (ps_expr (pe_bm PySem.F.plainAttrs_list PySem.F.slot_list_append PySem.F.type_list_append mt_append (pv 4) (pa_cons (pe_tup (pa_cons (pv 6) (pa_cons (pv 7) pa_nil))) pa_nil)))))))))
      (pss_one (ps_ret (pv 4))))), ?_⟩
    refine ⟨Nat.zero_le _, fun D hD => ?_⟩
    have A0 : Acc RowR H (upd H D (.lst [])) D [] := Acc.start (Same.refl H) hD
    refine ⟨_, rfl, _, rfl, _, rfl, _, _, rfl, rfl, .inl ⟨by decide, by decide⟩, _, _, rfl, rfl, _, _, _, c, rfl, rg4 (by omega), ?_⟩
    refine for_rangeC (fun i σ H' => ∃ v5 v6 v7 v8 : Option V, σ = [some (.ref a), some (nv st), some (nv c), some (nv m), some (.ref D), v5, v6, v7, v8] ∧ i ≤ c ∧ Acc RowR H H' D ((List.range i).map fun i => rowFrom ns (st + 4 * i)) ∧ ∀ j, j < i → (rowFrom ns (st + 4 * j)).good (m + 1) = true)
      ⟨none, none, none, none, rfl, Nat.zero_le _, A0, fun j hj => absurd hj (Nat.not_lt_zero _)⟩ ?_ ?_
    · rintro i σ H1 hi ⟨v5, v6, v7, v8, rfl, _, A1, G1⟩
      obtain ⟨t, ht⟩ : ∃ t, ns[st + 4 * i]? = some t := ⟨_, List.getElem?_eq_getElem (by omega)⟩
      have ht0 := hpos _ _ (by omega) ht
      have eat : ((st : Int) + (i : Nat) * 4) = ((st + 4 * i : Nat) : Int) := by omega
      have s1 := A1.same.seq ha
      refine ⟨_, rfl, _, rfl, a, _, _, _, rfl, rfl, s1, at_of (j := st + 4 * i) eat (by rw [List.getElem?_map, ht]; rfl), ?_⟩
      have tb : (rowFrom ns (st + 4 * i)).table = t.toNat := rowFrom_table ht
      have gd := rowFrom_good (ns := ns) (a := st + 4 * i) (m := m + 1) (by omega)
      refine ⟨_, rfl, _, _, rfl, rfl, _, rfl, ?_⟩
      refine ifT (decide_eq_true ht0) ?_
      refine ⟨PL, _, rfl, .inr (T.t_PLACES _), _, _, rfl, rfl, _, rfl, ?_⟩
      refine ite2 (fun hno => ?_) (fun hyes => ?_)
      · refine kNo (fun all => ?_) _ A1.same
        have q := all i hi
        rw [gd, tb] at q
        have : ¬ t < 8 := by simpa using hno
        simp at q
        omega
      · have t8 : t < 8 := by simpa using hyes
        have tn : t.toNat < 8 := by omega
        have epl : Sa97.places t.toNat = plc t.toNat := (plc_places tn).symm
        have p3 : Sa97.places t.toNat ≤ 3 := places_le _
        refine ⟨_, rfl, _, rfl, _, _, rfl, rfl, _, rfl, _, rfl, _, _, rfl, rfl, _, rfl, PL, _, _, _, rfl, rfl, T.t_PLACES _, at_of (j := t.toNat) (by omega) (plc_at tn), _, _, rfl, rfl, _, rfl, a, _, rfl, s1, fun b hb => ?_⟩
        have cut := cut_row (ns := ns) (a := st + 4 * i) (k := Sa97.places t.toNat) (by omega) (fun j x hj => hpos j x (by omega))
        rw [eat, ← epl, cut, ← tb, ← rowFrom_at]
        have s2 : Same H1 (upd H1 b (.lst ((rowFrom ns (st + 4 * i)).at_.map nv))) := new_upd hb
        have len3 : (rowFrom ns (st + 4 * i)).at_.length ≤ 3 := by rw [rowFrom_len (by omega)]; exact places_le _
        refine ⟨_, rfl, b, rfl, ⟨_, SqL.of upd_same⟩, fun D2 hD2 => ?_⟩
        refine lc_map (R := BR) mono_B hD2 (SqL.of upd_same) (rowFrom ns (st + 4 * i)).at_ (fun x => decide (x ≤ m)) (List.length_map ..) (by omega) (fun j x y H' N hx hy sH yes => ?_) (fun H3 s3 hL => ?_)
        · obtain ⟨z, hz, rfl⟩ := map_at hx
          cases Option.some.inj (hz.symm.trans hy)
          refine ⟨rfl, _, rfl, _, _, rfl, rfl, _, rfl, ?_⟩
          refine ifT (by simp) ?_
          exact ⟨_, rfl, _, _, rfl, rfl, yes _ _ (Same.refl _) (by show V.bl _ = V.bl _; congr 1; simp)⟩
        · refine ⟨D2, _, rfl, LR_bl hL, _, rfl, ?_⟩
          refine ite2 (fun hno => ?_) (fun hyes2 => ?_)
          · refine kNo (fun all => ?_) _ ((A1.same.trans s2).trans s3)
            have q := all i hi
            rw [gd] at q
            have q2 := (Bool.and_eq_true _ _).mp q
            rw [all_le] at hno
            rw [q2.2] at hno
            cases hno
          · have gi : (rowFrom ns (st + 4 * i)).good (m + 1) = true := by
              rw [gd, tb, Bool.and_eq_true]
              refine ⟨decide_eq_true tn, ?_⟩
              rw [all_le] at hyes2
              simpa using hyes2
            have s13 : Same H1 H3 := s2.trans s3
            refine ⟨_, rfl, .inl ⟨rfl, _, (A1.keep mono_Row s13).sq⟩, _, rfl, _, rfl, (by show 2 ≤ sizeLine; decide), fun T1 hT1 => ?_⟩
            have s14 : Same H1 (upd H3 T1 (.tup [.int t, .ref b])) := s13.trans (new_upd hT1)
            obtain ⟨acc, q1, q2, q3⟩ := A1.push (y := .ref T1) (x := rowFrom ns (st + 4 * i)) mono_Row s14 ⟨T1, .int t, .ref b, rfl, sub_new (s13.free hT1), by rw [tb]; show V.int t = V.int _; congr 1; omega, b, rfl, sub_iff.mpr ⟨hb, (new_upd hT1) _ _ (s3 _ _ upd_same)⟩⟩
            refine ⟨D, acc, _, rfl, rfl, q1, ?_, _, _, _, _, rfl, hi, ?_, fun j hj => ?_⟩
            · rw [q2, List.length_map, List.length_range]
              exact small1000 (by omega)
            · rw [List.range_succ, List.map_append]
              exact q3
            · by_cases e : j = i
              · rw [e]
                exact gi
              · exact G1 j (by omega)
    · rintro σ H1 ⟨v5, v6, v7, v8, rfl, _, A1, G1⟩
      exact ⟨_, rfl, kYes G1 _ _ A1.same (A1.done mono_Row)⟩
theorem sc_standing_names : FnScope ["parts", "standing", "part", "name"] ["parts"] (defScope s_standing_names) := ⟨rfl, rfl, rfl, by decide +kernel, rfl, by decide +kernel, by decide +kernel⟩
/-- the names of the parts, each once, from the least on -/
def sp_standing_names (_ : PySem.W.Frag) : Sp := fun vs H Q _ => ∃ (v : V) (ps : List Sa97.Row), vs = [v] ∧ LR RowR H v ps ∧ ps.length ≤ 10 ∧ (∀ r ∈ ps, ∀ x ∈ r.at_, x < 8) ∧
  ∀ (u : V) (ns : List Nat) (H' : Hp), Same H H' → NsR (sub H' H) u ns → ns.Pairwise (· < ·) → (∀ x, x ∈ ns ↔ ∃ r ∈ ps, x ∈ r.at_) → Q u H'
theorem ok_standing_names {f : Addr} {fd : FuncData} (F : Fun K "standing_names" "standing_names" s_standing_names f fd) (T : Txt K mg PL)  : FnOk P w K mg base CX0 1 f fd ["parts"] (sp_standing_names K) := by
  refine F.ok sc_standing_names (fun vs H Q E h => ?_) (fun cdv A outer s H vs Q E hr h => ?_)
  · obtain ⟨v, ps, rfl, _⟩ := h
    rfl
  · obtain ⟨v, ps, rfl, hv, hlen, h8, k⟩ := h
    obtain ⟨a, vs, rfl, ha, hp⟩ := hv
    have hu := hu_of hr
    refine ⟨_, (pss_cons (ps_set (i := 1) sc_standing_names.nd rfl (by first | exact Or.inl rfl | exact Or.inr rfl) pe_dnewK)
      (pss_cons (ps_for PassesOwn.never rfl (pi_list (pv 0)) (pg_name (i := 2) sc_standing_names.nd rfl (by first | exact Or.inl rfl | exact Or.inr rfl))
      (pss_one (ps_for PassesOwn.never rfl (pi_list (pe_ix ix_tup (pv 2) pe_int (fun _ _ => rfl))) (pg_name (i := 3) sc_standing_names.nd rfl (by first | exact Or.inl rfl | exact Or.inr rfl))
      (pss_one (ps_dput hu (pv 1) (pv 3) pe_bl rfl)))))
      (pss_one (ps_ret (pe_callB (cr_sortedD rfl) (by rfl) T.n_sorted b_sorted (pa_cons (pv 1) pa_nil)))))), ?_⟩
    intro d hd
    have s0 : Same H (upd H d (.dK [])) := new_upd hd
    have keep : ∀ {H' : Hp}, Same H H' → SqL K H' a vs := fun s => SqL.of (s _ _ ha)
    refine ⟨_, rfl, a, rfl, ⟨_, keep s0⟩, for_list (K := K) (a := a) (xs := vs) (fun i σ H' => ∃ v2 v3 : Option V, σ = [some (.ref a), some (.ref d), v2, v3] ∧ Same H H' ∧ H' d = some (.dK (kvF fU (setOf ((ps.take i).flatMap fun r => r.at_)))))
      ⟨none, none, rfl, s0, upd_same⟩ (fun i σ H' _ ⟨_, _, _, s, _⟩ => keep s) ?_ ?_⟩
    · rintro i x σ H1 hi ⟨v2, v3, rfl, s1, d1⟩
      obtain ⟨r, hr1, hR⟩ := paired_at hp hi
      obtain ⟨b, c, rfl, hb, hc⟩ := Row_out hR
      refine ⟨_, rfl, b, _, _, _, rfl, rfl, SqT.of (s1 _ _ hb), atI_nat (j := 1) rfl, c, rfl, ⟨_, SqL.of (s1 _ _ hc)⟩, ?_⟩
      have tk : (ps.take (i + 1)).flatMap (fun r => r.at_) = ((ps.take i).flatMap fun r => r.at_) ++ r.at_ := by
        rw [List.take_add_one, hr1, List.flatMap_append]
        show _ ++ [r].flatMap _ = _
        rw [List.flatMap_singleton]
      refine for_list (K := K) (a := c) (xs := r.at_.map nv) (fun j σ H' => ∃ v3 : Option V, σ = [some (.ref a), some (.ref d), some (.ref b), v3] ∧ Same H H' ∧ H' d = some (.dK (kvF fU (setOf (((ps.take i).flatMap fun r => r.at_) ++ r.at_.take j)))))
        ⟨v3, rfl, s1, by rw [List.take_zero, List.append_nil]; exact d1⟩ (fun j σ H' _ ⟨_, _, s, _⟩ => SqL.of (s _ _ hc)) ?_ ?_
      · rintro j y σ H2 hj ⟨w3, rfl, s2, d2⟩
        obtain ⟨n, hn, rfl⟩ := map_at hj
        have sm : ((ps.take i).flatMap fun r => r.at_) ++ r.at_.take (j + 1) = (((ps.take i).flatMap fun r => r.at_) ++ r.at_.take j) ++ [n] := by
          rw [List.take_add_one, hn, List.append_assoc]
          rfl
        refine ⟨_, rfl, _, rfl, d, _, rfl, DPut.k (k := Sum.inl (n : Int)) d2 ?_, _, rfl, to_upd s2 hd, ?_⟩
        · rw [kvF_len]
          refine small1000 (Nat.le_trans (setOf_len (n := 8) fun x hx => ?_) (by decide))
          rcases List.mem_append.mp hx with z | z
          · obtain ⟨r', hr', hx'⟩ := List.mem_flatMap.mp z
            exact h8 r' (List.mem_of_mem_take hr') x hx'
          · exact h8 r (List.mem_of_getElem? hr1) x (List.mem_of_mem_take z)
        · rw [upd_same, sm, setOf_snoc, ← putK_F]
          rfl
      · rintro σ H2 ⟨w3, rfl, s2, d2⟩
        rw [List.length_map, List.take_length, ← tk] at d2
        exact ⟨_, _, rfl, s2, d2⟩
    · rintro σ H1 ⟨v2, v3, rfl, s1, d1⟩
      rw [paired_len hp, List.take_length] at d1
      refine ⟨_, rfl, d, _, _, _, rfl, d1, ?_, fun ns p pm srt hpn => ?_⟩
      · refine Nat.lt_of_le_of_lt (setOf_len (n := 8) fun x hx => ?_) (by decide)
        obtain ⟨r', hr', hx'⟩ := List.mem_flatMap.mp hx
        exact h8 r' hr' x hx'
      · refine k _ ns _ (s1.trans (new_upd hpn)) ⟨p, rfl, sub_new (s1.free hpn)⟩ (strict_of pm (setOf_nd _) srt) fun x => ?_
        rw [pm.mem_iff, mem_setOf, List.mem_flatMap]
theorem sc_values_of : FnScope ["allowed", "value"] ["allowed"] (defScope s_values_of) := ⟨rfl, rfl, rfl, by decide +kernel, rfl, by decide +kernel, by decide +kernel⟩
/-- the values in a mask of values -/
def sp_values_of (_ : PySem.W.Frag) : Sp := fun vs H Q _ => ∃ a : Nat, vs = [nv a] ∧ ∀ (w : V) (H' : Hp), Same H H' → NsR (sub H' H) w (valsOf a) → Q w H'
theorem ok_values_of {f : Addr} {fd : FuncData} (F : Fun K "values_of" "values_of" s_values_of f fd) (T : Txt K mg PL)  : FnOk P w K mg base CX0 1 f fd ["allowed"] (sp_values_of K) := by
  refine F.ok sc_values_of (fun vs H Q E h => ?_) (fun cdv A outer s H vs Q E hr h => ?_)
  · obtain ⟨a, rfl, _⟩ := h
    rfl
  · obtain ⟨a, rfl, k⟩ := h
    refine ⟨_, (pss_one (ps_ret (pe_lc (own := [(("value" : Str), 1)]) rfl sc_values_of.nd (pi_range1 rfl T.n_range (pa_cons (pe_op op_add (pe_gl rfl T.c_HIGHEST_VALUE) pe_int) pa_nil)) (blkOk_by (N := ["allowed", "value"]) (sc := defScope s_values_of) (by decide +kernel)) (fun _ _ _ _ _ => (pg_name (i := 1) sc_values_of.nd rfl (by first | exact Or.inl rfl | exact Or.inr rfl))) (fun _ _ _ _ _ => (pts_one (pt_truthK (K := K) rfl (pe_op op_and (pv 0) (pe_op op_shl pe_int (pv 1))) (fun _ => rfl)))) (fun _ _ _ _ _ => (pv 1))))), ?_⟩
    refine ⟨_, _, rfl, rfl, 16, rfl, by decide, by decide, fun D hD => ?_⟩
    refine lc_rng (n := Int.toNat 16) (R := NR) mono_N hD (fun v => if a.testBit v = true then some v else none) (by decide) (fun i H' N hi sH yes no => ?_) (fun H2 s2 hL => ?_)
    · have hi : i < 16 := hi
      refine ⟨rfl, _, rfl, _, rfl, _, _, rfl, rfl, ⟨by omega, by omega, by decide⟩, _, _, rfl, rfl, _, rfl, ?_⟩
      have e0 : (0 + ((i : Nat) : Int)) = (i : Int) := by omega
      have e : (Builtin.bitAnd (a : Int) ((1 : Int) * 2 ^ ((0 + ((i : Nat) : Int))).toNat) != 0) = a.testBit i := by
        have := v_pow i
        injection this with this
        rw [e0, this, b_and, and_pow_ne]
      refine ite2 (fun hy => ?_) (fun hn => ?_)
      · have hb : a.testBit i = true := e.symm.trans hy
        exact ⟨_, rfl, yes _ _ i (if_pos hb) (Same.refl _) (by show V.int _ = V.int _; rw [e0])⟩
      · exact no _ (if_neg fun z => hn (e.trans z)) (Same.refl _)
    · refine k _ H2 s2 ?_
      have := LR_Ns (show LR NR (sub H2 H) (.ref D) ((List.range 16).filterMap fun v => if a.testBit v = true then some v else none) from hL)
      have ev : (List.range 16).filterMap (fun v => if a.testBit v = true then some v else none) = valsOf a := by
        unfold valsOf
        have := filter_fm (fun v => a.testBit v) (fun v => v) (List.range 16)
        rw [List.map_id'] at this
        exact this.symm
      rw [ev] at this
      exact this
theorem sc_most_choices : FnScope ["needed", "sized", "product", "name", "own", "size"] ["needed", "sized"] (defScope s_most_choices) := ⟨rfl, rfl, rfl, by decide +kernel, rfl, by decide +kernel, by decide +kernel⟩
/-- how many choices at the most -/
def sp_most_choices (_ : PySem.W.Frag) : Sp := fun vs H Q _ => ∃ (nd : Nat) (v : V) (sz : List Siz), vs = [nv nd, v] ∧ LR SizR H v sz ∧ (∀ s ∈ sz, s.2.2 ≤ 16) ∧ Q (nv (mcN nd sz)) H
theorem ok_most_choices {f : Addr} {fd : FuncData} (F : Fun K "most_choices" "most_choices" s_most_choices f fd) (T : Txt K mg PL)  : FnOk P w K mg base CX0 1 f fd ["needed", "sized"] (sp_most_choices K) := by
  refine F.ok sc_most_choices (fun vs H Q E h => ?_) (fun cdv A outer s H vs Q E hr h => ?_)
  · obtain ⟨nd, v, sz, rfl, _⟩ := h
    rfl
  · obtain ⟨nd, v, sz, rfl, ⟨a, vs, rfl, ha, hp⟩, h16, k⟩ := h
    refine ⟨_, (pss_cons (ps_set (i := 2) sc_most_choices.nd rfl (by first | exact Or.inl rfl | exact Or.inr rfl) pe_int)
      (pss_cons (ps_for PassesOwn.never rfl (pi_list (pv 1)) (pg_tup rfl (pgs_cons (pg_name (i := 3) sc_most_choices.nd rfl (by first | exact Or.inl rfl | exact Or.inr rfl)) (pgs_cons (pg_name (i := 4) sc_most_choices.nd rfl (by first | exact Or.inl rfl | exact Or.inr rfl)) (pgs_cons (pg_name (i := 5) sc_most_choices.nd rfl (by first | exact Or.inl rfl | exact Or.inr rfl)) pgs_nil))))
      (pss_one (ps_if (pt_truth (pe_op op_and (pv 0) (pv 4)) (fun _ => rfl)) (pss_one (ps_aug (i := 2) sc_most_choices.nd rfl (by first | exact Or.inl rfl | exact Or.inr rfl) (pv 5) (pip_of iop_mul))) pss_nil)))
      (pss_one (ps_ret (pv 2))))), ?_⟩
    refine ⟨_, rfl, a, rfl, ⟨_, SqL.of ha⟩, for_list (K := K) (a := a) (xs := vs) (fun i σ H' => ∃ v3 v4 v5 : Option V, σ = [some (nv nd), some (.ref a), some (nv (mcN nd (sz.take i))), v3, v4, v5] ∧ H' = H)
      ⟨none, none, none, rfl, rfl⟩ (fun i σ H' _ ⟨_, _, _, _, e⟩ => by rw [e]; exact SqL.of ha) ?_ ?_⟩
    · rintro i x σ H1 hi ⟨v3, v4, v5, rfl, rfl⟩
      obtain ⟨f, hf, hR⟩ := paired_at hp hi
      obtain ⟨b, rfl, hb⟩ := Siz_out hR
      have f16 := h16 f (List.mem_of_getElem? hf)
      have tk : mcN nd (sz.take (i + 1)) = if nd &&& f.2.1 ≠ 0 then mcN nd (sz.take i) * f.2.2 else mcN nd (sz.take i) := by
        unfold mcN
        rw [List.take_add_one, hf, List.foldl_append]
        rfl
      refine ⟨b, _, rfl, SqT.of hb, rfl, _, _, rfl, _, _, rfl, _, _, rfl, rfl, ?_⟩
      refine ⟨_, rfl, _, rfl, _, _, rfl, rfl, _, rfl, ?_⟩
      refine ite2 (fun hne => ?_) (fun heq => ?_)
      · have h1 : nd &&& f.2.1 ≠ 0 := (ne_zero_int _).mp (by rw [← b_and]; exact hne)
        refine ⟨_, rfl, _, rfl, _, _, rfl, rfl, .inr ⟨by omega, by omega⟩, some (nv f.1), some (nv f.2.1), some (nv f.2.2), ?_, rfl⟩
        rw [tk, if_pos h1]
        show [_, _, some (V.int (_ * _)), _, _, _] = [_, _, some (V.int _), _, _, _]
        rw [Int.natCast_mul]
      · have h1 : ¬ nd &&& f.2.1 ≠ 0 := fun z => heq (by
          show (Builtin.bitAnd _ _ != 0) = true
          rw [b_and]
          exact (ne_zero_int _).mpr z)
        refine ⟨some (nv f.1), some (nv f.2.1), some (nv f.2.2), ?_, rfl⟩
        rw [tk, if_neg h1]
        rfl
    · rintro σ H1 ⟨v3, v4, v5, rfl, rfl⟩
      rw [paired_len hp, List.take_length]
      exact ⟨_, rfl, k⟩
theorem sc_still_needed : FnScope ["done", "fits", "kept", "needed", "bits", "choices"] ["done", "fits", "kept"] (defScope s_still_needed) := ⟨rfl, rfl, rfl, by decide +kernel, rfl, by decide +kernel, by decide +kernel⟩
/-- of the names that are done those that are kept, or stand beside one that isn't -/
def sp_still_needed (_ : PySem.W.Frag) : Sp := fun vs H Q _ => ∃ (d kp : Nat) (v : V) (fs : List (Nat × List Nat)), vs = [nv d, v, nv kp] ∧ LR FitR H v fs ∧ Q (nv (ndOf fs kp d)) H
theorem ok_still_needed {f : Addr} {fd : FuncData} (F : Fun K "still_needed" "still_needed" s_still_needed f fd) (T : Txt K mg PL)  : FnOk P w K mg base CX0 1 f fd ["done", "fits", "kept"] (sp_still_needed K) := by
  refine F.ok sc_still_needed (fun vs H Q E h => ?_) (fun cdv A outer s H vs Q E hr h => ?_)
  · obtain ⟨d, kp, v, fs, rfl, _⟩ := h
    rfl
  · obtain ⟨d, kp, v, fs, rfl, ⟨a, vs, rfl, ha, hp⟩, k⟩ := h
    refine ⟨_, (pss_cons (ps_set (i := 3) sc_still_needed.nd rfl (by first | exact Or.inl rfl | exact Or.inr rfl) (pv 2))
      (pss_cons (ps_for PassesOwn.never rfl (pi_list (pv 1)) (pg_tup rfl (pgs_cons (pg_name (i := 4) sc_still_needed.nd rfl (by first | exact Or.inl rfl | exact Or.inr rfl)) (pgs_cons (pg_name (i := 5) sc_still_needed.nd rfl (by first | exact Or.inl rfl | exact Or.inr rfl)) pgs_nil)))
      (pss_one (ps_if (pt_cmpR op_ne (pe_op op_and (pv 4) (pv 0)) (pv 4) (nomark _)) (pss_one (ps_aug (i := 3) sc_still_needed.nd rfl (by first | exact Or.inl rfl | exact Or.inr rfl) (pv 4) (pip_of iop_or))) pss_nil)))
      (pss_one (ps_ret (pe_op op_and (pv 3) (pv 0)))))), ?_⟩
    refine ⟨_, rfl, _, rfl, a, rfl, ⟨_, SqL.of ha⟩, for_list (K := K) (a := a) (xs := vs) (fun i σ H' => ∃ v4 v5 : Option V, σ = [some (nv d), some (.ref a), some (nv kp), some (nv ((fs.take i).foldl (fun n f => if f.1 &&& d ≠ f.1 then n ||| f.1 else n) kp)), v4, v5] ∧ H' = H)
      ⟨none, none, rfl, rfl⟩ (fun i σ H' _ ⟨_, _, _, e⟩ => by rw [e]; exact SqL.of ha) ?_ ?_⟩
    · rintro i x σ H1 hi ⟨v4, v5, rfl, rfl⟩
      obtain ⟨f, hf, hR⟩ := paired_at hp hi
      obtain ⟨b, c, rfl, hb, hc⟩ := Fit_out hR
      have tk : (fs.take (i + 1)).foldl (fun n f => if f.1 &&& d ≠ f.1 then n ||| f.1 else n) kp = if f.1 &&& d ≠ f.1 then (fs.take i).foldl (fun n f => if f.1 &&& d ≠ f.1 then n ||| f.1 else n) kp ||| f.1 else (fs.take i).foldl (fun n f => if f.1 &&& d ≠ f.1 then n ||| f.1 else n) kp := by
        rw [List.take_add_one, hf, List.foldl_append]
        rfl
      refine ⟨b, _, rfl, SqT.of hb, rfl, _, _, rfl, _, _, rfl, rfl, ?_⟩
      refine ⟨_, rfl, _, rfl, _, _, rfl, rfl, _, rfl, rfl, _, rfl, ?_⟩
      refine ite2 (fun hne => ?_) (fun heq => ?_)
      · have h1 : f.1 &&& d ≠ f.1 := fun z => by
          have : V.int (Builtin.bitAnd (f.1 : Int) (d : Int)) = nv f.1 := (v_and _ _).trans (congrArg nv z)
          have h2 : (!decide (V.int (Builtin.bitAnd (f.1 : Int) (d : Int)) = nv f.1)) = true := hne
          rw [this] at h2
          simp at h2
        refine ⟨_, rfl, _, rfl, _, _, rfl, rfl, some (nv f.1), some (.ref c), ?_, rfl⟩
        show [_, _, _, some (V.int (Builtin.bitOr _ _)), _, _] = _
        rw [v_or, tk, if_pos h1]
      · have h1 : ¬ f.1 &&& d ≠ f.1 := fun z => heq (by
          show (!decide (V.int (Builtin.bitAnd (f.1 : Int) (d : Int)) = nv f.1)) = true
          rw [v_and]
          have : ¬ nv (f.1 &&& d) = nv f.1 := fun q => z (by injection q with q; omega)
          simp [this])
        refine ⟨some (nv f.1), some (.ref c), ?_, rfl⟩
        rw [tk, if_neg h1]
        rfl
    · rintro σ H1 ⟨v4, v5, rfl, rfl⟩
      rw [paired_len hp, List.take_length]
      refine ⟨_, rfl, _, rfl, _, _, rfl, rfl, ?_⟩
      show Q (V.int (Builtin.bitAnd _ _)) _
      rw [v_and]
      exact k
theorem sc_chosen : FnScope ["name", "value"] ["name", "value"] (defScope s_chosen) := ⟨rfl, rfl, rfl, by decide +kernel, rfl, by decide +kernel, by decide +kernel⟩
/-- four bits a name -/
def sp_chosen (_ : PySem.W.Frag) : Sp := fun vs H Q _ => ∃ n v : Nat, vs = [nv n, nv v] ∧ n ≤ 1000 ∧ v < 65536 ∧ Q (nv (cho n v)) H
theorem ok_chosen {f : Addr} {fd : FuncData} (F : Fun K "chosen" "chosen" s_chosen f fd) (T : Txt K mg PL)  : FnOk P w K mg base CX0 1 f fd ["name", "value"] (sp_chosen K) := by
  refine F.ok sc_chosen (fun vs H Q E h => ?_) (fun cdv A outer s H vs Q E hr h => ?_)
  · obtain ⟨n, v, rfl, _⟩ := h
    rfl
  · obtain ⟨n, v, rfl, h1, h2, k⟩ := h
    refine ⟨_, (pss_one (ps_ret (pe_op op_shl (pv 1) (pe_op op_mul pe_int (pv 0))))), ?_⟩
    refine ⟨_, rfl, _, rfl, _, _, rfl, rfl, .inl ⟨by decide, by decide⟩, _, _, rfl, rfl, ⟨by omega, by omega, by omega⟩, ?_⟩
    have e : V.int ((v : Int) * 2 ^ ((4 : Int) * (n : Int)).toNat) = nv (cho n v) := by
      refine congrArg V.int ?_
      unfold cho
      rw [show ((4 : Int) * (n : Int)).toNat = 4 * n by omega, Int.natCast_mul, Int.natCast_pow]
      rfl
    show Q (V.int ((v : Int) * 2 ^ ((4 : Int) * (n : Int)).toNat)) H
    rw [e]
    exact k
theorem sc_value_in : FnScope ["choice", "name"] ["choice", "name"] (defScope s_value_in) := ⟨rfl, rfl, rfl, by decide +kernel, rfl, by decide +kernel, by decide +kernel⟩
/-- the value that the choice gives the name -/
def sp_value_in (_ : PySem.W.Frag) : Sp := fun vs H Q _ => ∃ c n : Nat, vs = [nv c, nv n] ∧ n ≤ 1000 ∧ Q (nv (cval c n)) H
theorem ok_value_in {f : Addr} {fd : FuncData} (F : Fun K "value_in" "value_in" s_value_in f fd) (T : Txt K mg PL)  : FnOk P w K mg base CX0 1 f fd ["choice", "name"] (sp_value_in K) := by
  refine F.ok sc_value_in (fun vs H Q E h => ?_) (fun cdv A outer s H vs Q E hr h => ?_)
  · obtain ⟨c, n, rfl, _⟩ := h
    rfl
  · obtain ⟨c, n, rfl, h1, k⟩ := h
    refine ⟨_, (pss_one (ps_ret (pe_op op_and (pe_op op_shr (pv 0) (pe_op op_mul pe_int (pv 1))) (pe_gl rfl T.c_HIGHEST_VALUE)))), ?_⟩
    refine ⟨_, rfl, _, rfl, _, _, rfl, rfl, .inl ⟨by decide, by decide⟩, _, _, rfl, rfl, (by show (0 : Int) ≤ 4 * (n : Int); omega), _, _, rfl, rfl, ?_⟩
    show Q (V.int (Builtin.bitAnd ((c : Int) / 2 ^ ((4 : Int) * (n : Int)).toNat) 15)) H
    rw [v_cval]
    exact k
theorem sc_read_question : FnScope ["q", "parts", "heads", "standing", "head"] ["q"] (defScope s_read_question) := ⟨rfl, rfl, rfl, by decide +kernel, rfl, by decide +kernel, by decide +kernel⟩
/-- a question as it is read, or none -/
def sp_read_question (K : PySem.W.Frag) : Sp := fun vs H Q _ => ∃ (a : Addr) (q : List Int), vs = [.ref a] ∧ SqL K H a (q.map V.int) ∧ QOk q ∧
  ((Sx34Neutral.question q).good = false → ∀ H' : Hp, Same H H' → Q .non H') ∧
  ((Sx34Neutral.question q).good = true → ∀ (v : V) (H' : Hp), Same H H' → QR (sub H' H) v (Sx34Neutral.question q) → Q v H')
theorem ok_read_question {f : Addr} {fd : FuncData} (F : Fun K "read_question" "read_question" s_read_question f fd) (T : Txt K mg PL) (c_read_fours : Cal P w K mg base 1 "read_fours" ["numbers", "start", "count", "highest"] (sp_read_fours K)) (c_standing_names : Cal P w K mg base 1 "standing_names" ["parts"] (sp_standing_names K)) : FnOk P w K mg base CX0 2 f fd ["q"] (sp_read_question K) := by
  refine F.ok sc_read_question (fun vs H Q E h => ?_) (fun cdv A outer s H vs Q E hr h => ?_)
  · obtain ⟨a, q, rfl, _⟩ := h
    rfl
  · obtain ⟨a, q, rfl, ha, hq, kNo, kYes⟩ := h
    have hu := hu_of hr
    refine ⟨_, (pss_cons (ps_if (PW.pt (pw_or (pt_not (pt_chain op_le op_le pe_int (pe_ix ix_list (pv 0) pe_int (fun _ _ => rfl)) (pe_gl rfl T.c_MOST_HEADS))) (pw_or1 (pt_not (pt_chain op_le op_le pe_int (pe_ix ix_list (pv 0) pe_int (fun _ _ => rfl)) (pe_gl rfl T.c_MOST_PARTS)))))) (pss_one (ps_ret pe_non)) pss_nil)
      (pss_cons (ps_set (i := 1) sc_read_question.nd rfl (by first | exact Or.inl rfl | exact Or.inr rfl) (pe_cal c_read_fours (hr.mono (by decide)) rfl (pa_cons (pv 0) (pa_cons (pe_gl rfl T.c_PARTS_AT) (pa_cons (pe_ix ix_list (pv 0) pe_int (fun _ _ => rfl)) (pa_cons (pe_gl rfl T.c_HIGHEST_NAME) pa_nil))))))
      (pss_cons (ps_if (pt_cmpR op_isN (pv 1) pe_non (nomark _)) (pss_one (ps_ret pe_non)) pss_nil)
      (pss_cons (ps_set (i := 2) sc_read_question.nd rfl (by first | exact Or.inl rfl | exact Or.inr rfl) (pe_slice sl_list (pv 0) (po_some (pe_gl rfl T.c_HEADS_AT)) (po_some (pe_op op_add (pe_gl rfl T.c_HEADS_AT) (pe_ix ix_list (pv 0) pe_int (fun _ _ => rfl))))))
      (pss_cons (ps_set (i := 3) sc_read_question.nd rfl (by first | exact Or.inl rfl | exact Or.inr rfl) (pe_cal c_standing_names (hr.mono (by decide)) rfl (pa_cons (pv 1) pa_nil)))
      (pss_cons (ps_if (pt_not (pt_val (pe_callB (cr_all rfl) (by rfl) T.n_all b_all (pa_cons (pe_lc (own := [(("head" : Str), 4)]) rfl sc_read_question.nd (pi_list (pv 2)) (blkOk_by (N := ["q", "parts", "heads", "standing", "head"]) (sc := defScope s_read_question) (by decide +kernel)) (fun _ _ _ _ _ => (pg_name (i := 4) sc_read_question.nd rfl (by first | exact Or.inl rfl | exact Or.inr rfl))) (fun _ _ _ _ _ => pts_nil) (fun _ _ _ _ _ => (pe_cmpR (op_in_seqK (K := K) rfl) (pv 4) (pv 3) (by with_unfolding_all rfl)))) pa_nil)))) (pss_one (ps_ret pe_non)) pss_nil)
      (pss_one (ps_ret (pe_tup (pa_cons (pv 2) (pa_cons (pv 1) pa_nil))))))))))), ?_⟩
    obtain ⟨h, h0⟩ : ∃ h, q[0]? = some h := ⟨_, List.getElem?_eq_getElem (by rw [hq.len]; decide)⟩
    obtain ⟨k, h1⟩ : ∃ k, q[1]? = some k := ⟨_, List.getElem?_eq_getElem (by rw [hq.len]; decide)⟩
    have e0 : atI (q.map V.int) 0 = some (.int h) := at_of (j := 0) rfl (by rw [List.getElem?_map, h0]; rfl)
    have e1 : atI (q.map V.int) 1 = some (.int k) := at_of (j := 1) rfl (by rw [List.getElem?_map, h1]; rfl)
    refine ⟨_, rfl, a, _, _, _, rfl, rfl, ha, e0, ch_le ⟨_, rfl, ?_⟩⟩
    refine ite2 (fun hno => ?_) (fun hy => ?_)
    · refine ifT rfl ?_
      refine kNo (good_out hq h0 h1 (.inl ?_)) _ (Same.refl _)
      intro z
      simp [z.1, z.2] at hno
    · refine ⟨_, rfl, a, _, _, _, rfl, rfl, ha, e1, ch_le ⟨_, rfl, ?_⟩⟩
      have b1 : 0 ≤ h ∧ h ≤ 4 := by simpa using hy
      refine ite2 (fun hno => ?_) (fun hy2 => ?_)
      · refine kNo (good_out hq h0 h1 (.inr ?_)) _ (Same.refl _)
        intro z
        simp [z.1, z.2] at hno
      · have b2 : 1 ≤ k ∧ k ≤ 10 := by simpa using hy2
        have qi := question_in h0 h1 b1 b2
        have gi := good_in hq h0 h1 b1 b2
        obtain ⟨kn, rfl⟩ : ∃ kn : Nat, k = kn := ⟨k.toNat, by omega⟩
        obtain ⟨hn, rfl⟩ : ∃ hn : Nat, h = hn := ⟨h.toNat, by omega⟩
        have qp : (Sx34Neutral.question q).parts = (List.range kn).map fun i => rowFrom q (6 + 4 * i) := by rw [qi]; exact four_eq kn q 6
        have qh : (Sx34Neutral.question q).head = Sx34Neutral.nats ((q.drop 2).take hn) := by rw [qi]; rfl
        have ppos : ∀ (i : Nat) (x : Int), 2 ≤ i → q[i]? = some x → 0 ≤ x := fun i x hi hx => (hq.pos i hi x hx).1
        have al : (Sx34Neutral.question q).parts.all (fun p => p.good 8) = true ↔ ∀ i, i < kn → (rowFrom q (6 + 4 * i)).good (7 + 1) = true := by
          rw [qp, List.all_map, List.all_eq_true]
          exact ⟨fun z i hi => z i (List.mem_range.mpr hi), fun z i hi => z i (List.mem_range.mp hi)⟩
        refine ⟨_, rfl, _, rfl, a, _, _, _, rfl, rfl, ha, e1, a, q, 6, kn, 7, rfl, ha, by rw [hq.len]; omega, by rw [hq.len]; decide, fun i x hi hx => ppos i x (by omega) hx, fun bad H1 s1 => ?_, fun ok v H1 s1 hv => ?_⟩
        · refine ⟨_, rfl, rfl, _, rfl, ?_⟩
          refine ifT rfl ?_
          refine kNo ?_ _ s1
          rw [gi]
          have : (Sx34Neutral.question q).parts.all (fun p => p.good 8) = false := by
            cases z : (Sx34Neutral.question q).parts.all (fun p => p.good 8) with
            | false => rfl
            | true => exact absurd (al.mp z) bad
          rw [this, Bool.false_and]
        · have pg := al.mpr ok
          have hv1 : LR RowR H1 v (Sx34Neutral.question q).parts := by rw [qp]; exact up (mono_L mono_Row) sub_le hv
          obtain ⟨pa, pvs, rfl, hpa, hpp⟩ := id hv1
          refine ⟨_, rfl, rfl, _, rfl, ?_⟩
          refine ifF (by simp) ?_
          refine ⟨_, rfl, _, rfl, _, rfl, a, _, _, _, rfl, rfl, s1.seq ha, e0, _, _, rfl, rfl, _, rfl, a, _, rfl, s1.seq ha, fun hd hhd => ?_⟩
          have cut : cutV (q.map V.int) (some 2) (some (2 + (hn : Int))) = (Sx34Neutral.question q).head.map nv := by
            rw [show (2 : Int) + (hn : Int) = ((2 + hn : Nat) : Int) by omega, show (some (2 : Int)) = some ((2 : Nat) : Int) from rfl, cut_ints, qh, show 2 + hn - 2 = hn by omega]
            refine (nats_nv fun x hx => ?_).symm
            obtain ⟨j, hj⟩ := List.mem_iff_getElem?.mp (List.mem_of_mem_take hx)
            rw [List.getElem?_drop] at hj
            exact ppos _ _ (by omega) hj
          rw [cut]
          have s2 : Same H1 (upd H1 hd (.lst ((Sx34Neutral.question q).head.map nv))) := new_upd hhd
          have g8 : ∀ r ∈ (Sx34Neutral.question q).parts, r.good 8 = true := List.all_eq_true.mp pg
          refine ⟨_, rfl, _, _, rfl, up (mono_L mono_Row) s2 hv1, ?_, fun r hr x hx => (good_part (g8 r hr)).2.2 x hx, fun u ns H2 s3 hns srt mem => ?_⟩
          · rw [qp, List.length_map, List.length_range]
            omega
          · obtain ⟨sa, rfl, hsa⟩ := up mono_Ns sub_le hns
            have hl : (Sx34Neutral.question q).head.length ≤ 4 := by
              rw [qh]
              unfold Sx34Neutral.nats
              rw [List.length_map, List.length_take]
              omega
            refine ⟨_, rfl, hd, rfl, ⟨_, SqL.of (s3 _ _ upd_same)⟩, fun D hD => ?_⟩
            refine lc_map (R := BR) mono_B hD (SqL.of (s3 _ _ upd_same)) (Sx34Neutral.question q).head (fun x => decide (x ∈ ns)) (List.length_map ..) (by omega) (fun j x y H' N hx hy sH yes => ?_) (fun H3 s4 hL => ?_)
            · obtain ⟨z, hz, rfl⟩ := map_at hx
              cases Option.some.inj (hz.symm.trans hy)
              exact ⟨rfl, _, rfl, _, rfl, sa, _, rfl, .inl (SqL.of (sH _ _ hsa)), rfl, flat_nv ns, yes _ _ (Same.refl _) (by show V.bl _ = V.bl _; congr 1; exact in_nv _ _)⟩
            · refine ⟨D, _, rfl, LR_bl hL, _, rfl, ?_⟩
              have hc : (((Sx34Neutral.question q).head.map fun x => decide (x ∈ ns)).all id) = (Sx34Neutral.question q).head.all fun x => (Sa97.names (Sx34Neutral.question q)).contains x := by
                rw [List.all_map]
                congr 1
                funext x
                show decide (x ∈ ns) = _
                rw [Bool.eq_iff_iff, decide_eq_true_iff, List.contains_iff_mem, mem_names, mem]
              have st : Same H H3 := ((s1.trans s2).trans s3).trans s4
              show if (!((Sx34Neutral.question q).head.map fun x => decide (x ∈ ns)).all id) = true then _ else _
              rw [hc]
              rw [pg, Bool.true_and] at gi
              rw [← gi]
              refine ite2 (fun hno => ?_) (fun hy3 => ?_)
              · exact kNo (by simpa using hno) _ st
              · refine ⟨_, rfl, _, rfl, (by show 2 ≤ sizeLine; decide), fun T1 hT1 => ?_⟩
                have s5 : Same H3 (upd H3 T1 (.tup [.ref hd, .ref pa])) := new_upd hT1
                refine kYes (by simpa using hy3) _ _ (st.trans s5) ⟨T1, _, _, rfl, sub_new (st.free hT1), ⟨hd, rfl, ?_⟩, ?_⟩
                · exact sub_iff.mpr ⟨s1.free hhd, s5 _ _ (s4 _ _ (s3 _ _ upd_same))⟩
                · refine up (mono_L mono_Row) (le_sub (((s2.trans s3).trans s4).trans s5) (Same.refl H)) ?_
                  show LR RowR _ _ (Sx34Neutral.question q).parts
                  rw [qp]
                  exact hv
theorem sc_read_rows : FnScope ["n", "rows"] ["n", "rows"] (defScope s_read_rows) := ⟨rfl, rfl, rfl, by decide +kernel, rfl, by decide +kernel, by decide +kernel⟩
/-- the rows as they are read, or none -/
def sp_read_rows (K : PySem.W.Frag) : Sp := fun vs H Q _ => ∃ (n : Int) (a : Addr) (d : List Int), vs = [.int n, .ref a] ∧ SqL K H a (d.map V.int) ∧ DOk n d ∧
  (Sa97.rows (Sx34Neutral.four (d.length / 4) d) n = false → ∀ H' : Hp, Same H H' → Q .non H') ∧
  (Sa97.rows (Sx34Neutral.four (d.length / 4) d) n = true → ∀ (v : V) (H' : Hp), Same H H' → LR RowR (sub H' H) v (Sx34Neutral.four (d.length / 4) d) → Q v H')
theorem ok_read_rows {f : Addr} {fd : FuncData} (F : Fun K "read_rows" "read_rows" s_read_rows f fd) (T : Txt K mg PL) (c_read_fours : Cal P w K mg base 1 "read_fours" ["numbers", "start", "count", "highest"] (sp_read_fours K)) : FnOk P w K mg base CX0 2 f fd ["n", "rows"] (sp_read_rows K) := by
  refine F.ok sc_read_rows (fun vs H Q E h => ?_) (fun cdv A outer s H vs Q E hr h => ?_)
  · obtain ⟨n, a, d, rfl, _⟩ := h
    rfl
  · obtain ⟨n, a, d, rfl, ha, hd, kNo, kYes⟩ := h
    refine ⟨_, (pss_cons (ps_if (pt_not (pt_chain op_le op_le pe_int (pv 0) (pe_gl rfl T.c_MOST_ROWS))) (pss_one (ps_ret pe_non)) pss_nil)
      (pss_one (ps_ret (pe_cal c_read_fours (hr.mono (by decide)) rfl (pa_cons (pv 1) (pa_cons pe_int (pa_cons (pv 0) (pa_cons (pe_gl rfl T.c_HIGHEST_VALUE) pa_nil)))))))), ?_⟩
    refine ⟨_, rfl, ch_le ⟨_, rfl, ?_⟩⟩
    refine ite2 (fun hno => ?_) (fun hy => ?_)
    · refine kNo ?_ _ (Same.refl _)
      have : Sa97.within n 0 128 = false := by
        have z : n < 0 ∨ 128 < n := by simpa using hno
        unfold Sa97.within
        rw [Bool.and_eq_false_iff, decide_eq_false_iff_not, decide_eq_false_iff_not]
        omega
      unfold Sa97.rows
      rw [this, Bool.false_and]
    · have b : 0 ≤ n ∧ n ≤ 128 := by simpa using hy
      obtain ⟨c, rfl⟩ : ∃ c : Nat, n = c := ⟨n.toNat, by omega⟩
      have hl : d.length = 4 * c := by have := hd.len b.1 b.2; omega
      have e4 : Sx34Neutral.four (d.length / 4) d = (List.range c).map fun i => rowFrom d (0 + 4 * i) := by
        rw [show d.length / 4 = c by omega, four_eq0]
        simp
      have rw1 : Sa97.rows (Sx34Neutral.four (d.length / 4) d) (c : Int) = true ↔ ∀ i, i < c → (rowFrom d (0 + 4 * i)).good (15 + 1) = true := by
        unfold Sa97.rows Sa97.within
        rw [e4, List.length_map, List.length_range, decide_eq_true b.1, decide_eq_true b.2, List.all_map]
        show (true && (decide (Sa97.nat c = (c : Int)) && _)) = true ↔ _
        rw [decide_eq_true (show Sa97.nat c = (c : Int) from rfl), Bool.true_and, Bool.true_and, List.all_eq_true]
        exact ⟨fun z i hi => z i (List.mem_range.mpr hi), fun z i hi => z i (List.mem_range.mp hi)⟩
      refine ⟨_, rfl, _, rfl, a, d, 0, c, 15, rfl, ha, by omega, by omega, fun i x _ hx => (hd.pos x (List.mem_of_getElem? hx)).1, fun bad H1 s1 => ?_, fun ok v H1 s1 hv => ?_⟩
      · refine kNo ?_ _ s1
        cases z : Sa97.rows (Sx34Neutral.four (d.length / 4) d) (c : Int) with
        | false => rfl
        | true => exact absurd (rw1.mp z) bad
      · exact kYes (rw1.mpr ok) _ _ s1 (by rw [e4]; exact hv)
theorem sc_values_within : FnScope ["limits", "choice", "allowed", "known", "values"] ["limits", "choice"] (defScope s_values_within) := ⟨rfl, rfl, rfl, by decide +kernel, rfl, by decide +kernel, by decide +kernel⟩
/-- the values that all the limits allow beside the choice -/
def sp_values_within (_ : PySem.W.Frag) : Sp := fun vs H Q _ => ∃ (v : V) (ls : List Lim) (c : Nat), vs = [v, nv c] ∧ LR LimR H v ls ∧ ∀ (w : V) (H' : Hp), Same H H' → NsR (sub H' H) w (valsOf (alwd ls c)) → Q w H'
theorem ok_values_within {f : Addr} {fd : FuncData} (F : Fun K "values_within" "values_within" s_values_within f fd) (T : Txt K mg PL) (c_values_of : Cal P w K mg base 1 "values_of" ["allowed"] (sp_values_of K)) : FnOk P w K mg base CX0 2 f fd ["limits", "choice"] (sp_values_within K) := by
  refine F.ok sc_values_within (fun vs H Q E h => ?_) (fun cdv A outer s H vs Q E hr h => ?_)
  · obtain ⟨v, ls, c, rfl, _⟩ := h
    rfl
  · obtain ⟨v, ls, c, rfl, ⟨a, vs, rfl, ha, hp⟩, k⟩ := h
    have hu := hu_of hr
    refine ⟨_, (pss_cons (ps_set (i := 2) sc_values_within.nd rfl (by first | exact Or.inl rfl | exact Or.inr rfl) (pe_gl rfl T.c_ALL_VALUES))
      (pss_cons (ps_for PassesOwn.never rfl (pi_list (pv 0)) (pg_tup rfl (pgs_cons (pg_name (i := 3) sc_values_within.nd rfl (by first | exact Or.inl rfl | exact Or.inr rfl)) (pgs_cons (pg_name (i := 4) sc_values_within.nd rfl (by first | exact Or.inl rfl | exact Or.inr rfl)) pgs_nil)))
      (pss_one (ps_aug (i := 2) sc_values_within.nd rfl (by first | exact Or.inl rfl | exact Or.inr rfl) (pe_dget2 hu (pv 4) (pe_op op_and (pv 1) (pv 3)) pe_int ⟨rfl, rfl, rfl, rfl⟩) (pip_of iop_and))))
      (pss_one (ps_ret (pe_cal c_values_of (hr.mono (by decide)) rfl (pa_cons (pv 2) pa_nil)))))), ?_⟩
    refine ⟨_, rfl, a, rfl, ⟨_, SqL.of ha⟩, for_list (K := K) (a := a) (xs := vs) (fun i σ H' => ∃ v3 v4 : Option V, σ = [some (.ref a), some (nv c), some (nv (alwd (ls.take i) c)), v3, v4] ∧ H' = H)
      ⟨none, none, rfl, rfl⟩ (fun i σ H' _ ⟨_, _, _, e⟩ => by rw [e]; exact SqL.of ha) ?_ ?_⟩
    · rintro i x σ H1 hi ⟨v3, v4, rfl, rfl⟩
      obtain ⟨l, hl, hR⟩ := paired_at hp hi
      obtain ⟨b, d, rfl, hb, hd⟩ := Lim_out hR
      refine ⟨b, _, rfl, SqT.of hb, rfl, _, _, rfl, _, _, rfl, rfl, ?_⟩
      refine ⟨_, rfl, _, rfl, d, rfl, .inl ⟨_, .inl hd⟩, _, rfl, _, rfl, _, _, rfl, rfl, _, .inl ⟨_, Sum.inl ((c &&& l.1 : Nat) : Int), .inl hd, v_and c l.1, rfl⟩, ?_⟩
      have eg : (valV (kvF nv l.2) (Sum.inl ((c &&& l.1 : Nat) : Int))).getD (V.int 0) = nv ((lookN l.2 (c &&& l.1)).getD 0) := by
        rw [valV_F]
        cases lookN l.2 (c &&& l.1) <;> rfl
      refine ⟨_, _, rfl, eg, some (nv l.1), some (.ref d), ?_, rfl⟩
      show [_, _, some (V.int (Builtin.bitAnd _ _)), _, _] = _
      rw [v_and, List.take_add_one, hl]
      unfold alwd
      rw [List.foldl_append]
      rfl
    · rintro σ H1 ⟨v3, v4, rfl, rfl⟩
      rw [paired_len hp, List.take_length]
      exact ⟨_, rfl, _, rfl, k⟩
theorem sc_values_beside : FnScope ["choices", "known", "name", "values", "choice", "beside"] ["choices", "known", "name"] (defScope s_values_beside) := ⟨rfl, rfl, rfl, by decide +kernel, rfl, by decide +kernel, by decide +kernel⟩
/-- for each choice of the known names, a mask of the values beside it -/
def sp_values_beside (K : PySem.W.Frag) : Sp := fun vs H Q _ => ∃ (a : Addr) (cs : List Nat) (kn n : Nat), vs = [.ref a, nv kn, nv n] ∧ SqL K H a (cs.map nv) ∧ cs.length ≤ 1000 ∧ n ≤ 1000 ∧
  ∀ (w : V) (H' : Hp), Same H H' → DN (sub H' H) w (vbes cs kn n) → Q w H'
theorem ok_values_beside {f : Addr} {fd : FuncData} (F : Fun K "values_beside" "values_beside" s_values_beside f fd) (T : Txt K mg PL) (c_value_in : Cal P w K mg base 1 "value_in" ["choice", "name"] (sp_value_in K)) : FnOk P w K mg base CX0 2 f fd ["choices", "known", "name"] (sp_values_beside K) := by
  refine F.ok sc_values_beside (fun vs H Q E h => ?_) (fun cdv A outer s H vs Q E hr h => ?_)
  · obtain ⟨a, cs, kn, n, rfl, _⟩ := h
    rfl
  · obtain ⟨a, cs, kn, n, rfl, ha, hl, hn, k⟩ := h
    have hu := hu_of hr
    refine ⟨_, (pss_cons (ps_set (i := 3) sc_values_beside.nd rfl (by first | exact Or.inl rfl | exact Or.inr rfl) pe_dnewK)
      (pss_cons (ps_for PassesOwn.never rfl (pi_list (pv 0)) (pg_name (i := 4) sc_values_beside.nd rfl (by first | exact Or.inl rfl | exact Or.inr rfl))
      (pss_cons (ps_set (i := 5) sc_values_beside.nd rfl (by first | exact Or.inl rfl | exact Or.inr rfl) (pe_op op_and (pv 4) (pv 1)))
      (pss_one (ps_dput hu (pv 3) (pv 5) (pe_op op_or (pe_dget2 hu (pv 3) (pv 5) pe_int ⟨rfl, rfl, rfl, rfl⟩) (pe_op op_shl pe_int (pe_cal c_value_in (hr.mono (by decide)) rfl (pa_cons (pv 4) (pa_cons (pv 2) pa_nil))))) rfl))))
      (pss_one (ps_ret (pv 3))))), ?_⟩
    intro d hd
    have s0 : Same H (upd H d (.dK [])) := new_upd hd
    refine ⟨_, rfl, a, rfl, ⟨_, s0.seq ha⟩, for_list (K := K) (a := a) (xs := cs.map nv) (fun i σ H' => ∃ v4 v5 : Option V, σ = [some (.ref a), some (nv kn), some (nv n), some (.ref d), v4, v5] ∧ Same H H' ∧ H' d = some (.dK (kvF nv ((cs.take i).foldl (vput kn n) []))))
      ⟨none, none, rfl, s0, upd_same⟩ (fun i σ H' _ ⟨_, _, _, s, _⟩ => s.seq ha) ?_ ?_⟩
    · rintro i x σ H1 hi ⟨v4, v5, rfl, s1, d1⟩
      obtain ⟨c, hc, rfl⟩ := map_at hi
      have hil : i < cs.length := (List.getElem?_eq_some_iff.mp hc).1
      have ln := vbes_len kn n (cs.take i) []
      rw [List.length_nil, List.length_take] at ln
      refine ⟨_, rfl, _, rfl, _, _, rfl, rfl, ?_⟩
      have go : ∀ z : V, z = nv (c &&& kn) → sDPut (tVar 3) (tVar 5) (tOp (rI0 fun i j => .int (Builtin.bitOr i j)) (tDGet2 (tVar 3) (tVar 5) (tC (.int 0))) (tOp (rI CPow fun i j => .int (i * 2 ^ j.toNat)) (tC (.int 1)) (tCall (sp_value_in K) [] E0 (tCons (tVar 4) (tCons (tVar 2) tNil)))))
          { nx := fun σ H' => ∃ v4 v5 : Option V, σ = [some (.ref a), some (nv kn), some (nv n), some (.ref d), v4, v5] ∧ Same H H' ∧ H' d = some (.dK (kvF nv ((cs.take (i + 1)).foldl (vput kn n) []))), rt := Q }
          [some (.ref a), some (nv kn), some (nv n), some (.ref d), some (nv c), some z] H1 := fun z ez => by
        subst ez
        refine ⟨_, rfl, d, rfl, .inl ⟨_, .inl d1⟩, _, rfl, _, DGet.k (k := Sum.inl ((c &&& kn : Nat) : Int)) d1, ?_⟩
        have eg : (valV (kvF nv ((cs.take i).foldl (vput kn n) [])) (Sum.inl ((c &&& kn : Nat) : Int))).getD (V.int 0) = nv ((lookN ((cs.take i).foldl (vput kn n) []) (c &&& kn)).getD 0) := by
          rw [valV_F]
          cases lookN ((cs.take i).foldl (vput kn n) []) (c &&& kn) <;> rfl
        refine ⟨_, rfl, _, rfl, c, n, rfl, hn, _, _, rfl, rfl, ⟨by omega, by have := cval_lt c n; omega, by decide⟩, _, _, eg, rfl, _, rfl, _, rfl, d, _, rfl, DPut.k (k := Sum.inl ((c &&& kn : Nat) : Int)) d1 ?_, _, _, rfl, to_upd s1 hd, ?_⟩
        · rw [kvF_len]
          exact small1000 (by omega)
        · have ev : V.int (Builtin.bitOr (((lookN ((cs.take i).foldl (vput kn n) []) (c &&& kn)).getD 0 : Nat) : Int) ((1 : Int) * 2 ^ ((cval c n : Nat) : Int).toNat)) = nv ((lookN ((cs.take i).foldl (vput kn n) []) (c &&& kn)).getD 0 ||| 2 ^ cval c n) := by
            have := v_pow (cval c n)
            injection this with this
            rw [this, v_or]
          rw [upd_same]
          show some (HO.dK (putK _ _ (V.int (Builtin.bitOr _ _)))) = _
          rw [ev, putK_F, List.take_add_one, hc, List.foldl_append]
          rfl
      exact go _ (v_and _ _)
    · rintro σ H1 ⟨v4, v5, rfl, s1, d1⟩
      rw [List.length_map, List.take_length] at d1
      exact ⟨_, rfl, k _ H1 s1 ⟨d, rfl, sub_iff.mpr ⟨hd, d1⟩⟩⟩
theorem sc_choice_of : FnScope ["names", "values", "given", "name", "value"] ["names", "values"] (defScope s_choice_of) := ⟨rfl, rfl, rfl, by decide +kernel, rfl, by decide +kernel, by decide +kernel⟩
/-- what a row makes of a part's names -/
def sp_choice_of (K : PySem.W.Frag) : Sp := fun vs H Q _ => ∃ (a b : Addr) (ns ws : List Nat), vs = [.ref a, .ref b] ∧ SqL K H a (ns.map nv) ∧ SqL K H b (ws.map nv) ∧ ns.length = ws.length ∧ ns.length ≤ 1000 ∧ (∀ x ∈ ns, x ≤ 1000) ∧ (∀ x ∈ ws, x < 65536) ∧
  ((Sx34.unify (ns.zip ws) [] = none → ∀ H' : Hp, Same H H' → Q .non H') ∧ ∀ e, Sx34.unify (ns.zip ws) [] = some e → ∀ H' : Hp, Same H H' → Q (nv (pk e)) H')
theorem ok_choice_of {f : Addr} {fd : FuncData} (F : Fun K "choice_of" "choice_of" s_choice_of f fd) (T : Txt K mg PL) (c_chosen : Cal P w K mg base 1 "chosen" ["name", "value"] (sp_chosen K)) : FnOk P w K mg base CX0 2 f fd ["names", "values"] (sp_choice_of K) := by
  refine F.ok sc_choice_of (fun vs H Q E h => ?_) (fun cdv A outer s H vs Q E hr h => ?_)
  · obtain ⟨a, b, ns, ws, rfl, _⟩ := h
    rfl
  · obtain ⟨a, b, ns, ws, rfl, ha, hb, hl, h1, hn, hw, kNo, kYes⟩ := h
    have hu := hu_of hr
    refine ⟨_, (pss_cons (ps_set (i := 2) sc_choice_of.nd rfl (by first | exact Or.inl rfl | exact Or.inr rfl) pe_dnewK)
      (pss_cons (ps_for PassesOwn.never rfl (pi_zip rfl T.n_zip (pa_cons (pv 0) (pa_cons (pv 1) pa_nil))) (pg_tup rfl (pgs_cons (pg_name (i := 3) sc_choice_of.nd rfl (by first | exact Or.inl rfl | exact Or.inr rfl)) (pgs_cons (pg_name (i := 4) sc_choice_of.nd rfl (by first | exact Or.inl rfl | exact Or.inr rfl)) pgs_nil)))
      (pss_one (ps_if (pt_cmpR op_ne (pe_dsetdef hu (pv 2) (pv 3) (pv 4) ⟨rfl, rfl, rfl, rfl⟩) (pv 4) (nomark _)) (pss_one (ps_ret pe_non)) pss_nil)))
      (pss_one (ps_ret (pe_callB (cr_sum rfl) (by rfl) T.n_sum b_sum (pa_cons (pe_lock (pe_lc (own := [(("name" : Str), 3)]) rfl sc_choice_of.nd (pi_keys (pv 2)) (blkOk_by (N := ["names", "values", "given", "name", "value"]) (sc := defScope s_choice_of) (by decide +kernel)) (fun _ _ _ _ _ => (pg_name (i := 3) sc_choice_of.nd rfl (by first | exact Or.inl rfl | exact Or.inr rfl))) (fun _ _ _ _ _ => pts_nil) (fun _ _ _ _ _ => (pe_cal c_chosen (hr.mono (by decide)) rfl (pa_cons (pv 3) (pa_cons (pe_dget hu (pv 2) (pv 3) (fun _ _ => rfl)) pa_nil)))))) pa_nil)))))), ?_⟩
    intro d hd
    have s0 : Same H (upd H d (.dK [])) := new_upd hd
    refine ⟨_, rfl, _, rfl, a, b, _, _, rfl, s0.seq ha, s0.seq hb, ?_⟩
    have zl : (ns.zip ws).length = ns.length := by rw [List.length_zip]; omega
    refine for_zip (K := K) (a := a) (b := b) (xs := ns.map nv) (ys := ws.map nv) (by rw [List.length_map, List.length_map, hl]) (fun i σ H' => ∃ (v3 v4 : Option V) (kvs : List (Nat × Nat)), σ = [some (.ref a), some (.ref b), some (.ref d), v3, v4] ∧ Same H H' ∧ H' d = some (.dK (kvF nv kvs)) ∧
        kvs.length ≤ i ∧ (kvs.map (·.1)).Nodup ∧ (∀ kv ∈ kvs, kv.1 ≤ 1000 ∧ kv.2 < 65536) ∧ Sx34.unify (ns.zip ws) [] = Sx34.unify ((ns.zip ws).drop i) kvs.reverse)
      ⟨none, none, [], rfl, s0, upd_same, Nat.zero_le _, List.nodup_nil, fun kv h => absurd h (by simp), rfl⟩ (fun i σ H' _ ⟨_, _, _, _, s, _⟩ => ⟨s.seq ha, s.seq hb⟩) ?_ ?_
    · rintro i x y σ H1 T1 hx hy ⟨v3, v4, kvs, rfl, s1, d1, kl, knd, kb, ku⟩ hT
      obtain ⟨n, hn1, rfl⟩ := map_at hx
      obtain ⟨v, hv1, rfl⟩ := map_at hy
      have hi : i < ns.length := (List.getElem?_eq_some_iff.mp hn1).1
      have hz : (ns.zip ws).drop i = (n, v) :: (ns.zip ws).drop (i + 1) := by
        have : (ns.zip ws)[i]? = some (n, v) := by rw [List.getElem?_zip_eq_some]; exact ⟨hn1, hv1⟩
        obtain ⟨hlt, e⟩ := List.getElem?_eq_some_iff.mp this
        rw [List.drop_eq_getElem_cons hlt, e]
      rw [hz] at ku
      have s2 : Same H1 (upd H1 T1 (.tup [nv n, nv v])) := new_upd hT
      refine ⟨T1, _, rfl, SqT.of upd_same, rfl, _, _, rfl, _, _, rfl, rfl, ?_⟩
      refine ⟨_, rfl, d, rfl, .inl ⟨_, .inl (s2 _ _ d1)⟩, _, rfl, _, rfl, _, Sum.inl (n : Int), s2 _ _ d1, rfl, ?_, fun w hw1 => ?_, fun hno => ?_⟩
      · rw [kvF_len]
        exact small1000 (by omega)
      · rw [valV_F] at hw1
        obtain ⟨w', hw2, rfl⟩ : ∃ w', lookN kvs n = some w' ∧ w = nv w' := by
          cases e : lookN kvs n with
          | none => rw [e] at hw1; cases hw1
          | some w' => rw [e] at hw1; exact ⟨w', rfl, (Option.some.inj hw1).symm⟩
        refine ⟨_, rfl, rfl, _, rfl, ?_⟩
        have lk : kvs.reverse.lookup n = some w' := by rw [lookup_rev knd, hw2]
        have us : Sx34.unify ((n, v) :: (ns.zip ws).drop (i + 1)) kvs.reverse = if w' = v then Sx34.unify ((ns.zip ws).drop (i + 1)) kvs.reverse else none := by
          show (match kvs.reverse.lookup n with | some w => if w = v then Sx34.unify _ kvs.reverse else none | none => Sx34.unify _ ((n, v) :: kvs.reverse)) = _
          rw [lk]
        refine ite2 (fun hne => ?_) (fun heq => ?_)
        · have : ¬ w' = v := fun z => by rw [z] at hne; simp at hne
          rw [us, if_neg this] at ku
          exact kNo ku _ (s1.trans s2)
        · have e : w' = v := Classical.byContradiction fun z => heq (by
            have : ¬ nv w' = nv v := fun q => z (by injection q with q; omega)
            simp [this])
          rw [us, if_pos e] at ku
          exact ⟨_, _, kvs, rfl, s1.trans s2, s2 _ _ d1, by omega, knd, kb, ku⟩
      · rw [valV_F] at hno
        have hno2 : lookN kvs n = none := by
          cases e : lookN kvs n with
          | none => rfl
          | some w' => rw [e] at hno; cases hno
        refine ⟨_, rfl, rfl, _, rfl, ?_⟩
        refine ifF (by simp) ?_
        have lk : kvs.reverse.lookup n = none := by rw [lookup_rev knd, hno2]
        have us : Sx34.unify ((n, v) :: (ns.zip ws).drop (i + 1)) kvs.reverse = Sx34.unify ((ns.zip ws).drop (i + 1)) ((n, v) :: kvs.reverse) := by
          show (match kvs.reverse.lookup n with | some w => if w = v then Sx34.unify _ kvs.reverse else none | none => Sx34.unify _ ((n, v) :: kvs.reverse)) = _
          rw [lk]
        have pn : putN kvs n v = kvs ++ [(n, v)] := putN_new (lookN_none_iff.mp hno2)
        refine ⟨_, _, kvs ++ [(n, v)], rfl, to_upd (s1.trans s2) hd, ?_, by rw [List.length_append, List.length_singleton]; omega, ?_, fun kv hkv => ?_, ?_⟩
        · rw [upd_same, putK_F, pn]
        · rw [← pn]
          exact putN_nodup knd
        · rcases List.mem_append.mp hkv with z | z
          · exact kb kv z
          · rw [List.mem_singleton.mp z]
            exact ⟨hn n (List.mem_of_getElem? hn1), hw v (List.mem_of_getElem? hv1)⟩
        · rw [ku, us, List.reverse_append]
          rfl
    · rintro σ H1 ⟨v3, v4, kvs, rfl, s1, d1, kl, knd, kb, ku⟩
      rw [List.length_map] at kl ku
      rw [List.drop_eq_nil_of_le (by omega)] at ku
      have ku : Sx34.unify (ns.zip ws) [] = some kvs.reverse := ku
      refine ⟨d, _, d1, True.intro, fun od => ?_⟩
      refine ⟨_, rfl, d, od, rfl, .inl ⟨_, upd_same, fun D hD => ?_⟩⟩
      refine lc_keys (R := NR) mono_N hD upd_same (fun kv => cho kv.1 kv.2) (by omega) (fun i kv H' N hi sH yes => ?_) (fun H2 s2 hL => ?_)
      · have hm : kv ∈ kvs := List.mem_of_getElem? hi
        refine ⟨rfl, _, rfl, _, rfl, _, rfl, d, _, rfl, .inl ⟨_, Sum.inl (kv.1 : Int), .inr ⟨od, sH _ _ upd_same⟩, rfl, ?_⟩, kv.1, kv.2, rfl, (kb kv hm).1, (kb kv hm).2, yes _ _ (Same.refl _) rfl⟩
        rw [valV_F, lookN_of_mem knd (show (kv.1, kv.2) ∈ kvs from hm)]
        rfl
      · obtain ⟨D', e1, hD2⟩ := LR_Ns hL
        cases e1
        have s3 := unlock_same d1 s2
        have dD : D ≠ d := ne_of (sub_iff.mp hD2).2 (s2 _ _ upd_same) (fun z => nomatch z)
        refine ⟨s2 _ _ upd_same, D, (kvs.map fun kv => cho kv.1 kv.2).map (fun (c : Nat) => (c : Int)), rfl, SqL.of ?_, ?_⟩
        · rw [upd_ne dD, (sub_iff.mp hD2).2, nv_ints]
        · rw [int_sum, ← pk_rev]
          exact kYes _ ku _ (s1.trans s3)
theorem sc_values_in : FnScope ["choice", "names", "name"] ["choice", "names"] (defScope s_values_in) := ⟨rfl, rfl, rfl, by decide +kernel, rfl, by decide +kernel, by decide +kernel⟩
/-- the values that the choice gives these names -/
def sp_values_in (_ : PySem.W.Frag) : Sp := fun vs H Q _ => ∃ (c : Nat) (a : Addr) (ns : List Nat), vs = [nv c, .ref a] ∧ H a = some (.lst (ns.map nv)) ∧ ns.length ≤ 1000 ∧ (∀ x ∈ ns, x ≤ 1000) ∧
  ∀ (w : V) (H' : Hp), Same H H' → NsR (sub H' H) w (ns.map (cval c)) → Q w H'
theorem ok_values_in {f : Addr} {fd : FuncData} (F : Fun K "values_in" "values_in" s_values_in f fd) (T : Txt K mg PL) (c_value_in : Cal P w K mg base 1 "value_in" ["choice", "name"] (sp_value_in K)) : FnOk P w K mg base CX0 2 f fd ["choice", "names"] (sp_values_in K) := by
  refine F.ok sc_values_in (fun vs H Q E h => ?_) (fun cdv A outer s H vs Q E hr h => ?_)
  · obtain ⟨c, a, ns, rfl, _⟩ := h
    rfl
  · obtain ⟨c, a, ns, rfl, ha, hl, h8, k⟩ := h
    refine ⟨_, (pss_one (ps_ret (pe_lc (own := [(("name" : Str), 2)]) rfl sc_values_in.nd (pi_list (pv 1)) (blkOk_by (N := ["choice", "names", "name"]) (sc := defScope s_values_in) (by decide +kernel)) (fun _ _ _ _ _ => (pg_name (i := 2) sc_values_in.nd rfl (by first | exact Or.inl rfl | exact Or.inr rfl))) (fun _ _ _ _ _ => pts_nil) (fun _ _ _ _ _ => (pe_cal c_value_in (hr.mono (by decide)) rfl (pa_cons (pv 0) (pa_cons (pv 2) pa_nil))))))), ?_⟩
    refine ⟨_, rfl, a, rfl, ⟨_, SqL.of ha⟩, fun D hD => ?_⟩
    refine lc_map (R := NR) mono_N hD (SqL.of ha) ns (cval c) (List.length_map ..) hl (fun i x n H' N hx hy sH yes => ?_) (fun H2 s2 hL => ?_)
    · obtain ⟨n', hn, rfl⟩ := map_at hx
      have en := Option.some.inj (hn.symm.trans hy)
      subst en
      exact ⟨rfl, _, rfl, _, rfl, c, n', rfl, h8 n' (List.mem_of_getElem? hn), yes _ _ (Same.refl _) rfl⟩
    · exact k _ H2 s2 (LR_Ns hL)
theorem sc_bits_of : FnScope ["names", "bits", "name"] ["names"] (defScope s_bits_of) := ⟨rfl, rfl, rfl, by decide +kernel, rfl, by decide +kernel, by decide +kernel⟩
/-- the bits of all these names -/
def sp_bits_of (K : PySem.W.Frag) : Sp := fun vs H Q _ => ∃ (a : Addr) (ns : List Nat), vs = [.ref a] ∧ SqL K H a (ns.map nv) ∧ (∀ x ∈ ns, x ≤ 1000) ∧ Q (nv (msk ns)) H
theorem ok_bits_of {f : Addr} {fd : FuncData} (F : Fun K "bits_of" "bits_of" s_bits_of f fd) (T : Txt K mg PL) (c_chosen : Cal P w K mg base 1 "chosen" ["name", "value"] (sp_chosen K)) : FnOk P w K mg base CX0 2 f fd ["names"] (sp_bits_of K) := by
  refine F.ok sc_bits_of (fun vs H Q E h => ?_) (fun cdv A outer s H vs Q E hr h => ?_)
  · obtain ⟨a, ns, rfl, _⟩ := h
    rfl
  · obtain ⟨a, ns, rfl, ha, h8, k⟩ := h
    refine ⟨_, (pss_cons (ps_set (i := 1) sc_bits_of.nd rfl (by first | exact Or.inl rfl | exact Or.inr rfl) pe_int)
      (pss_cons (ps_for PassesOwn.never rfl (pi_list (pv 0)) (pg_name (i := 2) sc_bits_of.nd rfl (by first | exact Or.inl rfl | exact Or.inr rfl))
      (pss_one (ps_aug (i := 1) sc_bits_of.nd rfl (by first | exact Or.inl rfl | exact Or.inr rfl) (pe_cal c_chosen (hr.mono (by decide)) rfl (pa_cons (pv 2) (pa_cons (pe_gl rfl T.c_HIGHEST_VALUE) pa_nil))) (pip_of iop_or))))
      (pss_one (ps_ret (pv 1))))), ?_⟩
    refine ⟨_, rfl, a, rfl, ⟨_, ha⟩, for_list (K := K) (a := a) (xs := ns.map nv) (fun i σ H' => ∃ v2 : Option V, σ = [some (.ref a), some (nv ((ns.take i).foldl (fun b n => b ||| cho n 15) 0)), v2] ∧ H' = H)
      ⟨none, rfl, rfl⟩ (fun i σ H' _ ⟨_, _, e⟩ => by rw [e]; exact ha) ?_ ?_⟩
    · rintro i x σ H1 hi ⟨v2, rfl, rfl⟩
      obtain ⟨n, hn, rfl⟩ := map_at hi
      refine ⟨_, rfl, _, rfl, n, 15, rfl, h8 n (List.mem_of_getElem? hn), by decide, _, _, rfl, rfl, some (nv n), ?_, rfl⟩
      show [_, some (V.int (Builtin.bitOr _ _)), _] = _
      rw [v_or, List.take_add_one, hn, List.foldl_append]
      rfl
    · rintro σ H1 ⟨v2, rfl, rfl⟩
      rw [List.length_map, List.take_length, msk_fold, Nat.zero_or]
      exact ⟨_, rfl, k⟩
theorem sc_count_values : FnScope ["counts", "name", "limits", "needed", "grown", "choice", "value", "cut"] ["counts", "name", "limits", "needed"] (defScope s_count_values) := ⟨rfl, rfl, rfl, by decide +kernel, rfl, by decide +kernel, by decide +kernel⟩
/-- the counts, one name more -/
def sp_count_values (_ : PySem.W.Frag) : Sp := fun vs H Q _ => ∃ (r : Addr) (v : V) (g : List (Nat × Nat)) (n nd : Nat) (ls : List Lim), vs = [.ref r, nv n, v, nv nd] ∧ H r = some (.dK (kvF nv g)) ∧ LR LimR (del H r) v ls ∧ n < 8 ∧ (g.map (·.1)).Nodup ∧
  (cntS g (n, ls, nd)).length ≤ sizeLine ∧ ∀ (d : Addr) (H' : Hp), Same H H' → H d = none → H' d = some (.dK (kvF nv (cntS g (n, ls, nd)))) → Q (.ref d) H'
theorem ok_count_values {f : Addr} {fd : FuncData} (F : Fun K "count_values" "count_values" s_count_values f fd) (T : Txt K mg PL) (c_values_within : Cal P w K mg base 2 "values_within" ["limits", "choice"] (sp_values_within K)) (c_chosen : Cal P w K mg base 1 "chosen" ["name", "value"] (sp_chosen K)) : FnOk P w K mg base CX0 3 f fd ["counts", "name", "limits", "needed"] (sp_count_values K) := by
  refine F.ok sc_count_values (fun vs H Q E h => ?_) (fun cdv A outer s H vs Q E hr h => ?_)
  · obtain ⟨r, v, g, n, nd, ls, rfl, _⟩ := h
    rfl
  · obtain ⟨r, v, g, n, nd, ls, rfl, hg, hls, hn, hnd, hsz, k⟩ := h
    have hu := hu_of hr
    refine ⟨_, (pss_cons (ps_set (i := 4) sc_count_values.nd rfl (by first | exact Or.inl rfl | exact Or.inr rfl) pe_dnewK)
      (pss_cons (ps_lock (ps_for PassesOwn.never rfl (pi_keys (pv 0)) (pg_name (i := 5) sc_count_values.nd rfl (by first | exact Or.inl rfl | exact Or.inr rfl))
      (pss_one (ps_for PassesOwn.never rfl (pi_list (pe_cal c_values_within (hr.mono (by decide)) rfl (pa_cons (pv 2) (pa_cons (pv 5) pa_nil)))) (pg_name (i := 6) sc_count_values.nd rfl (by first | exact Or.inl rfl | exact Or.inr rfl))
      (pss_cons (ps_set (i := 7) sc_count_values.nd rfl (by first | exact Or.inl rfl | exact Or.inr rfl) (pe_op op_and (pe_op op_or (pv 5) (pe_cal c_chosen (hr.mono (by decide)) rfl (pa_cons (pv 1) (pa_cons (pv 6) pa_nil)))) (pv 3)))
      (pss_one (ps_dput2 hu (pv 4) (pv 7) (pe_op op_add (pe_dget2 hu (pv 4) (pv 7) pe_int ⟨rfl, rfl, rfl, rfl⟩) (pe_dget hu (pv 0) (pv 5) (fun _ _ => rfl))) rfl)))))))
      (pss_one (ps_ret (pv 4))))), ?_⟩
    intro d hd
    have nr : d ≠ r := fun z => by rw [z, hg] at hd; cases hd
    refine ⟨r, .dK (kvF nv g), (by rw [upd_ne (Ne.symm nr)]; exact hg), True.intro, fun od => ?_⟩
    have hd0 : (upd H r (.frz od (.dK (kvF nv g)))) d = none := by rw [upd_ne nr]; exact hd
    have hr0 : (upd H r (.frz od (.dK (kvF nv g)))) r = some (.frz od (.dK (kvF nv g))) := upd_same
    have hl0 : LR LimR (upd H r (.frz od (.dK (kvF nv g)))) v ls := up (mono_L mono_Lim) del_lock hls
    have s0 : Same (upd H r (.frz od (.dK (kvF nv g)))) (upd (upd H d (.dK [])) r (.frz od (.dK (kvF nv g)))) := same_lock hd
    have d0 : (upd (upd H d (.dK [])) r (.frz od (.dK (kvF nv g)))) d = some (.dK []) := by rw [upd_ne nr, upd_same]
    have fin : ∀ {H'}, Same (upd H r (.frz od (.dK (kvF nv g)))) H' → Same H (upd H' r (.dK (kvF nv g))) := fun s => unlock_same hg s
    generalize hB : upd H r (.frz od (.dK (kvF nv g))) = B at hd0 hr0 hl0 s0 fin
    refine ⟨_, rfl, r, od, rfl, .inl ⟨_, upd_same, ?_⟩⟩
    refine for_keys (d := r) (o := od) (kvs := kvF nv g) (fun i σ H' => ∃ v5 v6 v7 : Option V, σ = [some (.ref r), some (nv n), some v, some (nv nd), some (.ref d), v5, v6, v7] ∧ Same B H' ∧ H' d = some (.dK (kvF nv ((itC (g.take i) (n, ls, nd)).foldl addK []))))
      ⟨none, none, none, rfl, s0, d0⟩ (fun i σ H' _ ⟨_, _, _, _, s, _⟩ => s _ _ hr0) ?_ ?_
    · rintro i k1 w1 σ H1 hi ⟨v5, v6, v7, rfl, s1, d1⟩
      obtain ⟨⟨c, rr⟩, hc, e⟩ := map_at hi
      cases e
      refine ⟨_, rfl, _, rfl, v, ls, c, rfl, up (mono_L mono_Lim) s1 hl0, fun w H2 s2 hw => ?_⟩
      obtain ⟨wa, rfl, hwa⟩ := hw
      have hwa1 := sub_iff.mp hwa
      have nw : wa ≠ d := fun z => by rw [z, d1] at hwa1; cases hwa1.1
      have tk := take_flat (f := itC1 (n, ls, nd)) hc
      refine ⟨wa, rfl, ⟨_, SqL.of hwa1.2⟩, ?_⟩
      refine for_list (K := K) (a := wa) (xs := (valsOf (alwd ls c)).map nv) (fun j σ H' => ∃ v6 v7 : Option V, σ = [some (.ref r), some (nv n), some v, some (nv nd), some (.ref d), some (nv c), v6, v7] ∧ Same B H' ∧ H' wa = some (.lst ((valsOf (alwd ls c)).map nv)) ∧
          H' d = some (.dK (kvF nv ((itC (g.take i) (n, ls, nd) ++ (itC1 (n, ls, nd) (c, rr)).take j).foldl addK []))))
        ⟨v6, v7, rfl, s1.trans s2, hwa1.2, by rw [List.take_zero, List.append_nil]; exact s2 _ _ d1⟩ (fun j σ H' _ ⟨_, _, _, _, e, _⟩ => SqL.of e) ?_ ?_
      · rintro j y σ H3 hj ⟨w6, w7, rfl, s3, e3, d3⟩
        obtain ⟨x, hx, rfl⟩ := map_at hj
        have hx16 := vals_lt (List.mem_of_getElem? hx)
        have xat := itC1_at (s := (n, ls, nd)) (kn := (c, rr)) hx
        have hkey : V.int (Builtin.bitAnd (Builtin.bitOr ((c : Nat) : Int) ((cho n x : Nat) : Int)) ((nd : Nat) : Int)) = nv ((c ||| cho n x) &&& nd) := by
          rw [b_or]
          exact v_and _ _
        have hval : some (nv rr) = valV (kvF nv g) (Sum.inl ((c : Nat) : Int)) := by
          rw [valV_F, lookN_of_mem hnd (show (c, rr) ∈ g from List.mem_of_getElem? hc)]
          rfl
        have nx : (itC (g.take i) (n, ls, nd) ++ (itC1 (n, ls, nd) (c, rr)).take (j + 1)).foldl addK [] = addK ((itC (g.take i) (n, ls, nd) ++ (itC1 (n, ls, nd) (c, rr)).take j).foldl addK []) ((c ||| cho n x) &&& nd, rr) := by
          rw [List.take_add_one, xat, ← List.append_assoc, List.foldl_append]
          rfl
        have pl : ((itC (g.take i) (n, ls, nd) ++ (itC1 (n, ls, nd) (c, rr)).take (j + 1)).foldl addK []).length ≤ sizeLine := Nat.le_trans (add_len fun z hz => mem_take_flat hc hz) hsz
        rw [nx] at pl
        generalize hG : (itC (g.take i) (n, ls, nd) ++ (itC1 (n, ls, nd) (c, rr)).take j).foldl addK [] = G at d3 nx pl
        have eg : (valV (kvF nv G) (Sum.inl (((c ||| cho n x) &&& nd : Nat) : Int))).getD (V.int 0) = nv ((lookN G ((c ||| cho n x) &&& nd)).getD 0) := by
          rw [valV_F]
          cases lookN G ((c ||| cho n x) &&& nd) <;> rfl
        have ev : V.int ((((lookN G ((c ||| cho n x) &&& nd)).getD 0 : Nat) : Int) + ((rr : Nat) : Int)) = nv ((lookN G ((c ||| cho n x) &&& nd)).getD 0 + rr) := by
          show V.int _ = V.int _
          rw [Int.natCast_add]
        refine ⟨_, rfl, _, rfl, _, rfl, n, x, rfl, by omega, by omega, _, _, rfl, rfl, ?_⟩
        refine ⟨_, rfl, _, _, rfl, rfl, ?_⟩
        refine ⟨_, rfl, d, rfl, .inl ⟨_, .inl d3⟩, _, rfl, _, .inl ⟨_, Sum.inl (((c ||| cho n x) &&& nd : Nat) : Int), .inl d3, hkey, rfl⟩, ?_⟩
        refine ⟨_, rfl, _, rfl, r, _, rfl, .inl ⟨_, Sum.inl ((c : Nat) : Int), .inr ⟨od, s3 _ _ hr0⟩, rfl, hval⟩, _, _, eg, rfl, ?_⟩
        refine ⟨_, rfl, _, rfl, d, _, Sum.inl (((c ||| cho n x) &&& nd : Nat) : Int), rfl, d3, hkey, ?_, _, _, rfl, to_upd s3 hd0, (by rw [upd_ne nw]; exact e3), ?_⟩
        · show (putK (kvF nv G) _ (V.int (_ + _))).length ≤ sizeLine
          rw [ev, putK_F, kvF_len]
          exact pl
        · rw [upd_same, nx]
          show some (HO.dK (putK (kvF nv G) _ (V.int (_ + _)))) = _
          rw [ev, putK_F]
          rfl
      · rintro σ H3 ⟨w6, w7, rfl, s3, e3, d3⟩
        refine ⟨_, _, _, rfl, s3, ?_⟩
        rw [List.length_map, List.take_of_length_le (Nat.le_of_eq (itC1_len (n, ls, nd) (c, rr)))] at d3
        rw [d3]
        show _ = some (HO.dK (kvF nv (((g.take (i + 1)).flatMap _).foldl addK [])))
        rw [tk]
        rfl
    · rintro σ H1 ⟨v5, v6, v7, rfl, s1, d1⟩
      refine ⟨s1 _ _ hr0, _, rfl, k d _ (fin s1) hd ?_⟩
      rw [upd_ne nr, d1]
      show some (HO.dK (kvF nv ((itC (g.take (g.map _).length) (n, ls, nd)).foldl addK []))) = _
      rw [List.length_map, List.take_length]
      rfl
theorem sc_fitting_choices : FnScope ["part", "rows", "found", "row", "choice"] ["part", "rows"] (defScope s_fitting_choices) := ⟨rfl, rfl, rfl, by decide +kernel, rfl, by decide +kernel, by decide +kernel⟩
/-- what each row that fits the part makes of its names -/
def sp_fitting_choices (_ : PySem.W.Frag) : Sp := fun vs H Q _ => ∃ (v u : V) (p : Sa97.Row) (d : Sa97.Rows), vs = [v, u] ∧ RowR H v p ∧ LR RowR H u d ∧ d.length ≤ 1000 ∧ p.at_.length = Sa97.places p.table ∧ (∀ x ∈ p.at_, x < 8) ∧ RowsOk d ∧
  ∀ (w : V) (H' : Hp), Same H H' → NsR (sub H' H) w (chs p d) → Q w H'
theorem ok_fitting_choices {f : Addr} {fd : FuncData} (F : Fun K "fitting_choices" "fitting_choices" s_fitting_choices f fd) (T : Txt K mg PL) (c_choice_of : Cal P w K mg base 2 "choice_of" ["names", "values"] (sp_choice_of K)) : FnOk P w K mg base CX0 3 f fd ["part", "rows"] (sp_fitting_choices K) := by
  refine F.ok sc_fitting_choices (fun vs H Q E h => ?_) (fun cdv A outer s H vs Q E hr h => ?_)
  · obtain ⟨v, u, p, d, rfl, _⟩ := h
    rfl
  · obtain ⟨v, u, p, d, rfl, hv, ⟨ra, rvs, rfl, hra, hrp⟩, hd, hp, h8, hro, k⟩ := h
    obtain ⟨pb, pc, rfl, hpb, hpc⟩ := Row_out hv
    have hu := hu_of hr
    refine ⟨_, (pss_cons (ps_setLc (i := 2) (own := [(("row" : Str), 3)]) rfl sc_fitting_choices.nd rfl rfl (sw_true rfl rfl rfl rfl) (pi_list (pv 1)) (blkOk_by (N := ["part", "rows", "found", "row", "choice"]) (sc := defScope s_fitting_choices) (by decide +kernel)) (fun _ _ _ _ _ => (pg_name (i := 3) sc_fitting_choices.nd rfl (by first | exact Or.inl rfl | exact Or.inr rfl))) (fun _ _ _ _ _ => (pts_one (pt_cmpR op_eq (pe_ix (ix_tupK (K := K) rfl) (pv 3) pe_int (fun _ _ => rfl)) (pe_ix (ix_tupK (K := K) rfl) (pv 0) pe_int (fun _ _ => rfl)) (nomark _)))) (fun _ _ _ _ _ => (pe_cal c_choice_of (hr.mono (by decide)) rfl (pa_cons (pe_ix (ix_tupK (K := K) rfl) (pv 0) pe_int (fun _ _ => rfl)) (pa_cons (pe_ix (ix_tupK (K := K) rfl) (pv 3) pe_int (fun _ _ => rfl)) pa_nil)))))
      (pss_one (ps_ret (pe_lc (own := [(("choice" : Str), 4)]) rfl sc_fitting_choices.nd (pi_list (pv 2)) (blkOk_by (N := ["part", "rows", "found", "row", "choice"]) (sc := defScope s_fitting_choices) (by decide +kernel)) (fun _ _ _ _ _ => (pg_name (i := 4) sc_fitting_choices.nd rfl (by first | exact Or.inl rfl | exact Or.inr rfl))) (fun _ _ _ _ _ => (pts_one (pt_cmpR op_notN (pv 4) pe_non (nomark _)))) (fun _ _ _ _ _ => (pv 4)))))), ?_⟩
    refine ⟨_, rfl, ra, rfl, ⟨_, SqL.of hra⟩, fun D hD => ?_⟩
    refine lc_rd (R := OpR1) mono_Op hD (SqL.of hra) d (fun r => if r.table = p.table then some ((Sx34.unify (p.at_.zip r.at_) []).map pk) else none) (paired_len hrp) hd (fun i x r H' N hx hy sH yes no => ?_) (fun H2 s2 hL => ?_)
    · obtain ⟨r', hr1, hR⟩ := paired_at hrp hx
      have er := Option.some.inj (hr1.symm.trans hy)
      subst er
      obtain ⟨b, c, rfl, hb, hc⟩ := Row_out hR
      obtain ⟨hrl, hr16⟩ := hro r' (List.mem_of_getElem? hr1)
      refine ⟨rfl, _, rfl, b, _, _, _, rfl, rfl, SqT.of (sH _ _ hb), atI_nat (j := 0) rfl, _, rfl, pb, _, _, _, rfl, rfl, SqT.of (sH _ _ hpb), atI_nat (j := 0) rfl, rfl, _, rfl, ?_⟩
      refine ite2 (fun ht => ?_) (fun ht => ?_)
      · have et : r'.table = p.table := by
          have := of_decide_eq_true ht
          injection this with this
          omega
        refine ⟨_, rfl, pb, _, _, _, rfl, rfl, SqT.of (sH _ _ hpb), atI_nat (j := 1) rfl, _, rfl, b, _, _, _, rfl, rfl, SqT.of (sH _ _ hb), atI_nat (j := 1) rfl, pc, c, p.at_, r'.at_, rfl, SqL.of (sH _ _ hpc), SqL.of (sH _ _ hc), by rw [hp, hrl, et], ?_, fun x hx => ?_, fun x hx => ?_, fun hno H4 s4 => ?_, fun e he H4 s4 => ?_⟩
        · rw [hp]
          exact Nat.le_trans (places_le _) (by decide)
        · have := h8 x hx
          omega
        · have := hr16 x hx
          omega
        · exact yes H4 .non none (by rw [if_pos et, hno]; rfl) s4 rfl
        · exact yes H4 (nv (pk e)) (some (pk e)) (by rw [if_pos et, he]; rfl) s4 rfl
      · refine no _ (if_neg fun z => ht ?_) (Same.refl _)
        rw [z]
        exact decide_eq_true rfl
    · obtain ⟨D', fvs, e1, hf, hfp⟩ := hL
      cases e1
      have hf2 := (sub_iff.mp hf).2
      refine ⟨_, rfl, D, rfl, ⟨_, SqL.of hf2⟩, fun D2 hD2 => ?_⟩
      refine lc_rd (R := NR) mono_N hD2 (SqL.of hf2) _ (fun o : Option Nat => o) (paired_len hfp) (Nat.le_trans (List.length_filterMap_le _ _) hd) (fun i x o H' N hx hy sH yes no => ?_) (fun H3 s3 hL2 => ?_)
      · obtain ⟨o', ho1, hR⟩ := paired_at hfp hx
        have eo := Option.some.inj (ho1.symm.trans hy)
        subst eo
        cases o' with
        | none =>
          have hx0 : x = .non := hR
          subst hx0
          refine ⟨rfl, _, rfl, rfl, _, rfl, ?_⟩
          exact ifF rfl (no _ rfl (Same.refl _))
        | some n =>
          have hx0 : x = nv n := hR
          subst hx0
          refine ⟨rfl, _, rfl, rfl, _, rfl, ?_⟩
          refine ifT rfl ?_
          exact ⟨_, rfl, yes _ _ _ rfl (Same.refl _) rfl⟩
      · have st : Same H H3 := s2.trans s3
        refine k _ H3 st ?_
        have := LR_Ns hL2
        rw [chs_two] at this
        exact up mono_Ns (le_sub (Same.refl _) s2) this
theorem sc_how_many_values : FnScope ["name", "fits", "allowed", "bits", "choices"] ["name", "fits"] (defScope s_how_many_values) := ⟨rfl, rfl, rfl, by decide +kernel, rfl, by decide +kernel, by decide +kernel⟩
/-- how many values the name can have, each part by itself -/
def sp_how_many_values (_ : PySem.W.Frag) : Sp := fun vs H Q _ => ∃ (n : Nat) (v : V) (fs : List (Nat × List Nat)), vs = [nv n, v] ∧ LR FitR H v fs ∧ n ≤ 1000 ∧ (∀ f ∈ fs, f.2.length ≤ 1000) ∧ ∀ H' : Hp, Same H H' → Q (nv (hmN fs n)) H'
theorem ok_how_many_values {f : Addr} {fd : FuncData} (F : Fun K "how_many_values" "how_many_values" s_how_many_values f fd) (T : Txt K mg PL) (c_values_of : Cal P w K mg base 1 "values_of" ["allowed"] (sp_values_of K)) (c_values_beside : Cal P w K mg base 2 "values_beside" ["choices", "known", "name"] (sp_values_beside K)) (c_bits_of : Cal P w K mg base 2 "bits_of" ["names"] (sp_bits_of K)) : FnOk P w K mg base CX0 3 f fd ["name", "fits"] (sp_how_many_values K) := by
  refine F.ok sc_how_many_values (fun vs H Q E h => ?_) (fun cdv A outer s H vs Q E hr h => ?_)
  · obtain ⟨n, v, fs, rfl, _⟩ := h
    rfl
  · obtain ⟨n, v, fs, rfl, ⟨a, vs, rfl, ha, hp⟩, hn, hfl, k⟩ := h
    have hu := hu_of hr
    refine ⟨_, (pss_cons (ps_set (i := 2) sc_how_many_values.nd rfl (by first | exact Or.inl rfl | exact Or.inr rfl) (pe_gl rfl T.c_ALL_VALUES))
      (pss_cons (ps_for PassesOwn.never rfl (pi_list (pv 1)) (pg_tup rfl (pgs_cons (pg_name (i := 3) sc_how_many_values.nd rfl (by first | exact Or.inl rfl | exact Or.inr rfl)) (pgs_cons (pg_name (i := 4) sc_how_many_values.nd rfl (by first | exact Or.inl rfl | exact Or.inr rfl)) pgs_nil)))
      (pss_one (ps_if (pt_truth (pe_op op_and (pv 3) (pe_cal c_bits_of (hr.mono (by decide)) rfl (pa_cons (pe_lst (pa_cons (pv 0) pa_nil)) pa_nil))) (fun _ => rfl)) (pss_one (ps_aug (i := 2) sc_how_many_values.nd rfl (by first | exact Or.inl rfl | exact Or.inr rfl) (pe_dget2 hu (pe_cal c_values_beside (hr.mono (by decide)) rfl (pa_cons (pv 4) (pa_cons pe_int (pa_cons (pv 0) pa_nil)))) pe_int pe_int ⟨rfl, rfl, rfl, rfl⟩) (pip_of iop_and))) pss_nil)))
      (pss_one (ps_ret (pe_callB call_len_seq (by rfl) T.n_len b_len (pa_cons (pe_cal c_values_of (hr.mono (by decide)) rfl (pa_cons (pv 2) pa_nil)) pa_nil)))))), ?_⟩
    refine ⟨_, rfl, a, rfl, ⟨_, SqL.of ha⟩, for_list (K := K) (a := a) (xs := vs) (fun i σ H' => ∃ v3 v4 : Option V, σ = [some (nv n), some (.ref a), some (nv (hmv (fs.take i) n)), v3, v4] ∧ Same H H')
      ⟨none, none, rfl, Same.refl H⟩ (fun i σ H' _ ⟨_, _, _, e⟩ => SqL.of (e _ _ ha)) ?_ ?_⟩
    · rintro i x σ H1 hi ⟨v3, v4, rfl, s1⟩
      obtain ⟨f, hf, hR⟩ := paired_at hp hi
      obtain ⟨b, c, rfl, hb, hc⟩ := Fit_out hR
      have tk : hmv (fs.take (i + 1)) n = if f.1 &&& cho n 15 ≠ 0 then hmv (fs.take i) n &&& (lookN (vbes f.2 0 n) 0).getD 0 else hmv (fs.take i) n := by
        unfold hmv
        rw [List.take_add_one, hf, List.foldl_append]
        rfl
      refine ⟨b, _, rfl, SqT.of (s1 _ _ hb), rfl, _, _, rfl, _, _, rfl, rfl, ?_⟩
      refine ⟨_, rfl, _, rfl, one_line, fun l hl => ?_⟩
      have s2 : Same H1 (upd H1 l (.lst [nv n])) := new_upd hl
      refine ⟨l, [n], rfl, SqL.of upd_same, fun x hx => (by rw [List.mem_singleton.mp hx]; exact hn), _, _, rfl, rfl, _, rfl, ?_⟩
      refine ite2 (fun hne => ?_) (fun heq => ?_)
      · have h1 : f.1 &&& cho n 15 ≠ 0 := by
          have := (ne_zero_int (f.1 &&& msk [n])).mp (by rw [← b_and]; exact hne)
          rw [msk_one] at this
          exact this
        refine ⟨_, rfl, _, rfl, _, rfl, c, f.2, 0, n, rfl, SqL.of (s2 _ _ (s1 _ _ hc)), hfl f (List.mem_of_getElem? hf), hn, fun w H3 s3 hw => ?_⟩
        obtain ⟨d, rfl, hd⟩ := up mono_D sub_le hw
        have eg : (valV (kvF nv (vbes f.2 0 n)) (Sum.inl ((0 : Nat) : Int))).getD (V.int 0) = nv ((lookN (vbes f.2 0 n) 0).getD 0) := by
          rw [valV_F]
          cases lookN (vbes f.2 0 n) 0 <;> rfl
        refine ⟨d, rfl, .inl ⟨_, .inl hd⟩, _, DGet.k (k := Sum.inl ((0 : Nat) : Int)) hd, _, _, rfl, eg, some (nv f.1), some (.ref c), ?_, (s1.trans s2).trans s3⟩
        show [_, _, some (V.int (Builtin.bitAnd _ _)), _, _] = _
        rw [v_and, tk, if_pos h1]
      · have h1 : ¬ f.1 &&& cho n 15 ≠ 0 := fun z => heq (by
          show (Builtin.bitAnd _ _ != 0) = true
          rw [b_and]
          refine (ne_zero_int _).mpr ?_
          rw [msk_one]
          exact z)
        refine ⟨some (nv f.1), some (.ref c), ?_, s1.trans s2⟩
        rw [tk, if_neg h1]
        rfl
    · rintro σ H1 ⟨v3, v4, rfl, s1⟩
      rw [paired_len hp, List.take_length]
      refine ⟨_, rfl, _, rfl, fun w H2 s2 hw => ?_⟩
      obtain ⟨d, rfl, hd⟩ := up mono_Ns sub_le hw
      refine ⟨d, _, rfl, .inl (SqL.of hd), ?_⟩
      rw [List.length_map]
      exact k H2 (s1.trans s2)
theorem sc_fits_of : FnScope ["parts", "rows", "part"] ["parts", "rows"] (defScope s_fits_of) := ⟨rfl, rfl, rfl, by decide +kernel, rfl, by decide +kernel, by decide +kernel⟩
/-- for each part its names' bits, and the choices that fit it -/
def sp_fits_of (_ : PySem.W.Frag) : Sp := fun vs H Q _ => ∃ (v u : V) (ps : List Sa97.Row) (d : Sa97.Rows), vs = [v, u] ∧ LR RowR H v ps ∧ LR RowR H u d ∧ ps.length ≤ 1000 ∧ d.length ≤ 1000 ∧ PartsOk ps ∧ (∀ p ∈ ps, ∀ x ∈ p.at_, x < 8) ∧ RowsOk d ∧
  ∀ (w : V) (H' : Hp), Same H H' → LR FitR (sub H' H) w (mfs (fsOf ps d)) → Q w H'
theorem ok_fits_of {f : Addr} {fd : FuncData} (F : Fun K "fits_of" "fits_of" s_fits_of f fd) (T : Txt K mg PL) (c_fitting_choices : Cal P w K mg base 3 "fitting_choices" ["part", "rows"] (sp_fitting_choices K)) (c_bits_of : Cal P w K mg base 2 "bits_of" ["names"] (sp_bits_of K)) : FnOk P w K mg base CX0 4 f fd ["parts", "rows"] (sp_fits_of K) := by
  refine F.ok sc_fits_of (fun vs H Q E h => ?_) (fun cdv A outer s H vs Q E hr h => ?_)
  · obtain ⟨v, u, ps, d, rfl, _⟩ := h
    rfl
  · obtain ⟨v, u, ps, d, rfl, ⟨pa, pvs, rfl, hpa, hpp⟩, hd, hl, hdl, hp, h8, hro, k⟩ := h
    refine ⟨_, (pss_one (ps_ret (pe_lc (own := [(("part" : Str), 2)]) rfl sc_fits_of.nd (pi_list (pv 0)) (blkOk_by (N := ["parts", "rows", "part"]) (sc := defScope s_fits_of) (by decide +kernel)) (fun _ _ _ _ _ => (pg_name (i := 2) sc_fits_of.nd rfl (by first | exact Or.inl rfl | exact Or.inr rfl))) (fun _ _ _ _ _ => pts_nil) (fun _ _ _ _ _ => (pe_tup (pa_cons (pe_cal c_bits_of (hr.mono (by decide)) rfl (pa_cons (pe_ix (ix_tupK (K := K) rfl) (pv 2) pe_int (fun _ _ => rfl)) pa_nil)) (pa_cons (pe_cal c_fitting_choices (hr.mono (by decide)) rfl (pa_cons (pv 2) (pa_cons (pv 1) pa_nil))) pa_nil))))))), ?_⟩
    refine ⟨_, rfl, pa, rfl, ⟨_, SqL.of hpa⟩, fun D hD => ?_⟩
    refine lc_map (R := FitR) mono_Fit hD (SqL.of hpa) ps (fun p => (msk p.at_, chs p d)) (paired_len hpp) hl (fun i x p H' N hx hy sH yes => ?_) (fun H2 s2 hL => ?_)
    · obtain ⟨p', hp1, hR⟩ := paired_at hpp hx
      have ep := Option.some.inj (hp1.symm.trans hy)
      subst ep
      have hm := List.mem_of_getElem? hp1
      obtain ⟨b, c, rfl, hb, hc⟩ := Row_out hR
      refine ⟨rfl, _, rfl, b, _, _, _, rfl, rfl, SqT.of (sH _ _ hb), atI_nat (j := 1) rfl, c, p'.at_, rfl, SqL.of (sH _ _ hc), fun x hx => ?_, ?_⟩
      · have := h8 p' hm x hx
        omega
      · refine ⟨_, rfl, _, rfl, _, _, p', d, rfl, up mono_Row sH hR, up (mono_L mono_Row) sH hd, hdl, hp p' hm, h8 p' hm, hro, fun w H4 s4 hw => ?_⟩
        refine ⟨(by show 2 ≤ sizeLine; decide), fun T1 hT1 => ?_⟩
        have s5 : Same H4 (upd H4 T1 (.tup [nv (msk p'.at_), w])) := new_upd hT1
        exact yes _ _ (s4.trans s5) ⟨T1, _, _, rfl, sub_new (s4.free hT1), rfl, up mono_Ns (le_sub s5 (Same.refl _)) hw⟩
    · refine k _ H2 s2 ?_
      have e : (ps.map fun p => (msk p.at_, chs p d)) = mfs (fsOf ps d) := by
        unfold mfs fsOf
        rw [List.map_map]
        rfl
      rw [e] at hL
      exact hL
theorem sc_cheapest_order : FnScope ["names", "fits", "kept", "sized", "orders", "length", "longer", "done", "choices", "name", "own", "size", "order"] ["names", "fits", "kept"] (defScope s_cheapest_order) := ⟨rfl, rfl, rfl, by decide +kernel, rfl, by decide +kernel, by decide +kernel⟩
/-- the names in the order that costs least -/
def sp_cheapest_order (_ : PySem.W.Frag) : Sp := fun vs H Q _ => ∃ (v u : V) (ns : List Nat) (fs : List (Nat × List Nat)) (kp : Nat), vs = [v, u, nv kp] ∧ NsR H v ns ∧ LR FitR H u fs ∧ ns.Nodup ∧ (∀ x ∈ ns, x < 8) ∧ (∀ f ∈ fs, f.2.length ≤ 1000) ∧
  ∀ (w : V) (o : List Nat) (H' : Hp), Same H H' → NsR (sub H' H) w o → o.Perm ns → (∀ o' : List Nat, o'.Perm ns → cst fs kp (szOf fs ns) o ≤ cst fs kp (szOf fs ns) o') → Q w H'
theorem ok_cheapest_order {f : Addr} {fd : FuncData} (F : Fun K "cheapest_order" "cheapest_order" s_cheapest_order f fd) (T : Txt K mg PL) (c_how_many_values : Cal P w K mg base 3 "how_many_values" ["name", "fits"] (sp_how_many_values K)) (c_most_choices : Cal P w K mg base 1 "most_choices" ["needed", "sized"] (sp_most_choices K)) (c_still_needed : Cal P w K mg base 1 "still_needed" ["done", "fits", "kept"] (sp_still_needed K)) (c_bits_of : Cal P w K mg base 2 "bits_of" ["names"] (sp_bits_of K)) : FnOk P w K mg base CX0 4 f fd ["names", "fits", "kept"] (sp_cheapest_order K) := by
  refine F.ok sc_cheapest_order (fun vs H Q E h => ?_) (fun cdv A outer s H vs Q E hr h => ?_)
  · obtain ⟨v, u, ns, fs, kp, rfl, _⟩ := h
    rfl
  · obtain ⟨v, u, ns, fs, kp, rfl, ⟨na, rfl, hna⟩, hfs, hnd, h8, hfl, k⟩ := h
    have hu := hu_of hr
    have hnl : ns.length ≤ 8 := nodup_bound 8 ns hnd h8
    refine ⟨_, (pss_cons (ps_setLc (i := 3) (own := [(("name" : Str), 9)]) rfl sc_cheapest_order.nd rfl rfl (sw_true rfl rfl rfl rfl) (pi_list (pv 0)) (blkOk_by (N := ["names", "fits", "kept", "sized", "orders", "length", "longer", "done", "choices", "name", "own", "size", "order"]) (sc := defScope s_cheapest_order) (by decide +kernel)) (fun _ _ _ _ _ => (pg_name (i := 9) sc_cheapest_order.nd rfl (by first | exact Or.inl rfl | exact Or.inr rfl))) (fun _ _ _ _ _ => pts_nil) (fun _ _ _ _ _ => (pe_tup (pa_cons (pv 9) (pa_cons (pe_cal c_bits_of (hr.mono (by decide)) rfl (pa_cons (pe_lst (pa_cons (pv 9) pa_nil)) pa_nil)) (pa_cons (pe_cal c_how_many_values (hr.mono (by decide)) rfl (pa_cons (pv 9) (pa_cons (pv 1) pa_nil))) pa_nil))))))
      (pss_cons (ps_set (i := 4) sc_cheapest_order.nd rfl (by first | exact Or.inl rfl | exact Or.inr rfl) (pe_disp (pps_cons pe_int (pe_tup (pa_cons pe_int (pa_cons (pe_lst pa_nil) pa_nil))) pps_nil) rfl rfl (by simp) (by decide)))
      (pss_cons (ps_for PassesOwn.never rfl (pi_range1 rfl T.n_range (pa_cons (pe_callB call_len_seq (by rfl) T.n_len b_len (pa_cons (pv 0) pa_nil)) pa_nil)) (pg_name (i := 5) sc_cheapest_order.nd rfl (by first | exact Or.inl rfl | exact Or.inr rfl))
      (pss_cons (ps_set (i := 6) sc_cheapest_order.nd rfl (by first | exact Or.inl rfl | exact Or.inr rfl) pe_dnewK)
      (pss_cons (ps_lock (ps_for PassesOwn.never rfl (pi_keys (pv 4)) (pg_name (i := 7) sc_cheapest_order.nd rfl (by first | exact Or.inl rfl | exact Or.inr rfl))
      (pss_cons (ps_set (i := 8) sc_cheapest_order.nd rfl (by first | exact Or.inl rfl | exact Or.inr rfl) (pe_cal c_most_choices (hr.mono (by decide)) rfl (pa_cons (pe_cal c_still_needed (hr.mono (by decide)) rfl (pa_cons (pv 7) (pa_cons (pv 1) (pa_cons (pv 2) pa_nil)))) (pa_cons (pv 3) pa_nil))))
      (pss_one (ps_for PassesOwn.never rfl (pi_list (pv 3)) (pg_tup rfl (pgs_cons (pg_name (i := 9) sc_cheapest_order.nd rfl (by first | exact Or.inl rfl | exact Or.inr rfl)) (pgs_cons (pg_name (i := 10) sc_cheapest_order.nd rfl (by first | exact Or.inl rfl | exact Or.inr rfl)) (pgs_cons (pg_name (i := 11) sc_cheapest_order.nd rfl (by first | exact Or.inl rfl | exact Or.inr rfl)) pgs_nil))))
      (pss_one (ps_if (pt_not (pt_truth (pe_op op_and (pv 7) (pv 10)) (fun _ => rfl))) (pss_cons (ps_set (i := 12) sc_cheapest_order.nd rfl (by first | exact Or.inl rfl | exact Or.inr rfl) (pe_tup (pa_cons (pe_op op_add (pe_ix ix_tup (pe_dget hu (pv 4) (pv 7) (fun _ _ => rfl)) pe_int (fun _ _ => rfl)) (pe_op op_mul (pv 8) (pv 11))) (pa_cons (pe_op op_cat (pe_ix ix_tup (pe_dget hu (pv 4) (pv 7) (fun _ _ => rfl)) pe_int (fun _ _ => rfl)) (pe_lst (pa_cons (pv 9) pa_nil))) pa_nil))))
      (pss_one (ps_dput hu (pv 6) (pe_op op_or (pv 7) (pv 10)) (pe_callB (cr_minT rfl hr.units) (by rfl) T.n_min b_min (pa_cons (pv 12) (pa_cons (pe_dget2 hu (pv 6) (pe_op op_or (pv 7) (pv 10)) (pv 12) ⟨rfl, rfl, rfl, rfl⟩) pa_nil))) rfl))) pss_nil)))))))
      (pss_one (ps_set (i := 4) sc_cheapest_order.nd rfl (by first | exact Or.inl rfl | exact Or.inr rfl) (pv 6))))))
      (pss_one (ps_ret (pe_ix ix_tup (pe_dget hu (pv 4) (pe_cal c_bits_of (hr.mono (by decide)) rfl (pa_cons (pv 0) pa_nil)) (fun _ _ => rfl)) pe_int (fun _ _ => rfl))))))), ?_⟩
    refine ⟨_, rfl, na, rfl, ⟨_, SqL.of hna⟩, fun D0 hD0 => ?_⟩
    refine lc_map (R := SizR) mono_Siz hD0 (SqL.of hna) ns (fun n => (n, cho n 15, hmN fs n)) (by rw [List.length_map]) (by omega) (fun i x n H' N hx hy sH yes => ?_) (fun H1 s1 hL => ?_)
    · obtain ⟨n', hn1, ex⟩ := map_at hx
      subst ex
      have en := Option.some.inj (hn1.symm.trans hy)
      subst en
      have hn8 := h8 n' (List.mem_of_getElem? hn1)
      refine ⟨rfl, _, rfl, _, rfl, one_line, fun l hl => ?_⟩
      have s2 : Same H' (upd H' l (.lst [nv n'])) := new_upd hl
      refine ⟨l, [n'], rfl, SqL.of upd_same, fun x hx => (by rw [List.mem_singleton.mp hx]; omega), ?_⟩
      refine ⟨_, rfl, _, rfl, n', _, fs, rfl, up (mono_L mono_Fit) (sH.trans s2) hfs, by omega, hfl, fun H4 s4 => ?_⟩
      refine ⟨(by show 3 ≤ sizeLine; decide), fun T1 hT1 => ?_⟩
      refine yes _ _ ((s2.trans s4).trans (new_upd hT1)) ⟨T1, _, _, _, rfl, sub_new ((s2.trans s4).free hT1), rfl, ?_, rfl⟩
      show nv (msk [n']) = nv (cho n' 15)
      rw [msk_one]
    · have hL1 : LR SizR H1 (.ref D0) (szOf fs ns) := up (mono_L mono_Siz) sub_le hL
      intro p hp
      refine ⟨Nat.zero_le _, fun l0 hl0 => ?_⟩
      have sp : Same H1 (upd H1 p (.dK [])) := new_upd hp
      refine ⟨(by show 2 ≤ sizeLine; decide), fun t0 ht0 => ?_⟩
      have sl : Same (upd H1 p (.dK [])) (upd (upd H1 p (.dK [])) l0 (.lst [])) := new_upd hl0
      have st : Same (upd (upd H1 p (.dK [])) l0 (.lst [])) (upd (upd (upd H1 p (.dK [])) l0 (.lst [])) t0 (.tup [.int 0, .ref l0])) := new_upd ht0
      refine ⟨(sl.trans st) _ _ upd_same, [(Sum.inl 0, .ref t0)], rfl, (by show 1 ≤ 15; decide), ?_⟩
      have sA : Same H1 (upd (upd (upd (upd H1 p (.dK [])) l0 (.lst [])) t0 (.tup [.int 0, .ref l0])) p (.dK (mergeK [] [(Sum.inl 0, .ref t0)]))) := to_upd ((sp.trans sl).trans st) hp
      refine ⟨_, rfl, na, _, rfl, .inl (SqL.of (sA _ _ (s1 _ _ hna))), _, rfl, by omega, by rw [List.length_map]; omega, ?_⟩
      rw [show (((ns.map nv).length : Nat) : Int).toNat = ns.length by rw [List.length_map]; omega]
      refine for_range (fun L σ H' => ∃ (D : Addr) (ks : List (Key × V)) (kvs : List (Nat × Ord)) (v5 v6 v7 v8 v9 v10 v11 v12 : Option V), σ = [some (.ref na), some u, some (nv kp), some (.ref D0), some (.ref D), v5, v6, v7, v8, v9, v10, v11, v12] ∧ Same H1 H' ∧ H1 D = none ∧ H' D = some (.dK ks) ∧
          PR (sub H' H1) ks kvs ∧ Tab fs kp (szOf fs ns) ns L kvs ∧ Cvr fs kp (szOf fs ns) ns L kvs)
        ⟨p, _, [(0, (0, []))], none, none, none, none, none, none, none, none, rfl, sA, hp, upd_same, ?_, ?_, ?_⟩ ?_ ?_
      · have n1 : t0 ≠ p := fun z => by rw [z, sl _ _ upd_same] at ht0; cases ht0
        have n2 : l0 ≠ p := fun z => by rw [z, upd_same] at hl0; cases hl0
        refine .cons ⟨rfl, t0, _, _, rfl, sub_iff.mpr ⟨(sp.trans sl).free ht0, (upd_ne n1).trans upd_same⟩, rfl, l0, rfl, sub_iff.mpr ⟨sp.free hl0, (upd_ne n2).trans (st _ _ upd_same)⟩⟩ .nil
      · exact ⟨List.nodup_cons.mpr ⟨by simp, List.nodup_nil⟩, fun e he => by rw [List.mem_singleton.mp he]; exact ⟨List.nodup_nil, fun x hx => absurd hx (by simp), rfl, rfl, rfl⟩⟩
      · intro r _ _ hr0
        rw [List.length_eq_zero_iff.mp hr0]
        exact ⟨0, [], rfl, Nat.le_refl _⟩
      · rintro L σ H2 hL2 ⟨D, ks, kvs, v5, v6, v7, v8, v9, v10, v11, v12, rfl, s2, hD, d2, pr, tb, cv⟩
        intro d3 hd3
        have nD : d3 ≠ D := fun z => by rw [z, d2] at hd3; cases hd3
        have s3 : Same H1 (upd H2 d3 (.dK [])) := s2.trans (new_upd hd3)
        have dD3 : (upd H2 d3 (.dK [])) D = some (.dK ks) := by rw [upd_ne (Ne.symm nD)]; exact d2
        refine ⟨D, .dK ks, dD3, True.intro, fun od => ?_⟩
        refine ⟨_, rfl, D, od, rfl, .inl ⟨_, upd_same, ?_⟩⟩
        refine for_keys (d := D) (o := od) (kvs := ks) (fun i σ H3 => ∃ (ks2 : List (Key × V)) (kvs2 : List (Nat × Ord)) (w7 w8 w9 w10 w11 w12 : Option V), σ = [some (.ref na), some u, some (nv kp), some (.ref D0), some (.ref D), some (.int (0 + (L : Nat))), some (.ref d3), w7, w8, w9, w10, w11, w12] ∧ Same H1 H3 ∧
            H3 D = some (.frz od (.dK ks)) ∧ H3 d3 = some (.dK ks2) ∧ PR (sub H3 H1) ks kvs ∧ PR (sub H3 H1) ks2 kvs2 ∧ Tab fs kp (szOf fs ns) ns (L + 1) kvs2 ∧
            ∀ j e, j < i → kvs[j]? = some e → ∀ x ∈ ns, ¬ e.1 &&& cho x 15 ≠ 0 → Cvd kvs2 (e.1 ||| cho x 15) (e.2.1 + mcN (ndOf fs kp e.1) (szOf fs ns) * hmN fs x))
          ⟨[], [], _, _, _, _, _, _, rfl, to_upd s3 hD, upd_same, (by rw [upd_ne nD, upd_same]), ((Kp.same (new_upd hd3)).trans (Kp.put dD3)).pr pr, .nil, ⟨List.nodup_nil, fun e he => absurd he (by simp)⟩, fun j e hj => absurd hj (Nat.not_lt_zero j)⟩
          (fun i σ H3 _ ⟨_, _, _, _, _, _, _, _, _, _, h, _⟩ => h) ?_ ?_
        · rintro i k1 w1 σ H3 hi ⟨ks2, kvs2, w7, w8, w9, w10, w11, w12, rfl, s4, dD, d3', pr1, pr2, tb2, cov⟩
          obtain ⟨⟨e1, e2⟩, he, hk1, hf1⟩ := paired_at pr1 hi
          dsimp only at hk1 hf1
          subst hk1
          have E := tb.ent _ (List.mem_of_getElem? he)
          refine ⟨_, rfl, _, rfl, _, rfl, e1, kp, _, fs, rfl, up (mono_L mono_Fit) (s1.trans s4) hfs, ?_⟩
          refine ⟨_, rfl, _, _, _, rfl, up (mono_L mono_Siz) s4 hL1, (fun z hz => ?_), ?_⟩
          · obtain ⟨n, _, rfl⟩ := List.mem_map.mp hz
            exact hmN_le fs n
          · obtain ⟨_, zvs, ez, hza, hzp⟩ := id hL1
            cases ez
            refine ⟨_, rfl, D0, rfl, ⟨_, SqL.of (s4 _ _ hza)⟩, ?_⟩
            refine for_list (K := K) (a := D0) (xs := zvs) (fun j σ H4 => ∃ (ks2 : List (Key × V)) (kvs2 : List (Nat × Ord)) (w9 w10 w11 w12 : Option V), σ = [some (.ref na), some u, some (nv kp), some (.ref D0), some (.ref D), some (.int (0 + (L : Nat))), some (.ref d3), some (nv e1), some (nv (mcN (ndOf fs kp e1) (szOf fs ns))), w9, w10, w11, w12] ∧ Same H1 H4 ∧
                H4 D = some (.frz od (.dK ks)) ∧ H4 d3 = some (.dK ks2) ∧ PR (sub H4 H1) ks kvs ∧ PR (sub H4 H1) ks2 kvs2 ∧ Tab fs kp (szOf fs ns) ns (L + 1) kvs2 ∧
                (∀ j e, j < i → kvs[j]? = some e → ∀ x ∈ ns, ¬ e.1 &&& cho x 15 ≠ 0 → Cvd kvs2 (e.1 ||| cho x 15) (e.2.1 + mcN (ndOf fs kp e.1) (szOf fs ns) * hmN fs x)) ∧
                ∀ x ∈ ns.take j, ¬ e1 &&& cho x 15 ≠ 0 → Cvd kvs2 (e1 ||| cho x 15) (e2.1 + mcN (ndOf fs kp e1) (szOf fs ns) * hmN fs x))
              ⟨ks2, kvs2, _, _, _, _, rfl, s4, dD, d3', pr1, pr2, tb2, cov, fun x hx => absurd hx (by simp)⟩ (fun j σ H4 _ ⟨_, _, _, _, _, _, _, s, _⟩ => SqL.of (s _ _ hza)) ?_ ?_
            · rintro j z σ H4 hj ⟨ks3, kvs3, w9, w10, w11, w12, rfl, s5, dD4, d4, pr3, pr4, tb3, cov3, cov4⟩
              obtain ⟨sz1, hs1, hR⟩ := paired_at hzp hj
              obtain ⟨n, hn, rfl⟩ := map_at hs1
              obtain ⟨b, rfl, hb⟩ := Siz_out hR
              dsimp only at hb
              have hnm := List.mem_of_getElem? hn
              have tk : ns.take (j + 1) = ns.take j ++ [n] := by
                rw [List.take_add_one, hn]
                rfl
              refine ⟨b, _, rfl, SqT.of (s5 _ _ hb), rfl, _, _, rfl, _, _, rfl, _, _, rfl, rfl, ?_⟩
              refine ⟨_, rfl, _, rfl, _, _, rfl, rfl, _, rfl, ?_⟩
              refine ite2 (fun hfree => ?_) (fun htaken => ?_)
              · have hfr : ¬ e1 &&& cho n 15 ≠ 0 := fun z => by
                  have h1 : (!(Builtin.bitAnd ((e1 : Nat) : Int) ((cho n 15 : Nat) : Int) != 0)) = true := hfree
                  rw [b_and, (ne_zero_int _).mpr z] at h1
                  cases h1
                have lk : lookN kvs e1 = some e2 := lookN_of_mem tb.keys (List.mem_of_getElem? he)
                rcases pair_val (k := e1) pr3 with ⟨h1, _⟩ | ⟨x, v, h1, hval, hRx⟩
                · rw [lk] at h1
                  cases h1
                · have ex := Option.some.inj (lk.symm.trans h1)
                  subst ex
                  obtain ⟨fb, fc, rfl, hfb, hfc⟩ := Fit_out hRx
                  have hm16 := hmN_le fs n
                  have gD : ∀ {H5 : Hp}, Same H4 H5 → DGet H5 D (nv e1) (some (.ref fb)) := fun s => .inl ⟨_, Sum.inl ((e1 : Nat) : Int), .inr ⟨od, s _ _ dD4⟩, rfl, hval.symm⟩
                  refine ⟨_, rfl, _, rfl, D, _, rfl, gD (Same.refl _), fb, _, _, _, rfl, rfl, SqT.of (sub_iff.mp hfb).2, atI_nat (j := 0) rfl, ?_⟩
                  refine ⟨_, rfl, _, rfl, _, _, rfl, rfl, .inr ⟨by omega, by omega⟩, _, _, rfl, rfl, ?_⟩
                  refine ⟨_, rfl, _, rfl, D, _, rfl, gD (Same.refl _), fb, _, _, _, rfl, rfl, SqT.of (sub_iff.mp hfb).2, atI_nat (j := 1) rfl, ?_⟩
                  refine ⟨_, rfl, one_line, fun l hl => ?_⟩
                  have sl1 : Same H4 (upd H4 l (.lst [nv n])) := new_upd hl
                  have E2 : Ent fs kp (szOf fs ns) ns (L + 1) (e1 ||| cho n 15, (e2.1 + mcN (ndOf fs kp e1) (szOf fs ns) * hmN fs n, e2.2 ++ [n])) := E.snoc hnm hfr
                  have ol : (e2.2 ++ [n]).length ≤ 1000 := Nat.le_trans (nodup_bound 8 _ E2.nd fun x hx => h8 x (E2.mem x hx)) (by decide)
                  refine ⟨fc, l, _, _, rfl, rfl, sl1 _ _ (sub_iff.mp hfc).2, upd_same, ?_, fun p2 hp2 => ?_⟩
                  · rw [List.length_append, List.length_singleton] at ol
                    rw [List.length_map, List.length_singleton]
                    exact Nat.le_of_lt (small1000 ol)
                  · refine ⟨(by show 2 ≤ sizeLine; decide), fun t1 ht1 => ?_⟩
                    have sl2 := sl1.trans (new_upd (o := .lst (e2.2.map nv ++ [nv n])) hp2)
                    have sl3 := sl2.trans (new_upd (o := .tup [.int ((e2.1 : Int) + (mcN (ndOf fs kp e1) (szOf fs ns) : Int) * (hmN fs n : Int)), .ref p2]) ht1)
                    revert sl3
                    generalize hH5 : upd (upd (upd H4 l (.lst [nv n])) p2 (.lst (e2.2.map nv ++ [nv n]))) t1 (.tup [.int ((e2.1 : Int) + (mcN (ndOf fs kp e1) (szOf fs ns) : Int) * (hmN fs n : Int)), .ref p2]) = H5
                    intro sl3
                    have ft : FitR (sub H5 H1) (.ref t1) (e2.1 + mcN (ndOf fs kp e1) (szOf fs ns) * hmN fs n, e2.2 ++ [n]) := by
                      have np : p2 ≠ t1 := fun z => by rw [← z, upd_same] at ht1; cases ht1
                      rw [← hH5]
                      refine ⟨t1, _, _, rfl, sub_new ((s5.trans sl2).free ht1), ?_, p2, rfl, sub_iff.mpr ⟨(s5.trans sl1).free hp2, ?_⟩⟩
                      · show V.int _ = V.int _
                        rw [Int.natCast_add, Int.natCast_mul]
                      · rw [upd_ne np, upd_same, List.map_append]
                        rfl
                    have pr4' : PR (sub H5 H1) ks3 kvs3 := (Kp.same sl3).pr pr4
                    have hg : ∃ (vb : Addr) (g : Ord), (valV ks3 (Sum.inl ((e1 ||| cho n 15 : Nat) : Int))).getD (.ref t1) = .ref vb ∧ FitR (sub H5 H1) (.ref vb) g ∧ Ent fs kp (szOf fs ns) ns (L + 1) (e1 ||| cho n 15, g) ∧ ∀ x, lookN kvs3 (e1 ||| cho n 15) = some x → g = x := by
                      rcases pair_val (k := e1 ||| cho n 15) pr4' with ⟨g1, g2⟩ | ⟨x, v, g1, g2, g3⟩
                      · refine ⟨t1, _, by rw [g2]; rfl, ft, E2, fun x hx => ?_⟩
                        rw [g1] at hx
                        cases hx
                      · obtain ⟨vb, rfl⟩ := fit_ref g3
                        refine ⟨vb, x, by rw [g2]; rfl, g3, tb3.ent _ (lookN_mem g1), fun y hy => Option.some.inj (g1.symm.trans hy)⟩
                    obtain ⟨vb, g, gv, gf, gE, gx⟩ := hg
                    refine ⟨_, rfl, _, rfl, d3, rfl, .inl ⟨_, .inl (sl3 _ _ d4)⟩, _, rfl, _, rfl, _, _, rfl, rfl, _, rfl, _, .inl ⟨_, Sum.inl ((e1 ||| cho n 15 : Nat) : Int), .inl (sl3 _ _ d4), v_or _ _, rfl⟩, ?_⟩
                    rw [gv]
                    refine ⟨t1, vb, (e2.1 + mcN (ndOf fs kp e1) (szOf fs ns) * hmN fs n, e2.2 ++ [n]), g, rfl, up mono_Fit sub_le ft, up mono_Fit sub_le gf, fun hle => ?_, fun hle => ?_⟩
                    · have zf : FitR (sub H5 H1) (V.ref t1) (e2.1 + mcN (ndOf fs kp e1) (szOf fs ns) * hmN fs n, e2.2 ++ [n]) := ft
                      have zE : Ent fs kp (szOf fs ns) ns (L + 1) (e1 ||| cho n 15, (e2.1 + mcN (ndOf fs kp e1) (szOf fs ns) * hmN fs n, e2.2 ++ [n])) := E2
                      have zc : (e2.1 + mcN (ndOf fs kp e1) (szOf fs ns) * hmN fs n, e2.2 ++ [n]).1 ≤ e2.1 + mcN (ndOf fs kp e1) (szOf fs ns) * hmN fs n := Nat.le_refl _
                      have zl : ∀ c1 o1, lookN kvs3 (e1 ||| cho n 15) = some (c1, o1) → (e2.1 + mcN (ndOf fs kp e1) (szOf fs ns) * hmN fs n, e2.2 ++ [n]).1 ≤ c1 := fun c1 o1 hc1 => by
                        rw [gx _ hc1] at hle
                        exact hle
                      refine ⟨_, rfl, _, rfl, _, rfl, _, _, rfl, rfl, d3, _, rfl, .inl ⟨_, Sum.inl ((e1 ||| cho n 15 : Nat) : Int), sl3 _ _ d4, v_or _ _, ?_, rfl⟩, ?_⟩
                      · rw [paired_len pr4]
                        exact small1000 (Nat.le_trans (tb3.len h8) (by decide))
                      · have kp6 : Kp H5 (upd H5 d3 (.dK (putK ks3 (Sum.inl ((e1 ||| cho n 15 : Nat) : Int)) (V.ref t1)))) := Kp.put (sl3 _ _ d4)
                        refine ⟨_, putN kvs3 (e1 ||| cho n 15) (e2.1 + mcN (ndOf fs kp e1) (szOf fs ns) * hmN fs n, e2.2 ++ [n]), _, _, _, _, rfl, to_upd (s5.trans sl3) (s2.free hd3), (by rw [upd_ne (Ne.symm nD)]; exact sl3 _ _ dD4), upd_same, ((Kp.same sl3).trans kp6).pr pr3, pair_put (kp6.fit zf) (kp6.pr pr4'), tb3.put zE, fun j2 e hj2 he2 x hx hf => (cov3 j2 e hj2 he2 x hx hf).put zl, fun x hx hf => ?_⟩
                        rw [tk] at hx
                        rcases List.mem_append.mp hx with q | q
                        · exact (cov4 x q hf).put zl
                        · rw [List.mem_singleton.mp q]
                          exact Cvd.new zc
                    · have zf : FitR (sub H5 H1) (V.ref vb) g := gf
                      have zE : Ent fs kp (szOf fs ns) ns (L + 1) (e1 ||| cho n 15, g) := gE
                      have zc : g.1 ≤ e2.1 + mcN (ndOf fs kp e1) (szOf fs ns) * hmN fs n := hle
                      have zl : ∀ c1 o1, lookN kvs3 (e1 ||| cho n 15) = some (c1, o1) → g.1 ≤ c1 := fun c1 o1 hc1 => by
                        rw [gx _ hc1]
                        exact Nat.le_refl _
                      refine ⟨_, rfl, _, rfl, _, rfl, _, _, rfl, rfl, d3, _, rfl, .inl ⟨_, Sum.inl ((e1 ||| cho n 15 : Nat) : Int), sl3 _ _ d4, v_or _ _, ?_, rfl⟩, ?_⟩
                      · rw [paired_len pr4]
                        exact small1000 (Nat.le_trans (tb3.len h8) (by decide))
                      · have kp6 : Kp H5 (upd H5 d3 (.dK (putK ks3 (Sum.inl ((e1 ||| cho n 15 : Nat) : Int)) (V.ref vb)))) := Kp.put (sl3 _ _ d4)
                        refine ⟨_, putN kvs3 (e1 ||| cho n 15) g, _, _, _, _, rfl, to_upd (s5.trans sl3) (s2.free hd3), (by rw [upd_ne (Ne.symm nD)]; exact sl3 _ _ dD4), upd_same, ((Kp.same sl3).trans kp6).pr pr3, pair_put (kp6.fit zf) (kp6.pr pr4'), tb3.put zE, fun j2 e hj2 he2 x hx hf => (cov3 j2 e hj2 he2 x hx hf).put zl, fun x hx hf => ?_⟩
                        rw [tk] at hx
                        rcases List.mem_append.mp hx with q | q
                        · exact (cov4 x q hf).put zl
                        · rw [List.mem_singleton.mp q]
                          exact Cvd.new zc
              · have htk : e1 &&& cho n 15 ≠ 0 := Classical.byContradiction fun z => htaken (by
                  show (!(Builtin.bitAnd ((e1 : Nat) : Int) ((cho n 15 : Nat) : Int) != 0)) = true
                  rw [b_and]
                  have z2 : e1 &&& cho n 15 = 0 := Classical.not_not.mp z
                  rw [z2]
                  rfl)
                refine ⟨ks3, kvs3, _, _, _, _, rfl, s5, dD4, d4, pr3, pr4, tb3, cov3, fun x hx hf => ?_⟩
                rw [tk] at hx
                rcases List.mem_append.mp hx with z | z
                · exact cov4 x z hf
                · rw [List.mem_singleton.mp z] at hf
                  exact absurd htk hf
            · rintro σ H4 ⟨ks3, kvs3, w9, w10, w11, w12, rfl, s5, dD4, d4, pr3, pr4, tb3, cov3, cov4⟩
              refine ⟨ks3, kvs3, _, _, _, _, _, _, rfl, s5, dD4, d4, pr3, pr4, tb3, fun j e hj he2 => ?_⟩
              by_cases ej : j = i
              · rw [ej, he] at he2
                cases he2
                intro x hx
                refine cov4 x ?_
                rw [paired_len hzp]
                show x ∈ ns.take (ns.map _).length
                rw [List.length_map, List.take_length]
                exact hx
              · exact cov3 j e (by omega) he2
        · rintro σ H3 ⟨ks2, kvs2, w7, w8, w9, w10, w11, w12, rfl, s4, dD, d3', pr1, pr2, tb2, cov⟩
          refine ⟨dD, _, rfl, d3, ks2, kvs2, _, _, _, _, _, _, _, _, rfl, to_upd s4 hD, s2.free hd3, (by rw [upd_ne nD]; exact d3'), (Kp.frz dD).pr pr2, tb2, ?_⟩
          refine cvr_next hnd tb cv fun e he x hx hf => ?_
          obtain ⟨j, hj⟩ := List.mem_iff_getElem?.mp he
          refine cov j e ?_ hj x hx hf
          rw [paired_len pr1]
          exact (List.getElem?_eq_some_iff.mp hj).1
      · rintro σ H2 ⟨D, ks, kvs, v5, v6, v7, v8, v9, v10, v11, v12, rfl, s2, hD, d2, pr, tb, cv⟩
        obtain ⟨c, o, hlk, hle⟩ := cv ns hnd (fun x hx => hx) rfl
        refine ⟨_, rfl, _, rfl, na, ns, rfl, SqL.of (s2 _ _ (s1 _ _ hna)), fun x hx => (by have := h8 x hx; omega), ?_⟩
        rcases pair_val (k := msk ns) pr with ⟨h1, _⟩ | ⟨x, v, h1, h2, hR⟩
        · rw [hlk] at h1
          cases h1
        · have E := tb.ent _ (lookN_mem h1)
          have ex := Option.some.inj (hlk.symm.trans h1)
          subst ex
          obtain ⟨b, c2, rfl, hb, hc⟩ := Fit_out hR
          refine ⟨D, _, rfl, .inl ⟨_, Sum.inl ((msk ns : Nat) : Int), .inl d2, rfl, h2.symm⟩, b, _, _, _, rfl, rfl, SqT.of (sub_iff.mp hb).2, atI_nat (j := 1) rfl, ?_⟩
          refine k _ o H2 (s1.trans s2) ⟨c2, rfl, sub_iff.mpr ⟨s1.free (sub_iff.mp hc).1, (sub_iff.mp hc).2⟩⟩ (nodup_perm E.nd hnd fun x => mem_msk E.key x) fun o' ho' => ?_
          have ec : cst fs kp (szOf fs ns) o = c := E.cost
          rw [ec]
          obtain ⟨c3, o3, h3, h4⟩ := cv o' (ho'.nodup_iff.mpr hnd) (fun x hx => ho'.mem_iff.mp hx) ho'.length_eq
          rw [msk_mem (a := o') (b := ns) (fun x => ho'.mem_iff), hlk] at h3
          cases h3
          exact h4
theorem sc_steps_through : FnScope ["names", "fits", "kept", "steps", "done", "name", "own", "limits", "bits", "choices"] ["names", "fits", "kept"] (defScope s_steps_through) := ⟨rfl, rfl, rfl, by decide +kernel, rfl, by decide +kernel, by decide +kernel⟩
/-- the steps that give the names values one after the other -/
def sp_steps_through (_ : PySem.W.Frag) : Sp := fun vs H Q _ => ∃ (v u : V) (ns : List Nat) (fs : List (Nat × List Nat)) (kp : Nat), vs = [v, u, nv kp] ∧ NsR H v ns ∧ LR FitR H u fs ∧ ns.Nodup ∧ (∀ x ∈ ns, x < 8) ∧ (∀ f ∈ fs, f.2.length ≤ 1000) ∧ fs.length ≤ 1000 ∧
  ∀ (w : V) (o : List Nat) (H' : Hp), Same H H' → LR StepR (sub H' H) w (stepsOf fs kp o 0) → o.Perm ns → (∀ o' : List Nat, o'.Perm ns → cst fs kp (szOf fs ns) o ≤ cst fs kp (szOf fs ns) o') → Q w H'
theorem ok_steps_through {f : Addr} {fd : FuncData} (F : Fun K "steps_through" "steps_through" s_steps_through f fd) (T : Txt K mg PL) (c_values_beside : Cal P w K mg base 2 "values_beside" ["choices", "known", "name"] (sp_values_beside K)) (c_cheapest_order : Cal P w K mg base 4 "cheapest_order" ["names", "fits", "kept"] (sp_cheapest_order K)) (c_still_needed : Cal P w K mg base 1 "still_needed" ["done", "fits", "kept"] (sp_still_needed K)) (c_bits_of : Cal P w K mg base 2 "bits_of" ["names"] (sp_bits_of K)) : FnOk P w K mg base CX0 5 f fd ["names", "fits", "kept"] (sp_steps_through K) := by
  refine F.ok sc_steps_through (fun vs H Q E h => ?_) (fun cdv A outer s H vs Q E hr h => ?_)
  · obtain ⟨v, u, ns, fs, kp, rfl, _⟩ := h
    rfl
  · obtain ⟨v, u, ns, fs, kp, rfl, hv, hfs, hnd, h8, hfl, hfn, k⟩ := h
    have hu := hu_of hr
    obtain ⟨fa, fvs, rfl, hfa, hfp⟩ := id hfs
    refine ⟨_, (pss_cons (ps_set (i := 3) sc_steps_through.nd rfl (by first | exact Or.inl rfl | exact Or.inr rfl) (pe_lst pa_nil))
      (pss_cons (ps_set (i := 4) sc_steps_through.nd rfl (by first | exact Or.inl rfl | exact Or.inr rfl) pe_int)
      (pss_cons (ps_for PassesOwn.never rfl (pi_list (pe_cal c_cheapest_order (hr.mono (by decide)) rfl (pa_cons (pv 0) (pa_cons (pv 1) (pa_cons (pv 2) pa_nil))))) (pg_name (i := 5) sc_steps_through.nd rfl (by first | exact Or.inl rfl | exact Or.inr rfl))
      (pss_cons (ps_set (i := 6) sc_steps_through.nd rfl (by first | exact Or.inl rfl | exact Or.inr rfl) (pe_cal c_bits_of (hr.mono (by decide)) rfl (pa_cons (pe_lst (pa_cons (pv 5) pa_nil)) pa_nil)))
      (pss_cons (ps_setLc (i := 7) (own := [(("bits" : Str), 8), (("choices" : Str), 9)]) rfl sc_steps_through.nd rfl rfl (sw_true rfl rfl rfl rfl) (pi_list (pv 1)) (blkOk_by (N := ["names", "fits", "kept", "steps", "done", "name", "own", "limits", "bits", "choices"]) (sc := defScope s_steps_through) (by decide +kernel)) (fun _ _ _ _ _ => (pg_tupK (K := K) (n := 2) rfl rfl (pgs_cons (pg_name (i := 8) sc_steps_through.nd rfl (by first | exact Or.inl rfl | exact Or.inr rfl)) (pgs_cons (pg_name (i := 9) sc_steps_through.nd rfl (by first | exact Or.inl rfl | exact Or.inr rfl)) pgs_nil)))) (fun _ _ _ _ _ => (pts_one (pt_truthK (K := K) rfl (pe_op op_and (pv 8) (pv 6)) (fun _ => rfl)))) (fun _ _ _ _ _ => (pe_tup (pa_cons (pe_op op_and (pv 8) (pv 4)) (pa_cons (pe_cal c_values_beside (hr.mono (by decide)) rfl (pa_cons (pv 9) (pa_cons (pe_op op_and (pv 8) (pv 4)) (pa_cons (pv 5) pa_nil)))) pa_nil)))))
      (pss_cons (ps_aug (i := 4) sc_steps_through.nd rfl (by first | exact Or.inl rfl | exact Or.inr rfl) (pv 6) (pip_of iop_or))
      (pss_one (ps_expr (pe_bm PySem.F.plainAttrs_list PySem.F.slot_list_append PySem.F.type_list_append mt_append (pv 3) (pa_cons (pe_tup (pa_cons (pv 5) (pa_cons (pv 7) (pa_cons (pe_cal c_still_needed (hr.mono (by decide)) rfl (pa_cons (pv 4) (pa_cons (pv 1) (pa_cons (pv 2) pa_nil)))) pa_nil)))) pa_nil))))))))
      (pss_one (ps_ret (pv 3)))))), ?_⟩
    refine ⟨Nat.zero_le _, fun D hD => ?_⟩
    have s0 : Same H (upd H D (.lst [])) := new_upd hD
    have A0 : Acc StepR H (upd H D (.lst [])) D [] := Acc.start (Same.refl H) hD
    refine ⟨_, rfl, _, rfl, _, rfl, _, _, ns, fs, kp, rfl, up mono_Ns s0 hv, up (mono_L mono_Fit) s0 hfs, hnd, h8, hfl, fun w o H1 s1 hw po co => ?_⟩
    obtain ⟨oa, rfl, hoa⟩ := hw
    have hoa1 := sub_iff.mp hoa
    have nD : oa ≠ D := fun z => by rw [z, upd_same] at hoa1; cases hoa1.1
    have ond : o.Nodup := po.nodup_iff.mpr hnd
    have o8 : o.length ≤ 8 := by
      rw [po.length_eq]
      exact nodup_bound 8 ns hnd h8
    refine ⟨oa, rfl, ⟨_, SqL.of hoa1.2⟩, ?_⟩
    refine for_list (K := K) (a := oa) (xs := o.map nv) (fun i σ H' => ∃ v5 v6 v7 v8 v9 : Option V, σ = [some v, some (.ref fa), some (nv kp), some (.ref D), some (nv ((o.take i).foldl (fun d m => d ||| cho m 15) 0)), v5, v6, v7, v8, v9] ∧ H' oa = some (.lst (o.map nv)) ∧ Acc StepR H H' D (stepsOf fs kp (o.take i) 0))
      ⟨none, none, none, none, none, rfl, hoa1.2, A0.keep mono_Step s1⟩ (fun i σ H' _ ⟨_, _, _, _, _, _, e, _⟩ => SqL.of e) ?_ ?_
    · rintro i x σ H2 hi ⟨v5, v6, v7, v8, v9, rfl, ho2, A2⟩
      obtain ⟨n, hn, rfl⟩ := map_at hi
      have hn8 : n < 8 := h8 n (po.mem_iff.mp (List.mem_of_getElem? hn))
      have tk : o.take (i + 1) = o.take i ++ [n] := by
        rw [List.take_add_one, hn]
        rfl
      generalize hdn : (o.take i).foldl (fun d m => d ||| cho m 15) 0 = dn
      refine ⟨_, rfl, one_line, fun l hl => ?_⟩
      have s3 : Same H2 (upd H2 l (.lst [nv n])) := new_upd hl
      refine ⟨l, [n], rfl, SqL.of upd_same, fun x hx => (by rw [List.mem_singleton.mp hx]; omega), ?_⟩
      rw [msk_one]
      generalize hH3 : upd H2 l (.lst [nv n]) = H3
      rw [hH3] at s3
      have hfa3 : H3 fa = some (.lst fvs) := s3 _ _ (A2.same _ _ hfa)
      refine ⟨_, rfl, fa, rfl, ⟨_, SqL.of hfa3⟩, fun D2 hD2 => ?_⟩
      refine lc_rd (R := LimR) mono_Lim hD2 (SqL.of hfa3) fs (fun f => if f.1 &&& cho n 15 ≠ 0 then some (f.1 &&& dn, vbes f.2 (f.1 &&& dn) n) else none) (paired_len hfp) hfn (fun j x f H' N hx hy sH yes no => ?_) (fun H4 s4 hL => ?_)
      · obtain ⟨f', hf1, hR⟩ := paired_at hfp hx
        have ef := Option.some.inj (hf1.symm.trans hy)
        subst ef
        have hRs := up mono_Fit (A2.same.trans (s3.trans sH)) hR
        obtain ⟨b, c, rfl, hb, hc⟩ := Fit_out hRs
        refine ⟨b, _, rfl, SqT.of hb, rfl, _, _, rfl, _, _, rfl, rfl, rfl, ?_⟩
        refine ⟨_, rfl, _, rfl, _, _, rfl, rfl, _, rfl, ?_⟩
        refine ite2 (fun hne => ?_) (fun heq => ?_)
        · have h1 : f'.1 &&& cho n 15 ≠ 0 := (ne_zero_int _).mp (by rw [← b_and]; exact hne)
          refine ⟨_, rfl, _, rfl, _, _, rfl, rfl, _, rfl, _, rfl, _, rfl, _, _, rfl, rfl, _, rfl, c, f'.2, f'.1 &&& dn, n, ?_, SqL.of hc, hfl f' (List.mem_of_getElem? hf1), by omega, fun w H5 s5 hw => ?_⟩
          · show [V.ref c, V.int (Builtin.bitAnd _ _), _] = _
            rw [v_and]
          · refine ⟨(by show 2 ≤ sizeLine; decide), fun T1 hT1 => ?_⟩
            have s6 := s5.trans (new_upd (o := .tup [V.int (Builtin.bitAnd (f'.1 : Int) (dn : Int)), w]) hT1)
            exact yes _ _ _ (if_pos h1) s6 ⟨T1, _, _, rfl, sub_new (s5.free hT1), v_and _ _, up mono_D (le_sub (new_upd hT1) (Same.refl _)) hw⟩
        · refine no _ (if_neg fun z => heq ?_) (Same.refl _)
          show (Builtin.bitAnd _ _ != 0) = true
          rw [b_and]
          exact (ne_zero_int _).mpr z
      · have hL2 : LR LimR (sub H4 H3) (.ref D2) (limsOf fs dn n) := hL
        have s24 : Same H2 H4 := s3.trans s4
        refine ⟨_, rfl, _, rfl, _, _, rfl, rfl, ?_⟩
        refine ⟨_, rfl, .inl ⟨rfl, _, (A2.keep mono_Step s24).sq⟩, _, rfl, _, rfl, _, rfl, _, rfl, _, rfl, dn ||| cho n 15, kp, _, fs, ?_, up (mono_L mono_Fit) (A2.same.trans s24) hfs, ?_⟩
        · show [V.int (Builtin.bitOr _ _), _, _] = _
          rw [v_or]
        · refine ⟨(by show 3 ≤ sizeLine; decide), fun T1 hT1 => ?_⟩
          have s5 := s24.trans (new_upd (o := .tup [nv n, .ref D2, nv (ndOf fs kp (dn ||| cho n 15))]) hT1)
          obtain ⟨acc, q1, q2, q3⟩ := A2.push (y := .ref T1) (x := (n, limsOf fs dn n, ndOf fs kp (dn ||| cho n 15))) mono_Step s5 ⟨T1, _, _, _, rfl, sub_new (s24.free hT1), rfl, up (mono_L mono_Lim) (le_sub (new_upd hT1) s3) hL2, rfl⟩
          refine ⟨D, acc, _, rfl, rfl, q1, ?_, some (nv n), some (nv (cho n 15)), some (.ref D2), v8, v9, ?_, ?_, ?_⟩
          · rw [q2]
            refine small1000 ?_
            rw [steps_len, List.length_take]
            omega
          · show [_, _, _, _, some (V.int (Builtin.bitOr _ _)), _, _, _, _, _] = _
            rw [v_or, tk, List.foldl_append, hdn]
            rfl
          · rw [upd_ne nD]
            exact s5 _ _ ho2
          · rw [tk, steps_snoc, hdn]
            exact q3
    · rintro σ H2 ⟨v5, v6, v7, v8, v9, rfl, ho2, A2⟩
      rw [List.length_map, List.take_length] at A2
      exact ⟨_, rfl, k _ o H2 A2.same (A2.done mono_Step) po co⟩
theorem sc_count_ways : FnScope ["parts", "rows", "kept", "counts", "name", "limits", "needed"] ["parts", "rows", "kept"] (defScope s_count_ways) := ⟨rfl, rfl, rfl, by decide +kernel, rfl, by decide +kernel, by decide +kernel⟩
/-- for each choice of the kept names, how many ways make it -/
def sp_count_ways (_ : PySem.W.Frag) : Sp := fun vs H Q _ => ∃ (v u : V) (ps : List Sa97.Row) (d : Sa97.Rows) (ks : List Nat), vs = [v, u, nv (msk ks)] ∧ LR RowR H v ps ∧ LR RowR H u d ∧ ps.length ≤ 10 ∧ d.length ≤ 128 ∧ PartsOk ps ∧ (∀ p ∈ ps, ∀ x ∈ p.at_, x < 8) ∧ RowsOk d ∧ ks.length ≤ 4 ∧ (∀ x ∈ ks, ∃ p ∈ ps, x ∈ p.at_) ∧
  ∀ (w : Addr) (g : List (Nat × Nat)) (H' : Hp), Same H H' → H' w = some (.dK (kvF nv g)) → Hist g ((Sx34.waysOf ps d.eraseDups).map fun e => pk e &&& msk ks) → Q (.ref w) H'
theorem ok_count_ways {f : Addr} {fd : FuncData} (F : Fun K "count_ways" "count_ways" s_count_ways f fd) (T : Txt K mg PL) (c_standing_names : Cal P w K mg base 1 "standing_names" ["parts"] (sp_standing_names K)) (c_count_values : Cal P w K mg base 3 "count_values" ["counts", "name", "limits", "needed"] (sp_count_values K)) (c_steps_through : Cal P w K mg base 5 "steps_through" ["names", "fits", "kept"] (sp_steps_through K)) (c_fits_of : Cal P w K mg base 4 "fits_of" ["parts", "rows"] (sp_fits_of K)) : FnOk P w K mg base CX0 6 f fd ["parts", "rows", "kept"] (sp_count_ways K) := by
  refine F.ok sc_count_ways (fun vs H Q E h => ?_) (fun cdv A outer s H vs Q E hr h => ?_)
  · obtain ⟨v, u, ps, d, ks, rfl, _⟩ := h
    rfl
  · obtain ⟨v, u, ps, d, ks, rfl, hv, hw, hpl, hdl, hp, h8, hd, hkl, hks, k⟩ := h
    have hu := hu_of hr
    refine ⟨_, (pss_cons (ps_set (i := 3) sc_count_ways.nd rfl (by first | exact Or.inl rfl | exact Or.inr rfl) (pe_disp (pps_cons pe_int pe_int pps_nil) rfl rfl (by simp) (by decide)))
      (pss_cons (ps_for PassesOwn.never rfl (pi_list (pe_cal c_steps_through (hr.mono (by decide)) rfl (pa_cons (pe_cal c_standing_names (hr.mono (by decide)) rfl (pa_cons (pv 0) pa_nil)) (pa_cons (pe_cal c_fits_of (hr.mono (by decide)) rfl (pa_cons (pv 0) (pa_cons (pv 1) pa_nil))) (pa_cons (pv 2) pa_nil))))) (pg_tup rfl (pgs_cons (pg_name (i := 4) sc_count_ways.nd rfl (by first | exact Or.inl rfl | exact Or.inr rfl)) (pgs_cons (pg_name (i := 5) sc_count_ways.nd rfl (by first | exact Or.inl rfl | exact Or.inr rfl)) (pgs_cons (pg_name (i := 6) sc_count_ways.nd rfl (by first | exact Or.inl rfl | exact Or.inr rfl)) pgs_nil))))
      (pss_one (ps_set (i := 3) sc_count_ways.nd rfl (by first | exact Or.inl rfl | exact Or.inr rfl) (pe_cal c_count_values (hr.mono (by decide)) rfl (pa_cons (pv 3) (pa_cons (pv 4) (pa_cons (pv 5) (pa_cons (pv 6) pa_nil))))))))
      (pss_one (ps_ret (pv 3))))), ?_⟩
    intro R hR
    refine ⟨upd_same, [(Sum.inl 0, .int 1)], rfl, (by show 1 ≤ 15; decide), ?_⟩
    have s3 : Same H (upd (upd H R (.dK [])) R (.dK (mergeK [] [(Sum.inl 0, .int 1)]))) := to_upd (new_upd hR) hR
    have r3 : (upd (upd H R (.dK [])) R (.dK (mergeK [] [(Sum.inl 0, .int 1)]))) R = some (.dK (kvF nv [(0, 1)])) := upd_same
    generalize hH3 : upd (upd H R (.dK [])) R (.dK (mergeK [] [(Sum.inl 0, .int 1)])) = H3 at s3 r3
    refine ⟨_, rfl, v, ps, rfl, up (mono_L mono_Row) s3 hv, hpl, h8, fun nu ns H4 s4 hns npw nmem => ?_⟩
    have nnd : ns.Nodup := npw.imp (fun h => Nat.ne_of_lt h)
    refine ⟨_, rfl, _, rfl, v, u, ps, d, rfl, up (mono_L mono_Row) (s3.trans s4) hv, up (mono_L mono_Row) (s3.trans s4) hw, by omega, by omega, hp, h8, hd, fun fw H5 s5 hf => ?_⟩
    have fl : ∀ f ∈ mfs (fsOf ps d), f.2.length ≤ 1000 := fun f hf => by
      obtain ⟨g, hg, rfl⟩ := List.mem_map.mp hf
      obtain ⟨r, _, rfl⟩ := List.mem_map.mp hg
      exact Nat.le_trans (chs_len r d) (by omega)
    have fn : (mfs (fsOf ps d)).length ≤ 1000 := by
      unfold mfs fsOf
      rw [List.length_map, List.length_map]
      omega
    refine ⟨_, rfl, _, _, ns, mfs (fsOf ps d), msk ks, rfl, up mono_Ns (sub_le.trans s5) hns, up (mono_L mono_Fit) sub_le hf, nnd, (fun x hx => by obtain ⟨r, hr, hxr⟩ := (nmem x).mp hx; exact h8 r hr x hxr), fl, fn, fun w o H6 s6 hw6 po co => ?_⟩
    obtain ⟨wa, wvs, rfl, hwa, hwp⟩ := hw6
    have ond : o.Nodup := po.nodup_iff.mpr nnd
    have omem : ∀ x, x ∈ o ↔ ∃ r ∈ ps, x ∈ r.at_ := fun x => po.mem_iff.trans (nmem x)
    have few := counts_few hp hd hpl hdl h8 hkl nnd nmem po co
    refine ⟨wa, rfl, ⟨_, SqL.of (sub_iff.mp hwa).2⟩, ?_⟩
    refine for_list (K := K) (a := wa) (xs := wvs) (fun i σ H' => ∃ (R : Addr) (w4 w5 w6 : Option V), σ = [some v, some u, some (nv (msk ks)), some (.ref R), w4, w5, w6] ∧ Same H6 H' ∧ sub H6 H5 R = none ∧ H' R = some (.dK (kvF nv (runC (mfs (fsOf ps d)) (msk ks) (o.take i) 0 [(0, 1)]))))
      ⟨R, _, _, _, rfl, Same.refl _, ?_, ?_⟩ (fun i σ H' _ ⟨_, _, _, _, _, e, _⟩ => SqL.of (e _ _ (sub_iff.mp hwa).2)) ?_ ?_
    · cases e : sub H6 H5 R with
      | none => rfl
      | some z =>
        have := (sub_iff.mp e).1
        rw [s5 _ _ (s4 _ _ r3)] at this
        cases this
    · exact s6 _ _ (s5 _ _ (s4 _ _ r3))
    · rintro i x σ H7 hi ⟨R, w4, w5, w6, rfl, s7, hR0, hR7⟩
      obtain ⟨⟨n, ls, nd⟩, hf1, hRf⟩ := paired_at hwp hi
      obtain ⟨b, y, rfl, hb, hy⟩ := Step_out hRf
      dsimp only at hb hy
      have hno := steps_at _ _ _ _ _ _ hf1
      have hn8 : n < 8 := by
        obtain ⟨r, hr, hxr⟩ := (omem n).mp (List.mem_of_getElem? hno)
        exact h8 r hr n hxr
      have B := hist_at (parts := ps) (d := d) (msk ks) (ond.sublist (List.take_sublist i o))
      have few1 := few (i + 1)
      rw [count_next _ hf1] at few1
      refine ⟨b, _, rfl, SqT.of (s7 _ _ (sub_iff.mp hb).2), rfl, _, _, rfl, _, _, rfl, _, _, rfl, rfl, ?_⟩
      refine ⟨_, rfl, _, rfl, _, rfl, _, rfl, R, y, _, n, nd, ls, rfl, hR7, up (mono_L mono_Lim) (to_del (sub_le.trans s7) hR0) hy, hn8, B.nd, few1, fun d2 H8 s8 hd7 hd8 => ?_⟩
      refine ⟨d2, _, _, _, rfl, s7.trans s8, ?_, ?_⟩
      · cases e : sub H6 H5 d2 with
        | none => rfl
        | some z =>
          have := s7 _ _ (sub_iff.mp e).2
          rw [hd7] at this
          cases this
      · rw [count_next _ hf1]
        exact hd8
    · rintro σ H7 ⟨R, w4, w5, w6, rfl, s7, hR0, hR7⟩
      have el : wvs.length = o.length := by rw [paired_len hwp, steps_len]
      rw [el, List.take_length] at hR7
      refine ⟨_, rfl, k R _ H7 (s3.trans (s4.trans (s5.trans (s6.trans s7)))) hR7 ?_⟩
      exact run_count hp hd ond omem fun x hx => (omem x).mpr (hks x hx)
theorem sc_cq_answers : FnScope ["n", "most", "q", "rows", "question", "table_rows", "heads", "counts", "told", "answer", "choice"] ["n", "most", "q", "rows"] (defScope s_cq_answers) := ⟨rfl, rfl, rfl, by decide +kernel, rfl, by decide +kernel, by decide +kernel⟩
/-- the answers -/
def sp_cq_answers (K : PySem.W.Frag) : Sp := fun vs H Q _ => ∃ (n m : Int) (a b : Addr) (q d : List Int), vs = [.int n, .int m, .ref a, .ref b] ∧ SqL K H a (q.map V.int) ∧ SqL K H b (d.map V.int) ∧ QOk q ∧ DOk n d ∧
  ∀ (p : Addr) (H' : Hp), H' p = some (.lst ((PySx34.cq_answers n m q d).map V.int)) → Q (.ref p) H'
theorem ok_cq_answers {f : Addr} {fd : FuncData} (F : Fun K "cq_answers" "cq_answers" s_cq_answers f fd) (T : Txt K mg PL) (c_read_question : Cal P w K mg base 2 "read_question" ["q"] (sp_read_question K)) (c_read_rows : Cal P w K mg base 2 "read_rows" ["n", "rows"] (sp_read_rows K)) (c_count_ways : Cal P w K mg base 6 "count_ways" ["parts", "rows", "kept"] (sp_count_ways K)) (c_values_in : Cal P w K mg base 2 "values_in" ["choice", "names"] (sp_values_in K)) (c_bits_of : Cal P w K mg base 2 "bits_of" ["names"] (sp_bits_of K)) : FnOk P w K mg base CX0 7 f fd ["n", "most", "q", "rows"] (sp_cq_answers K) := by
  refine F.ok sc_cq_answers (fun vs H Q E h => ?_) (fun cdv A outer s H vs Q E hr h => ?_)
  · obtain ⟨n, m, a, b, q, d, rfl, _⟩ := h
    rfl
  · obtain ⟨n, m, a, b, q, d, rfl, ha, hb, hq, hd, k⟩ := h
    have hu := hu_of hr
    refine ⟨_, (pss_cons (ps_set (i := 4) sc_cq_answers.nd rfl (by first | exact Or.inl rfl | exact Or.inr rfl) (pe_cal c_read_question (hr.mono (by decide)) rfl (pa_cons (pv 2) pa_nil)))
      (pss_cons (ps_set (i := 5) sc_cq_answers.nd rfl (by first | exact Or.inl rfl | exact Or.inr rfl) (pe_cal c_read_rows (hr.mono (by decide)) rfl (pa_cons (pv 0) (pa_cons (pv 3) pa_nil))))
      (pss_cons (ps_if (PW.pt (pw_or (pt_cmpR op_lt (pv 1) pe_int (nomark _)) (pw_or (pt_cmpR op_isN (pv 4) pe_non (nomark _)) (pw_or1 (pt_cmpR op_isN (pv 5) pe_non (nomark _)))))) (pss_one (ps_ret (pe_lst (pa_cons (pe_gl rfl T.c_NOT_AS_TOLD) pa_nil)))) pss_nil)
      (pss_cons (ps_set (i := 6) sc_cq_answers.nd rfl (by first | exact Or.inl rfl | exact Or.inr rfl) (pe_ix ix_tup (pv 4) pe_int (fun _ _ => rfl)))
      (pss_cons (ps_set (i := 7) sc_cq_answers.nd rfl (by first | exact Or.inl rfl | exact Or.inr rfl) (pe_cal c_count_ways (hr.mono (by decide)) rfl (pa_cons (pe_ix ix_tup (pv 4) pe_int (fun _ _ => rfl)) (pa_cons (pv 5) (pa_cons (pe_cal c_bits_of (hr.mono (by decide)) rfl (pa_cons (pv 6) pa_nil)) pa_nil)))))
      (pss_cons (ps_if (pt_cmpR op_gt (pe_callB call_lenD (by rfl) T.n_len b_len (pa_cons (pv 7) pa_nil)) (pv 1) (nomark _)) (pss_one (ps_ret (pe_lst (pa_cons (pe_gl rfl T.c_MORE_THAN_MOST) pa_nil)))) pss_nil)
      (pss_cons (ps_set (i := 8) sc_cq_answers.nd rfl (by first | exact Or.inl rfl | exact Or.inr rfl) (pe_lst (pa_cons (pe_callB call_lenD (by rfl) T.n_len b_len (pa_cons (pv 7) pa_nil)) pa_nil)))
      (pss_cons (ps_for PassesOwn.never rfl (pi_list (pe_callB (cr_sortedL hr.units) (by rfl) T.n_sorted b_sorted (pa_cons (pe_lock (pe_lc (own := [(("choice" : Str), 10)]) rfl sc_cq_answers.nd (pi_keys (pv 7)) (blkOk_by (N := ["n", "most", "q", "rows", "question", "table_rows", "heads", "counts", "told", "answer", "choice"]) (sc := defScope s_cq_answers) (by decide +kernel)) (fun _ _ _ _ _ => (pg_name (i := 10) sc_cq_answers.nd rfl (by first | exact Or.inl rfl | exact Or.inr rfl))) (fun _ _ _ _ _ => pts_nil) (fun _ _ _ _ _ => (pe_cal c_values_in (hr.mono (by decide)) rfl (pa_cons (pv 10) (pa_cons (pv 6) pa_nil)))))) pa_nil))) (pg_name (i := 9) sc_cq_answers.nd rfl (by first | exact Or.inl rfl | exact Or.inr rfl))
      (pss_one (ps_expr (pe_bm PySem.F.plainAttrs_list PySem.F.slot_list_extend PySem.F.type_list_extend mt_extend (pv 8) (pa_cons (pv 9) pa_nil)))))
      (pss_one (ps_ret (pv 8))))))))))), ?_⟩
    refine ⟨_, rfl, a, q, rfl, ha, hq, fun bad H1 s1 => ?_, fun ok v H1 s1 hv => ?_⟩
    · refine ⟨_, rfl, _, rfl, n, b, d, rfl, s1.seq hb, hd, fun _ H2 s2 => ?_, fun _ w H2 s2 _ => ?_⟩
      all_goals
        refine ⟨_, rfl, _, _, rfl, rfl, _, rfl, ?_⟩
        refine ite2 (fun _ => ?_) (fun _ => ?_)
        · refine ⟨one_line, fun l hl => k l _ ?_⟩
          rw [upd_same, answers_out (by rw [bad, Bool.false_and])]
          rfl
        · refine ⟨_, rfl, rfl, _, rfl, ?_⟩
          refine ifT rfl ?_
          refine ⟨one_line, fun l hl => k l _ ?_⟩
          rw [upd_same, answers_out (by rw [bad, Bool.false_and])]
          rfl
    · refine ⟨_, rfl, _, rfl, n, b, d, rfl, s1.seq hb, hd, fun badr H2 s2 => ?_, fun okr w H2 s2 hw => ?_⟩
      · obtain ⟨qa, hda, pa, pvs, rfl, hqa, hh, hpa, hpp⟩ := Q_out (up mono_Q sub_le hv)
        refine ⟨_, rfl, _, _, rfl, rfl, _, rfl, ?_⟩
        refine ite2 (fun _ => ?_) (fun _ => ?_)
        · refine ⟨one_line, fun l hl => k l _ ?_⟩
          rw [upd_same, answers_out (by rw [badr, Bool.false_and, Bool.and_false])]
          rfl
        · refine ⟨_, rfl, rfl, _, rfl, ?_⟩
          refine ifF (by simp) ?_
          refine ⟨_, rfl, rfl, _, rfl, ?_⟩
          refine ifT rfl ?_
          refine ⟨one_line, fun l hl => k l _ ?_⟩
          rw [upd_same, answers_out (by rw [badr, Bool.false_and, Bool.and_false])]
          rfl
      · obtain ⟨qa, hda, pa, pvs, rfl, hqa, hh, hpa, hpp⟩ := Q_out (up mono_Q (sub_le.trans s2) hv)
        have hw2 : LR RowR H2 w (Sx34Neutral.four (d.length / 4) d) := up (mono_L mono_Row) sub_le hw
        obtain ⟨wa, wvs, rfl, hwa, hwp⟩ := id hw2
        obtain ⟨h4, h1p, h10, h8, hhd⟩ := good_q ok
        refine ⟨_, rfl, _, _, rfl, rfl, _, rfl, ?_⟩
        refine ite2 (fun neg => ?_) (fun nneg => ?_)
        · refine ⟨one_line, fun l hl => k l _ ?_⟩
          have : ¬ 0 ≤ m := by
            have := of_decide_eq_true neg
            omega
          rw [upd_same, answers_out (by rw [decide_eq_false this, Bool.and_false, Bool.and_false])]
          rfl
        · have m0 : 0 ≤ m := by
            have : ¬ m < 0 := fun z => nneg (decide_eq_true z)
            omega
          have all : ((Sx34Neutral.question q).good && (Sa97.rows (Sx34Neutral.four (d.length / 4) d) n && decide (0 ≤ m))) = true := by rw [ok, okr, decide_eq_true m0]; rfl
          refine ⟨_, rfl, rfl, _, rfl, ?_⟩
          refine ifF (by simp) ?_
          refine ⟨_, rfl, rfl, _, rfl, ?_⟩
          refine ifF (by simp) ?_
          refine ⟨_, rfl, qa, _, _, _, rfl, rfl, SqT.of hqa, atI_nat (j := 0) rfl, ?_⟩
          refine ⟨_, rfl, qa, _, _, _, rfl, rfl, SqT.of hqa, atI_nat (j := 1) rfl, _, rfl, _, rfl, hda, (Sx34Neutral.question q).head, rfl, SqL.of hh, (fun x hx => Nat.le_trans (Nat.le_of_lt (head_lt ok hx)) (by decide)), ?_⟩
          refine ⟨_, _, _, _, (Sx34Neutral.question q).head, rfl, ⟨pa, pvs, rfl, hpa, hpp⟩, hw2, h10, rows_len okr, good_partsOk ok, (fun p hp => (good_part (h8 p hp)).2.2), rows_ok okr, h4, (fun x hx => ?_), fun cw g H3 s3 hcw hg => ?_⟩
          · exact mem_names.mp (hhd x hx)
          · have pl := ways_plain2 (parts := (Sx34Neutral.question q).parts) (rows_ok okr)
            have el : (ansL q d).length = g.length := ans_len pl hg
            have few : g.length ≤ 65536 := Nat.le_trans (keys_few hg) (Nat.le_trans (Nat.pow_le_pow_right (by decide) h4) (by decide))
            refine ⟨_, rfl, cw, _, rfl, hcw, _, rfl, _, _, rfl, rfl, _, rfl, ?_⟩
            rw [kvF_len]
            refine ite2 (fun more => ?_) (fun less => ?_)
            · refine ⟨one_line, fun l hl => k l _ ?_⟩
              rw [upd_same, answers_many all (by rw [el]; exact of_decide_eq_true more)]
              rfl
            · have lm : ¬ m < ((ansL q d).length : Int) := fun z => less (decide_eq_true (by rw [el] at z; exact z))
              refine ⟨_, rfl, cw, _, rfl, hcw, one_line, fun tl htl => ?_⟩
              rw [kvF_len]
              have tc : tl ≠ cw := fun z => by rw [z, hcw] at htl; cases htl
              have s4 : Same H3 (upd H3 tl (.lst [V.int (g.length : Nat)])) := new_upd htl
              have hcw4 := s4 _ _ hcw
              have htl4 : (upd H3 tl (.lst [V.int (g.length : Nat)])) tl = some (.lst [nv g.length]) := upd_same
              have hh4 := s4 _ _ (s3 _ _ hh)
              generalize upd H3 tl (.lst [V.int (g.length : Nat)]) = H4 at s4 hcw4 htl4 hh4 ⊢
              have hc : hda ≠ cw := ne_of hh4 hcw4 (fun z => nomatch z)
              refine ⟨cw, _, hcw4, True.intro, fun od => ?_⟩
              refine ⟨_, rfl, cw, od, rfl, .inl ⟨_, upd_same, fun D hD => ?_⟩⟩
              refine lc_keys (R := NsR) mono_Ns hD upd_same (fun kv => (Sx34Neutral.question q).head.map (cval kv.1)) (by omega) (fun i kv H' N hi sH yes => ?_) (fun H5 s5 hL => ?_)
              · refine ⟨rfl, _, rfl, _, rfl, kv.1, hda, (Sx34Neutral.question q).head, rfl, sH _ _ ((upd_ne hc).trans hh4), by omega, (fun x hx => Nat.le_trans (Nat.le_of_lt (head_lt ok hx)) (by decide)), fun w H6 s6 hw6 => yes _ _ s6 hw6⟩
              · obtain ⟨D', us, e1, hD2, hpb⟩ := hL
                cases e1
                obtain ⟨bs, rfl, eb, hbs⟩ := pairs_refs hpb
                have lk : (upd H4 cw (.frz od (.dK (kvF nv g)))) cw = some (.frz od (.dK (kvF nv g))) := upd_same
                have ltl : (upd H4 cw (.frz od (.dK (kvF nv g)))) tl = some (.lst [nv g.length]) := (upd_ne tc).trans htl4
                generalize rdL (sub H5 (upd H4 cw (.frz od (.dK (kvF nv g))))) = f2 at eb hbs
                have q5 := s5 _ _ lk
                have dD : D ≠ cw := ne_of (sub_iff.mp hD2).2 q5 (fun z => nomatch z)
                have dT : D ≠ tl := fun z => by have := (sub_iff.mp hD2).1; rw [z, ltl] at this; cases this
                have bT : ∀ b ∈ bs, b ≠ tl := fun b hb z => by have := (sub_iff.mp (hbs b hb)).1; rw [z, ltl] at this; cases this
                have bC : ∀ b ∈ bs, b ≠ cw := fun b hb z => by have := (sub_iff.mp (hbs b hb)).1; rw [z, lk] at this; cases this
                have shp : ∀ b ∈ bs, (f2 b).length = (Sx34Neutral.question q).head.length ∧ ∀ x ∈ f2 b, x < 16 := fun b hb => by
                  have : f2 b ∈ bs.map f2 := List.mem_map.mpr ⟨b, hb, rfl⟩
                  rw [← eb] at this
                  obtain ⟨kv, _, e⟩ := List.mem_map.mp this
                  rw [← e]
                  refine ⟨List.length_map .., fun x hx => ?_⟩
                  obtain ⟨y, _, rfl⟩ := List.mem_map.mp hx
                  exact cval_lt _ _
                refine ⟨q5, D, bs, f2, (Sx34Neutral.question q).head.length, rfl, (upd_ne dD).trans (sub_iff.mp hD2).2, (fun b hb => ⟨(upd_ne (bC b hb)).trans (sub_iff.mp (hbs b hb)).2, shp b hb⟩), fun bs' p pm srt hp => ?_⟩
                have htl5 : (upd H5 cw (.dK (kvF nv g))) tl = some (.lst [nv g.length]) := (upd_ne tc).trans (s5 _ _ ltl)
                have pT : p ≠ tl := fun z => by rw [z, htl5] at hp; cases hp
                have hb5 : ∀ b ∈ bs', (upd H5 cw (.dK (kvF nv g))) b = some (.lst ((f2 b).map nv)) := fun b hb => (upd_ne (bC b (pm.mem_iff.mp hb))).trans (sub_iff.mp (hbs b (pm.mem_iff.mp hb))).2
                have pB : ∀ b ∈ bs', b ≠ p := fun b hb z => by have := hb5 b hb; rw [z, hp] at this; cases this
                generalize upd H5 cw (.dK (kvF nv g)) = H6 at htl5 hp hb5 ⊢
                have flen : ∀ i, (((bs'.take i).map f2).flatten).length ≤ 4 * 65536 := fun i => by
                  have h1 : ∀ l : List Addr, (∀ b ∈ l, b ∈ bs') → ((l.map f2).flatten).length ≤ 4 * l.length := fun l => by
                    induction l with
                    | nil => intro _; exact Nat.le_refl _
                    | cons b l ih =>
                      intro hl
                      have ih := ih fun b hb => hl b (List.mem_cons_of_mem _ hb)
                      have := (shp b (pm.mem_iff.mp (hl b (List.mem_cons_self ..)))).1
                      rw [List.map_cons, List.flatten_cons, List.length_append, List.length_cons]
                      omega
                  have h2 := h1 (bs'.take i) fun b hb => List.mem_of_mem_take hb
                  have h3 : bs'.length = g.length := by
                    rw [pm.length_eq, ← List.length_map (f := f2), ← eb, List.length_map]
                  have h5 : (bs'.take i).length ≤ bs'.length := by rw [List.length_take]; omega
                  omega
                refine ⟨p, rfl, ⟨_, SqL.of upd_same⟩, ?_⟩
                refine for_list (K := K) (a := p) (xs := bs'.map V.ref) (fun i σ H' => ∃ v9 : Option V, σ = [some (.int n), some (.int m), some (.ref a), some (.ref b), some (.ref qa), some (.ref wa), some (.ref hda), some (.ref cw), some (.ref tl), v9, none] ∧ (∀ x, x ≠ tl → H' x = upd H6 p (.lst (bs'.map V.ref)) x) ∧ H' tl = some (.lst ((g.length :: ((bs'.take i).map f2).flatten).map nv)))
                  ⟨none, rfl, fun x _ => rfl, (upd_ne (Ne.symm pT)).trans htl5⟩ (fun i σ H' _ ⟨_, _, e, _⟩ => SqL.of ((e p pT).trans upd_same)) ?_ ?_
                · rintro i x σ H7 hi ⟨v9, rfl, e7, t7⟩
                  rw [List.getElem?_map] at hi
                  obtain ⟨c, hc1, rfl⟩ := Option.map_eq_some_iff.mp hi
                  have hcm := List.mem_of_getElem? hc1
                  have hc7 : H7 c = some (.lst ((f2 c).map nv)) := (e7 c (bT c (pm.mem_iff.mp hcm))).trans ((upd_ne (pB c hcm)).trans (hb5 c hcm))
                  have tk : ((bs'.take (i + 1)).map f2).flatten = ((bs'.take i).map f2).flatten ++ f2 c := by
                    rw [List.take_add_one, hc1, List.map_append, List.flatten_append]
                    show _ ++ ([c].map f2).flatten = _
                    simp
                  refine ⟨_, rfl, .inl ⟨rfl, _, SqL.of t7⟩, _, rfl, tl, c, _, _, rfl, rfl, t7, hc7, ?_, _, rfl, fun x hx => (upd_ne hx).trans (e7 x hx), ?_⟩
                  · have := flen (i + 1)
                    rw [tk, List.length_append] at this
                    rw [List.length_map, List.length_map, List.length_cons]
                    exact Nat.le_trans (show _ ≤ 1000000 by omega) (by decide)
                  · rw [upd_same, tk, ← List.map_append]
                    rfl
                · rintro σ H7 ⟨v9, rfl, e7, t7⟩
                  rw [List.length_map, List.take_length] at t7
                  refine ⟨_, rfl, k tl H7 ?_⟩
                  have ea : bs'.map f2 = ansL q d := ans_sorted pl hg ((pm.map f2).trans (.of_eq eb.symm)) (by rw [List.pairwise_map]; exact srt)
                  rw [t7, answers_in all lm, el, ← ea, nv_ints]
end
theorem all_mk {P : Program} {w : World} {K : PySem.W.Frag} {h : Heap} {mg : Str → Option Value} {fa PL : Addr} (X : K.In h) (G : h.Ns mainGlobals mg) (hfa : mg "cq_answers" = some (.ref fa))
    {f1 f2 f3 f4 f5 f6 f7 f8 f9 f10 f11 f12 f13 f14 f15 f16 f17 f18 f19 f20 f21 f22 : Addr} {od1 an1 od2 an2 od3 an3 od4 an4 od5 an5 od6 an6 od7 an7 od8 an8 od9 an9 od10 an10 od11 an11 od12 an12 od13 an13 od14 an14 od15 an15 od16 an16 od17 an17 od18 an18 od19 an19 od20 an20 od21 an21 od22 an22 : Option Addr} {sl1 sl2 sl3 sl4 sl5 sl6 sl7 sl8 sl9 sl10 sl11 sl12 sl13 sl14 sl15 sl16 sl17 sl18 sl19 sl20 sl21 sl22 : Array (Option Value)} {oc1 kV1 dc1 pm1 cd1 ct1 oc2 kV2 dc2 pm2 cd2 ct2 oc3 kV3 dc3 pm3 cd3 ct3 oc4 kV4 dc4 pm4 cd4 ct4 oc5 kV5 dc5 pm5 cd5 ct5 oc6 kV6 dc6 pm6 cd6 ct6 oc7 kV7 dc7 pm7 cd7 ct7 oc8 kV8 dc8 pm8 cd8 ct8 oc9 kV9 dc9 pm9 cd9 ct9 oc10 kV10 dc10 pm10 cd10 ct10 oc11 kV11 dc11 pm11 cd11 ct11 oc12 kV12 dc12 pm12 cd12 ct12 oc13 kV13 dc13 pm13 cd13 ct13 oc14 kV14 dc14 pm14 cd14 ct14 oc15 kV15 dc15 pm15 cd15 ct15 oc16 kV16 dc16 pm16 cd16 ct16 oc17 kV17 dc17 pm17 cd17 ct17 oc18 kV18 dc18 pm18 cd18 ct18 oc19 kV19 dc19 pm19 cd19 ct19 oc20 kV20 dc20 pm20 cd20 ct20 oc21 kV21 dc21 pm21 cd21 ct21 oc22 kV22 dc22 pm22 cd22 ct22 : Value}
    {t0 t1 t2 t3 t4 t5 t6 t7 t8 t9 u0 u1 u2 u3 u4 u5 u6 u7 : Tok} {odP : Option Addr} {nP : Nat} {slP : Array (Option Value)}
    (a1 : PySem.W.nsIn K mainGlobals "read_fours" = some (some (.ref f1))) (l1 : K.lookup f1 = some ⟨oc1, od1, .func (PySem.W.fnOf "read_fours" "read_fours" (defArgs s_read_fours) (defBody s_read_fours) (defScope s_read_fours) .none kV1 dc1 pm1 an1 cd1 ct1), sl1⟩) (c1 : PySem.W.codeIn K cd1 "read_fours" = true) (k1 : PySem.W.keepIn K (.ref f1) = true)
    (a2 : PySem.W.nsIn K mainGlobals "standing_names" = some (some (.ref f2))) (l2 : K.lookup f2 = some ⟨oc2, od2, .func (PySem.W.fnOf "standing_names" "standing_names" (defArgs s_standing_names) (defBody s_standing_names) (defScope s_standing_names) .none kV2 dc2 pm2 an2 cd2 ct2), sl2⟩) (c2 : PySem.W.codeIn K cd2 "standing_names" = true) (k2 : PySem.W.keepIn K (.ref f2) = true)
    (a3 : PySem.W.nsIn K mainGlobals "values_of" = some (some (.ref f3))) (l3 : K.lookup f3 = some ⟨oc3, od3, .func (PySem.W.fnOf "values_of" "values_of" (defArgs s_values_of) (defBody s_values_of) (defScope s_values_of) .none kV3 dc3 pm3 an3 cd3 ct3), sl3⟩) (c3 : PySem.W.codeIn K cd3 "values_of" = true) (k3 : PySem.W.keepIn K (.ref f3) = true)
    (a4 : PySem.W.nsIn K mainGlobals "most_choices" = some (some (.ref f4))) (l4 : K.lookup f4 = some ⟨oc4, od4, .func (PySem.W.fnOf "most_choices" "most_choices" (defArgs s_most_choices) (defBody s_most_choices) (defScope s_most_choices) .none kV4 dc4 pm4 an4 cd4 ct4), sl4⟩) (c4 : PySem.W.codeIn K cd4 "most_choices" = true) (k4 : PySem.W.keepIn K (.ref f4) = true)
    (a5 : PySem.W.nsIn K mainGlobals "still_needed" = some (some (.ref f5))) (l5 : K.lookup f5 = some ⟨oc5, od5, .func (PySem.W.fnOf "still_needed" "still_needed" (defArgs s_still_needed) (defBody s_still_needed) (defScope s_still_needed) .none kV5 dc5 pm5 an5 cd5 ct5), sl5⟩) (c5 : PySem.W.codeIn K cd5 "still_needed" = true) (k5 : PySem.W.keepIn K (.ref f5) = true)
    (a6 : PySem.W.nsIn K mainGlobals "chosen" = some (some (.ref f6))) (l6 : K.lookup f6 = some ⟨oc6, od6, .func (PySem.W.fnOf "chosen" "chosen" (defArgs s_chosen) (defBody s_chosen) (defScope s_chosen) .none kV6 dc6 pm6 an6 cd6 ct6), sl6⟩) (c6 : PySem.W.codeIn K cd6 "chosen" = true) (k6 : PySem.W.keepIn K (.ref f6) = true)
    (a7 : PySem.W.nsIn K mainGlobals "value_in" = some (some (.ref f7))) (l7 : K.lookup f7 = some ⟨oc7, od7, .func (PySem.W.fnOf "value_in" "value_in" (defArgs s_value_in) (defBody s_value_in) (defScope s_value_in) .none kV7 dc7 pm7 an7 cd7 ct7), sl7⟩) (c7 : PySem.W.codeIn K cd7 "value_in" = true) (k7 : PySem.W.keepIn K (.ref f7) = true)
    (a8 : PySem.W.nsIn K mainGlobals "read_question" = some (some (.ref f8))) (l8 : K.lookup f8 = some ⟨oc8, od8, .func (PySem.W.fnOf "read_question" "read_question" (defArgs s_read_question) (defBody s_read_question) (defScope s_read_question) .none kV8 dc8 pm8 an8 cd8 ct8), sl8⟩) (c8 : PySem.W.codeIn K cd8 "read_question" = true) (k8 : PySem.W.keepIn K (.ref f8) = true)
    (a9 : PySem.W.nsIn K mainGlobals "read_rows" = some (some (.ref f9))) (l9 : K.lookup f9 = some ⟨oc9, od9, .func (PySem.W.fnOf "read_rows" "read_rows" (defArgs s_read_rows) (defBody s_read_rows) (defScope s_read_rows) .none kV9 dc9 pm9 an9 cd9 ct9), sl9⟩) (c9 : PySem.W.codeIn K cd9 "read_rows" = true) (k9 : PySem.W.keepIn K (.ref f9) = true)
    (a10 : PySem.W.nsIn K mainGlobals "values_within" = some (some (.ref f10))) (l10 : K.lookup f10 = some ⟨oc10, od10, .func (PySem.W.fnOf "values_within" "values_within" (defArgs s_values_within) (defBody s_values_within) (defScope s_values_within) .none kV10 dc10 pm10 an10 cd10 ct10), sl10⟩) (c10 : PySem.W.codeIn K cd10 "values_within" = true) (k10 : PySem.W.keepIn K (.ref f10) = true)
    (a11 : PySem.W.nsIn K mainGlobals "values_beside" = some (some (.ref f11))) (l11 : K.lookup f11 = some ⟨oc11, od11, .func (PySem.W.fnOf "values_beside" "values_beside" (defArgs s_values_beside) (defBody s_values_beside) (defScope s_values_beside) .none kV11 dc11 pm11 an11 cd11 ct11), sl11⟩) (c11 : PySem.W.codeIn K cd11 "values_beside" = true) (k11 : PySem.W.keepIn K (.ref f11) = true)
    (a12 : PySem.W.nsIn K mainGlobals "choice_of" = some (some (.ref f12))) (l12 : K.lookup f12 = some ⟨oc12, od12, .func (PySem.W.fnOf "choice_of" "choice_of" (defArgs s_choice_of) (defBody s_choice_of) (defScope s_choice_of) .none kV12 dc12 pm12 an12 cd12 ct12), sl12⟩) (c12 : PySem.W.codeIn K cd12 "choice_of" = true) (k12 : PySem.W.keepIn K (.ref f12) = true)
    (a13 : PySem.W.nsIn K mainGlobals "values_in" = some (some (.ref f13))) (l13 : K.lookup f13 = some ⟨oc13, od13, .func (PySem.W.fnOf "values_in" "values_in" (defArgs s_values_in) (defBody s_values_in) (defScope s_values_in) .none kV13 dc13 pm13 an13 cd13 ct13), sl13⟩) (c13 : PySem.W.codeIn K cd13 "values_in" = true) (k13 : PySem.W.keepIn K (.ref f13) = true)
    (a14 : PySem.W.nsIn K mainGlobals "bits_of" = some (some (.ref f14))) (l14 : K.lookup f14 = some ⟨oc14, od14, .func (PySem.W.fnOf "bits_of" "bits_of" (defArgs s_bits_of) (defBody s_bits_of) (defScope s_bits_of) .none kV14 dc14 pm14 an14 cd14 ct14), sl14⟩) (c14 : PySem.W.codeIn K cd14 "bits_of" = true) (k14 : PySem.W.keepIn K (.ref f14) = true)
    (a15 : PySem.W.nsIn K mainGlobals "count_values" = some (some (.ref f15))) (l15 : K.lookup f15 = some ⟨oc15, od15, .func (PySem.W.fnOf "count_values" "count_values" (defArgs s_count_values) (defBody s_count_values) (defScope s_count_values) .none kV15 dc15 pm15 an15 cd15 ct15), sl15⟩) (c15 : PySem.W.codeIn K cd15 "count_values" = true) (k15 : PySem.W.keepIn K (.ref f15) = true)
    (a16 : PySem.W.nsIn K mainGlobals "fitting_choices" = some (some (.ref f16))) (l16 : K.lookup f16 = some ⟨oc16, od16, .func (PySem.W.fnOf "fitting_choices" "fitting_choices" (defArgs s_fitting_choices) (defBody s_fitting_choices) (defScope s_fitting_choices) .none kV16 dc16 pm16 an16 cd16 ct16), sl16⟩) (c16 : PySem.W.codeIn K cd16 "fitting_choices" = true) (k16 : PySem.W.keepIn K (.ref f16) = true)
    (a17 : PySem.W.nsIn K mainGlobals "how_many_values" = some (some (.ref f17))) (l17 : K.lookup f17 = some ⟨oc17, od17, .func (PySem.W.fnOf "how_many_values" "how_many_values" (defArgs s_how_many_values) (defBody s_how_many_values) (defScope s_how_many_values) .none kV17 dc17 pm17 an17 cd17 ct17), sl17⟩) (c17 : PySem.W.codeIn K cd17 "how_many_values" = true) (k17 : PySem.W.keepIn K (.ref f17) = true)
    (a18 : PySem.W.nsIn K mainGlobals "fits_of" = some (some (.ref f18))) (l18 : K.lookup f18 = some ⟨oc18, od18, .func (PySem.W.fnOf "fits_of" "fits_of" (defArgs s_fits_of) (defBody s_fits_of) (defScope s_fits_of) .none kV18 dc18 pm18 an18 cd18 ct18), sl18⟩) (c18 : PySem.W.codeIn K cd18 "fits_of" = true) (k18 : PySem.W.keepIn K (.ref f18) = true)
    (a19 : PySem.W.nsIn K mainGlobals "cheapest_order" = some (some (.ref f19))) (l19 : K.lookup f19 = some ⟨oc19, od19, .func (PySem.W.fnOf "cheapest_order" "cheapest_order" (defArgs s_cheapest_order) (defBody s_cheapest_order) (defScope s_cheapest_order) .none kV19 dc19 pm19 an19 cd19 ct19), sl19⟩) (c19 : PySem.W.codeIn K cd19 "cheapest_order" = true) (k19 : PySem.W.keepIn K (.ref f19) = true)
    (a20 : PySem.W.nsIn K mainGlobals "steps_through" = some (some (.ref f20))) (l20 : K.lookup f20 = some ⟨oc20, od20, .func (PySem.W.fnOf "steps_through" "steps_through" (defArgs s_steps_through) (defBody s_steps_through) (defScope s_steps_through) .none kV20 dc20 pm20 an20 cd20 ct20), sl20⟩) (c20 : PySem.W.codeIn K cd20 "steps_through" = true) (k20 : PySem.W.keepIn K (.ref f20) = true)
    (a21 : PySem.W.nsIn K mainGlobals "count_ways" = some (some (.ref f21))) (l21 : K.lookup f21 = some ⟨oc21, od21, .func (PySem.W.fnOf "count_ways" "count_ways" (defArgs s_count_ways) (defBody s_count_ways) (defScope s_count_ways) .none kV21 dc21 pm21 an21 cd21 ct21), sl21⟩) (c21 : PySem.W.codeIn K cd21 "count_ways" = true) (k21 : PySem.W.keepIn K (.ref f21) = true)
    (a22 : PySem.W.nsIn K mainGlobals "cq_answers" = some (some (.ref f22))) (l22 : K.lookup f22 = some ⟨oc22, od22, .func (PySem.W.fnOf "cq_answers" "cq_answers" (defArgs s_cq_answers) (defBody s_cq_answers) (defScope s_cq_answers) .none kV22 dc22 pm22 an22 cd22 ct22), sl22⟩) (c22 : PySem.W.codeIn K cd22 "cq_answers" = true) (k22 : PySem.W.keepIn K (.ref f22) = true)
    (v0 : PySem.W.nsIn K mainGlobals "MOST_ROWS" = some (some (.int (128) t0)))
    (v1 : PySem.W.nsIn K mainGlobals "MOST_HEADS" = some (some (.int (4) t1)))
    (v2 : PySem.W.nsIn K mainGlobals "MOST_PARTS" = some (some (.int (10) t2)))
    (v3 : PySem.W.nsIn K mainGlobals "HIGHEST_NAME" = some (some (.int (7) t3)))
    (v4 : PySem.W.nsIn K mainGlobals "HIGHEST_VALUE" = some (some (.int (15) t4)))
    (v5 : PySem.W.nsIn K mainGlobals "ALL_VALUES" = some (some (.int (65535) t5)))
    (v6 : PySem.W.nsIn K mainGlobals "HEADS_AT" = some (some (.int (2) t6)))
    (v7 : PySem.W.nsIn K mainGlobals "PARTS_AT" = some (some (.int (6) t7)))
    (v8 : PySem.W.nsIn K mainGlobals "NOT_AS_TOLD" = some (some (.int (-2) t8)))
    (v9 : PySem.W.nsIn K mainGlobals "MORE_THAN_MOST" = some (some (.int (-1) t9)))
    (vP : PySem.W.nsIn K mainGlobals "PLACES" = some (some (.ref PL))) (lP : K.lookup PL = some ⟨.type "tuple", odP, .seq #[.int 1 u0, .int 1 u1, .int 1 u2, .int 2 u3, .int 2 u4, .int 2 u5, .int 3 u6, .int 3 u7] nP, slP⟩)
    (z_len : PySem.W.nsIn K mainGlobals "len" = some none)
    (z_all : PySem.W.nsIn K mainGlobals "all" = some none)
    (z_sum : PySem.W.nsIn K mainGlobals "sum" = some none)
    (z_sorted : PySem.W.nsIn K mainGlobals "sorted" = some none)
    (z_min : PySem.W.nsIn K mainGlobals "min" = some none)
    (z_range : PySem.W.nsIn K mainGlobals "range" = some none)
    (z_zip : PySem.W.nsIn K mainGlobals "zip" = some none)
    : ∃ fd : FuncData, (∀ (s : Shared) (us : List Value), us.length = (["n", "most", "q", "rows"] : List Str).length → BindsTo s fd ⟨us, []⟩ ((["n", "most", "q", "rows"] : List Str).zip us)) ∧ ∀ base : Heap, K.In base → base.Ns mainGlobals mg → FnOk P w K mg base CX0 7 fa fd ["n", "most", "q", "rows"] (sp_cq_answers K) := by
  have e := hfa.symm.trans (PySem.W.mg_of X G a22)
  cases e
  have T : Txt K mg PL := ⟨⟨_, PySem.W.mg_of X G v0, ⟨_, rfl⟩⟩, ⟨_, PySem.W.mg_of X G v1, ⟨_, rfl⟩⟩, ⟨_, PySem.W.mg_of X G v2, ⟨_, rfl⟩⟩, ⟨_, PySem.W.mg_of X G v3, ⟨_, rfl⟩⟩, ⟨_, PySem.W.mg_of X G v4, ⟨_, rfl⟩⟩, ⟨_, PySem.W.mg_of X G v5, ⟨_, rfl⟩⟩, ⟨_, PySem.W.mg_of X G v6, ⟨_, rfl⟩⟩, ⟨_, PySem.W.mg_of X G v7, ⟨_, rfl⟩⟩, ⟨_, PySem.W.mg_of X G v8, ⟨_, rfl⟩⟩, ⟨_, PySem.W.mg_of X G v9, ⟨_, rfl⟩⟩, ⟨_, PySem.W.mg_of X G vP, rfl⟩, (fun H => .inr ⟨_, _, _, lP, rfl, rfl, (by show 8 ≤ sizeLine; decide), (.cons ⟨_, rfl⟩ (.cons ⟨_, rfl⟩ (.cons ⟨_, rfl⟩ (.cons ⟨_, rfl⟩ (.cons ⟨_, rfl⟩ (.cons ⟨_, rfl⟩ (.cons ⟨_, rfl⟩ (.cons ⟨_, rfl⟩ .nil))))))))⟩), PySem.W.mg_none_of X G z_len, PySem.W.mg_none_of X G z_all, PySem.W.mg_none_of X G z_sum, PySem.W.mg_none_of X G z_sorted, PySem.W.mg_none_of X G z_min, PySem.W.mg_none_of X G z_range, PySem.W.mg_none_of X G z_zip⟩
  have F1 := fun_mk (st := s_read_fours) l1 c1 k1
  have F2 := fun_mk (st := s_standing_names) l2 c2 k2
  have F3 := fun_mk (st := s_values_of) l3 c3 k3
  have F4 := fun_mk (st := s_most_choices) l4 c4 k4
  have F5 := fun_mk (st := s_still_needed) l5 c5 k5
  have F6 := fun_mk (st := s_chosen) l6 c6 k6
  have F7 := fun_mk (st := s_value_in) l7 c7 k7
  have F8 := fun_mk (st := s_read_question) l8 c8 k8
  have F9 := fun_mk (st := s_read_rows) l9 c9 k9
  have F10 := fun_mk (st := s_values_within) l10 c10 k10
  have F11 := fun_mk (st := s_values_beside) l11 c11 k11
  have F12 := fun_mk (st := s_choice_of) l12 c12 k12
  have F13 := fun_mk (st := s_values_in) l13 c13 k13
  have F14 := fun_mk (st := s_bits_of) l14 c14 k14
  have F15 := fun_mk (st := s_count_values) l15 c15 k15
  have F16 := fun_mk (st := s_fitting_choices) l16 c16 k16
  have F17 := fun_mk (st := s_how_many_values) l17 c17 k17
  have F18 := fun_mk (st := s_fits_of) l18 c18 k18
  have F19 := fun_mk (st := s_cheapest_order) l19 c19 k19
  have F20 := fun_mk (st := s_steps_through) l20 c20 k20
  have F21 := fun_mk (st := s_count_ways) l21 c21 k21
  have F22 := fun_mk (st := s_cq_answers) l22 c22 k22
  refine ⟨PySem.W.fnOf "cq_answers" "cq_answers" (defArgs s_cq_answers) (defBody s_cq_answers) (defScope s_cq_answers) .none kV22 dc22 pm22 an22 cd22 ct22, ?_, fun base _ _ => ?_⟩
  rotate_left
  have O1 := ok_read_fours (P := P) (w := w) (base := base) F1 T 
  have C1 : Cal P w K mg base 1 "read_fours" ["numbers", "start", "count", "highest"] (sp_read_fours K) := ⟨_, _, O1, PySem.W.mg_of X G a1, k1, F1.binds (ps := ["numbers", "start", "count", "highest"]) fun _ _ _ _ _ _ us hl => match us, hl with | [_, _, _, _], _ => rfl⟩
  have O2 := ok_standing_names (P := P) (w := w) (base := base) F2 T 
  have C2 : Cal P w K mg base 1 "standing_names" ["parts"] (sp_standing_names K) := ⟨_, _, O2, PySem.W.mg_of X G a2, k2, F2.binds (ps := ["parts"]) fun _ _ _ _ _ _ us hl => match us, hl with | [_], _ => rfl⟩
  have O3 := ok_values_of (P := P) (w := w) (base := base) F3 T 
  have C3 : Cal P w K mg base 1 "values_of" ["allowed"] (sp_values_of K) := ⟨_, _, O3, PySem.W.mg_of X G a3, k3, F3.binds (ps := ["allowed"]) fun _ _ _ _ _ _ us hl => match us, hl with | [_], _ => rfl⟩
  have O4 := ok_most_choices (P := P) (w := w) (base := base) F4 T 
  have C4 : Cal P w K mg base 1 "most_choices" ["needed", "sized"] (sp_most_choices K) := ⟨_, _, O4, PySem.W.mg_of X G a4, k4, F4.binds (ps := ["needed", "sized"]) fun _ _ _ _ _ _ us hl => match us, hl with | [_, _], _ => rfl⟩
  have O5 := ok_still_needed (P := P) (w := w) (base := base) F5 T 
  have C5 : Cal P w K mg base 1 "still_needed" ["done", "fits", "kept"] (sp_still_needed K) := ⟨_, _, O5, PySem.W.mg_of X G a5, k5, F5.binds (ps := ["done", "fits", "kept"]) fun _ _ _ _ _ _ us hl => match us, hl with | [_, _, _], _ => rfl⟩
  have O6 := ok_chosen (P := P) (w := w) (base := base) F6 T 
  have C6 : Cal P w K mg base 1 "chosen" ["name", "value"] (sp_chosen K) := ⟨_, _, O6, PySem.W.mg_of X G a6, k6, F6.binds (ps := ["name", "value"]) fun _ _ _ _ _ _ us hl => match us, hl with | [_, _], _ => rfl⟩
  have O7 := ok_value_in (P := P) (w := w) (base := base) F7 T 
  have C7 : Cal P w K mg base 1 "value_in" ["choice", "name"] (sp_value_in K) := ⟨_, _, O7, PySem.W.mg_of X G a7, k7, F7.binds (ps := ["choice", "name"]) fun _ _ _ _ _ _ us hl => match us, hl with | [_, _], _ => rfl⟩
  have O8 := ok_read_question (P := P) (w := w) (base := base) F8 T C1 C2
  have C8 : Cal P w K mg base 2 "read_question" ["q"] (sp_read_question K) := ⟨_, _, O8, PySem.W.mg_of X G a8, k8, F8.binds (ps := ["q"]) fun _ _ _ _ _ _ us hl => match us, hl with | [_], _ => rfl⟩
  have O9 := ok_read_rows (P := P) (w := w) (base := base) F9 T C1
  have C9 : Cal P w K mg base 2 "read_rows" ["n", "rows"] (sp_read_rows K) := ⟨_, _, O9, PySem.W.mg_of X G a9, k9, F9.binds (ps := ["n", "rows"]) fun _ _ _ _ _ _ us hl => match us, hl with | [_, _], _ => rfl⟩
  have O10 := ok_values_within (P := P) (w := w) (base := base) F10 T C3
  have C10 : Cal P w K mg base 2 "values_within" ["limits", "choice"] (sp_values_within K) := ⟨_, _, O10, PySem.W.mg_of X G a10, k10, F10.binds (ps := ["limits", "choice"]) fun _ _ _ _ _ _ us hl => match us, hl with | [_, _], _ => rfl⟩
  have O11 := ok_values_beside (P := P) (w := w) (base := base) F11 T C7
  have C11 : Cal P w K mg base 2 "values_beside" ["choices", "known", "name"] (sp_values_beside K) := ⟨_, _, O11, PySem.W.mg_of X G a11, k11, F11.binds (ps := ["choices", "known", "name"]) fun _ _ _ _ _ _ us hl => match us, hl with | [_, _, _], _ => rfl⟩
  have O12 := ok_choice_of (P := P) (w := w) (base := base) F12 T C6
  have C12 : Cal P w K mg base 2 "choice_of" ["names", "values"] (sp_choice_of K) := ⟨_, _, O12, PySem.W.mg_of X G a12, k12, F12.binds (ps := ["names", "values"]) fun _ _ _ _ _ _ us hl => match us, hl with | [_, _], _ => rfl⟩
  have O13 := ok_values_in (P := P) (w := w) (base := base) F13 T C7
  have C13 : Cal P w K mg base 2 "values_in" ["choice", "names"] (sp_values_in K) := ⟨_, _, O13, PySem.W.mg_of X G a13, k13, F13.binds (ps := ["choice", "names"]) fun _ _ _ _ _ _ us hl => match us, hl with | [_, _], _ => rfl⟩
  have O14 := ok_bits_of (P := P) (w := w) (base := base) F14 T C6
  have C14 : Cal P w K mg base 2 "bits_of" ["names"] (sp_bits_of K) := ⟨_, _, O14, PySem.W.mg_of X G a14, k14, F14.binds (ps := ["names"]) fun _ _ _ _ _ _ us hl => match us, hl with | [_], _ => rfl⟩
  have O15 := ok_count_values (P := P) (w := w) (base := base) F15 T C10 C6
  have C15 : Cal P w K mg base 3 "count_values" ["counts", "name", "limits", "needed"] (sp_count_values K) := ⟨_, _, O15, PySem.W.mg_of X G a15, k15, F15.binds (ps := ["counts", "name", "limits", "needed"]) fun _ _ _ _ _ _ us hl => match us, hl with | [_, _, _, _], _ => rfl⟩
  have O16 := ok_fitting_choices (P := P) (w := w) (base := base) F16 T C12
  have C16 : Cal P w K mg base 3 "fitting_choices" ["part", "rows"] (sp_fitting_choices K) := ⟨_, _, O16, PySem.W.mg_of X G a16, k16, F16.binds (ps := ["part", "rows"]) fun _ _ _ _ _ _ us hl => match us, hl with | [_, _], _ => rfl⟩
  have O17 := ok_how_many_values (P := P) (w := w) (base := base) F17 T C3 C11 C14
  have C17 : Cal P w K mg base 3 "how_many_values" ["name", "fits"] (sp_how_many_values K) := ⟨_, _, O17, PySem.W.mg_of X G a17, k17, F17.binds (ps := ["name", "fits"]) fun _ _ _ _ _ _ us hl => match us, hl with | [_, _], _ => rfl⟩
  have O18 := ok_fits_of (P := P) (w := w) (base := base) F18 T C16 C14
  have C18 : Cal P w K mg base 4 "fits_of" ["parts", "rows"] (sp_fits_of K) := ⟨_, _, O18, PySem.W.mg_of X G a18, k18, F18.binds (ps := ["parts", "rows"]) fun _ _ _ _ _ _ us hl => match us, hl with | [_, _], _ => rfl⟩
  have O19 := ok_cheapest_order (P := P) (w := w) (base := base) F19 T C17 C4 C5 C14
  have C19 : Cal P w K mg base 4 "cheapest_order" ["names", "fits", "kept"] (sp_cheapest_order K) := ⟨_, _, O19, PySem.W.mg_of X G a19, k19, F19.binds (ps := ["names", "fits", "kept"]) fun _ _ _ _ _ _ us hl => match us, hl with | [_, _, _], _ => rfl⟩
  have O20 := ok_steps_through (P := P) (w := w) (base := base) F20 T C11 C19 C5 C14
  have C20 : Cal P w K mg base 5 "steps_through" ["names", "fits", "kept"] (sp_steps_through K) := ⟨_, _, O20, PySem.W.mg_of X G a20, k20, F20.binds (ps := ["names", "fits", "kept"]) fun _ _ _ _ _ _ us hl => match us, hl with | [_, _, _], _ => rfl⟩
  have O21 := ok_count_ways (P := P) (w := w) (base := base) F21 T C2 C15 C20 C18
  have C21 : Cal P w K mg base 6 "count_ways" ["parts", "rows", "kept"] (sp_count_ways K) := ⟨_, _, O21, PySem.W.mg_of X G a21, k21, F21.binds (ps := ["parts", "rows", "kept"]) fun _ _ _ _ _ _ us hl => match us, hl with | [_, _, _], _ => rfl⟩
  have O22 := ok_cq_answers (P := P) (w := w) (base := base) F22 T C8 C9 C21 C13 C14
  · exact O22
  · exact fun s us hu => match us, hu with | [_, _, _, _], _ => .of_eq rfl
end Cq
open PySem PySem.W PyProof.Rows
set_option maxRecDepth 100000 in
set_option maxHeartbeats 0 in
theorem PySem.Challenge.cw_askedtables_s01_cq_answers_holds : PySem.Challenge.rw_askedtables_s01_cq_answers.Holds := by
  w_on; k_headS; (case hw => exact ⟨[.int (-1), .int 0, .list (List.replicate 46 (.int 0)), .list []], by decide +kernel, by decide +kernel⟩)
  k_fillS
  refine L2.walk_specK (r := PySem.Challenge.rw_askedtables_s01_cq_answers) (k := 7) (CX := L2.CX0) (ps := ["n", "most", "q", "rows"]) (sp := Cq.sp_cq_answers) (by decide +kernel) rfl rfl ⟨rfl, by decide, by decide⟩ (fun w h Y => PySem.W.kIn_of Y) ?F ?S (fun _ _ _ _ z => z)
  case F =>
    intro w mg fa h Y KX G hmg
    refine' Cq.all_mk KX G hmg ?a1 ?l1 ?c1 ?k1 ?a2 ?l2 ?c2 ?k2 ?a3 ?l3 ?c3 ?k3 ?a4 ?l4 ?c4 ?k4 ?a5 ?l5 ?c5 ?k5 ?a6 ?l6 ?c6 ?k6 ?a7 ?l7 ?c7 ?k7 ?a8 ?l8 ?c8 ?k8 ?a9 ?l9 ?c9 ?k9 ?a10 ?l10 ?c10 ?k10 ?a11 ?l11 ?c11 ?k11 ?a12 ?l12 ?c12 ?k12 ?a13 ?l13 ?c13 ?k13 ?a14 ?l14 ?c14 ?k14 ?a15 ?l15 ?c15 ?k15 ?a16 ?l16 ?c16 ?k16 ?a17 ?l17 ?c17 ?k17 ?a18 ?l18 ?c18 ?k18 ?a19 ?l19 ?c19 ?k19 ?a20 ?l20 ?c20 ?k20 ?a21 ?l21 ?c21 ?k21 ?a22 ?l22 ?c22 ?k22 ?v0 ?v1 ?v2 ?v3 ?v4 ?v5 ?v6 ?v7 ?v8 ?v9 ?vP ?lP ?z_len ?z_all ?z_sum ?z_sorted ?z_min ?z_range ?z_zip
    (case a1 => k_is)
    (case l1 => k_is)
    (case c1 => k_is)
    (case k1 => k_is)
    (case a2 => k_is)
    (case l2 => k_is)
    (case c2 => k_is)
    (case k2 => k_is)
    (case a3 => k_is)
    (case l3 => k_is)
    (case c3 => k_is)
    (case k3 => k_is)
    (case a4 => k_is)
    (case l4 => k_is)
    (case c4 => k_is)
    (case k4 => k_is)
    (case a5 => k_is)
    (case l5 => k_is)
    (case c5 => k_is)
    (case k5 => k_is)
    (case a6 => k_is)
    (case l6 => k_is)
    (case c6 => k_is)
    (case k6 => k_is)
    (case a7 => k_is)
    (case l7 => k_is)
    (case c7 => k_is)
    (case k7 => k_is)
    (case a8 => k_is)
    (case l8 => k_is)
    (case c8 => k_is)
    (case k8 => k_is)
    (case a9 => k_is)
    (case l9 => k_is)
    (case c9 => k_is)
    (case k9 => k_is)
    (case a10 => k_is)
    (case l10 => k_is)
    (case c10 => k_is)
    (case k10 => k_is)
    (case a11 => k_is)
    (case l11 => k_is)
    (case c11 => k_is)
    (case k11 => k_is)
    (case a12 => k_is)
    (case l12 => k_is)
    (case c12 => k_is)
    (case k12 => k_is)
    (case a13 => k_is)
    (case l13 => k_is)
    (case c13 => k_is)
    (case k13 => k_is)
    (case a14 => k_is)
    (case l14 => k_is)
    (case c14 => k_is)
    (case k14 => k_is)
    (case a15 => k_is)
    (case l15 => k_is)
    (case c15 => k_is)
    (case k15 => k_is)
    (case a16 => k_is)
    (case l16 => k_is)
    (case c16 => k_is)
    (case k16 => k_is)
    (case a17 => k_is)
    (case l17 => k_is)
    (case c17 => k_is)
    (case k17 => k_is)
    (case a18 => k_is)
    (case l18 => k_is)
    (case c18 => k_is)
    (case k18 => k_is)
    (case a19 => k_is)
    (case l19 => k_is)
    (case c19 => k_is)
    (case k19 => k_is)
    (case a20 => k_is)
    (case l20 => k_is)
    (case c20 => k_is)
    (case k20 => k_is)
    (case a21 => k_is)
    (case l21 => k_is)
    (case c21 => k_is)
    (case k21 => k_is)
    (case a22 => k_is)
    (case l22 => k_is)
    (case c22 => k_is)
    (case k22 => k_is)
    (case v0 => k_is)
    (case v1 => k_is)
    (case v2 => k_is)
    (case v3 => k_is)
    (case v4 => k_is)
    (case v5 => k_is)
    (case v6 => k_is)
    (case v7 => k_is)
    (case v8 => k_is)
    (case v9 => k_is)
    (case vP => k_is)
    (case lP => k_is)
    (case z_len => k_is)
    (case z_all => k_is)
    (case z_sum => k_is)
    (case z_sorted => k_is)
    (case z_min => k_is)
    (case z_range => k_is)
    (case z_zip => k_is)
  case S =>
    intro K H xs a hO hwi hask hx
    cases hx with
    | cons h1 hx =>
      cases hx with
      | cons h0 h2 =>
        cases h2 with
        | cons h2 h3 =>
          cases h3 with
          | cons h3 h4 =>
            cases h4
            cases h1
            cases h0
            cases h2 with
            | lst hs ha =>
              cases h3 with
              | lst hs3 ha3 =>
                have e := L2.ints_dw a.2.2.1 _ ha
                subst e
                have e3 := L2.ints_dw a.2.2.2.1 _ ha3
                subst e3
                have hk0 := (Bool.and_eq_true _ _).mp (show (Sx34Neutral.whole32 a.2.1 && (Sx34Neutral.asks a.2.2.1 && Sx34Neutral.rowsOk a.1 a.2.2.2.1)) = true from hask)
                have hk := (Bool.and_eq_true _ _).mp hk0.2
                exact ⟨a.1, a.2.1, _, _, a.2.2.1, a.2.2.2.1, rfl, hs, hs3, Cq.asks_ok hk.1, Cq.rowsOk_ok hk.2, fun p H' hp => .lst (L2.SqL.of hp) (L2.dw_ints _)⟩
#print axioms PySem.Challenge.cw_askedtables_s01_cq_answers_holds

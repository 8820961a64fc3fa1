import PyProof.Rows.All
import Wide.All
import OpenK.AllK
import Wide.FinOn
import PyProof.EqAt
import PyProof.EqKinds
import PyProof.TupleCall
import KE.BitLaws
import Open.SpecLaws
import KE.OsHead
import KE.OsGo
import Sa55Spec
import PySa55
import PyProof.ExcInit
import PyProof.InstStoreFacts
import PyProof.StationsW
import PyProof.RulesAs
import PyProof.ExcAttrAll.Exception
import PyProof.PassesOwn
import PyProof.DictTruth
import PySem.Challenge.RW_reactnets_s03_go
set_option Elab.async false
set_option linter.all false
set_option maxRecDepth 100000
section
-- CHANGE: your row's module here, as the last of these rows
namespace L2
open PySem PySem.Spec PyProof.Rows

/-- a key: an int or a str -/
abbrev Key := Sum Int Str
def keyIs : Key → Value → Bool
  | .inl k, v => Value.isInt k v
  | .inr x, v => Value.isStrOf x v
def keyH (w : World) : Key → Int
  | .inl k => hashInt k
  | .inr x => hashStr w x
theorem keyIs_shape : ∀ {k : Key} {v : Value}, keyIs k v = true → (∃ i t, k = Sum.inl i ∧ v = Value.int i t) ∨ (∃ x t, k = Sum.inr x ∧ v = Value.str x t)
  | .inl i, v, h => by
    obtain ⟨t, e⟩ := Value.isInt_shape (k := i) (v := v) h
    exact .inl ⟨i, t, rfl, e⟩
  | .inr x, v, h => by
    obtain ⟨t, e⟩ := Value.isStrOf_shape (x := x) (v := v) h
    exact .inr ⟨x, t, rfl, e⟩
theorem keyIs_int (i : Int) (t : Tok) : keyIs (.inl i) (.int i t) = true := by simp [keyIs, Value.isInt]
theorem keyIs_str (x : Str) (t : Tok) : keyIs (.inr x) (.str x t) = true := by simp [keyIs, Value.isStrOf]
theorem key_ll (a b : Int) : decide ((Sum.inl a : Key) = Sum.inl b) = (a == b) := by
  by_cases e : a = b
  · subst e; simp
  · have h : ¬ (Sum.inl a : Key) = Sum.inl b := fun q => e (Sum.inl.inj q)
    rw [decide_eq_false h]
    exact (beq_eq_false_iff_ne.mpr e).symm
theorem key_rr (a b : Str) : decide ((Sum.inr a : Key) = Sum.inr b) = decide (a = b) := by
  by_cases e : a = b
  · subst e; simp
  · have h : ¬ (Sum.inr a : Key) = Sum.inr b := fun q => e (Sum.inr.inj q)
    rw [decide_eq_false h, decide_eq_false e]
theorem key_lr (a : Int) (b : Str) : decide ((Sum.inl a : Key) = Sum.inr b) = false := decide_eq_false (fun q => nomatch q)
theorem key_rl (a : Str) (b : Int) : decide ((Sum.inr a : Key) = Sum.inl b) = false := decide_eq_false (fun q => nomatch q)

def mixKind (prog : Program) (w : World) : PySem.KeyKind prog w Key where
  is := keyIs
  hash := keyH w
  inj := fun v a b ha hb => by
    rcases keyIs_shape ha with ⟨i, t, rfl, rfl⟩ | ⟨x, t, rfl, rfl⟩
    · rcases keyIs_shape hb with ⟨j, u, rfl, e⟩ | ⟨y, u, rfl, e⟩
      · injection e with e1 _; rw [e1]
      · exact nomatch e
    · rcases keyIs_shape hb with ⟨j, u, rfl, e⟩ | ⟨y, u, rfl, e⟩
      · exact nomatch e
      · injection e with e1 _; rw [e1]
  byValue := fun k v h => by
    rcases keyIs_shape h with ⟨i, t, rfl, rfl⟩ | ⟨x, t, rfl, rfl⟩ <;> rfl
  pyHash := fun hv h => by
    rcases keyIs_shape hv with ⟨i, t, rfl, rfl⟩ | ⟨x, t, rfl, rfl⟩
    · exact wpAny_pyHash_int h
    · exact wpAny_pyHash_str h
  eqBool := fun hu hv h => by
    rcases keyIs_shape hu with ⟨i, t, rfl, rfl⟩ | ⟨x, t, rfl, rfl⟩
    · rcases keyIs_shape hv with ⟨j, u, rfl, rfl⟩ | ⟨y, u, rfl, rfl⟩
      · rw [key_ll] at h; exact wpAny_eqBool_int h
      · rw [key_lr] at h; exact SeqAt.EqAt.int_str i t y u _ _ _ _ h
    · rcases keyIs_shape hv with ⟨j, u, rfl, rfl⟩ | ⟨y, u, rfl, rfl⟩
      · rw [key_rl] at h; exact SeqAt.EqAt.str_int x t j u _ _ _ _ h
      · rw [key_rr] at h; exact wpAny_eqBool_str h
  «strs» := fun k x t v h => by
    rcases keyIs_shape h with ⟨i, u, rfl, e⟩ | ⟨y, u, rfl, e⟩
    · exact nomatch e
    · injection e with e1 _
      subst e1
      cases v <;> rfl

theorem mixKind_int (prog : Program) (w : World) (i : Int) (t : Tok) : (mixKind prog w).is (.inl i) (.int i t) = true := keyIs_int i t
theorem mixKind_str (prog : Program) (w : World) (x : Str) (t : Tok) : (mixKind prog w).is (.inr x) (.str x t) = true := keyIs_str x t
end L2

namespace L2
open PySem PySem.Spec PyProof.Rows

/-- a value, without the heap -/
inductive V where
  | non | bl (b : Bool) | int (i : Int) | str (x : Str) | byt (b : Array UInt8) | flt (b : UInt64) | ref (a : Addr) | ty (n : String)
  deriving DecidableEq

def RelV : V → Value → Prop
  | .non, u => u = Value.none
  | .bl b, u => u = Value.bool b
  | .int i, u => ∃ t, u = Value.int i t
  | .str x, u => ∃ t, u = Value.str x t
  | .byt b, u => ∃ t, u = Value.bytes b t
  | .flt b, u => ∃ t, u = Value.float b t
  | .ref a, u => u = Value.ref a
  | .ty n, u => u = Value.type n

abbrev Vals : List V → List Value → Prop := Paired RelV
theorem Vals.length {xs : List V} {us : List Value} (r : Vals xs us) : xs.length = us.length := Paired.length r
theorem Vals.get : ∀ {xs : List V} {us : List Value} {i : Nat} {x : V}, Vals xs us → xs[i]? = some x → ∃ u, us[i]? = some u ∧ RelV x u
  | _, _, _, _, .nil, e => by simp at e
  | _, _, 0, _, .cons r _, e => by simp at e; subst e; exact ⟨_, rfl, r⟩
  | _, _, i + 1, x, .cons _ t, e => by
    obtain ⟨u, h1, h2⟩ := Vals.get (i := i) (x := x) t (by simpa using e)
    exact ⟨u, by simpa using h1, h2⟩
theorem Vals.set {x : V} {u : Value} (r : RelV x u) : ∀ {xs : List V} {us : List Value} (i : Nat), Vals xs us → Vals (xs.set i x) (us.set i u)
  | _, _, _, .nil => .nil
  | _, _, 0, .cons _ t => .cons r t
  | _, _, i + 1, .cons q t => .cons q (Vals.set r i t)
theorem Vals.append : ∀ {xs ys : List V} {us ws : List Value}, Vals xs us → Vals ys ws → Vals (xs ++ ys) (us ++ ws)
  | _, _, _, _, .nil, s => s
  | _, _, _, _, .cons r t, s => .cons r (Vals.append t s)
theorem Vals.take : ∀ {xs : List V} {us : List Value} (n : Nat), Vals xs us → Vals (xs.take n) (us.take n)
  | _, _, 0, _ => .nil
  | _, _, _ + 1, .nil => .nil
  | _, _, n + 1, .cons r t => .cons r (Vals.take n t)
theorem Vals.drop : ∀ {xs : List V} {us : List Value} (n : Nat), Vals xs us → Vals (xs.drop n) (us.drop n)
  | _, _, 0, r => r
  | _, _, _ + 1, .nil => .nil
  | _, _, n + 1, .cons _ t => Vals.drop n t

def RelO : Option V → Option Value → Prop
  | some v, some u => RelV v u
  | none, none => True
  | _, _ => False
def KV {κ : Type} : List (κ × V) → List (κ × Value) → Prop := Paired fun (p : κ × V) (q : κ × Value) => p.1 = q.1 ∧ RelV p.2 q.2

/-- a key of a dict (00_mix): an int or a text -/
def kV : Key → V
  | .inl i => .int i
  | .inr x => .str x

/-- what stands at a tracked address -/
inductive HO where
  /-- a list -/
  | lst (xs : List V)
  /-- a tuple (never changes) -/
  | tup (xs : List V)
  /-- a dict whose keys are ints and texts; one whose keys are tuples of ints and texts (the empty one is both) -/
  | dK (kvs : List (Key × V)) | dT (kvs : List (List Key × V))
  /-- a set of ints: its members, its size -/
  | set (S : Int → Bool) (n : Nat)
  /-- an instance of the class at C, its dict at dx, its attributes -/
  | ins (C dx : Addr) (fs : List (Str × V))
  /-- the dict of the instance at x -/
  | own (x : Addr)
  /-- the dict of an exception -/
  | xd (fs : List (Str × V))
  /-- a bound method, f of x -/
  | met (f x : Addr)
  /-- a range object lo, lo + 1, .. below hi -/
  | rng (lo hi : Int)
  /-- a thing that is known to the object (the script; a dict while a loop walks it): read, never written while it is so -/
  | frz (o : Obj) (u : HO)
  /-- a code object's table -/
  | tbl (ps : Array Value)
  /-- any other thing, by what is true of its one object (a def of one's own: SetO a S n := HO.ext fun h => ..) -/
  | ext (φ : Heap → Prop)

abbrev Hp := Addr → Option HO
def upd (H : Hp) (a : Addr) (o : HO) : Hp := fun b => if b = a then some o else H b
theorem upd_same {H : Hp} {a : Addr} {o : HO} : upd H a o a = some o := by unfold upd; rw [if_pos rfl]
theorem upd_ne {H : Hp} {a b : Addr} {o : HO} (h : b ≠ a) : upd H a o b = H b := by unfold upd; rw [if_neg h]
/-- two objects of different content stand apart -/
theorem ne_of {H : Hp} {a b : Addr} {o u : HO} (h : H a = some o) (h' : H b = some u) (d : o ≠ u) : a ≠ b := by
  intro e; subst e; rw [h] at h'; exact d (Option.some.inj h')
theorem ne_of_none {H : Hp} {a b : Addr} {o : HO} (h : H a = some o) (h' : H b = none) : a ≠ b := by
  intro e; subst e; rw [h] at h'; cases h'

section
variable (P : Program) (w : World)
def ObjOk (H : Hp) (h : Heap) (a : Addr) : HO → Prop
  | .lst xs => xs.length ≤ sizeLine ∧ ∃ (its : List Value) (n : Nat), Vals xs its ∧ h.get? a = some { cls := .type "list", data := .seq its.toArray n }
  | .tup xs => xs.length ≤ sizeLine ∧ ∃ its : List Value, Vals xs its ∧ IsTup h a its.toArray
  | .dK kvs => kvs.length ≤ sizeLine ∧ (a == sysModules) = false ∧ ∃ vs, KV kvs vs ∧ h.DictOf (mixKind P w) a vs
  | .dT kvs => kvs.length ≤ sizeLine ∧ (a == sysModules) = false ∧ ∃ xs : List (List Key × Addr × Value),
      Paired (fun (p : List Key × V) (q : List Key × Addr × Value) => p.1 = q.1 ∧ H q.2.1 = some (.tup (p.1.map kV)) ∧ RelV p.2 q.2.2) kvs xs ∧
      ∃ o es ep, h.get? a = some o ∧ o.ExactDict ∧ o.data = .dict es ep ∧ es.toList = xs.map (entryOfKey (tupleKind (mixKind P w))) ∧ (xs.map (·.1)).Nodup
  | .set S n => h.SetOf (intKind P w) a S n
  | .ins C dx fs => H dx = some (.own a) ∧ fs.length ≤ 1000 ∧ dx ≠ a ∧ h.get? a = some (PySem.W.instObj C dx) ∧
      ∃ mA, h.Ns1 dx mA ∧ (∀ f, RelO (fs.lookup f) (mA f)) ∧ PySem.Within mA (fs.map (·.1))
  | .own _ => ∃ o, h.get? a = some o
  | .xd fs => ∃ mA, h.Ns1 a mA ∧ ∀ f, RelO (fs.lookup f) (mA f)
  | .rng lo hi => ∃ t u v, h.get? a = some { cls := .type "range", data := .fields #[.int lo t, .int hi u, .int 1 v] }
  | .frz o u => h.get? a = some o ∧ ObjOk H h a u
  | .tbl ps => h.get? a = some { cls := .none, data := .fields ps }
  | .met f x => h.get? a = some (PySem.W.methodObj (.ref f) (.ref x))
  | .ext φ => φ h ∧ (∃ o, h.get? a = some o) ∧ ∀ h1 h2 : Heap, φ h1 → (∀ o, h1.get? a = some o → h2.get? a = some o) → φ h2
/-- the abstract heap is held -/
def HOk (H : Hp) (h : Heap) : Prop := ∀ a o, H a = some o → ObjOk P w H h a o
end

section
variable {P : Program} {w : World} {H H' : Hp} {h h' : Heap} {a : Addr} {o : HO}
theorem ObjOk.lt (x : ObjOk P w H h a o) : a < h.objs.size := by
  cases o with
  | lst xs => obtain ⟨_, _, _, _, e⟩ := x; exact Heap.lt_size e
  | tup xs => obtain ⟨_, _, _, p⟩ := x; exact p.lt
  | dK kvs => obtain ⟨_, _, _, _, o, _, _, e, _⟩ := x; exact Heap.lt_size e
  | dT kvs => obtain ⟨_, _, _, _, o, _, _, e, _⟩ := x; exact Heap.lt_size e
  | set S n => obtain ⟨o, _, _, _, e, _⟩ := x; exact Heap.lt_size e
  | ins C dx fs => obtain ⟨_, _, _, e, _⟩ := x; exact Heap.lt_size e
  | own y => obtain ⟨_, e⟩ := x; exact Heap.lt_size e
  | xd fs => obtain ⟨_, ⟨_, _, _, e, _⟩, _⟩ := x; exact Heap.lt_size e
  | rng lo hi => obtain ⟨_, _, _, e⟩ := x; exact Heap.lt_size e
  | frz ob u => obtain ⟨e, _⟩ := x; exact Heap.lt_size e
  | tbl ps => exact Heap.lt_size (show h.get? a = some _ from x)
  | met f y => exact Heap.lt_size (show h.get? a = some _ from x)
  | ext φ => obtain ⟨_, ⟨_, e⟩, _⟩ := x; exact Heap.lt_size e
theorem Paired.mapP {α β : Type} {F G : α → β → Prop} : ∀ {l₁ : List α} {l₂ : List β}, Paired F l₁ l₂ → (∀ a b, F a b → G a b) → Paired G l₁ l₂
  | _, _, .nil, _ => .nil
  | _, _, .cons r t, f => .cons (f _ _ r) (Paired.mapP t f)
/-- what an object's description leans on: its own object, its own dict, the tuples -/
theorem ObjOk.stay (x : ObjOk P w H h a o) (k : ∀ b u, (b = a ∨ H b = some (.own a)) → h.get? b = some u → h'.get? b = some u)
    (ho : ∀ b, H b = some (.own a) → H' b = some (.own a)) (ht : ∀ b xs, H b = some (.tup xs) → H' b = some (.tup xs)) : ObjOk P w H' h' a o := by
  induction o with
  | lst xs => obtain ⟨z, its, n, r, e⟩ := x; exact ⟨z, its, n, r, k _ _ (.inl rfl) e⟩
  | tup xs => obtain ⟨z, its, r, ob, e, c⟩ := x; exact ⟨z, its, r, ob, k _ _ (.inl rfl) e, c⟩
  | dK kvs => obtain ⟨z, y, vs, r, ob, es, ep, e, c⟩ := x; exact ⟨z, y, vs, r, ob, es, ep, k _ _ (.inl rfl) e, c⟩
  | dT kvs =>
    obtain ⟨z, y, xs, r, ob, es, ep, e, c⟩ := x
    exact ⟨z, y, xs, Paired.mapP r fun p q z => ⟨z.1, ht _ _ z.2.1, z.2.2⟩, ob, es, ep, k _ _ (.inl rfl) e, c⟩
  | set S n => obtain ⟨ob, es, ep, t, e, c⟩ := x; exact ⟨ob, es, ep, t, k _ _ (.inl rfl) e, c⟩
  | ins C dx fs =>
    obtain ⟨d, z, ne, e, mA, ⟨od, es, ep, e2, c⟩, r⟩ := x
    exact ⟨ho _ d, z, ne, k _ _ (.inl rfl) e, mA, ⟨od, es, ep, k _ _ (.inr d) e2, c⟩, r⟩
  | own y => obtain ⟨ob, e⟩ := x; exact ⟨ob, k _ _ (.inl rfl) e⟩
  | xd fs => obtain ⟨mA, ⟨od, es, ep, e, c⟩, r⟩ := x; exact ⟨mA, ⟨od, es, ep, k _ _ (.inl rfl) e, c⟩, r⟩
  | rng lo hi => obtain ⟨t, u, v, e⟩ := x; exact ⟨t, u, v, k _ _ (.inl rfl) e⟩
  | frz ob u ih => obtain ⟨e, q⟩ := x; exact ⟨k _ _ (.inl rfl) e, ih q⟩
  | tbl ps =>
    have e : h.get? a = some { cls := .none, data := .fields ps } := x
    show h'.get? a = some { cls := .none, data := .fields ps }
    exact k a _ (.inl rfl) e
  | met f y =>
    have e : h.get? a = some (PySem.W.methodObj (.ref f) (.ref y)) := x
    show h'.get? a = some (PySem.W.methodObj (.ref f) (.ref y))
    exact k a _ (.inl rfl) e
  | ext φ => obtain ⟨p, ⟨o, e⟩, st⟩ := x; exact ⟨st _ _ p fun o q => k _ _ (.inl rfl) q, ⟨o, k _ _ (.inl rfl) e⟩, st⟩
theorem HOk.lt (x : HOk P w H h) (e : H a = some o) : a < h.objs.size := (x a o e).lt
theorem HOk.fresh (x : HOk P w H h) (e : h.objs.size ≤ a) : H a = none := by
  cases q : H a with
  | none => rfl
  | some u => exact absurd (Nat.lt_of_lt_of_le (x.lt q) e) (Nat.lt_irrefl _)
/-- every object of the heap is kept -/
theorem HOk.kept (x : HOk P w H h) (k : ∀ b u, h.get? b = some u → h'.get? b = some u) : HOk P w H h' := fun a o e =>
  (x a o e).stay (fun b u _ q => k b u q) (fun _ q => q) fun _ _ q => q
/-- a new object is laid and tracked -/
theorem HOk.laid (x : HOk P w H h) (k : ∀ b u, h.get? b = some u → h'.get? b = some u) (hp : h.objs.size ≤ a) (new : ObjOk P w (upd H a o) h' a o) : HOk P w (upd H a o) h' := fun b u e => by
  have hn := x.fresh hp
  by_cases hb : b = a
  · subst hb; rw [upd_same] at e; cases e; exact new
  · rw [upd_ne hb] at e
    exact (x b u e).stay (fun c v _ q => k c v q) (fun c q => by rw [upd_ne (ne_of_none q hn)]; exact q) fun c xs q => by rw [upd_ne (ne_of_none q hn)]; exact q
end

/-- what may be read as u: it is u, or a known u -/
def Rd (H : Hp) (a : Addr) (u : HO) : Prop := H a = some u ∨ ∃ o, H a = some (.frz o u)
theorem Rd.of {H : Hp} {a : Addr} {u : HO} (h : H a = some u) : Rd H a u := .inl h
theorem Rd.ok {P : Program} {w : World} {H : Hp} {h : Heap} {a : Addr} {u : HO} (r : Rd H a u) (x : HOk P w H h) : ObjOk P w H h a u := by
  rcases r with r | ⟨o, r⟩
  · exact x a u r
  · obtain ⟨_, q⟩ := x a _ r
    exact q
/-- what may be written -/
def Mut : Option HO → Prop
  | some (.lst _) => True
  | some (.dK _) => True
  | some (.dT _) => True
  | some (.set _ _) => True
  | some (.ins _ _ _) => True
  | some (.ext _) => True
  | _ => False
section
variable {P : Program} {w : World} {H : Hp} {h h' : Heap} {x e : Addr} {o' : HO}
/-- the object at e is changed: x itself, or the dict of the instance x -/
theorem HOk.write (ok : HOk P w H h) (mu : Mut (H x)) (he : e = x ∨ H e = some (.own x)) (k : ∀ b u, b ≠ e → h.get? b = some u → h'.get? b = some u) (heo : ∃ u, h'.get? e = some u)
    (new : ObjOk P w (upd H x o') h' x o') : HOk P w (upd H x o') h' := fun b u q => by
  have nown : ∀ c y, H c = some (.own y) → c ≠ x := fun c y r z => by subst z; rw [r] at mu; exact mu
  have ntup : ∀ c xs, H c = some (.tup xs) → c ≠ x := fun c xs r z => by subst z; rw [r] at mu; exact mu
  by_cases hb : b = x
  · subst hb; rw [upd_same] at q; cases q; exact new
  · rw [upd_ne hb] at q
    by_cases hbe : b = e
    · have q' : H b = some (.own x) := by
        rcases he with z | z
        · exact absurd (hbe.trans z) hb
        · rw [hbe]; exact z
      rw [q] at q'; cases q'
      obtain ⟨v, hv⟩ := heo
      exact ⟨v, by rw [hbe]; exact hv⟩
    · refine (ok b u q).stay (fun c v hc r => k c v ?_ r) (fun c r => by rw [upd_ne (nown c b r)]; exact r) fun c xs r => by rw [upd_ne (ntup c xs r)]; exact r
      rcases hc with rfl | hc
      · exact hbe
      · rintro rfl
        rcases he with z | z
        · exact nown c b hc z
        · rw [hc] at z; cases z; exact hb rfl
end

structure Un (fs ex : List Addr) (H H' : Hp) (h h' : Heap) : Prop where
  keep : ∀ b o, h.get? b = some o → H b = none → b ∉ fs → b ∉ ex → h'.get? b = some o
  slot : ∀ b o, h.get? b = some o → H b = none → b ∈ fs → b ∉ ex → ∃ sl, h'.get? b = some { o with slots := sl }
  free : ∀ b o, h.get? b = some o → H b = none → b ∉ ex → H' b = none
  there : ∀ b o, h.get? b = some o → b ∉ ex → ∃ o', h'.get? b = some o'
  tups : ∀ b xs, H b = some (.tup xs) → H' b = some (.tup xs)
  frzs : ∀ b o u, H b = some (.frz o u) → H' b = some (.frz o u)
  tbls : ∀ b ps, H b = some (.tbl ps) → ∃ more, H' b = some (.tbl (ps ++ more))
section
variable {fs fs' ex ex' : List Addr} {H H1 H2 : Hp} {h h1 h2 h' : Heap} {a x e : Addr} {o : HO}
theorem Un.any (u : Un fs ex H H1 h h1) {b : Addr} {ob : Obj} (q : h.get? b = some ob) (n : H b = none) (hx : b ∉ ex) : ∃ sl, h1.get? b = some { ob with slots := sl } := by
  by_cases hb : b ∈ fs
  · exact u.slot b ob q n hb hx
  · exact ⟨ob.slots, u.keep b ob q n hb hx⟩
theorem Un.trans (a : Un fs ex H H1 h h1) (b : Un fs ex H1 H2 h1 h2) : Un fs ex H H2 h h2 where
  keep := fun c ob q n hc hx => b.keep c ob (a.keep c ob q n hc hx) (a.free c ob q n hx) hc hx
  slot := fun c ob q n hc hx => by
    obtain ⟨sl, e1⟩ := a.slot c ob q n hc hx
    obtain ⟨sl', e2⟩ := b.slot c _ e1 (a.free c ob q n hx) hc hx
    exact ⟨sl', e2⟩
  free := fun c ob q n hx => by
    obtain ⟨o', e1⟩ := a.there c ob q hx
    exact b.free c o' e1 (a.free c ob q n hx) hx
  there := fun c ob q hx => by
    obtain ⟨o', e1⟩ := a.there c ob q hx
    exact b.there c o' e1 hx
  tups := fun c xs q => b.tups c xs (a.tups c xs q)
  frzs := fun c ob xs q => b.frzs c ob xs (a.frzs c ob xs q)
  tbls := fun c ps q => by
    obtain ⟨m1, e1⟩ := a.tbls c ps q
    obtain ⟨m2, e2⟩ := b.tbls c _ e1
    exact ⟨m1 ++ m2, by rw [e2, Array.append_assoc]⟩
theorem Un.kept (k : ∀ b u, h.get? b = some u → h'.get? b = some u) : Un fs ex H H h h' :=
  ⟨fun b ob q _ _ _ => k b ob q, fun b ob q _ _ _ => ⟨ob.slots, k b ob q⟩, fun _ _ _ n _ => n, fun b ob q _ => ⟨ob, k b ob q⟩, fun _ _ q => q, fun _ _ _ q => q, fun _ ps q => ⟨#[], by rw [q]; simp⟩⟩
theorem Un.refl : Un fs ex H H h h := Un.kept fun _ _ q => q
theorem Un.laid (k : ∀ b u, h.get? b = some u → h'.get? b = some u) (hp : h.objs.size ≤ a) (hn : H a = none) : Un fs ex H (upd H a o) h h' where
  keep := fun b u q _ _ _ => k b u q
  slot := fun b u q _ _ _ => ⟨u.slots, k b u q⟩
  free := fun b u q n _ => by rw [upd_ne (Nat.ne_of_lt (Nat.lt_of_lt_of_le (Heap.lt_size q) hp))]; exact n
  there := fun b u q _ => ⟨u, k b u q⟩
  tups := fun b xs q => by rw [upd_ne (ne_of_none q hn)]; exact q
  frzs := fun b u xs q => by rw [upd_ne (ne_of_none q hn)]; exact q
  tbls := fun b ps q => ⟨#[], by rw [upd_ne (ne_of_none q hn), q]; simp⟩
theorem Un.write (mu : Mut (H x)) (he : e = x ∨ H e = some (.own x)) (k : ∀ b u, b ≠ e → h.get? b = some u → h'.get? b = some u) (heo : ∃ u, h'.get? e = some u) : Un fs ex H (upd H x o) h h' := by
  have hx : ∀ b, H b = none → b ≠ x := fun b n z => by subst z; rw [n] at mu; exact mu
  have hb : ∀ b, H b = none → b ≠ e := fun b n z => by
    subst z
    rcases he with r | r
    · exact hx b n r
    · rw [n] at r; cases r
  have hm : ∀ b u, H b = some u → ¬ Mut (some u) → b ≠ x := fun b u q nm z => by subst z; rw [q] at mu; exact nm mu
  refine ⟨fun b u q n _ _ => k b u (hb b n) q, fun b u q n _ _ => ⟨u.slots, k b u (hb b n) q⟩, fun b u q n _ => by rw [upd_ne (hx b n)]; exact n, fun b u q _ => ?_,
    fun b xs q => by rw [upd_ne (hm b _ q fun z => z)]; exact q, fun b u xs q => by rw [upd_ne (hm b _ q fun z => z)]; exact q, fun b ps q => ⟨#[], by rw [upd_ne (hm b _ q fun z => z), q]; simp⟩⟩
  by_cases hbe : b = e
  · subst hbe; exact heo
  · exact ⟨u, k b u hbe q⟩
theorem Un.mono (u : Un fs ex H H1 h h1) (hs : ∀ b ∈ fs, b ∈ fs') (hx : ∀ b ∈ ex, b ∈ ex') : Un fs' ex' H H1 h h1 :=
  ⟨fun b ob q n hb he => u.keep b ob q n (fun z => hb (hs b z)) fun z => he (hx b z), fun _ _ q n _ he => u.any q n fun z => he (hx _ z), fun b ob q n he => u.free b ob q n fun z => he (hx b z), fun b ob q he => u.there b ob q fun z => he (hx b z), u.tups, u.frzs, u.tbls⟩
end

def trk (h : Heap) (H : Hp) : List Addr := (List.range h.objs.size).filter fun a => (H a).isSome
def hidT (h : Heap) (H : Hp) : Heap := PySem.W.hideAll h (trk h H)
theorem hidT_size (h : Heap) (H : Hp) : (hidT h H).objs.size = h.objs.size := PySem.W.hideAll_size _ _
theorem hidT_get {h : Heap} {H : Hp} {b : Addr} {o : Obj} (e : h.get? b = some o) (n : H b = none) : (hidT h H).get? b = some o :=
  PySem.W.hideAll_get _ e fun hm => by
    have q : (H b).isSome = true := (List.mem_filter.mp hm).2
    rw [n] at q; simp at q
theorem of_hidT {h : Heap} {H : Hp} {b : Addr} {o : Obj} (e : (hidT h H).get? b = some o) : h.get? b = some o ∧ H b = none := by
  have e' : h.get? b = some o := PySem.W.of_hideAll (trk h H) e
  refine ⟨e', ?_⟩
  cases q : H b with
  | none => rfl
  | some x =>
    have hm : b ∈ trk h H := List.mem_filter.mpr ⟨List.mem_range.mpr (Heap.lt_size e'), by simp [q]⟩
    have z : (hidT h H).get? b = none := PySem.W.hideAll_none (trk h H) hm
    rw [z] at e; cases e

def allNews (g h : Heap) (L : Addr) : List (Addr × Obj) := (List.range h.objs.size).filterMap fun a => if a = L ∨ (g.get? a).isSome = true then none else (h.get? a).map fun o => (a, o)
def rest (g h : Heap) (L d : Addr) : List (Addr × Obj) := (allNews g h L).filter fun p => decide (p.1 ≠ d)
end L2

namespace L2
open PySem PySem.Spec PyProof.Rows

/-- the module's facts, over the base: the heap at the law's entry without what is tracked there -/
structure Mod (K : PySem.W.Frag) (mg : Str → Option Value) (base : Heap) : Prop where
  kin : K.In base
  glob : base.Ns mainGlobals mg
  blt : ∃ mb, base.Ns builtinsNs mb ∧ ∀ x : Str, x ≠ "__name__" → mb x = bootBuiltins x
  nolimit : base.NoLimit

/-- the context: a def's body (or a comprehension's block) running. base: fixed through the whole law; s₀, H₀: the entry; outer: the frames whose slots others may change (a def's callers); stack: all frames that run;
   ex: iterators that were made ahead of the entry and are walked here (a comprehension's); fn: the names whose cells were made at the entry (a def: all; a comprehension's block: its own); calm: not within an except suite; pn: pins that every state bears; xe: what is wanted of an exception that leaves the code -/
structure Cx where
  prog : Program
  w : World
  K : PySem.W.Frag
  mg : Str → Option Value
  base : Heap
  A : Around
  N : List Str
  s_0 : Shared
  H_0 : Hp
  env : Env
  outer : List Env
  stack : List Env
  ex : List Addr
  fn : Str → Bool
  calm : Bool
  pn : List (Addr × Obj)
  xe : Value → Shared → Prop
/-- the callers' frames -/
def frs (l : List Env) : List Addr := l.filterMap (·.frame)
abbrev Cx.fs (X : Cx) : List Addr := frs X.outer

def Vis (sc : Scope) (x : Str) : Prop := sc.names.lookup x = some .local ∨ sc.names.lookup x = some .cell ∨ sc.names.lookup x = some .free
def Loc (sc : Scope) (x : Str) : Prop := sc.names.lookup x = some .local ∨ sc.names.lookup x = some .cell
def Look (env : Env) (h : Heap) (m : Str → Option Value) (x : Str) (u : Value) : Prop :=
  (env.kindOf x = some .local ∧ m x = some u) ∨ ((env.kindOf x = some .cell ∨ env.kindOf x = some .free) ∧ ∃ c, env.cells.lookup x = some c ∧ h.IsCell c (some u))

structure Cx.Ok (X : Cx) : Prop where
  mod : Mod X.K X.mg X.base
  kind : X.env.scope.kind = .function
  glob : X.env.globals = mainGlobals
  blt : X.env.builtins = builtinsNs
  above : X.s_0.heap.objs.size ≤ X.env.locals
  inj : ∀ x y c, X.env.cells.lookup x = some c → X.env.cells.lookup y = some c → x = y
  has : ∀ x, (X.env.kindOf x = some .cell ∨ X.env.kindOf x = some .free) → ∃ c, X.env.cells.lookup x = some c
  cab : ∀ x c, X.fn x = true → X.env.cells.lookup x = some c → X.s_0.heap.objs.size ≤ c
  hd : X.calm = true → X.A.handled = none
  frames : X.A.frames = some X.stack
  stk : X.stack = X.outer ∨ (X.stack = X.env :: X.outer ∧ X.env.frame = some X.env.locals)
  exf : ∀ b ∈ X.ex, b ≠ X.env.locals ∧ ∀ x c, X.env.cells.lookup x = some c → c ≠ b
  bs : ∀ b o, X.base.get? b = some o → X.s_0.heap.get? b = some o ∧ X.H_0 b = none
  bsz : X.base.objs.size ≤ X.s_0.heap.objs.size
  noex : ∀ b o, X.base.get? b = some o → b ∉ X.ex
  exfs : ∀ b ∈ X.ex, b ∉ X.fs
  funs : X.s_0.heap.FunFrames X.base X.outer
  frf : ∀ b ∈ X.fs, X.H_0 b = none

structure Inv (X : Cx) (pins : List (Addr × Obj)) (σ : List (Option V)) (H : Hp) (s : Shared) : Prop where
  ok : X.Ok
  os : s.os = X.s_0.os
  bare : AllBare s.gens
  base : Un X.fs X.ex X.H_0 H X.s_0.heap s.heap
  loc : ∃ m, s.heap.Ns X.env.locals m ∧ ∀ (i : Nat) (x : Str) (v : V), X.N[i]? = some x → σ[i]? = some (some v) → Vis X.env.scope x → ∃ u, RelV v u ∧ Look X.env s.heap m x u
  cell : ∀ x c, X.env.cells.lookup x = some c → ∃ v, s.heap.IsCell c v
  free : H X.env.locals = none
  freeC : ∀ x c, X.env.cells.lookup x = some c → H c = none
  pin : ∀ p ∈ X.pn ++ pins, s.heap.get? p.1 = some p.2 ∧ H p.1 = none ∧ p.1 ≠ X.env.locals ∧ p.1 ∉ X.fs ∧ ∀ v, p.2.data ≠ .cell v
  hok : HOk X.prog X.w H s.heap
  len : σ.length = X.N.length

section
variable {X : Cx} {pins : List (Addr × Obj)} {σ : List (Option V)} {H H' : Hp} {s : Shared} {h' : Heap}

theorem Cx.Ok.nofr (ok : X.Ok) {b : Addr} {o : Obj} (e : X.base.get? b = some o) : b ∉ X.fs := fun hb => by
  have := (ok.funs.mem hb).1
  rw [e] at this; cases this
theorem Inv.bs (I : Inv X pins σ H s) : ∀ b o, X.base.get? b = some o → s.heap.get? b = some o ∧ H b = none := fun b o e =>
  ⟨I.base.keep b o (I.ok.bs b o e).1 (I.ok.bs b o e).2 (I.ok.nofr e) (I.ok.noex b o e), I.base.free b o (I.ok.bs b o e).1 (I.ok.bs b o e).2 (I.ok.noex b o e)⟩
theorem Inv.bk (I : Inv X pins σ H s) : ∀ b o, X.base.get? b = some o → s.heap.get? b = some o := fun b o e => (I.bs b o e).1
theorem Inv.mod (I : Inv X pins σ H s) : Mod X.K X.mg X.base := I.ok.mod
theorem Inv.kIn (I : Inv X pins σ H s) : X.K.In s.heap := I.ok.mod.kin.keeps I.bk
theorem Inv.nolimit (I : Inv X pins σ H s) : s.heap.NoLimit := I.ok.mod.nolimit.keeps I.bk
/-- the frame over the base: for OpenK's rules (K.In X.base is I.mod.kin) -/
theorem Inv.fr (I : Inv X pins σ H s) : ∃ m, Fr X.base X.env.locals s.heap m :=
  let ⟨m, hn, _⟩ := I.loc
  ⟨m, hn, I.bk, Nat.le_trans I.ok.bsz I.ok.above⟩
theorem Inv.lt (I : Inv X pins σ H s) : X.env.locals < s.heap.objs.size := let ⟨_, hn, _⟩ := I.loc; hn.lt
theorem Inv.sz (I : Inv X pins σ H s) : X.s_0.heap.objs.size ≤ s.heap.objs.size := Nat.le_trans I.ok.above (Nat.le_of_lt I.lt)
theorem Inv.nofs (I : Inv X pins σ H s) {a : Addr} (h : s.heap.objs.size ≤ a) : a ∉ X.fs := fun hb => by
  obtain ⟨_, o, ho, _⟩ := I.ok.funs.mem hb
  exact absurd (Nat.lt_of_lt_of_le (Heap.lt_size ho) (Nat.le_trans I.sz h)) (Nat.lt_irrefl _)
theorem Inv.cne (I : Inv X pins σ H s) : ∀ x c, X.env.cells.lookup x = some c → c ≠ X.env.locals := fun x c e z => by
  obtain ⟨v, o, ho, hd⟩ := I.cell x c e
  obtain ⟨m, ⟨o', es, ep, ho', hd', _⟩, _⟩ := I.loc
  rw [z, ho'] at ho; cases ho; rw [hd'] at hd; cases hd
theorem Inv.funs (I : Inv X pins σ H s) : s.heap.FunFrames X.base X.outer := by
  have all : ∀ (l : List Env), (∀ b ∈ frs l, b ∈ X.fs) → X.s_0.heap.FunFrames X.base l → s.heap.FunFrames X.base l := by
    intro l
    induction l with
    | nil => intro _ _; trivial
    | cons env r ih =>
      intro hs hl
      obtain ⟨hk, ⟨L, o, hf, hn, ho, hd⟩, hr⟩ := hl
      have hL : L ∈ X.fs := hs L (by unfold frs; rw [List.filterMap_cons, hf]; exact List.mem_cons_self)
      obtain ⟨sl, e⟩ := I.base.slot L o ho (I.ok.frf L hL) hL fun z => I.ok.exfs L z hL
      exact ⟨hk, ⟨L, _, hf, hn, e, hd⟩, ih (fun b hb => hs b (by unfold frs; rw [List.filterMap_cons, hf]; exact List.mem_cons_of_mem _ hb)) hr⟩
  exact all X.outer (fun _ hb => hb) I.ok.funs

/-- the frames that run, for a call -/
theorem Inv.stack (I : Inv X pins σ H s) : s.heap.FunFrames X.base X.stack := by
  rcases I.ok.stk with e | ⟨e, hf⟩
  · rw [e]; exact I.funs
  · rw [e]
    obtain ⟨m, hn, _⟩ := I.loc
    refine .cons (by rw [I.ok.kind]; decide) hf hn ?_ I.funs
    exact Heap.get?_none_of_le (Nat.le_trans I.ok.bsz I.ok.above)
theorem Inv.stkSub (I : Inv X pins σ H s) : ∀ b ∈ frs X.stack, b ∈ X.env.locals :: X.fs := fun b hb => by
  rcases I.ok.stk with e | ⟨e, hf⟩
  · rw [e] at hb; exact List.mem_cons_of_mem _ hb
  · rw [e] at hb
    unfold frs at hb
    rw [List.filterMap_cons, hf] at hb
    exact hb
theorem Inv.stkFree (I : Inv X pins σ H s) : ∀ b ∈ frs X.stack, H b = none := fun b hb => by
  rcases List.mem_cons.mp (I.stkSub b hb) with e | hb
  · rw [e]; exact I.free
  · obtain ⟨_, o, ho, _⟩ := I.ok.funs.mem hb
    exact I.base.free b o ho (I.ok.frf b hb) fun z => I.ok.exfs b z hb

/-- THE STEP: the untracked objects but the frame and the records at ch are kept (the callers' frames up to slots), the frame's map is kept, the new abstract heap is held -/
theorem Inv.step {g' : Array GenState} {t' : Nat} {d' : Drawn} {ch : List Addr} (I : Inv X pins σ H s)
    (hch : ∀ b ∈ ch, (b ∈ X.ex ∨ X.s_0.heap.objs.size ≤ b) ∧ b ≠ X.env.locals ∧ (∀ x c, X.env.cells.lookup x = some c → c ≠ b) ∧ ∀ p ∈ X.pn ++ pins, p.1 ≠ b)
    (keep : ∀ b o, b ≠ X.env.locals → b ∉ X.fs → b ∉ ch → s.heap.get? b = some o → H b = none → h'.get? b = some o)
    (slot : ∀ b o, b ≠ X.env.locals → b ∈ X.fs → b ∉ ch → s.heap.get? b = some o → H b = none → ∃ sl, h'.get? b = some { o with slots := sl }) (free : ∀ b o, b ∉ ch → s.heap.get? b = some o → H b = none → H' b = none)
    (there : ∀ b o, b ∉ ch → s.heap.get? b = some o → ∃ o', h'.get? b = some o')
    (tups : ∀ b xs, H b = some (.tup xs) → H' b = some (.tup xs)) (frzs : ∀ b o u, H b = some (.frz o u) → H' b = some (.frz o u)) (tbls : ∀ b ps, H b = some (.tbl ps) → ∃ more, H' b = some (.tbl (ps ++ more)))
    (ns : ∀ m, s.heap.Ns X.env.locals m → h'.Ns X.env.locals m) (hok : HOk X.prog X.w H' h') (hg : AllBare g') :
    Inv X pins σ H' { s with heap := h', gens := g', drawn := d', toks := t' } := by
  have neL : ∀ b o, X.s_0.heap.get? b = some o → b ≠ X.env.locals := fun b o e => Nat.ne_of_lt (Nat.lt_of_lt_of_le (Heap.lt_size e) I.ok.above)
  have neC : ∀ b o, X.s_0.heap.get? b = some o → b ∉ X.ex → b ∉ ch := fun b o e hx hb => by
    rcases (hch b hb).1 with z | z
    · exact hx z
    · exact absurd (Nat.lt_of_lt_of_le (Heap.lt_size e) z) (Nat.lt_irrefl _)
  have cellK : ∀ x c, X.env.cells.lookup x = some c → ∀ v, s.heap.IsCell c v → h'.IsCell c v := fun x c e v ⟨o, ho, hd⟩ => by
    have nch : c ∉ ch := fun z => (hch c z).2.2.1 x c e rfl
    by_cases hc : c ∈ X.fs
    · obtain ⟨sl, q⟩ := slot c o (I.cne x c e) hc nch ho (I.freeC x c e)
      exact ⟨_, q, hd⟩
    · exact ⟨o, keep c o (I.cne x c e) hc nch ho (I.freeC x c e), hd⟩
  refine ⟨I.ok, I.os, hg, ⟨fun b o e n hb hx => ?_, fun b o e n hb hx => ?_, fun b o e n hx => ?_, fun b o e hx => ?_, fun b xs e => tups b xs (I.base.tups b xs e), fun b o xs e => frzs b o xs (I.base.frzs b o xs e), fun b ps e => ?_⟩, ?_, fun x c e => ?_, ?_, fun x c e => ?_, fun p hp => ?_, hok, I.len⟩
  · exact keep b o (neL b o e) hb (neC b o e hx) (I.base.keep b o e n hb hx) (I.base.free b o e n hx)
  · obtain ⟨sl, e1⟩ := I.base.slot b o e n hb hx
    obtain ⟨sl', e2⟩ := slot b _ (neL b o e) hb (neC b o e hx) e1 (I.base.free b o e n hx)
    exact ⟨sl', e2⟩
  · obtain ⟨o', e1⟩ := I.base.there b o e hx
    exact free b o' (neC b o e hx) e1 (I.base.free b o e n hx)
  · obtain ⟨o', e1⟩ := I.base.there b o e hx
    exact there b o' (neC b o e hx) e1
  · obtain ⟨m1, e1⟩ := I.base.tbls b ps e
    obtain ⟨m2, e2⟩ := tbls b _ e1
    exact ⟨m1 ++ m2, by rw [e2, Array.append_assoc]⟩
  · obtain ⟨m, hn, hl⟩ := I.loc
    refine ⟨m, ns m hn, fun i x v e1 e2 e3 => ?_⟩
    obtain ⟨u, r, l⟩ := hl i x v e1 e2 e3
    refine ⟨u, r, ?_⟩
    rcases l with l | ⟨k, c, e, z⟩
    · exact .inl l
    · exact .inr ⟨k, c, e, cellK x c e _ z⟩
  · obtain ⟨v, z⟩ := I.cell x c e
    exact ⟨v, cellK x c e v z⟩
  · obtain ⟨m, ⟨o, _, _, ho, _⟩, _⟩ := I.loc
    exact free _ o (fun z => (hch _ z).2.1 rfl) ho I.free
  · obtain ⟨v, o, ho, hd⟩ := I.cell x c e
    exact free c o (fun z => (hch c z).2.2.1 x c e rfl) ho (I.freeC x c e)
  · obtain ⟨e, n, ne, nf, d⟩ := I.pin p hp
    have nch : p.1 ∉ ch := fun z => (hch p.1 z).2.2.2 p hp rfl
    exact ⟨keep p.1 p.2 ne nf nch e n, free p.1 p.2 nch e n, ne, nf, d⟩
/-- .. where the frame's own object is kept too -/
theorem Inv.un {t' : Nat} (I : Inv X pins σ H s) (u : Un X.fs [] H H' s.heap h') (hok : HOk X.prog X.w H' h') : Inv X pins σ H' { s with heap := h', toks := t' } := by
  obtain ⟨m, ⟨o, es, ep, ho, r⟩, _⟩ := id I.loc
  obtain ⟨sl, hL⟩ := u.any ho I.free (by simp)
  exact I.step (g' := s.gens) (d' := s.drawn) (ch := []) (fun _ z => nomatch z) (fun b o _ hb _ e n => u.keep b o e n hb (by simp)) (fun b o _ hb _ e n => u.slot b o e n hb (by simp)) (fun b o _ e n => u.free b o e n (by simp)) (fun b o _ e => u.there b o e (by simp)) u.tups u.frzs u.tbls (fun m' hm => by
    obtain ⟨o', es', ep', ho', r'⟩ := hm
    rw [ho] at ho'; cases ho'
    exact ⟨_, es', ep', hL, r'⟩) hok I.bare
/-- behind a call (or a comprehension's block): the slots of this frame may have changed too, the records at ch may have turned -/
theorem Inv.call {g' : Array GenState} {t' : Nat} {d' : Drawn} {ch : List Addr} (I : Inv X pins σ H s) (u : Un (frs X.stack) ch H H' s.heap h') (hok : HOk X.prog X.w H' h') (hg : AllBare g')
    (hch : ∀ b ∈ ch, (b ∈ X.ex ∨ X.s_0.heap.objs.size ≤ b) ∧ b ≠ X.env.locals ∧ (∀ x c, X.env.cells.lookup x = some c → c ≠ b) ∧ ∀ p ∈ X.pn ++ pins, p.1 ≠ b) :
    Inv X pins σ H' { s with heap := h', gens := g', drawn := d', toks := t' } := by
  obtain ⟨m, ⟨o, es, ep, ho, r⟩, _⟩ := id I.loc
  obtain ⟨sl, hL⟩ := u.any ho I.free fun z => (hch _ z).2.1 rfl
  exact I.step (ch := ch) hch (fun b o hL hb hc e n => u.keep b o e n (fun z => (List.mem_cons.mp (I.stkSub b z)).elim hL hb) hc) (fun b o _ _ hc e n => u.any e n hc) (fun b o hc e n => u.free b o e n hc) (fun b o hc e => u.there b o e hc) u.tups u.frzs u.tbls (fun m' hm => by
    obtain ⟨o', es', ep', ho', r'⟩ := hm
    rw [ho] at ho'; cases ho'
    exact ⟨_, es', ep', hL, r'⟩) hok hg
/-- an untracked record of ours (an iterator) has turned -/
theorem Inv.turned {t' : Nat} {it : Addr} (I : Inv X pins σ H s) (k : ∀ b o, b ≠ it → s.heap.get? b = some o → h'.get? b = some o) (hn : H it = none) (hL : it ≠ X.env.locals)
    (h1 : it ∈ X.ex ∨ X.s_0.heap.objs.size ≤ it) (h2 : ∀ x c, X.env.cells.lookup x = some c → c ≠ it) (h3 : ∀ p ∈ X.pn ++ pins, p.1 ≠ it) : Inv X pins σ H { s with heap := h', toks := t' } := by
  have nit : ∀ b u, H b = some u → b ≠ it := fun b u e z => by rw [z, hn] at e; cases e
  refine I.step (g' := s.gens) (d' := s.drawn) (ch := [it]) (fun b hb => ?_) (fun b o _ _ hc e _ => k b o (fun z => hc (by simp [z])) e) (fun b o _ _ hc e _ => ⟨o.slots, k b o (fun z => hc (by simp [z])) e⟩) (fun _ _ _ _ n => n)
    (fun b o hc e => ⟨o, k b o (fun z => hc (by simp [z])) e⟩) (fun _ _ e => e) (fun _ _ _ e => e) (fun b ps e => ⟨#[], by rw [e]; simp⟩) (fun m hm => ?_) (fun b u e => ?_) I.bare
  · have e : b = it := by simpa using hb
    subst e
    exact ⟨h1, hL, h2, h3⟩
  · obtain ⟨o, es, ep, ho, r⟩ := hm
    exact ⟨o, es, ep, k _ o (Ne.symm hL) ho, r⟩
  · refine (I.hok b u e).stay (fun c v hc q => k c v ?_ q) (fun _ q => q) fun _ _ q => q
    rcases hc with z | z
    · rw [z]; exact nit b u e
    · exact nit c _ z
theorem Inv.tok (I : Inv X pins σ H s) (t : Nat) : Inv X pins σ H { s with toks := t } := I.un (h' := s.heap) (t' := t) Un.refl I.hok
/-- all objects kept -/
theorem Inv.kept {t' : Nat} (I : Inv X pins σ H s) (k : ∀ b u, s.heap.get? b = some u → h'.get? b = some u) : Inv X pins σ H { s with heap := h', toks := t' } := I.un (Un.kept k) (I.hok.kept k)
/-- a new object laid and tracked -/
theorem Inv.laid {a : Addr} {o : HO} {t' : Nat} (I : Inv X pins σ H s) (k : ∀ b u, s.heap.get? b = some u → h'.get? b = some u) (hp : s.heap.objs.size ≤ a) (new : ObjOk X.prog X.w (upd H a o) h' a o) :
    Inv X pins σ (upd H a o) { s with heap := h', toks := t' } := I.un (Un.laid k hp (I.hok.fresh hp)) (I.hok.laid k hp new)
/-- an object written -/
theorem Inv.write {x e : Addr} {o : HO} {t' : Nat} (I : Inv X pins σ H s) (mu : Mut (H x)) (he : e = x ∨ H e = some (.own x)) (k : ∀ b u, b ≠ e → s.heap.get? b = some u → h'.get? b = some u) (heo : ∃ u, h'.get? e = some u)
    (new : ObjOk X.prog X.w (upd H x o) h' x o) : Inv X pins σ (upd H x o) { s with heap := h', toks := t' } := I.un (Un.write mu he k heo) (I.hok.write mu he k heo new)
/-- forgetting slots, pins -/
theorem Inv.weak {σ' : List (Option V)} (I : Inv X pins σ H s) (hl : σ'.length = σ.length) (w : ∀ (i : Nat) v, σ'[i]? = some (some v) → σ[i]? = some (some v)) : Inv X pins σ' H s :=
  ⟨I.ok, I.os, I.bare, I.base, let ⟨m, hn, hl'⟩ := I.loc; ⟨m, hn, fun i x v e1 e2 e3 => hl' i x v e1 (w i v e2) e3⟩, I.cell, I.free, I.freeC, I.pin, I.hok, hl.trans I.len⟩
theorem Inv.pins_of {pins' : List (Addr × Obj)} (I : Inv X pins σ H s) (h : ∀ p ∈ pins', s.heap.get? p.1 = some p.2 ∧ H p.1 = none ∧ p.1 ≠ X.env.locals ∧ p.1 ∉ X.fs ∧ ∀ v, p.2.data ≠ .cell v) : Inv X pins' σ H s :=
  ⟨I.ok, I.os, I.bare, I.base, I.loc, I.cell, I.free, I.freeC, fun p hp => (List.mem_append.mp hp).elim (fun z => I.pin p (List.mem_append_left _ z)) (h p), I.hok, I.len⟩

theorem nodup_ix {N : List Str} (hN : N.Nodup) {i j : Nat} {x : Str} (a : N[i]? = some x) (b : N[j]? = some x) : i = j := by
  obtain ⟨h1, e1⟩ := List.getElem?_eq_some_iff.mp a
  obtain ⟨h2, e2⟩ := List.getElem?_eq_some_iff.mp b
  exact (List.getElem_inj hN).mp (e1.trans e2.symm)

/-- a name is stored; what changed -/
theorem store_ok2 {M : Model} {A : Around} {E : Value → Shared → Prop} {i : Nat} {x : Str} {v : V} {u : Value} {Q : Unit → Shared → Prop} (I : Inv X pins σ H s) (hN : X.N.Nodup) (hi : X.N[i]? = some x) (hx : Loc X.env.scope x) (r : RelV v u)
    (h : ∀ s', Inv X pins (σ.set i (some v)) H s' → (∃ a, Heap.SameBut a s.heap s'.heap ∧ (a = X.env.locals ∨ X.env.cells.lookup x = some a)) → Q () s') (hf : X.fn x = true ∨ X.env.scope.names.lookup x = some .local := by first | exact .inl rfl | exact .inr rfl | assumption) : wpAny M A (storeName X.env x u) Q E s := by
  obtain ⟨m, hn, hl⟩ := id I.loc
  have hcls : (X.env.scope.kind == .class || (X.env.scope.kind == .module && X.env.locals != X.env.globals)) = false := by rw [I.ok.kind]; rfl
  have hiσ : i < σ.length := by rw [I.len]; exact (List.getElem?_eq_some_iff.mp hi).1
  have cne := I.cne
  have tracked : ∀ {a : Addr} {h' : Heap}, (∃ o, s.heap.get? a = some o ∧ H a = none) → Heap.SameBut a s.heap h' → HOk X.prog X.w H h' := fun {a h'} ha hs b ob e => by
    obtain ⟨_, _, hfree⟩ := ha
    refine (I.hok b ob e).stay (fun c w' hc q => (hs.2 c ?_).trans q) (fun _ q => q) fun _ _ q => q
    rintro rfl
    rcases hc with rfl | hc
    · rw [hfree] at e; cases e
    · rw [hfree] at hc; cases hc
  rcases hx with hk | hk
  · refine wpAny_storeName_local hk hn (fun h' hn' hs => ?_) hcls
    obtain ⟨oL, _, _, hoL, _⟩ := id hn
    refine h _ ⟨I.ok, I.os, I.bare, ⟨fun b o e n hb hx => ?_, fun b o e n hb hx => ?_, I.base.free, fun b o e hx => ?_, I.base.tups, I.base.frzs, I.base.tbls⟩, ⟨_, hn', fun j y v' e1 e2 e3 => ?_⟩, fun y c e => ?_, I.free, I.freeC, fun p hp => ?_, tracked ⟨oL, hoL, I.free⟩ hs, by simpa using I.len⟩ ⟨_, hs, .inl rfl⟩
    · exact (hs.2 b (Nat.ne_of_lt (Nat.lt_of_lt_of_le (Heap.lt_size e) I.ok.above))).trans (I.base.keep b o e n hb hx)
    · obtain ⟨sl, e1⟩ := I.base.slot b o e n hb hx
      exact ⟨sl, (hs.2 b (Nat.ne_of_lt (Nat.lt_of_lt_of_le (Heap.lt_size e) I.ok.above))).trans e1⟩
    · obtain ⟨o', e1⟩ := I.base.there b o e hx
      exact ⟨o', (hs.2 b (Nat.ne_of_lt (Nat.lt_of_lt_of_le (Heap.lt_size e) I.ok.above))).trans e1⟩
    · by_cases hj : j = i
      · subst hj
        rw [hi] at e1; cases e1
        rw [List.getElem?_set_self hiσ] at e2
        cases e2
        exact ⟨u, r, .inl ⟨hk, by simp⟩⟩
      · rw [List.getElem?_set_ne (Ne.symm hj)] at e2
        obtain ⟨u', r', q⟩ := hl j y v' e1 e2 e3
        refine ⟨u', r', ?_⟩
        rcases q with ⟨k, e⟩ | ⟨k, c, e, z⟩
        · refine .inl ⟨k, ?_⟩
          have : y ≠ x := fun e => hj (nodup_ix hN e1 (e ▸ hi))
          simp [this, e]
        · exact .inr ⟨k, c, e, z.sameBut hs (cne y c e)⟩
    · obtain ⟨w', z⟩ := I.cell y c e
      exact ⟨w', z.sameBut hs (cne y c e)⟩
    · obtain ⟨e, n, ne, nf, d⟩ := I.pin p hp
      exact ⟨(hs.2 p.1 ne).trans e, n, ne, nf, d⟩
  · have hfn : X.fn x = true := by
      rcases hf with z | z
      · exact z
      · rw [z] at hk; cases hk
    obtain ⟨c, hc⟩ := I.ok.has x (.inl hk)
    obtain ⟨w', z⟩ := I.cell x c hc
    refine wpAny_storeName_cell I.ok.kind hk hc z (fun h' hc' hs => ?_)
    obtain ⟨oc, hoc, hocd⟩ := id z
    refine h { s with heap := h' } ⟨I.ok, I.os, I.bare, ⟨fun b o e n hb hx => ?_, fun b o e n hb hx => ?_, I.base.free, fun b o e hx => ?_, I.base.tups, I.base.frzs, I.base.tbls⟩, ⟨m, hn.sameBut hs (Ne.symm (cne x c hc)), fun j y v' e1 e2 e3 => ?_⟩, fun y c' e => ?_, I.free, I.freeC, fun p hp => ?_, tracked ⟨oc, hoc, I.freeC x c hc⟩ hs, by simpa using I.len⟩ ⟨c, hs, .inr hc⟩
    · exact (hs.2 b (Nat.ne_of_lt (Nat.lt_of_lt_of_le (Heap.lt_size e) (I.ok.cab x c hfn hc)))).trans (I.base.keep b o e n hb hx)
    · obtain ⟨sl, e1⟩ := I.base.slot b o e n hb hx
      exact ⟨sl, (hs.2 b (Nat.ne_of_lt (Nat.lt_of_lt_of_le (Heap.lt_size e) (I.ok.cab x c hfn hc)))).trans e1⟩
    · obtain ⟨o', e1⟩ := I.base.there b o e hx
      exact ⟨o', (hs.2 b (Nat.ne_of_lt (Nat.lt_of_lt_of_le (Heap.lt_size e) (I.ok.cab x c hfn hc)))).trans e1⟩
    · by_cases hj : j = i
      · subst hj
        rw [hi] at e1; cases e1
        rw [List.getElem?_set_self hiσ] at e2
        cases e2
        exact ⟨u, r, .inr ⟨.inl hk, c, hc, hc'⟩⟩
      · rw [List.getElem?_set_ne (Ne.symm hj)] at e2
        obtain ⟨u', r', q⟩ := hl j y v' e1 e2 e3
        refine ⟨u', r', ?_⟩
        rcases q with q | ⟨k, c', e, z'⟩
        · exact .inl q
        · refine .inr ⟨k, c', e, z'.sameBut hs ?_⟩
          rintro rfl
          exact hj (nodup_ix hN e1 (I.ok.inj _ _ _ e hc ▸ hi))
    · by_cases hcc : c' = c
      · subst hcc; exact ⟨_, hc'⟩
      · obtain ⟨w2, z2⟩ := I.cell y c' e
        exact ⟨w2, z2.sameBut hs hcc⟩
    · obtain ⟨e, n, ne, nf, d⟩ := I.pin p hp
      refine ⟨(hs.2 p.1 ?_).trans e, n, ne, nf, d⟩
      intro q
      rw [q, hoc] at e
      have q' : oc = p.2 := Option.some.inj e
      exact d w' (by rw [← q']; exact hocd)
theorem store_ok {M : Model} {A : Around} {E : Value → Shared → Prop} {i : Nat} {x : Str} {v : V} {u : Value} {Q : Unit → Shared → Prop} (I : Inv X pins σ H s) (hN : X.N.Nodup) (hi : X.N[i]? = some x) (hx : Loc X.env.scope x) (r : RelV v u)
    (h : ∀ s', Inv X pins (σ.set i (some v)) H s' → Q () s') (hf : X.fn x = true ∨ X.env.scope.names.lookup x = some .local := by first | exact .inl rfl | exact .inr rfl | assumption) : wpAny M A (storeName X.env x u) Q E s :=
  store_ok2 I hN hi hx r (fun s' I' _ => h s' I') hf
/-- behind a call or a block, the state as it is -/
theorem Inv.call' {s' : Shared} {ch : List Addr} (I : Inv X pins σ H s) (ho : s'.os = s.os) (u : Un (frs X.stack) ch H H' s.heap s'.heap) (hok : HOk X.prog X.w H' s'.heap) (hg : AllBare s'.gens)
    (hch : ∀ b ∈ ch, (b ∈ X.ex ∨ X.s_0.heap.objs.size ≤ b) ∧ b ≠ X.env.locals ∧ (∀ x c, X.env.cells.lookup x = some c → c ≠ b) ∧ ∀ p ∈ X.pn ++ pins, p.1 ≠ b) : Inv X pins σ H' s' := by
  obtain ⟨h', g', d', t', o'⟩ := s'
  have e : o' = s.os := ho
  subst e
  exact I.call (g' := g') (t' := t') (d' := d') u hok hg hch
end

/-- an exception: its class, its own dict's address (where it has one), the abstract heap behind it -/
abbrev XK := Value → Option Addr → Hp → Prop
abbrev St := List (Option V)
abbrev VK := V → Hp → Prop
/-- an expression's reading; a test's; an argument list's -/
abbrev TE := St → Hp → VK → Prop
abbrev TT := St → Hp → (Bool → Hp → Prop) → Prop
abbrev TA := St → Hp → (List V → Hp → Prop) → Prop
/-- what is wanted behind a statement -/
structure Ends where
  nx : St → Hp → Prop
  rt : VK
  bk : St → Hp → Prop := fun _ _ => False
  ct : St → Hp → Prop := fun _ _ => False
abbrev TS := Ends → St → Hp → Prop

def EP (X : Cx) (pins : List (Addr × Obj)) (σ : St) (Q : VK) (u : Value) (s' : Shared) : Prop := ∃ v H', Inv X pins σ H' s' ∧ RelV v u ∧ Q v H'
def TP (X : Cx) (pins : List (Addr × Obj)) (σ : St) (Q : Bool → Hp → Prop) (b : Bool) (s' : Shared) : Prop := ∃ H', Inv X pins σ H' s' ∧ Q b H'
def AP (X : Cx) (pins : List (Addr × Obj)) (σ : St) (Q : List V → Hp → Prop) (us : List Value) (s' : Shared) : Prop := ∃ vs H', Inv X pins σ H' s' ∧ Vals vs us ∧ Q vs H'
def SP (X : Cx) (pins : List (Addr × Obj)) (D : Ends) (f : Flow) (s' : Shared) : Prop :=
  match f with
  | .next => ∃ σ' H', Inv X pins σ' H' s' ∧ D.nx σ' H'
  | .brk => ∃ σ' H', Inv X pins σ' H' s' ∧ D.bk σ' H'
  | .cont => ∃ σ' H', Inv X pins σ' H' s' ∧ D.ct σ' H'
  | .ret u => ∃ v σ' H', Inv X pins σ' H' s' ∧ RelV v u ∧ D.rt v H'

def PE (X : Cx) (e : Expr) (t : TE) : Prop :=
  ∀ (pins : List (Addr × Obj)) (s : Shared) (σ : St) (H : Hp) (Q : VK), Inv X pins σ H s → t σ H Q → wpAny (model X.prog X.w) X.A (eval e X.env) (EP X pins σ Q) X.xe s
def PT (X : Cx) (e : Expr) (t : TT) : Prop :=
  ∀ (pins : List (Addr × Obj)) (s : Shared) (σ : St) (H : Hp) (Q : Bool → Hp → Prop), Inv X pins σ H s → t σ H Q → wpAny (model X.prog X.w) X.A (isTrue e X.env (eval e X.env)) (TP X pins σ Q) X.xe s
/-- a test whatever its 'whole' is (and, or) -/
def PW (X : Cx) (e : Expr) (t : TT) : Prop :=
  ∀ (whole : Sem Value) (pins : List (Addr × Obj)) (s : Shared) (σ : St) (H : Hp) (Q : Bool → Hp → Prop), Inv X pins σ H s → t σ H Q → wpAny (model X.prog X.w) X.A (isTrue e X.env whole) (TP X pins σ Q) X.xe s
theorem PW.pt {X : Cx} {e : Expr} {t : TT} (h : PW X e t) : PT X e t := h _
/-- an argument list (no star), from the left -/
def PA (X : Cx) (es : List Expr) (t : TA) : Prop :=
  ∀ (pos : Pos) (pins : List (Addr × Obj)) (s : Shared) (σ : St) (H : Hp) (Q : List V → Hp → Prop), Inv X pins σ H s → t σ H Q → wpAny (model X.prog X.w) X.A (spliced (backTo pos (starEach es X.env))) (AP X pins σ Q) X.xe s
def PS (X : Cx) (st : Stmt) (t : TS) : Prop :=
  ∀ (pins : List (Addr × Obj)) (s : Shared) (σ : St) (H : Hp) (D : Ends), Inv X pins σ H s → t D σ H → wpAny (model X.prog X.w) X.A (exec st X.env) (SP X pins D) X.xe s
def PSs (X : Cx) (st : List Stmt) (t : TS) : Prop :=
  ∀ (pins : List (Addr × Obj)) (s : Shared) (σ : St) (H : Hp) (D : Ends), Inv X pins σ H s → t D σ H → wpAny (model X.prog X.w) X.A (execs st X.env) (SP X pins D) X.xe s
/-- weaken the end -/
theorem thn {α : Type} {t : Sem α} {Q Q' : α → Shared → Prop} {M : Model} {A : Around} {E : Value → Shared → Prop} {s : Shared} (h : wpAny M A t Q E s) (hQ : ∀ a s, Q a s → Q' a s) : wpAny M A t Q' E s := wpAny_mono h hQ fun _ _ x => x
end L2

namespace L2
open PySem PySem.Spec PyProof.Rows
section
variable {X : Cx}

def tVar (i : Nat) : TE := fun σ H Q => ∃ v, σ[i]? = some (some v) ∧ Q v H
def tC (v : V) : TE := fun _ H Q => Q v H
theorem pe_var {i : Nat} {x : Str} {pos : Pos} (hN : X.N[i]? = some x) (hv : Vis X.env.scope x) (hd : (x == ("__debug__" : Str)) = false := by decide) (hcd : (x == ("__classdict__" : Str)) = false := by decide) : PE X (.Name x pos) (tVar i) := by
  intro pins s σ H Q I h
  obtain ⟨v, e, h⟩ := h
  obtain ⟨m, hn, hl⟩ := I.loc
  obtain ⟨u, r, l⟩ := hl i x v hN e hv
  have fin : EP X pins σ Q u s := ⟨v, H, I, r, h⟩
  rcases l with ⟨hk, hm⟩ | ⟨hk, c, hc, hcell⟩
  · exact wpAny_Name (wpAny_loadName_local I.ok.kind hk hn hm fin) hd
  · rcases hk with hk | hk
    · exact wpAny_Name (wpAny_loadName_cell I.ok.kind hk hc hcell fin) hd
    · exact wpAny_Name (wpAny_loadName_free I.ok.kind hk hc hcell fin hcd) hd
theorem pe_int {i j pos} : PE X (.Constant (.int i) j pos) (tC (.int i)) := fun _ _ _ H _ I h => wpAny_Constant_int ⟨.int i, H, I.tok _, ⟨_, rfl⟩, h⟩
theorem pe_bl {b j pos} : PE X (.Constant (.bool b) j pos) (tC (.bl b)) := fun _ _ _ H _ I h => Constant_bool ⟨.bl b, H, I, rfl, h⟩
theorem pe_str {x j pos} : PE X (.Constant (.str x) j pos) (tC (.str x)) := fun _ _ _ H _ I h => Calls.Constant_str ⟨.str x, H, I.tok _, ⟨_, rfl⟩, h⟩

/-- a global name of the def -/
def Gl (X : Cx) (x : Str) : Prop := X.env.kindOf x = some .globalImplicit
theorem ld_glob {E : Value → Shared → Prop} {pins : List (Addr × Obj)} {s : Shared} {σ : St} {H : Hp} {x : Str} {u : Value} {pos : Pos} {Q : Value → Shared → Prop} (I : Inv X pins σ H s) (hg : Gl X x) (hm : X.mg x = some u) (h : Q u s)
    (hd : (x == ("__debug__" : Str)) = false := by decide) : wpAny (model X.prog X.w) X.A (eval (.Name x pos) X.env) Q E s :=
  Calls.Name_function_global I.ok.kind hg (Calls.loadGlobal_global (by rw [I.ok.glob]; exact I.mod.glob.keeps I.bk) hm h) hd
theorem ld_blt {E : Value → Shared → Prop} {pins : List (Addr × Obj)} {s : Shared} {σ : St} {H : Hp} {x : Str} {u : Value} {pos : Pos} {Q : Value → Shared → Prop} (I : Inv X pins σ H s) (hg : Gl X x) (hm : X.mg x = none) (hv : bootBuiltins x = some u) (h : Q u s)
    (hn : x ≠ "__name__" := by decide) (hd : (x == ("__debug__" : Str)) = false := by decide) : wpAny (model X.prog X.w) X.A (eval (.Name x pos) X.env) Q E s := by
  obtain ⟨mb, h1, h2⟩ := I.mod.blt
  exact Calls.Name_function_global I.ok.kind hg (Calls.loadGlobal_builtin (by rw [I.ok.glob]; exact I.mod.glob.keeps I.bk) hm (by rw [I.ok.blt]; exact h1.keeps I.bk) ((h2 x hn).trans hv) h) hd
/-- a module's constant, a class, a function, as a value -/
theorem pe_glob {x : Str} {v : V} {u : Value} {pos : Pos} (hg : Gl X x) (hm : X.mg x = some u) (r : RelV v u) (hd : (x == ("__debug__" : Str)) = false := by decide) : PE X (.Name x pos) (tC v) :=
  fun _ _ _ H _ I h => ld_glob I hg hm ⟨v, H, I, r, h⟩ hd

variable {a b : Expr} {ta tb : TE} {pos : Pos}

def PC (X : Cx) (op : CmpOp) (a b : Expr) (t : TE) : Prop :=
  ∀ (pins : List (Addr × Obj)) (s : Shared) (σ : St) (H : Hp) (Q : VK), Inv X pins σ H s → t σ H Q →
    wpAny (model X.prog X.w) X.A (eval a X.env) (fun v s₁ => wpAny (model X.prog X.w) X.A (eval b X.env) (fun u s₂ => wpAny (model X.prog X.w) X.A (compareOp op v u) (EP X pins σ Q) X.xe s₂) X.xe s₁) X.xe s
theorem nobehind (b : Expr) {op : CmpOp} (h : op ≠ .In) (h2 : op ≠ .NotIn) : behindInMarks op b = false := by
  have e1 : (op == CmpOp.In) = false := by cases op <;> first | rfl | exact absurd rfl h
  have e2 : (op == CmpOp.NotIn) = false := by cases op <;> first | rfl | exact absurd rfl h2
  cases b <;> simp [behindInMarks, e1, e2]
/-- a comparison as a value, as a test -/
def tB (t : TE) : TT := fun σ H Q => t σ H fun x H1 => ∃ c, x = .bl c ∧ Q c H1
theorem pt_cmp {op : CmpOp} {t : TE} (h : PC X op a b t) (h1 : behindInMarks op b = false := by first | exact nobehind _ (by decide) (by decide) | rfl) : PT X (.Compare a [op] [b] pos) (tB t) := by
  intro pins s σ H Q I hw
  refine wpAny_isTrue_Compare1 (thn (h pins s σ H _ I hw) fun v s1 h1 => thn h1 fun u s2 h2 => thn h2 fun c s3 ⟨x, H1, I1, r1, q1⟩ => ?_) h1
  obtain ⟨d, rfl, q⟩ := q1
  cases r1
  exact wpAny_truthy_bool ⟨H1, I1, q⟩
/-- an expression whose value is a bool, as a test -/
theorem pt_val {e : Expr} {t : TE} (h : PE X e t) (he : ∀ whole, isTrue e X.env whole = (do let v ← whole; standAt e.pos; holding [v] (truthy v)) := by intro _; rfl) : PT X e (tB t) := by
  intro pins s σ H Q I hw
  refine isTrue_plain (thn (h pins s σ H _ I hw) fun v s1 ⟨x, H1, I1, r1, q1⟩ => ?_) (he _)
  obtain ⟨d, rfl, q⟩ := q1
  cases r1
  exact wpAny_truthy_bool ⟨H1, I1, q⟩

variable {tA tB' : TT} {rest : List Expr}
def tAnd (t u : TT) : TT := fun σ H Q => t σ H fun c H1 => if c = true then u σ H1 Q else Q false H1
def tOr (t u : TT) : TT := fun σ H Q => t σ H fun c H1 => if c = true then Q true H1 else u σ H1 Q
def tNot (t : TT) : TT := fun σ H Q => t σ H fun c H1 => Q (!c) H1
theorem pw_and1 (ha : PT X a tA) : PW X (.BoolOp .And [a] pos) tA := by
  intro wh pins s σ H Q I h
  refine isTrue_and (thn (ha pins s σ H Q I h) fun c s1 e => ?_)
  cases c with
  | true => exact isTrue_and_nil e
  | false => exact e
theorem pw_or1 (ha : PT X a tA) : PW X (.BoolOp .Or [a] pos) tA := by
  intro wh pins s σ H Q I h
  refine isTrue_or (thn (ha pins s σ H Q I h) fun c s1 e => ?_)
  cases c with
  | false => exact isTrue_or_nil e
  | true => exact e
theorem pw_and (ha : PT X a tA) (hb : PW X (.BoolOp .And (b :: rest) pos) tB') : PW X (.BoolOp .And (a :: b :: rest) pos) (tAnd tA tB') := by
  intro wh pins s σ H Q I h
  refine isTrue_and (thn (ha pins s σ H _ I h) fun c s1 ⟨H1, I1, q1⟩ => ?_)
  cases c with
  | true => exact hb wh pins s1 σ H1 Q I1 q1
  | false => exact ⟨H1, I1, q1⟩
theorem pw_or (ha : PT X a tA) (hb : PW X (.BoolOp .Or (b :: rest) pos) tB') : PW X (.BoolOp .Or (a :: b :: rest) pos) (tOr tA tB') := by
  intro wh pins s σ H Q I h
  refine isTrue_or (thn (ha pins s σ H _ I h) fun c s1 ⟨H1, I1, q1⟩ => ?_)
  cases c with
  | true => exact ⟨H1, I1, q1⟩
  | false => exact hb wh pins s1 σ H1 Q I1 q1
theorem pt_not (ha : PT X a tA) : PT X (.UnaryOp .Not a pos) (tNot tA) := by
  intro pins s σ H Q I h
  exact isTrue_not (ha pins s σ H (fun c H1 => Q (!c) H1) I h)
def tOrV (ta tb : TE) : TE := fun σ H Q => ta σ H fun x H1 => ∃ c, x = .bl c ∧ if c = true then Q (.bl true) H1 else tb σ H1 Q
theorem pe_one {op} {t : TE} (h : PE X a t) : PE X (.BoolOp op [a] pos) t := fun pins s σ H Q I hw => BoolOp_one (h pins s σ H Q I hw)
theorem pe_or (ha : PE X a ta) (hb : PE X (.BoolOp .Or (b :: rest) pos) tb) : PE X (.BoolOp .Or (a :: b :: rest) pos) (tOrV ta tb) := by
  intro pins s σ H Q I h
  refine BoolOp_or (thn (ha pins s σ H _ I h) fun v s1 ⟨x, H1, I1, r1, q1⟩ => ?_)
  obtain ⟨c, rfl, q1⟩ := q1
  cases r1
  refine wpAny_truthy_bool ?_
  cases c with
  | false => exact hb pins s1 σ H1 Q I1 q1
  | true => exact ⟨.bl true, H1, I1, rfl, q1⟩
/-- a if t else b -/
def tIf (t : TT) (ta tb : TE) : TE := fun σ H Q => t σ H fun c H1 => if c = true then ta σ H1 Q else tb σ H1 Q
theorem pe_ifExp {c : Expr} (hc : PT X c tA) (ha : PE X a ta) (hb : PE X b tb) : PE X (.IfExp c a b pos) (tIf tA ta tb) := by
  intro pins s σ H Q I h
  refine wpAny_IfExp (thn (hc pins s σ H _ I h) fun d s1 ⟨H1, I1, q1⟩ => ?_)
  cases d with
  | true => exact ha pins s1 σ H1 Q I1 q1
  | false => exact hb pins s1 σ H1 Q I1 q1
end
end L2

namespace L2
open PySem PySem.Spec PyProof.Rows

def SqL (K : PySem.W.Frag) (H : Hp) (a : Addr) (xs : List V) : Prop :=
  Rd H a (.lst xs) ∨
    ∃ (o : Obj) (its : Array Value) (n : Nat), K.lookup a = some o ∧ o.cls = .type "list" ∧ o.dict = none ∧ o.data = .seq its n ∧ its.size ≤ sizeLine ∧ Vals xs its.toList
def SqT (K : PySem.W.Frag) (H : Hp) (a : Addr) (xs : List V) : Prop :=
  Rd H a (.tup xs) ∨
    ∃ (o : Obj) (its : Array Value) (n : Nat), K.lookup a = some o ∧ o.cls = .type "tuple" ∧ o.data = .seq its n ∧ its.size ≤ sizeLine ∧ Vals xs its.toList
def absV : Value → Option V
  | .none => some .non
  | .bool b => some (.bl b)
  | .int i _ => some (.int i)
  | .str x _ => some (.str x)
  | .bytes b _ => some (.byt b)
  | .float b _ => some (.flt b)
  | .ref a => some (.ref a)
  | .type n => some (.ty n)
  | _ => none
theorem RelV.abs {x : V} {u : Value} (r : RelV x u) : absV u = some x := by
  cases x with
  | non => cases r; rfl
  | bl _ => cases r; rfl
  | int _ => obtain ⟨t, rfl⟩ := r; rfl
  | str _ => obtain ⟨t, rfl⟩ := r; rfl
  | byt _ => obtain ⟨t, rfl⟩ := r; rfl
  | flt _ => obtain ⟨t, rfl⟩ := r; rfl
  | ref _ => cases r; rfl
  | ty _ => cases r; rfl
theorem RelV.inj {x y : V} {u : Value} (r : RelV x u) (q : RelV y u) : x = y := Option.some.inj (r.abs.symm.trans q.abs)
theorem Vals.inj : ∀ {xs ys : List V} {us : List Value}, Vals xs us → Vals ys us → xs = ys
  | _, _, _, .nil, .nil => rfl
  | _, _, _, .cons r t, .cons r' t' => by rw [r.inj r', Vals.inj t t']
section
variable {X : Cx} {pins : List (Addr × Obj)} {σ : St} {H : Hp} {s : Shared} {a : Addr} {xs ys : List V}
theorem SqL.of {K : PySem.W.Frag} (h : H a = some (.lst xs)) : SqL K H a xs := .inl (.inl h)
theorem SqT.of {K : PySem.W.Frag} (h : H a = some (.tup xs)) : SqT K H a xs := .inl (.inl h)
theorem Inv.list (I : Inv X pins σ H s) (h : SqL X.K H a xs) : ∃ its : List Value, Vals xs its ∧ PlainL s.heap a its.toArray ∧ xs.length ≤ sizeLine := by
  rcases h with h | ⟨o, its, n, hk, hc, hd, hs, hz, r⟩
  · obtain ⟨z, its, n, r, e⟩ := h.ok I.hok
    exact ⟨its, r, ⟨_, n, e, rfl, rfl, rfl⟩, z⟩
  · refine ⟨its.toList, r, ⟨o, n, I.kIn a o hk, hc, hd, by simpa using hs⟩, ?_⟩
    have e := r.length
    simp only [Array.length_toList] at e
    omega
theorem Inv.tuple (I : Inv X pins σ H s) (h : SqT X.K H a xs) : ∃ its : List Value, Vals xs its ∧ IsTup s.heap a its.toArray ∧ xs.length ≤ sizeLine := by
  rcases h with h | ⟨o, its, n, hk, hc, hs, hz, r⟩
  · obtain ⟨z, its, r, p⟩ := h.ok I.hok
    exact ⟨its, r, p, z⟩
  · refine ⟨its.toList, r, ⟨o, I.kIn a o hk, hc, n, by simpa using hs⟩, ?_⟩
    have e := r.length
    simp only [Array.length_toList] at e
    omega
theorem Inv.list_inj (I : Inv X pins σ H s) (h : SqL X.K H a xs) (h' : SqL X.K H a ys) : xs = ys := by
  obtain ⟨its, r, ⟨o, n, e, _, _, d⟩, _⟩ := I.list h
  obtain ⟨its', r', ⟨o', n', e', _, _, d'⟩, _⟩ := I.list h'
  rw [e] at e'; cases e'
  rw [d] at d'
  injection d' with d1 _
  have : its = its' := by simpa using congrArg Array.toList d1
  subst this
  exact r.inj r'
theorem Inv.tuple_inj (I : Inv X pins σ H s) (h : SqT X.K H a xs) (h' : SqT X.K H a ys) : xs = ys := by
  obtain ⟨its, r, ⟨o, e, _, n, d⟩, _⟩ := I.tuple h
  obtain ⟨its', r', ⟨o', e', _, n', d'⟩, _⟩ := I.tuple h'
  rw [e] at e'; cases e'
  rw [d] at d'
  injection d' with d1 _
  have : its = its' := by simpa using congrArg Array.toList d1
  subst this
  exact r.inj r'
end

abbrev Cx.wish (X : Cx) (E : Value → Shared → Prop) : Cx := { X with xe := E }
/-- no exception leaves -/
abbrev Cx.nox (X : Cx) : Cx := X.wish fun _ _ => False
theorem Cx.Ok.wish {X : Cx} (ok : X.Ok) (E : Value → Shared → Prop) : (X.wish E).Ok :=
  ⟨ok.mod, ok.kind, ok.glob, ok.blt, ok.above, ok.inj, ok.has, ok.cab, ok.hd, ok.frames, ok.stk, ok.exf, ok.bs, ok.bsz, ok.noex, ok.exfs, ok.funs, ok.frf⟩
theorem Cx.Ok.unwish {X : Cx} {E : Value → Shared → Prop} (ok : (X.wish E).Ok) : X.Ok :=
  ⟨ok.mod, ok.kind, ok.glob, ok.blt, ok.above, ok.inj, ok.has, ok.cab, ok.hd, ok.frames, ok.stk, ok.exf, ok.bs, ok.bsz, ok.noex, ok.exfs, ok.funs, ok.frf⟩
section
variable {X : Cx} {pins : List (Addr × Obj)} {σ : St} {H : Hp} {s : Shared} {E : Value → Shared → Prop}
theorem Inv.wish (I : Inv X pins σ H s) (E : Value → Shared → Prop) : Inv (X.wish E) pins σ H s := ⟨I.ok.wish E, I.os, I.bare, I.base, I.loc, I.cell, I.free, I.freeC, I.pin, I.hok, I.len⟩
theorem Inv.unwish (I : Inv (X.wish E) pins σ H s) : Inv X pins σ H s := ⟨I.ok.unwish, I.os, I.bare, I.base, I.loc, I.cell, I.free, I.freeC, I.pin, I.hok, I.len⟩
theorem SP.unwish {D : Ends} {f : Flow} {s' : Shared} (h : SP (X.wish E) pins D f s') : SP X pins D f s' := by
  cases f with
  | next => obtain ⟨σ', H', I, q⟩ := h; exact ⟨σ', H', I.unwish, q⟩
  | brk => obtain ⟨σ', H', I, q⟩ := h; exact ⟨σ', H', I.unwish, q⟩
  | cont => obtain ⟨σ', H', I, q⟩ := h; exact ⟨σ', H', I.unwish, q⟩
  | ret u => obtain ⟨v, σ', H', I, r, q⟩ := h; exact ⟨v, σ', H', I.unwish, r, q⟩
theorem PE.nox {e : Expr} {t : TE} (h : PE X.nox e t) : PE X e t := fun pins s σ H Q I hw =>
  wpAny_mono (h pins s σ H Q (I.wish _) hw) (fun _ _ ⟨v, H', I', r, q⟩ => ⟨v, H', I'.unwish, r, q⟩) fun _ _ z => False.elim z
theorem PT.nox {e : Expr} {t : TT} (h : PT X.nox e t) : PT X e t := fun pins s σ H Q I hw =>
  wpAny_mono (h pins s σ H Q (I.wish _) hw) (fun _ _ ⟨H', I', q⟩ => ⟨H', I'.unwish, q⟩) fun _ _ z => False.elim z
theorem PSs.nox {st : List Stmt} {t : TS} (h : PSs X.nox st t) : PSs X st t := fun pins s σ H D I hw =>
  wpAny_mono (h pins s σ H D (I.wish _) hw) (fun _ _ q => q.unwish) fun _ _ z => False.elim z
end

section
variable {X : Cx} {st : Stmt} {rest : List Stmt} {t u : TS} {e : Expr} {te : TE} {pos : Pos}
def tNext : TS := fun D σ H => D.nx σ H
def tSeq (t u : TS) : TS := fun D σ H => t { D with nx := u D } σ H
theorem pss_nil : PSs X [] tNext := fun _ _ σ H _ I h => wpAny_execs_nil ⟨σ, H, I, h⟩
theorem pss_cons (h1 : PS X st t) (h2 : PSs X rest u) : PSs X (st :: rest) (tSeq t u) := by
  intro pins s σ H D I h
  refine wpAny_execs_cons (thn (h1 pins s σ H { D with nx := u D } I h) fun f s1 q => ?_)
  cases f with
  | next =>
    obtain ⟨σ', H', I', q⟩ := q
    exact h2 pins s1 σ' H' D I' q
  | ret v => exact q
  | brk => exact q
  | cont => exact q
theorem pss_one (h1 : PS X st t) : PSs X [st] t := by
  intro pins s σ H D I h
  refine wpAny_execs_cons (thn (h1 pins s σ H D I h) fun f s1 q => ?_)
  cases f with
  | next => exact wpAny_execs_nil q
  | ret v => exact q
  | brk => exact q
  | cont => exact q
/-- in a def's body nothing is shown -/
theorem Inv.quiet {pins : List (Addr × Obj)} {σ : St} {H : Hp} {s : Shared} (I : Inv X pins σ H s) : interactive X.env = false := by simp [interactive, I.ok.kind]
/-- an expression whose value is dropped -/
def tDrop (te : TE) : TS := fun D σ H => te σ H fun _ H1 => D.nx σ H1
theorem ps_expr (he : PE X e te) (hs : swapsWith e none pos.line X.env = pure false := by rfl) : PS X (.Expr e pos) (tDrop te) := by
  intro pins s σ H D I h
  exact wpAny_Expr_any (thn (he pins s σ H _ I h) fun v s1 ⟨x, H1, I1, r1, q1⟩ => ⟨σ, H1, I1, q1⟩) I.quiet hs
def tRet (te : TE) : TS := fun D σ H => te σ H D.rt
theorem ps_ret (he : PE X e te) : PS X (.Return (some e) pos) (tRet te) := by
  intro pins s σ H D I h
  exact wpAny_Return_some (thn (he pins s σ H _ I h) fun v s1 ⟨x, H1, I1, r1, q1⟩ => ⟨x, σ, H1, I1, r1, q1⟩)
def tRetN : TS := fun D _ H => D.rt .non H
theorem ps_retN : PS X (.Return none pos) tRetN := fun _ _ σ H _ I h => wpAny_Return_none ⟨.non, σ, H, I, rfl, h⟩
def tIfS (c : TT) (t u : TS) : TS := fun D σ H => c σ H fun b H1 => if b = true then t D σ H1 else u D σ H1
theorem ps_if {c : Expr} {a b : List Stmt} {tc : TT} (hc : PT X c tc) (ha : PSs X a t) (hb : PSs X b u) : PS X (.If c a b pos) (tIfS tc t u) := by
  intro pins s σ H D I h
  refine wpAny_If (thn (hc pins s σ H _ I h) fun d s1 ⟨H1, I1, q1⟩ => ?_)
  cases d with
  | true => exact ha pins s1 σ H1 D I1 q1
  | false => exact hb pins s1 σ H1 D I1 q1
end

abbrev TG := V → St → Hp → (St → Hp → Prop) → Prop
abbrev TGs := List V → St → Hp → (St → Hp → Prop) → Prop
def PG (X : Cx) (target : Expr) (t : TG) : Prop :=
  ∀ (pins : List (Addr × Obj)) (s : Shared) (σ : St) (H : Hp) (v : V) (u : Value) (Q : St → Hp → Prop), Inv X pins σ H s → RelV v u → t v σ H Q →
    wpAny (model X.prog X.w) X.A (assign target X.env u) (fun _ s' => ∃ σ' H', Inv X pins σ' H' s' ∧ Q σ' H') X.xe s
/-- several targets, one after another -/
def PGs (X : Cx) (ts : List Expr) (t : TGs) : Prop :=
  ∀ (pins : List (Addr × Obj)) (s : Shared) (σ : St) (H : Hp) (vs : List V) (us : List Value) (Q : St → Hp → Prop), Inv X pins σ H s → Vals vs us → t vs σ H Q →
    wpAny (model X.prog X.w) X.A (assignInOrder ((assignEach ts X.env).map (·.2)) us) (fun _ s' => ∃ σ' H', Inv X pins σ' H' s' ∧ Q σ' H') X.xe s
/-- o[i] = v, by values -/
abbrev TSet := V → V → V → Hp → (Hp → Prop) → Prop
def PSet (X : Cx) (t : TSet) : Prop :=
  ∀ (pins : List (Addr × Obj)) (s : Shared) (σ : St) (H : Hp) (o i v : V) (ov iv u : Value) (Q : Hp → Prop), Inv X pins σ H s → RelV o ov → RelV i iv → RelV v u → t o i v H Q →
    wpAny (model X.prog X.w) X.A (setItem ov iv u) (fun _ s' => ∃ H', Inv X pins σ H' s' ∧ Q H') X.xe s
/-- a op= b, by values -/
abbrev TIp := V → V → Hp → VK → Prop
def PIp (X : Cx) (op : Operator) (t : TIp) : Prop :=
  ∀ (pins : List (Addr × Obj)) (s : Shared) (σ : St) (H : Hp) (x y : V) (v u : Value) (Q : VK), Inv X pins σ H s → RelV x v → RelV y u → t x y H Q →
    wpAny (model X.prog X.w) X.A (inplaceOp op v u) (EP X pins σ Q) X.xe s
section
variable {X : Cx} {pos : Pos}
def gName (i : Nat) : TG := fun v σ H Q => Q (σ.set i (some v)) H
theorem pg_name {i : Nat} {x : Str} (hN : X.N.Nodup) (hi : X.N[i]? = some x) (hx : Loc X.env.scope x) (hf : X.fn x = true ∨ X.env.scope.names.lookup x = some .local := by first | exact .inl rfl | exact .inr rfl | assumption) : PG X (.Name x pos) (gName i) := by
  intro pins s σ H v u Q I r h
  exact wpAny_assign_Name (store_ok I hN hi hx r (fun s' I' => ⟨_, H, I', h⟩) hf)
def gNil : TGs := fun vs σ H Q => vs = [] ∧ Q σ H
def gCons (t : TG) (u : TGs) : TGs := fun vs σ H Q => ∃ v r, vs = v :: r ∧ t v σ H fun σ' H' => u r σ' H' Q
theorem pgs_nil : PGs X [] gNil := by
  intro pins s σ H vs us Q I r h
  obtain ⟨e, h⟩ := h
  subst e
  cases r
  exact assignInOrder_nil ⟨σ, H, I, h⟩
theorem pgs_cons {e : Expr} {es : List Expr} {t : TG} {u : TGs} (h1 : PG X e t) (h2 : PGs X es u)
    (hs : (assignEach (e :: es) X.env).map (·.2) = assign e X.env :: (assignEach es X.env).map (·.2) := by rfl) : PGs X (e :: es) (gCons t u) := by
  intro pins s σ H vs us Q I r h
  obtain ⟨v, vr, e1, h⟩ := h
  subst e1
  cases r with
  | cons r rr =>
    rw [hs]
    refine assignInOrder_cons (thn (h1 pins s σ H _ _ _ I r h) fun _ s1 ⟨σ1, H1, I1, q1⟩ => ?_)
    exact h2 pins s1 σ1 H1 _ _ Q I1 rr q1
/-- (a, b, ..) = a tuple of that length -/
def gTup (K : PySem.W.Frag) (n : Nat) (t : TGs) : TG := fun v σ H Q => ∃ a xs, v = .ref a ∧ SqT K H a xs ∧ xs.length = n ∧ t xs σ H Q
theorem pg_tup {es : List Expr} {k : Nat} {t : TGs} {n : Nat} (hc : X.calm = true) (h : PGs X es t)
    (hn : (assignEach es X.env).length = n := by rfl) (hst : (assignEach es X.env).findIdx? (·.1) = none := by rfl) : PG X (.Tuple es k pos) (gTup X.K n t) := by
  intro pins s σ H v u Q I r hw
  obtain ⟨a, xs, e1, hq, hl, hw⟩ := hw
  subst e1
  cases r
  obtain ⟨its, rv, ht, hz⟩ := I.tuple hq
  refine assign_Tuple_tuple (I.ok.hd hc) ht (by simp [hn, ← hl, rv.length]) hst fun h' hx => ?_
  have I1 : Inv X pins σ H { s with heap := h' } := I.kept (t' := s.toks) fun b o e => hx b o (Nat.ne_of_lt (Heap.lt_size e)) e
  exact h pins _ σ H xs _ Q I1 (by simpa using rv) hw
/-- target = value -/
def tAsg (te : TE) (g : TG) : TS := fun D σ H => te σ H fun x H1 => g x σ H1 D.nx
/-- name = value -/
theorem ps_set {i : Nat} {x : Str} {e : Expr} {te : TE} {pos' : Pos} (hN : X.N.Nodup) (hi : X.N[i]? = some x) (hx : Loc X.env.scope x) (he : PE X e te) (hs : swapsWith e (some (.Name x pos')) pos.line X.env = pure false := by rfl) (hf : X.fn x = true ∨ X.env.scope.names.lookup x = some .local := by first | exact .inl rfl | exact .inr rfl | assumption) :
    PS X (.Assign [.Name x pos'] e pos) (tAsg te (gName i)) := by
  intro pins s σ H D I h
  refine wpAny_Assign_Name (thn (he pins s σ H _ I h) fun v s1 ⟨y, H1, I1, r1, q1⟩ => ?_) hs
  exact store_ok I1 hN hi hx r1 (fun s2 I2 => ⟨_, H1, I2, q1⟩) hf
/-- name op= e -/
def tAug (i : Nat) (te : TE) (ti : TIp) : TS := fun D σ H => ∃ x, σ[i]? = some (some x) ∧ te σ H fun y H1 => ti x y H1 fun z H2 => D.nx (σ.set i (some z)) H2
theorem ps_aug {i : Nat} {x : Str} {e : Expr} {te : TE} {op : Operator} {ti : TIp} {pos' : Pos} (hN : X.N.Nodup) (hi : X.N[i]? = some x) (hx : Loc X.env.scope x) (he : PE X e te) (ho : PIp X op ti) (hf : X.fn x = true ∨ X.env.scope.names.lookup x = some .local := by first | exact .inl rfl | exact .inr rfl | assumption) :
    PS X (.AugAssign (.Name x pos') op e pos) (tAug i te ti) := by
  intro pins s σ H D I h
  obtain ⟨v, e1, h⟩ := h
  obtain ⟨m, hn, hl⟩ := I.loc
  have vis : Vis X.env.scope x := by rcases hx with k | k; exact .inl k; exact .inr (.inl k)
  obtain ⟨u, r, l⟩ := hl i x v hi e1 vis
  refine wpAny_AugAssign_Name ?_
  have go : wpAny (model X.prog X.w) X.A (eval e X.env) (fun w s₂ => wpAny (model X.prog X.w) X.A (inplaceOp op u w) (fun r s₃ => wpAny (model X.prog X.w) X.A (storeName X.env x r) (fun _ => SP X pins D .next) X.xe s₃) X.xe s₂) X.xe s := by
    refine thn (he pins s σ H _ I h) fun w s1 ⟨y, H1, I1, r1, q1⟩ => ?_
    refine thn (ho pins s1 σ H1 v y u w _ I1 r r1 q1) fun z s2 ⟨zv, H2, I2, r2, q2⟩ => ?_
    exact store_ok I2 hN hi hx r2 (fun s3 I3 => ⟨_, H2, I3, q2⟩) hf
  rcases l with ⟨hk, hm⟩ | ⟨hk, c, hc, hcell⟩
  · exact wpAny_loadName_local I.ok.kind hk hn hm go
  · rcases hk with hk | hk
    · exact wpAny_loadName_cell I.ok.kind hk hc hcell go
    · rcases hx with k | k
      · have : X.env.scope.names.lookup x = some .free := hk
        rw [k] at this; cases this
      · have : X.env.scope.names.lookup x = some .free := hk
        rw [k] at this; cases this
/-- o[i] op= e -/
def tAugS (to ti te : TE) (tget : V → V → Hp → VK → Prop) (tip : TIp) (tset : TSet) : TS := fun D σ H => to σ H fun o H1 => ti σ H1 fun i H2 => tget o i H2 fun x H3 => te σ H3 fun y H4 => tip x y H4 fun z H5 => tset o i z H5 fun H6 => D.nx σ H6
/-- o[i], by values -/
def PGet (X : Cx) (t : V → V → Hp → VK → Prop) : Prop :=
  ∀ (pins : List (Addr × Obj)) (s : Shared) (σ : St) (H : Hp) (o i : V) (ov iv : Value) (Q : VK), Inv X pins σ H s → RelV o ov → RelV i iv → t o i H Q →
    wpAny (model X.prog X.w) X.A (getItem ov iv) (EP X pins σ Q) X.xe s
theorem ps_augS {o i e : Expr} {to ti te : TE} {tget : V → V → Hp → VK → Prop} {tip : TIp} {tset : TSet} {op : Operator} {tpos : Pos} (ho : PE X o to) (hi : PE X i ti) (hg : PGet X tget) (he : PE X e te) (hp : PIp X op tip) (hs : PSet X tset)
    (ha : ∀ ov iv new, augStore i ov iv new = (do holding [new, ov, iv] (setItem ov iv new); release [new, ov, iv] []; pure .next) := by intros; rfl) : PS X (.AugAssign (.Subscript o i tpos) op e pos) (tAugS to ti te tget tip tset) := by
  intro pins s σ H D I h
  refine wpAny_AugAssign_SubscriptAny (thn (ho pins s σ H _ I h) fun ov s1 ⟨x1, H1, I1, r1, q1⟩ => ?_) ha
  refine thn (hi pins s1 σ H1 _ I1 q1) fun iv s2 ⟨x2, H2, I2, r2, q2⟩ => ?_
  refine thn (hg pins s2 σ H2 x1 x2 ov iv _ I2 r1 r2 q2) fun old s3 ⟨x3, H3, I3, r3, q3⟩ => ?_
  refine thn (he pins s3 σ H3 _ I3 q3) fun v s4 ⟨x4, H4, I4, r4, q4⟩ => ?_
  refine thn (hp pins s4 σ H4 x3 x4 old v _ I4 r3 r4 q4) fun new s5 ⟨x5, H5, I5, r5, q5⟩ => ?_
  exact thn (hs pins s5 σ H5 x1 x2 x5 ov iv new _ I5 r1 r2 r5 q5) fun _ s6 ⟨H6, I6, q6⟩ => ⟨σ, H6, I6, q6⟩
/-- ints -/
def ipI (f : Int → Int → Int) : TIp := fun x y H Q => ∃ i j, x = .int i ∧ y = .int j ∧ Q (.int (f i j)) H
theorem ip_add : PIp X .Add (ipI fun i j => i + j) := by
  intro pins s σ H x y v u Q I r1 r2 h
  obtain ⟨i, j, e1, e2, q⟩ := h
  subst e1; subst e2
  obtain ⟨t, rfl⟩ := r1
  obtain ⟨t', rfl⟩ := r2
  exact iadd_int ⟨.int _, H, I.tok _, ⟨_, rfl⟩, q⟩
theorem ip_sub : PIp X .Sub (ipI fun i j => i - j) := by
  intro pins s σ H x y v u Q I r1 r2 h
  obtain ⟨i, j, e1, e2, q⟩ := h
  subst e1; subst e2
  obtain ⟨t, rfl⟩ := r1
  obtain ⟨t', rfl⟩ := r2
  exact isub_int ⟨.int _, H, I.tok _, ⟨_, rfl⟩, q⟩
end

section
variable {X : Cx} {pos : Pos}
/-- the invariant W with its measure -/
def tWhile (c : TT) (tb : TS) : TS := fun D σ H => ∃ W : Nat → St → Hp → Prop, (∃ m, W m σ H) ∧ ∀ m σ H, W m σ H →
  c σ H fun b H1 => if b = true then ∃ N : St → Hp → Prop, (∀ σ' H', N σ' H' → ∃ m', m' < m ∧ W m' σ' H') ∧ tb { D with nx := N, ct := N, bk := D.nx } σ H1 else D.nx σ H1
theorem ps_while {c : Expr} {body : List Stmt} {tc : TT} {tb : TS} (hp : PassesOwn (model X.prog X.w) X.A X.env X.xe) (hc : PT X c tc) (hb : PSs X body tb) : PS X (.While c body [] pos) (tWhile tc tb) := by
  intro pins s σ H D I h
  obtain ⟨W, ⟨m0, w0⟩, turn⟩ := h
  refine wpAny_While (codeAny_whileLoop (fun n s' => ∃ σ' H', Inv X pins σ' H' s' ∧ W n σ' H') ?_ m0 ⟨σ, H, I, w0⟩)
  rintro n s1 ⟨σ1, H1, I1, w1⟩
  refine wpAny_passesOwn hp (thn (hc pins s1 σ1 H1 _ I1 (turn n σ1 H1 w1)) fun b s2 ⟨H2, I2, q2⟩ => ?_)
  cases b with
  | true =>
    obtain ⟨N, hN, q2⟩ := q2
    rw [if_pos rfl]
    refine wpAny_passesOwn hp (thn (hb pins s2 σ1 H2 _ I2 q2) fun f s3 q3 => ?_)
    cases f with
    | next =>
      obtain ⟨σ3, H3, I3, n3⟩ := q3
      obtain ⟨m', hm, w3⟩ := hN σ3 H3 n3
      exact ⟨m', hm, σ3, H3, I3, w3⟩
    | cont =>
      obtain ⟨σ3, H3, I3, n3⟩ := q3
      obtain ⟨m', hm, w3⟩ := hN σ3 H3 n3
      exact ⟨m', hm, σ3, H3, I3, w3⟩
    | brk => exact q3
    | ret v => exact q3
  | false =>
    rw [if_neg Bool.false_ne_true]
    exact wpAny_execs_nil ⟨σ1, H2, I2, q2⟩
end

/-- at turn i: it yields x (the heap may grow), or it stops -/
structure It where
  go : Nat → Hp → Prop
  yld : Nat → Hp → V → Hp → Prop
  stop : Nat → Hp → Prop
/-- the iterator's own objects may turn: they are not the frame's, not pinned, younger than the entry (or a comprehension's own) -/
def FpOk (X : Cx) (pins : List (Addr × Obj)) (H : Hp) (b : Addr) : Prop :=
  H b = none ∧ b ≠ X.env.locals ∧ b ∉ X.fs ∧ (b ∈ X.ex ∨ X.s_0.heap.objs.size ≤ b) ∧ (∀ x c, X.env.cells.lookup x = some c → c ≠ b) ∧ ∀ p ∈ X.pn ++ pins, p.1 ≠ b
theorem Inv.fpOk {X : Cx} {pins : List (Addr × Obj)} {σ : St} {H H' : Hp} {s : Shared} {b : Addr} (I : Inv X pins σ H s) (hb : s.heap.objs.size ≤ b) (hn : H' b = none) : FpOk X pins H' b := by
  refine ⟨hn, Nat.ne_of_gt (Nat.lt_of_lt_of_le I.lt hb), I.nofs hb, .inr (Nat.le_trans I.sz hb), fun x c e z => ?_, fun p hp z => ?_⟩
  · obtain ⟨v, q⟩ := I.cell x c e
    exact absurd (Nat.lt_of_lt_of_le q.lt (by rw [z]; exact hb)) (Nat.lt_irrefl _)
  · exact absurd (Nat.lt_of_lt_of_le (Heap.lt_size (I.pin p hp).1) (by rw [z]; exact hb)) (Nat.lt_irrefl _)
structure Turn (P : Program) (w : World) (K : PySem.W.Frag) (tg : Expr) (J : It) (fp : List Addr) (it : Addr) (tn : Nat → Heap → Prop) : Prop where
  mem : it ∈ fp
  obj : ∀ i h, tn i h → ∀ b ∈ fp, ∃ o, h.get? b = some o ∧ ∀ v, o.data ≠ .cell v
  keep : ∀ i h h', tn i h → (∀ b ∈ fp, ∀ o, h.get? b = some o → h'.get? b = some o) → tn i h'
  item : ∀ (X : Cx), X.prog = P → X.w = w → X.K = K → X.calm = true → ∀ (i : Nat) (pins : List (Addr × Obj)) (s : Shared) (σ : St) (H : Hp) (E : Value → Shared → Prop), Inv X pins σ H s → (∀ b ∈ fp, FpOk X pins H b) → tn i s.heap → J.go i H →
    wpAny (model P w) X.A (pyNext (.ref it)) (fun r s1 => ∃ u, r = some u ∧
      wpAny (model P w) X.A (letOwnedTupleGo tg (.ref it) u) (fun _ s2 => ∃ x H', Inv X pins σ H' s2 ∧ RelV x u ∧ J.yld i H x H' ∧ tn (i + 1) s2.heap ∧ ∀ b ∈ fp, H' b = none) E s1) E s
  done : ∀ (X : Cx), X.prog = P → X.w = w → X.K = K → X.calm = true → ∀ (i : Nat) (pins : List (Addr × Obj)) (s : Shared) (σ : St) (H : Hp) (E : Value → Shared → Prop), Inv X pins σ H s → (∀ b ∈ fp, FpOk X pins H b) → tn i s.heap → J.stop i H →
    wpAny (model P w) X.A (pyNext (.ref it)) (fun r s1 => r = none ∧ Inv X pins σ H s1) E s
  self : ∀ (A : Around) (i : Nat) (s : Shared) (Q : Value → Shared → Prop) (E : Value → Shared → Prop), tn i s.heap → Q (.ref it) s → wpAny (model P w) A (pyIter (.ref it)) Q E s
abbrev TI := St → Hp → (It → Hp → Prop) → Prop
/-- an iterator has come -/
def PIE (X : Cx) (pins : List (Addr × Obj)) (σ : St) (tg : Expr) (R : It → Hp → Prop) (itv : Value) (s2 : Shared) : Prop :=
  ∃ (it : Addr) (fp : List Addr) (tn : Nat → Heap → Prop) (J : It) (H' : Hp), itv = .ref it ∧ Inv X pins σ H' s2 ∧ Turn X.prog X.w X.K tg J fp it tn ∧ tn 0 s2.heap ∧ (∀ b ∈ fp, FpOk X pins H' b) ∧ R J H'
def PI (X : Cx) (tg iter : Expr) (wi : TI) : Prop :=
  ∀ (pins : List (Addr × Obj)) (s : Shared) (σ : St) (H : Hp) (R : It → Hp → Prop), Inv X pins σ H s → wi σ H R →
    wpAny (model X.prog X.w) X.A (eval iter X.env) (fun v s1 => wpAny (model X.prog X.w) X.A (pyIter v) (PIE X pins σ tg R) X.xe s1) X.xe s

/-- the step ahead of the store is nothing for an iterator that keeps no tuple -/
theorem go_of {M : Model} {A : Around} {E : Value → Shared → Prop} {s : Shared} {tg : Expr} {it : Addr} {u : Value} {o : Obj} {n : String} {vs : Array Value} {Q : Unit → Shared → Prop} (ho : s.heap.get? it = some o) (hc : o.cls = .type n) (hd : o.data = .fields vs)
    (hn : ["enumerate", "zip", "dict_itemiterator", "dict_reverseitemiterator", "odict_iterator", "itertools.zip_longest", "itertools.pairwise"].contains n = false) (hQ : Q () s) : wpAny M A (letOwnedTupleGo tg (.ref it) u) Q E s := by
  unfold letOwnedTupleGo
  cases tg <;> first
    | exact wpAny_pure hQ
    | (cases u <;> first
        | exact wpAny_pure hQ
        | (refine wpAny_bind (wpAny_load ho ?_)
           rw [hc, hd]
           show wpAny M A (if (["enumerate", "zip", "dict_itemiterator", "dict_reverseitemiterator", "odict_iterator", "itertools.zip_longest", "itertools.pairwise"].contains n && vs[0]? == some (rawInt _)) = true then _ else _) Q E s
           rw [if_neg (by intro h; rw [hn, Bool.false_and] at h; cases h)]
           exact wpAny_pure hQ))

/-- the list at a, as it stands at each turn (a loop may append to it) -/
def Itl (K : PySem.W.Frag) (a : Addr) : It :=
  ⟨fun i H => ∃ xs x, SqL K H a xs ∧ xs[i]? = some x, fun i H x H' => H' = H ∧ ∀ xs, SqL K H a xs → xs[i]? = some x, fun i H => ∃ xs, SqL K H a xs ∧ xs.length ≤ i⟩
theorem turn_list {P : Program} {w : World} {K : PySem.W.Frag} {tg : Expr} (a it : Addr) : Turn P w K tg (Itl K a) [it] it (fun i h => h.IsListIter it a i) where
  mem := by simp
  obj := fun i h st b hb => by
    have e : b = it := by simpa using hb
    subst e
    obtain ⟨o, e, c, d⟩ := st
    exact ⟨o, e, fun v z => by rw [d] at z; cases z⟩
  keep := fun i h h' st k => st.at fun o e => k it (by simp) o e
  item := by
    intro X hP hw hK hc i pins s σ H E I hf st hg
    subst hP hw hK
    obtain ⟨xs, x, hq, hx⟩ := hg
    obtain ⟨its, rv, p, hz⟩ := I.list hq
    obtain ⟨u, hu, ru⟩ := rv.get hx
    obtain ⟨f0, f1, f2, f3, f4, f5⟩ := hf it (by simp)
    refine wpAny_pyNext_list_item st p.isList (x := u) (by simpa using hu) fun h' st' sb => ?_
    have I1 : Inv X pins σ H { s with heap := h' } := I.turned (t' := s.toks) (fun b o hb e => (sb.2 b hb).trans e) f0 f1 f3 f4 f5
    obtain ⟨o, e, c, d⟩ := id st'
    exact ⟨u, rfl, go_of (s := { s with heap := h' }) e c d (by decide) ⟨x, H, I1, ru, ⟨rfl, fun ys hy => by rw [I.list_inj hy hq]; exact hx⟩, st', fun b hb => (hf b hb).1⟩⟩
  done := by
    intro X hP hw hK hc i pins s σ H E I hf st hg
    subst hP hw hK
    obtain ⟨xs, hq, hx⟩ := hg
    obtain ⟨its, rv, p, hz⟩ := I.list hq
    obtain ⟨f0, f1, f2, f3, f4, f5⟩ := hf it (by simp)
    have hl := rv.length
    exact wpAny_pyNext_list_end (I.ok.hd hc) st p.isList (by simp; omega) fun h' eb => ⟨rfl, I.turned (t' := s.toks) (fun b o hb e => eb b o hb e) f0 f1 f3 f4 f5⟩
  self := fun _ _ _ _ _ st h => wpAny_pyIter_listiter st h
end L2

namespace L2
open PySem PySem.Spec PyProof.Rows
section
variable {X : Cx} {tg : Expr}
def iList (K : PySem.W.Frag) (tl : TE) : TI := fun σ H R => tl σ H fun x H1 => ∃ a, x = .ref a ∧ (∃ xs, SqL K H1 a xs) ∧ R (Itl K a) H1
theorem pi_list {l : Expr} {tl : TE} (hl : PE X l tl) : PI X tg l (iList X.K tl) := by
  intro pins s σ H R I h
  refine thn (hl pins s σ H _ I h) fun v s1 ⟨x, H1, I1, r1, q1⟩ => ?_
  obtain ⟨a, e, ⟨xs, hq⟩, q⟩ := q1
  subst e
  cases r1
  obtain ⟨its, rv, p, hz⟩ := I1.list hq
  refine wpAny_pyIter_list p.isList ?_
  refine ⟨s1.heap.objs.size, [s1.heap.objs.size], _, _, H1, rfl, I1.kept (t' := s1.toks) fun b o e => Heap.get?_push_of_some _ e, turn_list a _, ⟨_, Heap.get?_push_size _ rfl, rfl, rfl⟩, fun b hb => ?_, q⟩
  have e : b = s1.heap.objs.size := by simpa using hb
  subst e
  exact I1.fpOk (Nat.le_refl _) (I1.hok.fresh (Nat.le_refl _))

/-- W: the invariant by the turn and a measure; N: what the body is to reach -/
def tFor (wi : TI) (g : TG) (tb : TS) : TS := fun D σ H => wi σ H fun J H1 => ∃ W : Nat → Nat → St → Hp → Prop, (∃ m, W 0 m σ H1) ∧ ∀ i m σ H, W i m σ H →
  (J.stop i H ∧ D.nx σ H) ∨ (J.go i H ∧ ∃ N : St → Hp → Prop, (∀ σ' H', N σ' H' → ∃ m', m' < m ∧ W (i + 1) m' σ' H') ∧ ∀ x H', J.yld i H x H' → g x σ H' fun σ2 H2 => tb { D with nx := N, ct := N, bk := D.nx } σ2 H2)
/-- the records at fp as they stand -/
def pinsAt (fp : List Addr) (h : Heap) : List (Addr × Obj) := fp.filterMap fun b => (h.get? b).map fun o => (b, o)
theorem mem_pinsAt {fp : List Addr} {h : Heap} {b : Addr} {o : Obj} (hb : b ∈ fp) (e : h.get? b = some o) : (b, o) ∈ pinsAt fp h := List.mem_filterMap.mpr ⟨b, hb, by rw [e]; rfl⟩
theorem of_pinsAt {fp : List Addr} {h : Heap} {p : Addr × Obj} (hp : p ∈ pinsAt fp h) : p.1 ∈ fp ∧ h.get? p.1 = some p.2 := by
  obtain ⟨b, hb, e⟩ := List.mem_filterMap.mp hp
  cases q : h.get? b with
  | none => rw [q] at e; cases e
  | some o =>
    rw [q] at e
    have e' : (b, o) = p := Option.some.inj e
    subst e'
    exact ⟨hb, q⟩
theorem Inv.pinned {pins : List (Addr × Obj)} {σ : St} {H : Hp} {s : Shared} {fp : List Addr} (I : Inv X pins σ H s) (hf : ∀ b ∈ fp, FpOk X pins H b) (ho : ∀ b ∈ fp, ∃ o, s.heap.get? b = some o ∧ ∀ v, o.data ≠ .cell v) : Inv X (pins ++ pinsAt fp s.heap) σ H s :=
  I.pins_of fun p hp => (List.mem_append.mp hp).elim (fun z => I.pin p (List.mem_append_right _ z)) fun z => by
    obtain ⟨hb, e⟩ := of_pinsAt z
    obtain ⟨f0, f1, f2, _⟩ := hf p.1 hb
    obtain ⟨o, e', d⟩ := ho p.1 hb
    rw [e] at e'; cases e'
    exact ⟨e, f0, f1, f2, d⟩
theorem Inv.unpinned {pins pl : List (Addr × Obj)} {σ : St} {H : Hp} {s : Shared} (I : Inv X (pins ++ pl) σ H s) : Inv X pins σ H s := I.pins_of fun p hp => I.pin p (List.mem_append_right _ (List.mem_append_left _ hp))
theorem ps_for {iter : Expr} {body : List Stmt} {wi : TI} {g : TG} {tb : TS} {pos : Pos} (hp : PassesOwn (model X.prog X.w) X.A X.env X.xe) (hc : X.calm = true) (hi : PI X tg iter wi) (hg : PG X tg g) (hb : PSs X body tb)
    (hs : ∀ x, foldedSetIterable iter X.env x = pure x := by intro _; rfl) : PS X (.For tg iter body [] pos) (tFor wi g tb) := by
  intro pins s σ H D I h
  refine wpAny_For (thn (hi pins s σ H _ I h) fun v s1 h1 => thn h1 fun itv s2 h2 => ?_) hs
  obtain ⟨it, fp, tn, J, H2, e, I2, T, st2, f2, W, ⟨m0, w0⟩, turn⟩ := h2
  subst e
  -- what stays true of the iterator's objects through the loop
  have stat : ∀ {H' : Hp}, (∀ b ∈ fp, H' b = none) → ∀ b ∈ fp, FpOk X pins H' b := fun hn b hb => ⟨hn b hb, (f2 b hb).2⟩
  refine codeAny_forLoop_any (fun n s' => ∃ i σ' H', Inv X pins σ' H' s' ∧ tn i s'.heap ∧ (∀ b ∈ fp, H' b = none) ∧ W i n σ' H') ?_ m0 ⟨0, σ, H2, I2, st2, fun b hb => (f2 b hb).1, w0⟩
  rintro n s3 ⟨i, σ3, H3, I3, st3, fr3, w3⟩
  rcases turn i n σ3 H3 w3 with ⟨stop, qn⟩ | ⟨go, N, hN, step⟩
  · refine wpAny_passesOwn hp (thn (T.done X rfl rfl rfl hc i pins s3 σ3 H3 X.xe I3 (stat fr3) st3 stop) fun r s4 ⟨hr, I4⟩ => ?_)
    subst hr
    exact wpAny_execs_nil ⟨σ3, H3, I4, qn⟩
  · refine wpAny_passesOwn hp (thn (T.item X rfl rfl rfl hc i pins s3 σ3 H3 X.xe I3 (stat fr3) st3 go) fun r s4 ⟨u, hr, h4⟩ => ?_)
    subst hr
    refine wpAny_passesOwn hp (thn h4 fun _ s5 ⟨x, H5, I5, r5, y5, st5, fr5⟩ => ?_)
    have I5' := I5.pinned (stat fr5) (T.obj _ _ st5)
    refine wpAny_passesOwn hp (thn (hg _ s5 σ3 H5 x u _ I5' r5 (step x H5 y5)) fun _ s6 ⟨σ6, H6, I6, q6⟩ => ?_)
    refine wpAny_passesOwn hp (thn (hb _ s6 σ6 H6 _ I6 q6) fun f s7 q7 => ?_)
    have again : ∀ {σ7 : St} {H7 : Hp}, Inv X (pins ++ pinsAt fp s5.heap) σ7 H7 s7 → N σ7 H7 → ∃ m, m < n ∧ ∃ i σ' H', Inv X pins σ' H' s7 ∧ tn i s7.heap ∧ (∀ b ∈ fp, H' b = none) ∧ W i m σ' H' := fun {σ7 H7} I7 n7 => by
      obtain ⟨m', hm, w7⟩ := hN σ7 H7 n7
      refine ⟨m', hm, i + 1, σ7, H7, I7.unpinned, T.keep _ _ _ st5 fun b hb o e => (I7.pin (b, o) (List.mem_append_right _ (List.mem_append_right _ (mem_pinsAt hb e)))).1, fun b hb => ?_, w7⟩
      obtain ⟨o, e, d⟩ := T.obj _ _ st5 b hb
      exact (I7.pin (b, o) (List.mem_append_right _ (List.mem_append_right _ (mem_pinsAt hb e)))).2.1
    cases f with
    | next => obtain ⟨σ7, H7, I7, n7⟩ := q7; exact again I7 n7
    | cont => obtain ⟨σ7, H7, I7, n7⟩ := q7; exact again I7 n7
    | brk => obtain ⟨σ7, H7, I7, q7⟩ := q7; exact ⟨σ7, H7, I7.unpinned, q7⟩
    | ret v => obtain ⟨x7, σ7, H7, I7, r7, q7⟩ := q7; exact ⟨x7, σ7, H7, I7.unpinned, r7, q7⟩
end

/-- over a list that the body leaves as it is -/
theorem for_list {K : PySem.W.Frag} {a : Addr} {xs : List V} {g : TG} {tb : TS} {D : Ends} {σ : St} {H : Hp} (Pv : Nat → St → Hp → Prop) (h0 : Pv 0 σ H) (hl : ∀ i σ H, i ≤ xs.length → Pv i σ H → SqL K H a xs)
    (hs : ∀ i x σ H, xs[i]? = some x → Pv i σ H → g x σ H fun σ2 H2 => tb { D with nx := Pv (i + 1), ct := Pv (i + 1), bk := D.nx } σ2 H2) (hd : ∀ σ H, Pv xs.length σ H → D.nx σ H) :
    ∃ W : Nat → Nat → St → Hp → Prop, (∃ m, W 0 m σ H) ∧ ∀ i m σ H, W i m σ H →
      ((Itl K a).stop i H ∧ D.nx σ H) ∨ ((Itl K a).go i H ∧ ∃ N : St → Hp → Prop, (∀ σ' H', N σ' H' → ∃ m', m' < m ∧ W (i + 1) m' σ' H') ∧ ∀ x H', (Itl K a).yld i H x H' → g x σ H' fun σ2 H2 => tb { D with nx := N, ct := N, bk := D.nx } σ2 H2) := by
  refine ⟨fun i m σ H => m = xs.length - i ∧ i ≤ xs.length ∧ Pv i σ H, ⟨xs.length, by simp, Nat.zero_le _, h0⟩, ?_⟩
  rintro i m σ H ⟨rfl, hi, p⟩
  have q := hl i σ H hi p
  by_cases hlt : i < xs.length
  · refine .inr ⟨⟨xs, xs[i], q, by simp [hlt]⟩, Pv (i + 1), fun σ' H' p' => ⟨xs.length - (i + 1), by omega, rfl, hlt, p'⟩, fun x H' y => ?_⟩
    obtain ⟨e, y⟩ := y
    subst e
    exact hs i x σ _ (y xs q) p
  · have e : i = xs.length := by omega
    subst e
    exact .inl ⟨⟨xs, q, Nat.le_refl _⟩, hd σ H p⟩
end L2

namespace L2
open PySem PySem.Spec PyProof.Rows

abbrev R2 := V → V → Hp → VK → Prop
/-- a two-place operation on values: f is binaryOp op, inplaceOp op or compareOp op -/
def OpR (X : Cx) (f : Value → Value → Sem Value) (r : R2) : Prop :=
  ∀ (pins : List (Addr × Obj)) (s : Shared) (σ : St) (H : Hp) (x y : V) (v u : Value) (Q : VK), Inv X pins σ H s → RelV x v → RelV y u → r x y H Q →
    wpAny (model X.prog X.w) X.A (f v u) (EP X pins σ Q) X.xe s
/-- a one-place operation -/
def UnR (X : Cx) (f : Value → Sem Value) (r : V → Hp → VK → Prop) : Prop :=
  ∀ (pins : List (Addr × Obj)) (s : Shared) (σ : St) (H : Hp) (x : V) (v : Value) (Q : VK), Inv X pins σ H s → RelV x v → r x H Q →
    wpAny (model X.prog X.w) X.A (f v) (EP X pins σ Q) X.xe s
/-- a call of a value that is known (a builtin, a type) with values -/
def CallR (X : Cx) (f : Value) (r : List V → Hp → VK → Prop) : Prop :=
  ∀ (pins : List (Addr × Obj)) (s : Shared) (σ : St) (H : Hp) (xs : List V) (us : List Value) (Q : VK), Inv X pins σ H s → Vals xs us → r xs H Q →
    wpAny (model X.prog X.w) X.A (call f us) (EP X pins σ Q) X.xe s

def tOp (r : R2) (ta tb : TE) : TE := fun σ H Q => ta σ H fun x H1 => tb σ H1 fun y H2 => r x y H2 Q
def tUn (r : V → Hp → VK → Prop) (ta : TE) : TE := fun σ H Q => ta σ H fun x H1 => r x H1 Q
/-- ints in, under C, and a value out -/
def rI (C : Int → Int → Prop) (g : Int → Int → V) : R2 := fun x y H Q => ∃ i j, x = .int i ∧ y = .int j ∧ C i j ∧ Q (g i j) H
def rI0 (g : Int → Int → V) : R2 := fun x y H Q => ∃ i j, x = .int i ∧ y = .int j ∧ Q (g i j) H
def rU (g : Int → V) : V → Hp → VK → Prop := fun x H Q => ∃ i, x = .int i ∧ Q (g i) H

section
variable {X : Cx} {a b c : Expr} {ta tb tc : TE} {pos : Pos}

theorem binT (ha : PE X a ta) (hb : PE X b tb) {pins : List (Addr × Obj)} {s : Shared} {σ : St} {H : Hp} {R : V → V → Hp → Prop} (I : Inv X pins σ H s)
    (h : ta σ H fun x H1 => tb σ H1 fun y H2 => R x y H2) {Q : Value → Shared → Prop} {f : Value → Value → Sem Value}
    (hf : ∀ v u s2 x y H2, Inv X pins σ H2 s2 → RelV x v → RelV y u → R x y H2 → wpAny (model X.prog X.w) X.A (f v u) Q X.xe s2) :
    wpAny (model X.prog X.w) X.A (eval a X.env) (fun v s₁ => wpAny (model X.prog X.w) X.A (eval b X.env) (fun u s₂ => wpAny (model X.prog X.w) X.A (f v u) Q X.xe s₂) X.xe s₁) X.xe s := by
  refine thn (ha pins s σ H _ I h) fun v s1 ⟨x, H1, I1, r1, q1⟩ => ?_
  refine thn (hb pins s1 σ H1 _ I1 q1) fun u s2 ⟨y, H2, I2, r2, q2⟩ => ?_
  exact hf v u s2 x y H2 I2 r1 r2 q2

theorem pe_op {op : Operator} {r : R2} (ho : OpR X (binaryOp op) r) (ha : PE X a ta) (hb : PE X b tb) : PE X (.BinOp a op b pos) (tOp r ta tb) := by
  intro pins s σ H Q I h
  exact wpAny_BinOp (binT ha hb I h fun v u s2 x y H2 I2 rx ry q => ho pins s2 σ H2 x y v u Q I2 rx ry q)
theorem pe_un {op : UnaryOp} {r : V → Hp → VK → Prop} (ho : UnR X (unaryOp op) r) (ha : PE X a ta) : PE X (.UnaryOp op a pos) (tUn r ta) := by
  intro pins s σ H Q I h
  exact UnaryOp_ (thn (ha pins s σ H _ I h) fun v s1 ⟨x, H1, I1, r1, q1⟩ => ho pins s1 σ H1 x v Q I1 r1 q1)

theorem opI {f : Value → Value → Sem Value} {C : Int → Int → Prop} {g : Int → Int → Int}
    (rule : ∀ (i j : Int) (t u : Tok) (s : Shared) (Q : Value → Shared → Prop) (E : Value → Shared → Prop), C i j → Q (.int (g i j) s.toks) { s with toks := s.toks + 1 } → wpAny (model X.prog X.w) X.A (f (.int i t) (.int j u)) Q E s) :
    OpR X f (rI C fun i j => .int (g i j)) := by
  intro pins s σ H x y v u Q I rx ry h
  obtain ⟨i, j, rfl, rfl, hc, q⟩ := h
  obtain ⟨t, rfl⟩ := rx
  obtain ⟨t', rfl⟩ := ry
  exact rule i j t t' s _ _ hc ⟨.int (g i j), H, I.tok _, ⟨_, rfl⟩, q⟩
theorem opI0 {f : Value → Value → Sem Value} {g : Int → Int → Int}
    (rule : ∀ (i j : Int) (t u : Tok) (s : Shared) (Q : Value → Shared → Prop) (E : Value → Shared → Prop), Q (.int (g i j) s.toks) { s with toks := s.toks + 1 } → wpAny (model X.prog X.w) X.A (f (.int i t) (.int j u)) Q E s) :
    OpR X f (rI0 fun i j => .int (g i j)) := by
  intro pins s σ H x y v u Q I rx ry h
  obtain ⟨i, j, rfl, rfl, q⟩ := h
  obtain ⟨t, rfl⟩ := rx
  obtain ⟨t', rfl⟩ := ry
  exact rule i j t t' s _ _ ⟨.int (g i j), H, I.tok _, ⟨_, rfl⟩, q⟩
theorem opB0 {f : Value → Value → Sem Value} {g : Int → Int → Bool}
    (rule : ∀ (i j : Int) (t u : Tok) (s : Shared) (Q : Value → Shared → Prop) (E : Value → Shared → Prop), Q (.bool (g i j)) s → wpAny (model X.prog X.w) X.A (f (.int i t) (.int j u)) Q E s) :
    OpR X f (rI0 fun i j => .bl (g i j)) := by
  intro pins s σ H x y v u Q I rx ry h
  obtain ⟨i, j, rfl, rfl, q⟩ := h
  obtain ⟨t, rfl⟩ := rx
  obtain ⟨t', rfl⟩ := ry
  exact rule i j t t' s _ _ ⟨.bl (g i j), H, I, rfl, q⟩

def CDiv (i j : Int) : Prop := 0 < j ∧ j < 1073741824
def CMul (i j : Int) : Prop := (-(2 ^ 64) < i ∧ i < 2 ^ 64) ∨ (-(2 ^ 64) < j ∧ j < 2 ^ 64)
theorem CMul.ok {i j : Int} (h : CMul i j) : IntMulOk i j := by
  rcases h with ⟨h1, h2⟩ | ⟨h1, h2⟩
  · exact .of_left (intBits_le_64 h1 h2)
  · exact .of_right (intBits_le_64 h1 h2)

theorem op_add : OpR X (binaryOp .Add) (rI0 fun i j => .int (i + j)) := opI0 fun _ _ _ _ _ _ _ q => add_int q
theorem op_sub : OpR X (binaryOp .Sub) (rI0 fun i j => .int (i - j)) := opI0 fun _ _ _ _ _ _ _ q => sub_int q
theorem op_mul : OpR X (binaryOp .Mult) (rI CMul fun i j => .int (i * j)) := opI fun _ _ _ _ _ _ _ hc q => mul_int q hc.ok

theorem unI {f : Value → Sem Value} {g : Int → Int}
    (rule : ∀ (i : Int) (t : Tok) (s : Shared) (Q : Value → Shared → Prop) (E : Value → Shared → Prop), Q (.int (g i) s.toks) { s with toks := s.toks + 1 } → wpAny (model X.prog X.w) X.A (f (.int i t)) Q E s) :
    UnR X f (rU fun i => .int (g i)) := by
  intro pins s σ H x v Q I rx h
  obtain ⟨i, rfl, q⟩ := h
  obtain ⟨t, rfl⟩ := rx
  exact rule i t s _ _ ⟨.int (g i), H, I.tok _, ⟨_, rfl⟩, q⟩
theorem un_neg : UnR X (unaryOp .USub) (rU fun i => .int (-i)) := unI fun _ _ _ _ _ q => neg_int q

end

/-- the scalars that == tells apart as data does -/
def scal : V → V → Bool
  | .non, .non => true | .non, .int _ => true | .int _, .non => true | .non, .bl _ => true | .bl _, .non => true | .non, .str _ => true | .str _, .non => true
  | .int _, .int _ => true | .bl _, .bl _ => true | .str _, .str _ => true | .byt _, .byt _ => true
  | .int _, .str _ => true | .str _, .int _ => true | .bl _, .str _ => true | .str _, .bl _ => true
  | _, _ => false
def rEq : R2 := fun x y H Q => scal x y = true ∧ Q (.bl (decide (x = y))) H
def rNe : R2 := fun x y H Q => scal x y = true ∧ Q (.bl (!decide (x = y))) H

theorem dec_int {i j : Int} : decide (V.int i = V.int j) = (i == j) := by
  rw [Bool.eq_iff_iff]
  simp
theorem dec_bl {i j : Bool} : decide (V.bl i = V.bl j) = (i == j) := by
  rw [Bool.eq_iff_iff]
  simp
theorem dec_str {i j : Str} : decide (V.str i = V.str j) = (i == j) := by
  rw [Bool.eq_iff_iff]
  simp
theorem dec_byt {i j : Array UInt8} : decide (V.byt i = V.byt j) = (i.toList == j.toList) := by
  rw [Bool.eq_iff_iff]
  cases i
  cases j
  simp

section
variable {X : Cx} {a b c : Expr} {ta tb tc : TE} {pos : Pos}
theorem fin_bl {pins : List (Addr × Obj)} {σ : St} {H : Hp} {s : Shared} {Q : VK} {k k' : Bool} (I : Inv X pins σ H s) (q : Q (.bl k) H) (e : k = k') : EP X pins σ Q (.bool k') s := by
  subst e
  exact ⟨.bl k, H, I, rfl, q⟩
theorem op_eq : OpR X (compareOp .Eq) rEq := by
  intro pins s σ H x y v u Q I rx ry h
  obtain ⟨hs, q⟩ := h
  cases x with
  | non =>
    cases rx
    cases y with
    | non => cases ry; exact PySem.EqNone.eq_none_none (fin_bl I q (by simp))
    | bl j => cases ry; exact PySem.EqNone.eq_none_bool (fin_bl I q (by simp))
    | int j => obtain ⟨t', rfl⟩ := ry; exact PySem.EqNone.eq_none_int (fin_bl I q (by simp))
    | str j => obtain ⟨t', rfl⟩ := ry; exact PySem.EqNone.eq_none_str (fin_bl I q (by simp))
    | _ => exact absurd (show false = true from hs) Bool.false_ne_true
  | bl i =>
    cases rx
    cases y with
    | non => cases ry; exact PySem.EqNone.eq_bool_none (fin_bl I q (by simp))
    | bl j => cases ry; exact eq_bool (fin_bl I q dec_bl)
    | str j => obtain ⟨t', rfl⟩ := ry; exact PySem.EqMixed.eq_bool_str (fin_bl I q (by simp))
    | _ => exact absurd (show false = true from hs) Bool.false_ne_true
  | int i =>
    obtain ⟨t, rfl⟩ := rx
    cases y with
    | non => cases ry; exact PySem.EqNone.eq_int_none (fin_bl I q (by simp))
    | int j => obtain ⟨t', rfl⟩ := ry; exact eq_int (fin_bl I q dec_int)
    | str j => obtain ⟨t', rfl⟩ := ry; exact PySem.EqMixed.eq_int_str (fin_bl I q (by simp))
    | _ => exact absurd (show false = true from hs) Bool.false_ne_true
  | str i =>
    obtain ⟨t, rfl⟩ := rx
    cases y with
    | non => cases ry; exact PySem.EqNone.eq_str_none (fin_bl I q (by simp))
    | bl j => cases ry; exact PySem.EqMixed.eq_str_bool (fin_bl I q (by simp))
    | int j => obtain ⟨t', rfl⟩ := ry; exact PySem.EqMixed.eq_str_int (fin_bl I q (by simp))
    | str j => obtain ⟨t', rfl⟩ := ry; exact eq_str (fin_bl I q dec_str)
    | _ => exact absurd (show false = true from hs) Bool.false_ne_true
  | byt i =>
    obtain ⟨t, rfl⟩ := rx
    cases y with
    | byt j => obtain ⟨t', rfl⟩ := ry; exact PySem.W.eq_bytes (fin_bl I q dec_byt)
    | _ => exact absurd (show false = true from hs) Bool.false_ne_true
  | _ => cases y <;> exact absurd (show false = true from hs) Bool.false_ne_true
theorem op_ne : OpR X (compareOp .NotEq) rNe := by
  intro pins s σ H x y v u Q I rx ry h
  obtain ⟨hs, q⟩ := h
  cases x with
  | non =>
    cases rx
    cases y with
    | non => cases ry; exact PySem.EqNone.ne_none_none (fin_bl I q (by simp))
    | bl j => cases ry; exact PySem.EqNone.ne_none_bool (fin_bl I q (by simp))
    | int j => obtain ⟨t', rfl⟩ := ry; exact PySem.EqNone.ne_none_int (fin_bl I q (by simp))
    | str j => obtain ⟨t', rfl⟩ := ry; exact PySem.EqNone.ne_none_str (fin_bl I q (by simp))
    | _ => exact absurd (show false = true from hs) Bool.false_ne_true
  | bl i =>
    cases rx
    cases y with
    | non => cases ry; exact PySem.EqNone.ne_bool_none (fin_bl I q (by simp))
    | bl j => cases ry; exact ne_bool (fin_bl I q (congrArg not dec_bl))
    | str j => obtain ⟨t', rfl⟩ := ry; exact PySem.EqMixed.ne_bool_str (fin_bl I q (by simp))
    | _ => exact absurd (show false = true from hs) Bool.false_ne_true
  | int i =>
    obtain ⟨t, rfl⟩ := rx
    cases y with
    | non => cases ry; exact PySem.EqNone.ne_int_none (fin_bl I q (by simp))
    | int j => obtain ⟨t', rfl⟩ := ry; exact ne_int (fin_bl I q (congrArg not dec_int))
    | str j => obtain ⟨t', rfl⟩ := ry; exact PySem.EqMixed.ne_int_str (fin_bl I q (by simp))
    | _ => exact absurd (show false = true from hs) Bool.false_ne_true
  | str i =>
    obtain ⟨t, rfl⟩ := rx
    cases y with
    | non => cases ry; exact PySem.EqNone.ne_str_none (fin_bl I q (by simp))
    | bl j => cases ry; exact PySem.EqMixed.ne_str_bool (fin_bl I q (by simp))
    | int j => obtain ⟨t', rfl⟩ := ry; exact PySem.EqMixed.ne_str_int (fin_bl I q (by simp))
    | str j => obtain ⟨t', rfl⟩ := ry; exact ne_str (fin_bl I q (congrArg not dec_str))
    | _ => exact absurd (show false = true from hs) Bool.false_ne_true
  | byt i =>
    obtain ⟨t, rfl⟩ := rx
    cases y with
    | byt j => obtain ⟨t', rfl⟩ := ry; exact PySem.W.ne_bytes (fin_bl I q (congrArg not dec_byt))
    | _ => exact absurd (show false = true from hs) Bool.false_ne_true
  | _ => cases y <;> exact absurd (show false = true from hs) Bool.false_ne_true

theorem op_lt : OpR X (compareOp .Lt) (rI0 fun i j => .bl (decide (i < j))) := opB0 fun _ _ _ _ _ _ _ q => lt_int q
theorem op_le : OpR X (compareOp .LtE) (rI0 fun i j => .bl (decide (i ≤ j))) := opB0 fun _ _ _ _ _ _ _ q => le_int q
theorem op_gt : OpR X (compareOp .Gt) (rI0 fun i j => .bl (decide (j < i))) := opB0 fun _ _ _ _ _ _ _ q => gt_int q

/-- two rules for one operation: by cases -/
theorem OpR.or {f : Value → Value → Sem Value} {r r' : R2} (h : OpR X f r) (h' : OpR X f r') : OpR X f (fun x y H Q => r x y H Q ∨ r' x y H Q) := by
  intro pins s σ H x y v u Q I rx ry q
  rcases q with q | q
  · exact h pins s σ H x y v u Q I rx ry q
  · exact h' pins s σ H x y v u Q I rx ry q

theorem nomark (b : Expr) {op : CmpOp} (h : op ≠ .In := by decide) (h2 : op ≠ .NotIn := by decide) : behindInMarks op b = false := by
  have e1 : (op == CmpOp.In) = false := by cases op <;> first | rfl | exact absurd rfl h
  have e2 : (op == CmpOp.NotIn) = false := by cases op <;> first | rfl | exact absurd rfl h2
  cases b <;> simp [behindInMarks, e1, e2]
/-- a comparison as a value; hm: nomark b, or (for in, not in) by with_unfolding_all rfl -/
theorem pe_cmpR {op : CmpOp} {r : R2} (ho : OpR X (compareOp op) r) (ha : PE X a ta) (hb : PE X b tb) (hm : behindInMarks op b = false) : PE X (.Compare a [op] [b] pos) (tOp r ta tb) := by
  intro pins s σ H Q I h
  exact wpAny_Compare1 (binT ha hb I h fun v u s2 x y H2 I2 rx ry q => ho pins s2 σ H2 x y v u Q I2 rx ry q) hm
/-- a reading of a value as a test -/
def tTest (t : TE) : TT := fun σ H Q => t σ H fun x H' => ∃ k, x = .bl k ∧ Q k H'
theorem pt_cmpR {op : CmpOp} {r : R2} (ho : OpR X (compareOp op) r) (ha : PE X a ta) (hb : PE X b tb) (hm : behindInMarks op b = false) : PT X (.Compare a [op] [b] pos) (tTest (tOp r ta tb)) := by
  intro pins s σ H Q I h
  refine wpAny_isTrue_Compare1 (thn (ha pins s σ H _ I h) fun v s1 ⟨x, H1, I1, r1, q1⟩ => thn (hb pins s1 σ H1 _ I1 q1) fun u s2 ⟨y, H2, I2, r2, q2⟩ =>
    thn (ho pins s2 σ H2 x y v u _ I2 r1 r2 q2) fun c s3 ⟨z, H3, I3, r3, k, e, q3⟩ => ?_) hm
  subst e
  cases r3
  exact wpAny_truthy_bool ⟨H3, I3, q3⟩
/-- a op1 b op2 c -/
def tChain (r r' : R2) (ta tb tc : TE) : TE := fun σ H Q => ta σ H fun x H1 => tb σ H1 fun y H2 => r x y H2 fun z H3 => ∃ k, z = .bl k ∧
  (if k = true then tc σ H3 fun w' H4 => r' y w' H4 Q else Q (.bl false) H3)
theorem pe_chain {op op' : CmpOp} {r r' : R2} (ho : OpR X (compareOp op) r) (ho' : OpR X (compareOp op') r') (ha : PE X a ta) (hb : PE X b tb) (hc : PE X c tc)
    (hm : lastMarks [op, op'] [b, c] = false := by with_unfolding_all rfl) : PE X (.Compare a [op, op'] [b, c] pos) (tChain r r' ta tb tc) := by
  intro pins s σ H Q I h
  refine Compare_chain (thn (ha pins s σ H _ I h) fun v s1 ⟨x, H1, I1, r1, q1⟩ => chain_link (thn (hb pins s1 σ H1 _ I1 q1) fun u s2 ⟨y, H2, I2, r2, q2⟩ =>
    thn (ho pins s2 σ H2 x y v u _ I2 r1 r2 q2) fun d s3 ⟨z, H3, I3, r3, k, e, q3⟩ => ?_)) hm
  subst e
  cases r3
  refine wpAny_truthy_bool ?_
  cases k with
  | false => exact ite_ff ⟨.bl false, H3, I3, rfl, q3⟩
  | true => exact ite_tt (chain_last (thn (hc pins s3 σ H3 _ I3 q3) fun w' s4 ⟨z', H4, I4, r4, q4⟩ => ho' pins s4 σ H4 y z' u w' Q I4 r2 r4 q4))

theorem line63 : (sizeLine : Nat) < 2 ^ 63 := by rw [sizeLine_eq]; decide

theorem vals1 {x : V} {us : List Value} (r : Vals [x] us) : ∃ u, us = [u] ∧ RelV x u := by
  cases r with
  | cons r1 r2 => cases r2; exact ⟨_, rfl, r1⟩
theorem call_ord : CallR X (.builtin "ord") (fun xs H Q => ∃ x, xs = [.str x] ∧ x.length = 1 ∧ Q (.int (x.cps.getD 0 0 : Nat)) H) := by
  intro pins s σ H xs us Q I r h
  obtain ⟨x, rfl, hz, q⟩ := h
  obtain ⟨u, rfl, t, rfl⟩ := vals1 r
  exact ord_of_one hz ⟨.int _, H, I.tok _, ⟨_, rfl⟩, q⟩
end
end L2

namespace L2
open PySem PySem.Spec PyProof.Rows

structure ObjM (h : Heap) (x dx C : Addr) (mA : Str → Option Value) : Prop where
  obj : h.get? x = some (PySem.W.instObj C dx)
  ns : h.Ns1 dx mA
  ne : dx ≠ x

theorem lookIn_ns {h : Heap} {dx : Addr} {mA : Str → Option Value} (n : h.Ns1 dx mA) : ∃ od, h.get? dx = some od ∧ ∀ name, PySem.W.lookIn name od = some (mA name) := by
  obtain ⟨o, es, ep, ho, hd, hk, _, hm⟩ := n
  refine ⟨o, ho, fun name => ?_⟩
  have e := hm name
  unfold nsFind findBy at e
  rw [← Array.find?_toList] at e
  unfold PySem.W.lookIn
  rw [hd]
  dsimp only
  split
  · rename_i y q
    rw [q] at e
    exact congrArg some e
  · rename_i q
    rw [q] at e
    have a : es.toList.any (·.refKey) = false := by
      rw [List.any_eq_false]
      intro y hy
      obtain ⟨z, t, hkey⟩ := hk y (Array.mem_toList_iff.mp hy)
      simp [DictEntry.refKey, hkey]
    have a' : ¬ es.toList.any (·.refKey) = true := by rw [a]; exact Bool.false_ne_true
    rw [if_neg a']
    exact congrArg some e

theorem ObjM.look {h : Heap} {x dx C : Addr} {mA : Str → Option Value} (I : ObjM h x dx C mA) : ∃ od, PySem.W.InstAt h x (PySem.W.instObj C dx) C (some od) ∧ ∀ name, PySem.W.lookIn name od = some (mA name) :=
  let ⟨od, ho, hl⟩ := lookIn_ns I.ns
  ⟨od, ⟨I.obj, rfl, rfl, ho⟩, hl⟩

section
variable {prog : Program} {w : World} {A : Around} {E : Value → Shared → Prop} {s : Shared} {K : PySem.W.Frag} {x dx C f : Addr} {mA : Str → Option Value} {name : Str} {v : Value}

theorem get_map {expr : Bool} {Q : Value → Shared → Prop} (X : K.In s.heap) (I : ObjM s.heap x dx C mA) (hg : PySem.W.plainGet K C name = true) (hh : PySem.W.hasDictIn K C = true)
    (ha : PySem.W.findIn K (.ref C) name = some none) (hv : mA name = some v) (hv' : PySem.W.handedIn v = true) (h : Q v { s with toks := s.toks + 1 }) :
    wpAny (model prog w) A (getAttr (.ref x) name expr) Q E s := by
  obtain ⟨od, J, hl⟩ := I.look
  exact PySem.W.get_value X J (PySem.W.plainGet_of hg).1 (PySem.W.findObj_own hh ha rfl (by rw [hl, hv])) hv' h

theorem set_map {ns : List Str} {Q : Unit → Shared → Prop} (X : K.In s.heap) (I : ObjM s.heap x dx C mA)
    (hs : PySem.W.findIn K (.ref C) "__setattr__" = some (some (.builtin "object.__setattr__"))) (hp : PySem.W.plainOver K C = true) (ht : PySem.W.takerIn K C name = some none) (hh : PySem.W.hasDictIn K C = true)
    (hw : PySem.Within mA ns) (hsz : ns.length ≤ sizeLine)
    (h : ∀ h', ObjM h' x dx C (fun y => if y = name then some v else mA y) → Heap.SameBut dx s.heap h' → Q () { s with heap := h', toks := s.toks + 2 }) :
    wpAny (model prog w) A (setAttr (.ref x) name v) Q E s := by
  obtain ⟨od, J, hl⟩ := I.look
  refine PySem.W.set_plain X J hs (PySem.W.osa_open (s := { s with toks := s.toks + 1 }) (r := none) X J hp ht fun b => ?_)
  obtain ⟨cd, hc, hd'⟩ := PySem.W.any_some hh
  have hx : s.heap.get? x = some ⟨.ref C, some dx, .plain, #[]⟩ := I.obj
  refine wpAny_bind (wpAny_pure (wpAny_bind (wpAny_bind (wpAny_loadPart hx (wpAny_bind (PySem.W.Looks.here (s := { s with toks := s.toks + 1 }) (PySem.W.looks_clsIn X hc) ?_))))))
  rw [hd']
  refine wpAny_pure (a := some dx) (wpAny_bind (wpAny_pure (wpAny_bind ?_)))
  refine wpAny_nsSet1 (s := { s with toks := s.toks + 1 }) I.ns fun h' hn2 hs2 => ?_
  obtain ⟨oD, esD, epD, hoD, hdD, hcD⟩ := hn2.count (PySem.Within.cons name v hw)
  refine wpAny_bind (wpAny_lookBehind hoD (by rw [hdD]; exact pastItsLine_dict (Nat.le_trans hcD (by rw [List.length_cons]; omega))) ?_)
  exact wpAny_pure (h _ ⟨(hs2.2 _ (Ne.symm I.ne)).trans I.obj, hn2, I.ne⟩ hs2)

/-- C(..): the dict at the heap's end, the instance behind it; then its __init__ -/
theorem make_map {R : Result → Shared → Prop} {vs : List Value} {kw : List (Str × Value)} (X : K.In s.heap) (hm : PySem.W.makesIn K C = true)
    (hi : PySem.W.findIn K (.ref C) "__init__" = some (some (.ref f))) (hf : PySem.W.typeIn K (.ref f) = some (.type "function"))
    (h : codeAny (model prog w) (A.under (.builtin "type.__call__" ⟨.ref C :: vs, kw⟩)) (.call (.ref f) ⟨.ref (s.heap.objs.size + 1) :: vs, kw⟩) (PySem.W.InitBack (s.heap.objs.size + 1) R)
      { s with heap := (s.heap.push PySem.W.emptyDict).push (PySem.W.instObj C s.heap.objs.size) }) :
    codeAny (model prog w) A (.call (.ref C) ⟨vs, kw⟩) R s := by
  obtain ⟨hh, g, d, t, os⟩ := s
  exact PySem.W.make_core (PySem.W.makes_of X hm) (PySem.W.looks_findIn X hi) (fun self => PySem.W.bind_fn X self hf) (.inl rfl) h
end

def putF (f : Str) (v : V) : List (Str × V) → List (Str × V)
  | [] => [(f, v)]
  | (g, x) :: r => if g = f then (g, v) :: r else (g, x) :: putF f v r
theorem lookup_putF (f g : Str) (v : V) : ∀ fs : List (Str × V), (putF f v fs).lookup g = if g = f then some v else fs.lookup g
  | [] => by
    show List.lookup g [(f, v)] = _
    by_cases h : g = f
    · have hb : (g == f) = true := beq_iff_eq.mpr h
      simp only [List.lookup, hb, if_pos h]
    · have hb : (g == f) = false := beq_eq_false_iff_ne.mpr h
      simp only [List.lookup, hb, if_neg h]
  | (k, x) :: r => by
    have ih := lookup_putF f g v r
    rw [show putF f v ((k, x) :: r) = (if k = f then (k, v) :: r else (k, x) :: putF f v r) from rfl]
    by_cases hk : k = f
    · rw [if_pos hk]
      by_cases h : g = k
      · have hb : (g == k) = true := beq_iff_eq.mpr h
        simp only [List.lookup, hb, if_pos (h.trans hk)]
      · have hb : (g == k) = false := beq_eq_false_iff_ne.mpr h
        simp only [List.lookup, hb, if_neg (fun e : g = f => h (e.trans hk.symm))]
    · rw [if_neg hk]
      by_cases h : g = k
      · have hb : (g == k) = true := beq_iff_eq.mpr h
        simp only [List.lookup, hb, if_neg (fun e : g = f => hk (h.symm.trans e))]
      · have hb : (g == k) = false := beq_eq_false_iff_ne.mpr h
        simp only [List.lookup, hb]
        exact ih
theorem keys_putF (f : Str) (v : V) : ∀ fs : List (Str × V), f ∈ (putF f v fs).map (·.1) ∧ ∀ g, g ∈ fs.map (·.1) → g ∈ (putF f v fs).map (·.1)
  | [] => ⟨by simp [putF], fun g h => by simp at h⟩
  | (k, x) :: r => by
    obtain ⟨i1, i2⟩ := keys_putF f v r
    rw [show putF f v ((k, x) :: r) = (if k = f then (k, v) :: r else (k, x) :: putF f v r) from rfl]
    by_cases hk : k = f
    · rw [if_pos hk]
      subst hk
      exact ⟨by simp, fun g h => by simpa using h⟩
    · rw [if_neg hk]
      refine ⟨?_, fun g h => ?_⟩
      · rw [List.map_cons]
        exact List.mem_cons_of_mem _ i1
      · rw [List.map_cons] at h ⊢
        rcases List.mem_cons.mp h with e | e
        · exact List.mem_cons.mpr (.inl e)
        · exact List.mem_cons_of_mem _ (i2 g e)
theorem length_putF (f : Str) (v : V) : ∀ fs : List (Str × V), (putF f v fs).length ≤ fs.length + 1
  | [] => by simp [putF]
  | (k, x) :: r => by
    have ih := length_putF f v r
    rw [show putF f v ((k, x) :: r) = (if k = f then (k, v) :: r else (k, x) :: putF f v r) from rfl]
    by_cases hk : k = f
    · rw [if_pos hk, List.length_cons, List.length_cons]; omega
    · rw [if_neg hk, List.length_cons, List.length_cons]; omega

theorem RelO.some_of {v : V} {o : Option Value} (r : RelO (some v) o) : ∃ u, o = some u ∧ RelV v u := by
  cases o with
  | none => exact (show False from r).elim
  | some u => exact ⟨u, rfl, r⟩
theorem handed_of {v : V} {u : Value} (r : RelV v u) : PySem.W.handedIn u = true := by
  cases v with
  | non => cases (show u = Value.none from r); rfl
  | bl b => cases (show u = Value.bool b from r); rfl
  | int i => obtain ⟨t, e⟩ := (show ∃ t, u = Value.int i t from r); cases e; rfl
  | str x => obtain ⟨t, e⟩ := (show ∃ t, u = Value.str x t from r); cases e; rfl
  | byt b => obtain ⟨t, e⟩ := (show ∃ t, u = Value.bytes b t from r); cases e; rfl
  | flt b => obtain ⟨t, e⟩ := (show ∃ t, u = Value.float b t from r); cases e; rfl
  | ref a => cases (show u = Value.ref a from r); rfl
  | ty n => cases (show u = Value.type n from r); rfl

section
variable {P : Program} {w : World} {H H' : Hp} {h h' : Heap} {a C dx : Addr} {fs fs' : List (Str × V)}
theorem ins_get (hok : HOk P w H h) (e : H a = some (.ins C dx fs)) : ∃ mA, ObjM h a dx C mA ∧ (∀ f, RelO (fs.lookup f) (mA f)) ∧ PySem.Within mA (fs.map (·.1)) ∧ fs.length ≤ 1000 ∧ H dx = some (.own a) := by
  obtain ⟨d, z, ne, ob, mA, n, r, q⟩ := (show ObjOk P w H h a (.ins C dx fs) from hok a _ e)
  exact ⟨mA, ⟨ob, n, ne⟩, r, q, z, d⟩
end

structure Cls (K : PySem.W.Frag) (C : Addr) : Prop where
  pg : PySem.W.plainGet K C Str.empty = true
  hd : PySem.W.hasDictIn K C = true
  po : PySem.W.plainOver K C = true
  sa : PySem.W.findIn K (.ref C) "__setattr__" = some (some (.builtin "object.__setattr__"))
theorem Cls.get {K : PySem.W.Frag} {C : Addr} (c : Cls K C) (f : Str) : PySem.W.plainGet K C f = true := c.pg
/-- no class of it has the name -/
def NoAttr (K : PySem.W.Frag) (C : Addr) (f : Str) : Prop := PySem.W.findIn K (.ref C) f = some none
theorem NoAttr.taker {K : PySem.W.Frag} {C : Addr} {f : Str} (n : NoAttr K C f) : PySem.W.takerIn K C f = some none := by
  unfold PySem.W.takerIn
  rw [show PySem.W.findIn K (.ref C) f = some none from n]
  rfl

section
variable {X : Cx} {pins : List (Addr × Obj)} {σ : St} {H : Hp} {s : Shared} {a C dx : Addr} {fs : List (Str × V)} {f : Str} {v : V} {A : Around} {E : Value → Shared → Prop}

theorem getattr_ok {b : Bool} {Q : Value → Shared → Prop} (I : Inv X pins σ H s) (e : H a = some (.ins C dx fs)) (c : Cls X.K C) (n : NoAttr X.K C f) (l : fs.lookup f = some v)
    (h : ∀ u s', Inv X pins σ H s' → RelV v u → Q u s') : wpAny (model X.prog X.w) A (getAttr (.ref a) f b) Q E s := by
  obtain ⟨mA, O, r, _, _, _⟩ := ins_get I.hok e
  obtain ⟨u, hu, ru⟩ := RelO.some_of (v := v) (o := mA f) (by rw [← l]; exact r f)
  exact get_map I.kIn O (c.get f) c.hd n hu (handed_of ru) (h u _ (I.tok _) ru)

theorem setattr_ok {y : V} {u : Value} {Q : Unit → Shared → Prop} (I : Inv X pins σ H s) (e : H a = some (.ins C dx fs)) (c : Cls X.K C) (n : NoAttr X.K C f) (hl : fs.length < 1000) (ry : RelV y u)
    (h : ∀ s', Inv X pins σ (upd H a (.ins C dx (putF f y fs))) s' → Q () s') : wpAny (model X.prog X.w) A (setAttr (.ref a) f u) Q E s := by
  obtain ⟨mA, O, r, wi, _, ho⟩ := ins_get I.hok e
  have hz : (fs.map (·.1)).length ≤ sizeLine := by rw [List.length_map, sizeLine_eq]; omega
  refine set_map I.kIn O c.sa c.po n.taker c.hd wi hz fun h' O' sb => h _ ?_
  have hd : ∃ o, h'.get? dx = some o := let ⟨o, _, _, e', _⟩ := O'.ns; ⟨o, e'⟩
  refine I.write (x := a) (e := dx) (by rw [e]; exact True.intro) (.inr ho) (fun b q hb z => (sb.2 b hb).trans z) hd ?_
  refine ⟨by rw [upd_ne O.ne]; exact ho, ?_, O.ne, O'.obj, _, O'.ns, fun g => ?_, fun g hg => ?_⟩
  · have := length_putF f y fs; omega
  · show RelO ((putF f y fs).lookup g) (if g = f then some u else mA g)
    rw [lookup_putF]
    by_cases q : g = f
    · rw [if_pos q, if_pos q]; exact ry
    · rw [if_neg q, if_neg q]; exact r g
  · by_cases q : g = f
    · rw [q]; exact (keys_putF f y fs).1
    · refine (keys_putF f y fs).2 g (wi g fun z => hg ?_)
      show (if g = f then some u else mA g) = none
      rw [if_neg q]; exact z

/-- a new instance, tracked, without attributes -/
theorem Inv.made (I : Inv X pins σ H s) : Inv X pins σ (upd (upd H s.heap.objs.size (.own (s.heap.objs.size + 1))) (s.heap.objs.size + 1) (.ins C s.heap.objs.size []))
    { s with heap := (s.heap.push PySem.W.emptyDict).push (PySem.W.instObj C s.heap.objs.size) } := by
  have e1 : (s.heap.push PySem.W.emptyDict).get? s.heap.objs.size = some PySem.W.emptyDict := Heap.get?_push_size s.heap rfl
  have e2 : ((s.heap.push PySem.W.emptyDict).push (PySem.W.instObj C s.heap.objs.size)).get? (s.heap.objs.size + 1) = some (PySem.W.instObj C s.heap.objs.size) := by
    have := Heap.get?_push_size (s.heap.push PySem.W.emptyDict) (o := PySem.W.instObj C s.heap.objs.size) rfl
    rwa [Heap.size_push] at this
  have e3 : (s.heap.push PySem.W.emptyDict).Ns s.heap.objs.size (fun _ => none) := ⟨PySem.W.emptyDict, #[], _, e1, rfl, (fun e he => absurd he (by simp)), fun _ => rfl⟩
  have I1 := I.laid (a := s.heap.objs.size) (o := .own (s.heap.objs.size + 1)) (h' := s.heap.push PySem.W.emptyDict) (t' := s.toks) (fun b u q => Heap.get?_push_of_some _ q) (Nat.le_refl _) ⟨_, e1⟩
  refine I1.laid (a := s.heap.objs.size + 1) (o := .ins C s.heap.objs.size []) (t' := s.toks) (fun b u q => Heap.get?_push_of_some _ q) (Nat.le_of_eq (Heap.size_push _ _)) ?_
  have ne : s.heap.objs.size ≠ s.heap.objs.size + 1 := Nat.ne_of_lt (Nat.lt_succ_self _)
  refine ⟨by rw [upd_ne ne, upd_same], Nat.zero_le _, ne, e2, fun _ => none, (Heap.Ns1.of_empty e3).at fun o q => Heap.get?_push_of_some _ q, fun _ => True.intro, fun y hy => absurd rfl hy⟩

/-- e.f where nothing but the object is asked: through attributeBase (super) and the last hold -/
theorem attr_of {prog : Program} {w : World} {env : Env} {e : Expr} {f : Str} {pos : Pos} {s : Shared} {Q : Value → Shared → Prop} (hb : attributeBase e f env (eval e env) = eval e env)
    (h : wpAny (model prog w) A (eval e env) (fun o s₁ => wpAny (model prog w) A (getAttr o f true) Q E s₁) E s) : wpAny (model prog w) A (eval (.Attribute e f pos) env) Q E s :=
  Attribute_any_ h (by rw [arm_eval_Attribute, hb])
end

/-- e.f, an attribute of the instance -/
def tFld (K : PySem.W.Frag) (ta : TE) (f : Str) : TE := fun σ H Q => ta σ H fun x H1 => ∃ a C dx fs v, x = .ref a ∧ H1 a = some (.ins C dx fs) ∧ Cls K C ∧ NoAttr K C f ∧ fs.lookup f = some v ∧ Q v H1
/-- e.f = value -/
def sFld (K : PySem.W.Frag) (ta tv : TE) (f : Str) : TS := fun D σ H => tv σ H fun y H1 => ta σ H1 fun x H2 => ∃ a C dx fs, x = .ref a ∧ H2 a = some (.ins C dx fs) ∧ Cls K C ∧ NoAttr K C f ∧ fs.length < 1000 ∧
  D.nx σ (upd H2 a (.ins C dx (putF f y fs)))

section
variable {X : Cx} {o e value : Expr} {f : Str} {pos pos' tpos : Pos} {ta tv : TE}
theorem pe_fld (he : PE X e ta) (hb : attributeBase e f X.env (eval e X.env) = eval e X.env) : PE X (.Attribute e f pos) (tFld X.K ta f) := by
  intro pins s σ H Q I h
  refine attr_of hb (thn (he pins s σ H _ I h) fun u s1 ⟨x, H1, I1, rx, a, C, dx, fs, v, ex, ea, c, n, l, q⟩ => ?_)
  subst ex
  obtain rfl : u = Value.ref a := rx
  exact getattr_ok I1 ea c n l fun u' s2 I2 ru => ⟨v, H1, I2, ru, q⟩
theorem ps_fld (ha : PE X o ta) (hv : PE X value tv) (hs : swapsWith value (some (.Attribute o f pos')) pos.line X.env = pure false) : PS X (.Assign [.Attribute o f pos'] value pos) (sFld X.K ta tv f) := by
  intro pins s σ H D I h
  refine plainObj_wpAny_Assign_Attribute (thn (hv pins s σ H _ I h) fun u s1 ⟨y, H1, I1, ry, q⟩ => thn (ha pins s1 σ H1 _ I1 q) fun ov s2 ⟨x, H2, I2, rx, a, C, dx, fs, ex, ea, c, n, l, q2⟩ => ?_) hs
  subst ex
  obtain rfl : ov = Value.ref a := rx
  exact setattr_ok I2 ea c n l ry fun s3 I3 => ⟨σ, _, I3, q2⟩

end

section
variable {X : Cx} {pins : List (Addr × Obj)} {σ : St} {H : Hp} {s : Shared} {A : Around} {E : Value → Shared → Prop} {Q : Value → Shared → Prop} {c : Value} {b : Bool}
end
end L2

namespace L2
open PySem PySem.Spec PyProof.Rows

structure Room (k : Nat) (A : Around) : Prop where
  hd : A.handled = none
  dp : A.depth + 3 * k + 5 < recursionLimit
  un : A.units + 16 * k + 200 < cLine
theorem Room.mono {j k : Nat} {A : Around} (r : Room k A) (h : j ≤ k) : Room j A := ⟨r.hd, by have := r.dp; omega, by have := r.un; omega⟩
theorem Room.deeper {k : Nat} {A : Around} (r : Room (k + 1) A) (env : Env) : Room k (A.deeper env) :=
  ⟨r.hd, by have := r.dp; show A.depth + 1 + 3 * k + 5 < _; omega, by have := r.un; show A.units + 3 + 16 * k + 200 < _; omega⟩
theorem Room.in1 {k : Nat} {A : Around} (r : Room (k + 1) A) : Room k A.in1 :=
  ⟨r.hd, by have := r.dp; show A.depth + 3 * k + 5 < _; omega, by have := r.un; show A.units + 1 + 16 * k + 200 < _; omega⟩
theorem make_depth {A : Around} {C : Addr} {us : List Value} {kw : List (Str × Value)} : (A.under (.builtin "type.__call__" ⟨.ref C :: us, kw⟩)).depth = A.depth + 1 := by
  first | rfl | simp [Around.under, Code.weight, Code.isCreation, Code.isGuard, Code.isCaller, Code.frames, Code.isFrame, guardIds]
theorem make_units {A : Around} {C : Addr} {us : List Value} {kw : List (Str × Value)} : (A.under (.builtin "type.__call__" ⟨.ref C :: us, kw⟩)).units = A.units + 1 := by
  first | rfl | simp [Around.under, Code.cUnits, Code.frames, Code.isFrame]
theorem Room.make {k : Nat} {A : Around} (r : Room (k + 1) A) (C : Addr) (us : List Value) (kw : List (Str × Value)) : Room k (A.under (.builtin "type.__call__" ⟨.ref C :: us, kw⟩)) :=
  ⟨r.hd, by have := r.dp; rw [make_depth]; omega, by have := r.un; rw [make_units]; omega⟩
theorem Room.depth {k : Nat} {A : Around} (r : Room k A) : A.depth < recursionLimit := by have := r.dp; omega
theorem Room.units {k : Nat} {A : Around} (r : Room k A) : A.units + 64 < cLine := by have := r.un; omega

def tNil : TA := fun _ H Q => Q [] H
def tCons (ta : TE) (tr : TA) : TA := fun σ H Q => ta σ H fun x H1 => tr σ H1 fun xs H2 => Q (x :: xs) H2
section
variable {X : Cx} {e : Expr} {es : List Expr} {te : TE} {t : TA} {pos : Pos}
theorem pa_nil : PA X [] tNil := fun _ _ _ _ H Q I h => Calls.spliced_nil ⟨[], H, I, .nil, h⟩
theorem pa_cons (ha : PE X e te) (hr : PA X es t) (hs : starEach (e :: es) X.env = (false, eval e X.env) :: starEach es X.env := by rfl) : PA X (e :: es) (tCons te t) := by
  intro pos pins s σ H Q I h
  rw [hs]
  show wpAny _ _ (spliced ((false, eval e X.env) :: backTo pos (starEach es X.env))) _ _ s
  refine Calls.spliced_cons (thn (ha pins s σ H _ I h) fun u s1 ⟨x, H1, I1, r1, q1⟩ => ?_)
  exact thn (hr pos pins s1 σ H1 _ I1 q1) fun us s2 ⟨xs, H2, I2, r2, q2⟩ => ⟨x :: xs, H2, I2, .cons r1 r2, q2⟩

/-- a tuple, a list of written items -/
def tTup (t : TA) : TE := fun σ H Q => t σ H fun xs H1 => xs.length ≤ sizeLine ∧ ∀ p, H1 p = none → Q (.ref p) (upd H1 p (.tup xs))
def tLst (t : TA) : TE := fun σ H Q => t σ H fun xs H1 => xs.length ≤ sizeLine ∧ ∀ p, H1 p = none → Q (.ref p) (upd H1 p (.lst xs))
theorem pe_tup {x1} (h : PA X es t) : PE X (.Tuple es x1 pos) (tTup t) := by
  intro pins s σ H Q I hq
  refine wpAny_Tuple_spliced (thn (h pos pins s σ H _ I hq) fun us s1 ⟨xs, H1, I1, r, z, q⟩ => ⟨by rw [← r.length]; exact z, ?_⟩)
  have hf : H1 s1.heap.objs.size = none := I1.hok.fresh (Nat.le_refl _)
  refine ⟨.ref s1.heap.objs.size, upd H1 s1.heap.objs.size (.tup xs), I1.laid (t' := s1.toks) (fun b u e => Heap.get?_push_of_some _ e) (Nat.le_refl _) ?_, rfl, q _ hf⟩
  exact ⟨z, us, r, ⟨_, Heap.get?_push_size _ rfl, rfl, _, rfl⟩⟩
theorem pe_lst (h : PA X es t) : PE X (.List es pos) (tLst t) := by
  intro pins s σ H Q I hq
  refine wpAny_List_spliced (thn (h pos pins s σ H _ I hq) fun us s1 ⟨xs, H1, I1, r, z, q⟩ => ⟨by rw [← r.length]; exact z, ?_⟩)
  have hf : H1 s1.heap.objs.size = none := I1.hok.fresh (Nat.le_refl _)
  refine ⟨.ref s1.heap.objs.size, upd H1 s1.heap.objs.size (.lst xs), I1.laid (t' := s1.toks) (fun b u e => Heap.get?_push_of_some _ e) (Nat.le_refl _) ?_, rfl, q _ hf⟩
  exact ⟨z, us, 0, r, Heap.get?_push_size _ rfl⟩
end

/-- a def's promise: the bound arguments in the parameters' order, the heap, the wanted end, the wanted exception -/
abbrev Sp := List V → Hp → VK → XK → Prop
/-- how an exception lies behind a call (file 08 gives it): the callers' frames, abstract heap and state ahead of the call, the wish, the exception, the state -/
abbrev CXT := List Env → Hp → Shared → XK → Value → Shared → Prop

/-- the state at a call -/
structure Env0 (P : Program) (w : World) (K : PySem.W.Frag) (mg : Str → Option Value) (base : Heap) (A : Around) (outer : List Env) (s : Shared) (H : Hp) : Prop where
  frames : A.frames = some outer
  mod : Mod K mg base
  bs : ∀ b o, base.get? b = some o → s.heap.get? b = some o ∧ H b = none
  bsz : base.objs.size ≤ s.heap.objs.size
  funs : s.heap.FunFrames base outer
  frf : ∀ b ∈ frs outer, H b = none
  hok : HOk P w H s.heap
  bare : AllBare s.gens
/-- a call's end -/
def CE (outer : List Env) (P : Program) (w : World) (H : Hp) (s : Shared) (Q : VK) (u : Value) (s' : Shared) : Prop :=
  ∃ v H', s'.os = s.os ∧ AllBare s'.gens ∧ Un (frs outer) [] H H' s.heap s'.heap ∧ HOk P w H' s'.heap ∧ RelV v u ∧ Q v H'
def CR (CX : CXT) (outer : List Env) (P : Program) (w : World) (H : Hp) (s : Shared) (Q : VK) (E : XK) (r : Result) (s' : Shared) : Prop :=
  match r with
  | .ok (.ret u) => CE outer P w H s Q u s'
  | .ok _ => False
  | .error e => CX outer H s E e s'
structure FnOk (P : Program) (w : World) (K : PySem.W.Frag) (mg : Str → Option Value) (base : Heap) (CX : CXT) (k : Nat) (f : Addr) (fd : FuncData) (ps : List Str) (sp : Sp) : Prop where
  len : ∀ vs H Q E, sp vs H Q E → vs.length = ps.length
  run : ∀ (A : Around) (outer : List Env) (s : Shared) (H : Hp) (args : Args) (us : List Value) (vs : List V) (Q : VK) (E : XK), Room k A → Env0 P w K mg base A outer s H → BindsTo s fd args (ps.zip us) → Vals vs us → sp vs H Q E →
    codeAny (model P w) A (.call (.ref f) args) (CR CX outer P w H s Q E) s
theorem FnOk.mono {P : Program} {w : World} {K : PySem.W.Frag} {mg : Str → Option Value} {base : Heap} {CX : CXT} {j k : Nat} {f : Addr} {fd : FuncData} {ps : List Str} {sp : Sp} (F : FnOk P w K mg base CX j f fd ps sp) (h : j ≤ k) :
    FnOk P w K mg base CX k f fd ps sp := ⟨F.len, fun A outer s H args us vs Q E hr => F.run A outer s H args us vs Q E (hr.mono h)⟩

theorem Env0.make {P : Program} {w : World} {K : PySem.W.Frag} {mg : Str → Option Value} {base : Heap} {A : Around} {outer : List Env} {s : Shared} {H : Hp} (e : Env0 P w K mg base A outer s H) (C : Addr) (us : List Value) (kw : List (Str × Value)) :
    Env0 P w K mg base (A.under (.builtin "type.__call__" ⟨.ref C :: us, kw⟩)) outer s H := ⟨by first | exact e.frames | (simpa [Around.under, Code.envs, Code.isFrame, pushEnvs] using e.frames), e.mod, e.bs, e.bsz, e.funs, e.frf, e.hok, e.bare⟩
theorem Env0.in1 {P : Program} {w : World} {K : PySem.W.Frag} {mg : Str → Option Value} {base : Heap} {A : Around} {outer : List Env} {s : Shared} {H : Hp} (e : Env0 P w K mg base A outer s H) :
    Env0 P w K mg base A.in1 outer s H := ⟨e.frames, e.mod, e.bs, e.bsz, e.funs, e.frf, e.hok, e.bare⟩

section
variable {X : Cx} {pins : List (Addr × Obj)} {σ : St} {H : Hp} {s s' : Shared}
/-- from a body: what a callee wants -/
theorem Inv.env0 (I : Inv X pins σ H s) : Env0 X.prog X.w X.K X.mg X.base X.A X.stack s H :=
  ⟨I.ok.frames, I.ok.mod, I.bs, Nat.le_trans I.ok.bsz I.sz, I.stack, I.stkFree, I.hok, I.bare⟩
/-- behind a call -/
theorem Inv.after {Q : VK} {u : Value} (I : Inv X pins σ H s) (h : CE X.stack X.prog X.w H s Q u s') : EP X pins σ Q u s' := by
  obtain ⟨v, H', os, bare, un, hok, r, q⟩ := h
  obtain ⟨hh, g, d, t, os'⟩ := s'
  obtain rfl : os' = s.os := os
  exact ⟨v, H', I.call (h' := hh) (g' := g) (d' := d) (t' := t) (ch := []) un hok bare (fun b z => absurd z (by simp)), r, q⟩
end

/-- f(..): the written arguments, then the defaults dvs; E: what is wanted of an exception -/
def tCall (sp : Sp) (dvs : List V) (E : XK) (t : TA) : TE := fun σ H Q => t σ H fun vs H1 => sp (vs ++ dvs) H1 Q E
/-- C(..): a new instance and its dict, then __init__ -/
def tMake (C : Addr) (sp : Sp) (dvs : List V) (E : XK) (t : TA) : TE := fun σ H Q => t σ H fun vs H1 => ∀ x dx, H1 x = none → H1 dx = none → dx ≠ x →
  sp (.ref x :: (vs ++ dvs)) (upd (upd H1 dx (.own x)) x (.ins C dx [])) (fun v H2 => v = .non ∧ Q (.ref x) H2) E

/-- how the parameters are bound: us the positional arguments, kw the keywords' values by name, ds the defaults that fill up -/
def Binds (K : PySem.W.Frag) (fd : FuncData) (ps : List Str) (ds : List Value) : Prop :=
  ∀ (s : Shared) (us : List Value), K.In s.heap → (us ++ ds).length = ps.length → BindsTo s fd ⟨us, []⟩ (ps.zip (us ++ ds))
/-- every parameter is given -/
theorem Binds.all {K : PySem.W.Frag} {fd : FuncData} {ps : List Str} (h : ∀ us : List Value, us.length = ps.length → bindArgs fd ⟨us, []⟩ = pure (ps.zip us)) : Binds K fd ps [] := fun s us _ hl => by
  rw [List.append_nil] at hl ⊢
  exact .of_eq (h us hl)

/-- an exception of a callee reaches what this body wants of exceptions -/
def Passes (CX : CXT) (X : Cx) (E : XK) : Prop := ∀ (pins : List (Addr × Obj)) (σ : St) (H : Hp) (s : Shared) (e : Value) (s' : Shared), Inv X pins σ H s → CX X.stack H s E e s' → X.xe e s'

section
variable {X : Cx} {CX : CXT} {k : Nat} {f C : Addr} {fd : FuncData} {ps : List Str} {sp : Sp} {dvs : List V} {ds : List Value} {E : XK} {x m : Str} {p pos apos : Pos} {e o : Expr} {es : List Expr} {ta : TE} {t : TA}

/-- the callee runs -/
theorem run_fn {pins : List (Addr × Obj)} {σ : St} {H : Hp} {s : Shared} {Q : VK} {us : List Value} {vs : List V} (F : FnOk X.prog X.w X.K X.mg X.base CX k f fd ps sp) (hr : Room k X.A) (hb : Binds X.K fd ps ds) (hd : Vals dvs ds) (hx : Passes CX X E)
    (I : Inv X pins σ H s) (r : Vals vs us) (h : sp (vs ++ dvs) H Q E) : wpAny (model X.prog X.w) X.A (call (.ref f) us) (EP X pins σ Q) X.xe s := by
  have r2 : Vals (vs ++ dvs) (us ++ ds) := r.append hd
  have hl : (us ++ ds).length = ps.length := by rw [← r2.length]; exact F.len _ _ _ _ h
  refine wpAny_call (codeAny_mono (F.run X.A X.stack s H ⟨us, []⟩ (us ++ ds) (vs ++ dvs) Q E hr I.env0 (hb s us I.kIn hl) r2 h) fun r s' hq => ?_)
  cases r with
  | error e => exact hx pins σ H s e s' I hq
  | ok fl =>
    cases fl with
    | ret u => exact I.after hq
    | next => exact False.elim hq
    | brk => exact False.elim hq
    | cont => exact False.elim hq

theorem pe_call (F : FnOk X.prog X.w X.K X.mg X.base CX k f fd ps sp) (hr : Room k X.A) (hg : Gl X x) (hm : X.mg x = some (.ref f)) (hk : PySem.W.keepIn X.K (.ref f) = true) (hb : Binds X.K fd ps ds) (hd : Vals dvs ds) (hx : Passes CX X E)
    (ha : PA X (e :: es) t) (hdb : (x == ("__debug__" : Str)) = false := by decide) (he : starEach (e :: es) X.env = (false, eval e X.env) :: starEach es X.env := by rfl) (hpl : (backTo pos (starEach es X.env)).any (·.1) = false := by rfl) :
    PE X (.Call (.Name x p) (e :: es) [] pos) (tCall sp dvs E t) := by
  intro pins s σ H Q I h
  refine wpAny_Call_Name_kw (ld_glob I hg hm ?_ hdb)
  refine PySem.W.callWith_K (h₀ := X.base) I.ok.mod.kin hk (thn (ha pos pins s σ H _ I h) fun us s1 ⟨vs, H1, I1, r, q⟩ => ⟨I1.kIn, ?_⟩) he hpl
  exact run_fn F hr hb hd hx I1 r q

/-- what a class must have to be made -/
structure Mk (K : PySem.W.Frag) (C f : Addr) : Prop where
  makes : PySem.W.makesIn K C = true
  init : PySem.W.findIn K (.ref C) "__init__" = some (some (.ref f))
  fn : PySem.W.isFn K (.ref f) = true
  kp : PySem.W.keepIn K (.ref C) = true

theorem run_make {pins : List (Addr × Obj)} {σ : St} {H : Hp} {s : Shared} {Q : VK} {us : List Value} {vs : List V} (M : Mk X.K C f) (F : FnOk X.prog X.w X.K X.mg X.base CX k f fd ps sp) (hr : Room (k + 1) X.A) (hb : Binds X.K fd ps ds) (hd : Vals dvs ds)
    (hx : Passes CX X E) (I : Inv X pins σ H s) (r : Vals vs us)
    (h : ∀ x dx, H x = none → H dx = none → dx ≠ x → sp (.ref x :: (vs ++ dvs)) (upd (upd H dx (.own x)) x (.ins C dx [])) (fun v H2 => v = .non ∧ Q (.ref x) H2) E) :
    wpAny (model X.prog X.w) X.A (call (.ref C) us) (EP X pins σ Q) X.xe s := by
  have hq := h (s.heap.objs.size + 1) s.heap.objs.size (I.hok.fresh (Nat.le_succ _)) (I.hok.fresh (Nat.le_refl _)) (Nat.ne_of_lt (Nat.lt_succ_self _))
  have I2 := Inv.made (C := C) I
  have r2 : Vals (V.ref (s.heap.objs.size + 1) :: (vs ++ dvs)) (Value.ref (s.heap.objs.size + 1) :: (us ++ ds)) := .cons rfl (r.append hd)
  have hl : (Value.ref (s.heap.objs.size + 1) :: us ++ ds).length = ps.length := by
    have e := r2.length
    rw [F.len _ _ _ _ hq] at e
    exact e.symm
  refine wpAny_call (make_map (f := f) I.kIn M.makes M.init (beq_iff_eq.mp M.fn) (codeAny_mono (F.run _ X.stack _ _ ⟨Value.ref (s.heap.objs.size + 1) :: us, []⟩ (Value.ref (s.heap.objs.size + 1) :: (us ++ ds)) _ _ E (hr.make C us [])
    (I2.env0.make C us []) (hb _ (Value.ref (s.heap.objs.size + 1) :: us) I2.kIn hl) r2 hq) fun r s' hq' => ?_))
  cases r with
  | error e => exact hx pins σ _ _ e s' I2 hq'
  | ok fl =>
    cases fl with
    | ret u =>
      obtain ⟨v, H', I3, rv, ev, q3⟩ := I2.after hq'
      subst ev
      exact ⟨rv, ⟨V.ref (s.heap.objs.size + 1), H', I3, rfl, q3⟩⟩
    | next => exact False.elim hq'
    | brk => exact False.elim hq'
    | cont => exact False.elim hq'
theorem pe_make0 (M : Mk X.K C f) (F : FnOk X.prog X.w X.K X.mg X.base CX k f fd ps sp) (hr : Room (k + 1) X.A) (hg : Gl X x) (hm : X.mg x = some (.ref C)) (hb : Binds X.K fd ps ds) (hd : Vals dvs ds) (hx : Passes CX X E)
    (hdb : (x == ("__debug__" : Str)) = false := by decide) : PE X (.Call (.Name x p) [] [] pos) (tMake C sp dvs E tNil) := by
  intro pins s σ H Q I h
  refine wpAny_Call_Name_kw (ld_glob I hg hm ?_ hdb)
  exact PySem.W.callWith_K0 I.kIn M.kp (run_make (us := []) M F hr hb hd hx I .nil h)
end

section
variable {X : Cx} {CX : CXT} {k : Nat} {f C : Addr} {fd : FuncData} {ps ks : List Str} {sp : Sp} {E : XK} {x m : Str} {p pos apos kpos : Pos} {e o : Expr} {es : List Expr} {kws : List Keyword} {te ta : TE} {t tk : TA} {nm : Option Str}

variable {g : List Value → List Value → List Value} {gV : List V → List V → List V}
end

/-- names: the parameters first -/
structure FnScope (N P : List Str) (sc : Scope) : Prop where
  kind : sc.kind = .function
  co : sc.isCoroutine = false
  gen : sc.isGenerator = false
  nd : N.Nodup
  pre : N.take P.length = P
  par : ∀ x ∈ P, sc.names.lookup x = some .local ∨ sc.names.lookup x = some .cell
  nofree : ∀ y ∈ sc.names, y.2 ≠ .free

theorem bindL_out {kindOf : Str → Option NameKind} {x : Str} : ∀ {binds : List (Str × Value)} {m : Str → Option Value}, (∀ v, (x, v) ∉ binds) → bindL kindOf binds m x = m x
  | [], _, _ => rfl
  | (n, v) :: r, m, h => by
    unfold bindL
    rw [bindL_out fun w hw => h w (List.mem_cons_of_mem _ hw)]
    split
    · have : x ≠ n := by rintro rfl; exact h v List.mem_cons_self
      simp [this]
    · rfl
theorem bindC_out {kindOf : Str → Option NameKind} {x : Str} : ∀ {binds : List (Str × Value)} {m : Str → Option Value}, (∀ v, (x, v) ∉ binds) → bindC kindOf binds m x = m x
  | [], _, _ => rfl
  | (n, v) :: r, m, h => by
    unfold bindC
    rw [bindC_out fun w hw => h w (List.mem_cons_of_mem _ hw)]
    split
    · rfl
    · have : x ≠ n := by rintro rfl; exact h v List.mem_cons_self
      simp [this]
theorem bindL_get {kindOf : Str → Option NameKind} {x : Str} {v : Value} : ∀ {P : List Str} {vs : List Value} {i : Nat} {m : Str → Option Value}, P.Nodup → P[i]? = some x → vs[i]? = some v → kindOf x = some .local →
    bindL kindOf (P.zip vs) m x = some v
  | [], _, _, _, _, h, _, _ => by simp at h
  | _ :: _, [], _, _, _, _, h, _ => by simp at h
  | p :: P, w :: vs, 0, m, nd, h1, h2, hk => by
    simp at h1 h2; subst h1; subst h2
    show bindL kindOf ((p, w) :: P.zip vs) m p = _
    unfold bindL
    rw [bindL_out fun v hv => (List.nodup_cons.mp nd).1 (List.of_mem_zip hv).1, if_pos hk]
    simp
  | p :: P, w :: vs, i + 1, m, nd, h1, h2, hk => by
    show bindL kindOf ((p, w) :: P.zip vs) m x = _
    unfold bindL
    exact bindL_get (i := i) (List.nodup_cons.mp nd).2 (by simpa using h1) (by simpa using h2) hk
theorem bindC_get {kindOf : Str → Option NameKind} {x : Str} {v : Value} : ∀ {P : List Str} {vs : List Value} {i : Nat} {m : Str → Option Value}, P.Nodup → P[i]? = some x → vs[i]? = some v → kindOf x ≠ some .local →
    bindC kindOf (P.zip vs) m x = some v
  | [], _, _, _, _, h, _, _ => by simp at h
  | _ :: _, [], _, _, _, _, h, _ => by simp at h
  | p :: P, w :: vs, 0, m, nd, h1, h2, hk => by
    simp at h1 h2; subst h1; subst h2
    show bindC kindOf ((p, w) :: P.zip vs) m p = _
    unfold bindC
    rw [bindC_out fun v hv => (List.nodup_cons.mp nd).1 (List.of_mem_zip hv).1, if_neg hk]
    simp
  | p :: P, w :: vs, i + 1, m, nd, h1, h2, hk => by
    show bindC kindOf ((p, w) :: P.zip vs) m x = _
    unfold bindC
    exact bindC_get (i := i) (List.nodup_cons.mp nd).2 (by simpa using h1) (by simpa using h2) hk

/-- the names' values at the entry -/
def start (N : List Str) (vs : List V) : St := vs.map some ++ List.replicate (N.length - vs.length) none

/-- the context of a def's body, at its entry; an exception leaves the frame, then lies as CX says -/
def cxOf (CX : CXT) (P : Program) (w : World) (K : PySem.W.Frag) (mg : Str → Option Value) (base : Heap) (N : List Str) (qual : Str) (scope : Scope) (f : Addr) (cd : Value) (A : Around) (outer : List Env) (s : Shared) (H : Hp) (E : XK) : Cx where
  prog := P
  w := w
  K := K
  mg := mg
  base := base
  A := A.deeper (envOfC qual scope s.heap.objs.size f cd)
  N := N
  s_0 := s
  H_0 := H
  env := envOfC qual scope s.heap.objs.size f cd
  outer := outer
  stack := envOfC qual scope s.heap.objs.size f cd :: outer
  ex := []
  calm := true
  fn := fun _ => true
  pn := []
  xe := fun e s' => wpAny (model P w) (A.deeper (envOfC qual scope s.heap.objs.size f cd)) (leaving (envOfC qual scope s.heap.objs.size f cd) e) (fun _ s'' => CX outer H s E e s'') (fun e' s'' => CX outer H s E e' s'') s'

theorem cell_has {sc : Scope} {n : Nat} {x : Str} (h : sc.names.lookup x = some .cell) : ∃ c, (cellsFrom n sc.names []).lookup x = some c := by
  have q := PySem.W.cellsFrom_some sc.names n [] (.inl h)
  exact Option.isSome_iff_exists.mp q

theorem inv_start {CX : CXT} {P : Program} {w : World} {K : PySem.W.Frag} {mg : Str → Option Value} {base : Heap} {N ps : List Str} {qual : Str} {scope : Scope} {f : Addr} {cd : Value} {A : Around} {outer : List Env} {s s1 : Shared} {H : Hp} {E : XK} {us : List Value} {vs : List V}
    (S : FnScope N ps scope) (hd : A.handled = none) (e0 : Env0 P w K mg base A outer s H) (hl : vs.length = ps.length) (r : Vals vs us)
    (x : InCallC s s.heap.objs.size (bindL (envOfC qual scope s.heap.objs.size f cd).kindOf (ps.zip us) fun _ => none) (cellsFrom (s.heap.objs.size + 1) scope.names []) (bindC (envOfC qual scope s.heap.objs.size f cd).kindOf (ps.zip us) fun _ => none) s1) :
    Inv (cxOf CX P w K mg base N qual scope f cd A outer s H E) [] (start N vs) H s1 := by
  have hpl : ps.length ≤ N.length := by have := congrArg List.length S.pre; rw [List.length_take] at this; omega
  obtain ⟨h1, tk, rfl, hk⟩ := x.done
  have noA : ∀ b : Addr, b ∉ (cxOf CX P w K mg base N qual scope f cd A outer s H E).ex := fun b z => absurd (show b ∈ ([] : List Addr) from z) (by simp)
  refine ⟨⟨e0.mod, S.kind, rfl, rfl, Nat.le_refl _, fun y z c h1 h2 => ?_, fun y hy => ?_, fun y c _ h => ?_, fun _ => hd, Around.frames_deeper e0.frames, .inr ⟨rfl, rfl⟩, fun b z => absurd z (noA b), e0.bs, e0.bsz, fun b _ _ => noA b, fun b z => absurd z (noA b), e0.funs, e0.frf⟩,
    rfl, e0.bare, Un.kept hk, ⟨_, x.toInCall.ns, fun i y v h1 h2 h3 => ?_⟩, fun y c h => ⟨_, x.cell y c h⟩, e0.hok.fresh (Nat.le_refl _), fun y c h => ?_, fun p hp => absurd (show p ∈ ([] : List (Addr × Obj)) from hp) (by simp), e0.hok.kept hk, ?_⟩
  · exact name_of_addr x.apart (PySem.mem_of_lookup h1) (PySem.mem_of_lookup h2)
  · have hy : scope.names.lookup y = some .cell ∨ scope.names.lookup y = some .free := hy
    rcases hy with hy | hy
    · exact cell_has hy
    · exact absurd rfl (S.nofree _ (PySem.mem_of_lookup hy))
  · exact Nat.le_of_lt (x.above y c (PySem.mem_of_lookup h))
  · have hi : i < vs.length := by
      unfold start at h2
      by_cases hi : i < vs.length
      · exact hi
      · rw [List.getElem?_append_right (by simpa using hi)] at h2
        rw [List.getElem?_replicate] at h2
        split at h2 <;> cases h2
    have ha : vs[i]? = some v := by
      unfold start at h2
      rw [List.getElem?_append_left (by simpa using hi), List.getElem?_map] at h2
      cases e : vs[i]? with
      | none => rw [e] at h2; cases h2
      | some a => rw [e] at h2; cases h2; rfl
    obtain ⟨u, hu, rv⟩ := r.get ha
    have hp : ps[i]? = some y := by
      rw [← S.pre, List.getElem?_take_of_lt (by omega)]; exact h1
    have ndP : ps.Nodup := by rw [← S.pre]; exact S.nd.sublist (List.take_sublist _ _)
    refine ⟨u, rv, ?_⟩
    rcases S.par y (List.mem_of_getElem? hp) with k | k
    · exact .inl ⟨k, bindL_get ndP hp hu k⟩
    · obtain ⟨c, e⟩ := cell_has (n := s.heap.objs.size + 1) k
      refine .inr ⟨.inl k, c, e, ?_⟩
      have q := x.cell y c e
      rw [bindC_get ndP hp hu (by show scope.names.lookup y ≠ _; rw [k]; decide)] at q
      exact q
  · exact e0.hok.fresh (Nat.le_of_lt (x.above y c (PySem.mem_of_lookup h)))
  · unfold start
    show _ = N.length
    rw [List.length_append, List.length_map, List.length_replicate]
    omega

/-- THE RULE: a def (or a method) of the text, by its body. The body's reading t is chosen for each entry; it is run at the parameters' values -/
theorem fn_of {CX : CXT} {P : Program} {w : World} {K : PySem.W.Frag} {mg : Str → Option Value} {base : Heap} {k : Nat} {f : Addr} {name qual : Str} {params : Arguments} {body : List Stmt} {scope : Scope} {dV kV doc pm cdv ct oc : Value} {an od : Option Addr}
    {osl : Array (Option Value)} {N ps : List Str} {sp : Sp} (lk : K.lookup f = some ⟨oc, od, .func (PySem.W.fnOf name qual params body scope dV kV doc pm an cdv ct), osl⟩) (hcd : PySem.W.codeIn K cdv qual = true) (S : FnScope N ps scope)
    (len : ∀ vs H Q E, sp vs H Q E → vs.length = ps.length)
    (hbody : ∀ (A : Around) (outer : List Env) (s : Shared) (H : Hp) (vs : List V) (Q : VK) (E : XK), Room k (A.deeper (envOfC qual scope s.heap.objs.size f cdv)) → sp vs H Q E →
      ∃ t, PSs (cxOf CX P w K mg base N qual scope f cdv A outer s H E) body t ∧ t { nx := fun _ H' => Q .non H', rt := Q } (start N vs) H) :
    FnOk P w K mg base CX (k + 1) f (PySem.W.fnOf name qual params body scope dV kV doc pm an cdv ct) ps sp := by
  refine ⟨len, fun A outer s H args us vs Q E hr e0 hb r hsp => ?_⟩
  have hl := len _ _ _ _ hsp
  have KX : K.In s.heap := e0.mod.kin.keeps fun b o e => (e0.bs b o e).1
  have lim : s.heap.NoLimit := e0.mod.nolimit.keeps fun b o e => (e0.bs b o e).1
  have hkind : ∀ y ∈ ps.zip us, scope.names.lookup y.1 = some .local ∨ (scope.names.lookup y.1 = some .cell ∧ ((cellsFrom (s.heap.objs.size + 1) scope.names []).lookup y.1).isSome = true) := fun ⟨n, v⟩ hy => by
    rcases S.par n (List.of_mem_zip hy).1 with q | q
    · exact .inl q
    · exact .inr ⟨q, PySem.W.cellsFrom_some _ _ _ (.inl q)⟩
  refine codeAny_call_function hr.depth (KX _ _ lk) rfl S.co S.gen rfl (PySem.W.codeRec_of KX hcd) (hb _ _ _ _ ?_)
  refine wpAny_newFunctionEnv_cells S.kind hkind fun env he s1 x => ?_
  subst he
  refine ⟨lim.keeps x.toInCall.keep, codeAny_func ?_⟩
  obtain ⟨t, ht, hq⟩ := hbody A outer s H vs Q E (hr.deeper _) hsp
  have I : Inv (cxOf CX P w K mg base N qual scope f cdv A outer s H E) [] (start N vs) H s1 := inv_start S hr.hd e0 hl r x
  refine wpAny_mono (ht [] s1 (start N vs) H _ I hq) (fun fl s' hs => ?_) fun e s' hs => hs
  have fin : ∀ {σ' : St} {H' : Hp} {v : V} {u : Value}, Inv (cxOf CX P w K mg base N qual scope f cdv A outer s H E) [] σ' H' s' → RelV v u → Q v H' → CE outer P w H s Q u s' :=
    fun {σ' H' v u} J rv q => ⟨v, H', J.os, J.bare, J.base, J.hok, rv, q⟩
  cases fl with
  | ret u =>
    obtain ⟨v, σ', H', J, rv, q⟩ := hs
    exact fin J rv q
  | next =>
    obtain ⟨σ', H', J, q⟩ := hs
    exact fin (v := V.non) (u := Value.none) J rfl q
  | brk =>
    obtain ⟨_, _, _, q⟩ := hs
    exact False.elim q
  | cont =>
    obtain ⟨_, _, _, q⟩ := hs
    exact False.elim q
end L2

namespace L2
open PySem PySem.Spec PyProof.Rows
section
variable {X : Cx} {x : Str} {p pos : Pos} {e : Expr} {es : List Expr} {t : TA} {id T : String} {r : List V → Hp → VK → Prop}

def tCB (r : List V → Hp → VK → Prop) (t : TA) : TE := fun σ H Q => t σ H fun vs H1 => r vs H1 Q
/-- f(e, ..), f a built-in function -/
theorem pe_callB (hc : CallR X (.builtin id) r) (hg : Gl X x) (hm : X.mg x = none) (hv : bootBuiltins x = some (.builtin id)) (ha : PA X (e :: es) t) (hn : x ≠ "__name__" := by decide) (hdb : (x == ("__debug__" : Str)) = false := by decide)
    (he : starEach (e :: es) X.env = (false, eval e X.env) :: starEach es X.env := by rfl) (hpl : (backTo pos (starEach es X.env)).any (·.1) = false := by rfl) : PE X (.Call (.Name x p) (e :: es) [] pos) (tCB r t) := by
  intro pins s σ H Q I h
  refine wpAny_Call_Name_kw (ld_blt I hg hm hv ?_ hn hdb)
  exact PyProof.Rows.callWith_builtin1 (thn (ha pos pins s σ H _ I h) fun us s1 ⟨vs, H1, I1, r1, q1⟩ => hc pins s1 σ H1 vs us Q I1 r1 q1) he hpl
/-- T(e, ..), T a built-in type -/
theorem pe_callTy (hc : CallR X (.type T) r) (hg : Gl X x) (hm : X.mg x = none) (hv : bootBuiltins x = some (.type T)) (ha : PA X (e :: es) t) (hn : x ≠ "__name__" := by decide) (hdb : (x == ("__debug__" : Str)) = false := by decide)
    (he : starEach (e :: es) X.env = (false, eval e X.env) :: starEach es X.env := by rfl) (hpl : (backTo pos (starEach es X.env)).any (·.1) = false := by rfl) : PE X (.Call (.Name x p) (e :: es) [] pos) (tCB r t) := by
  intro pins s σ H Q I h
  refine wpAny_Call_Name_kw (ld_blt I hg hm hv ?_ hn hdb)
  exact PyProof.Rows.callWith_type1 (thn (ha pos pins s σ H _ I h) fun us s1 ⟨vs, H1, I1, r1, q1⟩ => hc pins s1 σ H1 vs us Q I1 r1 q1) he hpl
end
end L2

namespace HT
open PySem PyProof.Rows

section
open PySem.SeqAt
open PySem.AutoSeq1 (wpAny_loadPart')
open PySem.MeetsSeq PySem.MeetsSeq2 PySem.MeetsSeq3

end

section
variable {prog : Program} {w : World} {A : Around} {E : Value → Shared → Prop} {s : Shared}

/-- a slice's bound as a place among n (d where it is left out) -/
def sIx (n d : Nat) : Option Int → Nat
  | none => d
  | some v => if v < 0 then (v + (n : Int)).toNat else min v.toNat n
theorem sIx_none (n d : Nat) : sIx n d none = d := rfl
theorem sIx_nat (n d k : Nat) : sIx n d (some (k : Int)) = min k n := by
  show (if (k : Int) < 0 then ((k : Int) + (n : Int)).toNat else min (k : Int).toNat n) = min k n
  rw [if_neg (by omega), Int.toNat_natCast]

end
end HT

namespace L2
open PySem PySem.Spec PyProof.Rows

abbrev TO := St → Hp → (Option Int → Hp → Prop) → Prop
/-- a slice's part (left out, or an int) -/
def PO (X : Cx) (e : Option Expr) (t : TO) : Prop :=
  ∀ (pins : List (Addr × Obj)) (s : Shared) (σ : St) (H : Hp) (Q : Option Int → Hp → Prop), Inv X pins σ H s → t σ H Q →
    wpAny (model X.prog X.w) X.A (evalPart e X.env) (fun u s' => ∃ o H', Inv X pins σ H' s' ∧ IsPart u o ∧ Q o H') X.xe s
def tNoPart : TO := fun _ H Q => Q none H
def tPart (t : TE) : TO := fun σ H Q => t σ H fun x H1 => ∃ i, x = .int i ∧ Q (some i) H1

section
variable {X : Cx} {e : Expr} {te : TE} {lo hi : Option Expr} {tl th : TO} {pos p2 : Pos}

theorem po_none : PO X none tNoPart := by
  intro pins s σ H Q I h
  rw [evalPart_none]
  exact wpAny_pure ⟨none, H, I, .none, h⟩
theorem po_some (h : PE X e te) : PO X (some e) (tPart te) := by
  intro pins s σ H Q I hw
  rw [evalPart_some]
  refine thn (h pins s σ H _ I hw) fun u s1 ⟨x, H1, I1, r1, q1⟩ => ?_
  obtain ⟨i, rfl, q⟩ := q1
  obtain ⟨t, rfl⟩ := r1
  exact ⟨some i, H1, I1, .int i t, q⟩

/-- what a slice of a value is, by values: the slice object stands at sl -/
def SlR (X : Cx) (r : V → Option Int → Option Int → Hp → VK → Prop) : Prop :=
  ∀ (pins : List (Addr × Obj)) (s : Shared) (σ : St) (H : Hp) (x : V) (v vl vu : Value) (lo hi : Option Int) (sl : Addr) (Q : VK), Inv X pins σ H s → RelV x v → s.heap.IsSliceOf sl vl vu .none → IsPart vl lo → IsPart vu hi → r x lo hi H Q →
    ∃ T id, typeLookup (.type T) "__getitem__" = pure (some (.builtin id)) ∧ s.TypeIs v T ∧ wpAny (model X.prog X.w) X.A (getItem v (.ref sl)) (EP X pins σ Q) X.xe s
theorem SlR.or {r r' : V → Option Int → Option Int → Hp → VK → Prop} (h : SlR X r) (h' : SlR X r') : SlR X (fun x lo hi H Q => r x lo hi H Q ∨ r' x lo hi H Q) := by
  intro pins s σ H x v vl vu lo hi sl Q I rx hs pl pu q
  rcases q with q | q
  · exact h pins s σ H x v vl vu lo hi sl Q I rx hs pl pu q
  · exact h' pins s σ H x v vl vu lo hi sl Q I rx hs pl pu q
def tSl (r : V → Option Int → Option Int → Hp → VK → Prop) (te : TE) (tl th : TO) : TE := fun σ H Q => te σ H fun x H1 => tl σ H1 fun l H2 => th σ H2 fun u H3 => r x l u H3 Q
/-- a[lo:hi], any a -/
theorem pe_slice {r : V → Option Int → Option Int → Hp → VK → Prop} (hr : SlR X r) (he : PE X e te) (hl : PO X lo tl) (hu : PO X hi th) : PE X (.Subscript e (.Slice lo hi none p2) pos) (tSl r te tl th) := by
  intro pins s σ H Q I h
  refine Subscript_ (thn (he pins s σ H _ I h) fun v s1 ⟨x, H1, I1, r1, q1⟩ => ?_)
  refine wpAny_Slice (thn (hl pins s1 σ H1 _ I1 q1) fun vl s2 ⟨l, H2, I2, pl, q2⟩ => thn (hu pins s2 σ H2 _ I2 q2) fun vu s3 ⟨u, H3, I3, pu, q3⟩ => ?_)
  rw [evalPart_none]
  refine wpAny_pure ?_
  have I4 : Inv X pins σ H3 { s3 with heap := s3.heap.push { cls := .type "slice", data := .fields #[vl, vu, .none] } } := I3.kept (t' := s3.toks) fun b ob q => Heap.get?_push_of_some _ q
  obtain ⟨T, id, hT, ht, hg⟩ := hr pins { s3 with heap := s3.heap.push { cls := .type "slice", data := .fields #[vl, vu, .none] } } σ H3 x v vl vu l u s3.heap.objs.size Q I4 r1 (Heap.IsSliceOf.new ..) pl pu q3
  show wpAny (model X.prog X.w) X.A (subscriptTail e (.Slice lo hi none p2) v (.ref s3.heap.objs.size)) (EP X pins σ Q) X.xe { s3 with heap := s3.heap.push { cls := .type "slice", data := .fields #[vl, vu, .none] } }
  exact tail_any (ops := [.ref s3.heap.objs.size, v]) ht hT hg (by with_unfolding_all rfl)

/-- the items of xs[lo:hi] -/
def cutV (xs : List V) (lo hi : Option Int) : List V := (xs.drop (HT.sIx xs.length 0 lo)).take (HT.sIx xs.length xs.length hi - HT.sIx xs.length 0 lo)
theorem cutV_length (xs : List V) (lo hi : Option Int) : (cutV xs lo hi).length ≤ xs.length := by
  unfold cutV
  rw [List.length_take, List.length_drop]
  omega

end
end L2

namespace L2
open PySem PySem.Spec PyProof.Rows

/-- the place that an index of any sign means -/
def ixN (n : Nat) (i : Int) : Option Nat := if 0 ≤ i then (if i < n then some i.toNat else none) else if -(n : Int) ≤ i then some (i + n).toNat else none
def atI {α : Type} (xs : List α) (i : Int) : Option α := (ixN xs.length i).bind fun j => xs[j]?
theorem ixN_seq {n : Nat} {i : Int} {j : Nat} (h : ixN n i = some j) : seqIndex? i n = some j ∧ j < n ∧ -(n : Int) ≤ i ∧ i < n := by
  unfold ixN at h
  by_cases h0 : 0 ≤ i
  · rw [if_pos h0] at h
    by_cases h1 : i < n
    · rw [if_pos h1] at h
      have e : i.toNat = j := Option.some.inj h
      exact ⟨by rw [seqIndex_of h0 h1, e], by omega, by omega, h1⟩
    · rw [if_neg h1] at h; cases h
  · rw [if_neg h0] at h
    by_cases h1 : -(n : Int) ≤ i
    · rw [if_pos h1] at h
      have e : (i + n).toNat = j := Option.some.inj h
      exact ⟨by rw [seqIndex_neg (by omega) h1, e], by omega, h1, by omega⟩
    · rw [if_neg h1] at h; cases h
theorem atI_get {α : Type} {xs : List α} {i : Int} {v : α} (h : atI xs i = some v) : ∃ j, seqIndex? i xs.length = some j ∧ xs[j]? = some v ∧ j < xs.length ∧ -(xs.length : Int) ≤ i ∧ i < xs.length := by
  unfold atI at h
  cases e : ixN xs.length i with
  | none => rw [e] at h; cases h
  | some j =>
    rw [e] at h
    obtain ⟨h1, h2, h3, h4⟩ := ixN_seq e
    exact ⟨j, h1, h, h2, h3, h4⟩
theorem atI_nat {α : Type} {xs : List α} {j : Nat} {v : α} (h : xs[j]? = some v) : atI xs (j : Int) = some v := by
  have hj : j < xs.length := (List.getElem?_eq_some_iff.mp h).1
  have e : ixN xs.length (j : Int) = some j := by
    unfold ixN
    rw [if_pos (by omega), if_pos (by omega)]; simp
  unfold atI; rw [e]; exact h

/-- what stands as an index of a plain subscript -/
def PlainIx (b : Expr) : Prop := ∀ o i, subscripted b false o i = operate [o, i] (getItem o i)
/-- a subscript by values -/
def IxR (X : Cx) (r : R2) : Prop :=
  ∀ (value slice : Expr) (pins : List (Addr × Obj)) (s : Shared) (σ : St) (H : Hp) (x y : V) (v u : Value) (Q : VK), Inv X pins σ H s → RelV x v → RelV y u → r x y H Q →
    subscripted slice false v u = operate [v, u] (getItem v u) → wpAny (model X.prog X.w) X.A (subscriptTail value slice v u) (EP X pins σ Q) X.xe s
/-- a call of a builtin's method by values: the receiver, the arguments -/
def MtR (X : Cx) (id : String) (r : V → List V → Hp → VK → Prop) : Prop :=
  ∀ (pins : List (Addr × Obj)) (s : Shared) (σ : St) (H : Hp) (x : V) (xs : List V) (v : Value) (us : List Value) (Q : VK), Inv X pins σ H s → RelV x v → Vals xs us → r x xs H Q →
    wpAny (model X.prog X.w) X.A (call (.builtin id) (v :: us)) (EP X pins σ Q) X.xe s
section
variable {X : Cx} {a b : Expr} {ta tb : TE} {pos : Pos}
theorem IxR.or {r r' : R2} (h : IxR X r) (h' : IxR X r') : IxR X (fun x y H Q => r x y H Q ∨ r' x y H Q) := by
  intro value slice pins s σ H x y v u Q I rx ry q hs
  rcases q with q | q
  · exact h value slice pins s σ H x y v u Q I rx ry q hs
  · exact h' value slice pins s σ H x y v u Q I rx ry q hs
theorem MtR.or {id : String} {r r' : V → List V → Hp → VK → Prop} (h : MtR X id r) (h' : MtR X id r') : MtR X id (fun x xs H Q => r x xs H Q ∨ r' x xs H Q) := by
  intro pins s σ H x xs v us Q I rx rs q
  rcases q with q | q
  · exact h pins s σ H x xs v us Q I rx rs q
  · exact h' pins s σ H x xs v us Q I rx rs q
/-- a[b] -/
theorem pe_ix {r : R2} (hr : IxR X r) (ha : PE X a ta) (hb : PE X b tb) (hs : PlainIx b) : PE X (.Subscript a b pos) (tOp r ta tb) := by
  intro pins s σ H Q I h
  exact Subscript_ (binT ha hb I h fun v u s2 x y H2 I2 rx ry q => hr a b pins s2 σ H2 x y v u Q I2 rx ry q (hs _ _))

def rIxL (K : PySem.W.Frag) : R2 := fun x y H Q => ∃ p xs i v, x = .ref p ∧ y = .int i ∧ SqL K H p xs ∧ atI xs i = some v ∧ Q v H
def rIxT (K : PySem.W.Frag) : R2 := fun x y H Q => ∃ p xs i v, x = .ref p ∧ y = .int i ∧ SqT K H p xs ∧ atI xs i = some v ∧ Q v H
theorem ix_list : IxR X (rIxL X.K) := by
  intro value slice pins s σ H x y v u Q I rx ry h hs
  obtain ⟨p, xs, i, z, rfl, rfl, hq, he, q⟩ := h
  cases rx
  obtain ⟨t, rfl⟩ := ry
  obtain ⟨its, r, pl, hz⟩ := I.list hq
  obtain ⟨j, h1, h2, h3, h4, h5⟩ := atI_get he
  obtain ⟨w, ew, rw'⟩ := r.get h2
  have hl := r.length
  have hn := line63
  have fin : EP X pins σ Q w s := ⟨z, H, I, rw', q⟩
  by_cases h0 : 0 ≤ i
  · have hj : i.toNat = j := by
      rw [seqIndex_of h0 h5] at h1
      exact Option.some.inj h1
    exact item_listR pl.isList h0 (by omega) (by rw [hj]; simpa using ew) fin hs
  · have hj : (i + (its.toArray.size : Int)).toNat = j := by
      rw [seqIndex_neg (by omega) h4] at h1
      rw [List.size_toArray, ← hl]
      exact Option.some.inj h1
    exact subscriptTail_builtinR (x := w) pl.isList.typeIs slot_list_getitem.lookup
      (wpAny_getItem_list_neg (Q := fun r s' => r = w ∧ EP X pins σ Q r s') pl.isList (by omega) (by rw [List.size_toArray] <;> omega) (by omega) (by rw [hj]; simpa using ew) ⟨rfl, fin⟩) hs
theorem ix_tup : IxR X (rIxT X.K) := by
  intro value slice pins s σ H x y v u Q I rx ry h hs
  obtain ⟨p, xs, i, z, rfl, rfl, hq, he, q⟩ := h
  cases rx
  obtain ⟨t, rfl⟩ := ry
  obtain ⟨its, r, pl, hz⟩ := I.tuple hq
  obtain ⟨j, h1, h2, h3, h4, h5⟩ := atI_get he
  obtain ⟨w, ew, rw'⟩ := r.get h2
  have hl := r.length
  have hn := line63
  have fin : EP X pins σ Q w s := ⟨z, H, I, rw', q⟩
  exact subscriptTail_builtinR (x := w) pl.typeIs slot_tuple_getitem.lookup
    (getItem_tuple (j := j) (Q := fun r s' => r = w ∧ EP X pins σ Q r s') pl (by omega) (by omega) (by rw [List.size_toArray, ← hl]; exact h1) (by simpa using ew) ⟨rfl, fin⟩) hs

/-- the list's object behind a store -/
theorem mapSeq_set (its : List Value) (n j : Nat) (u : Value) : Obj.mapSeq (·.setIfInBounds j u) { cls := .type "list", data := .seq its.toArray n } = { cls := .type "list", data := .seq (its.set j u).toArray n } := by
  simp [Obj.mapSeq]
theorem Inv.lst {pins : List (Addr × Obj)} {σ : St} {H : Hp} {s : Shared} {p : Addr} {xs : List V} (I : Inv X pins σ H s) (h : H p = some (.lst xs)) :
    ∃ (its : List Value) (n : Nat), Vals xs its ∧ s.heap.get? p = some { cls := .type "list", data := .seq its.toArray n } ∧ xs.length ≤ sizeLine := by
  obtain ⟨z, its, n, r, e⟩ := I.hok p _ h
  exact ⟨its, n, r, e, z⟩
/-- the list at p is written by an update of its object -/
theorem Inv.lstUpd {pins : List (Addr × Obj)} {σ : St} {H : Hp} {s : Shared} {p : Addr} {xs ys : List V} {its its' : List Value} {n n' : Nat} {f : Obj → Obj} (I : Inv X pins σ H s) (h : H p = some (.lst xs))
    (ho : s.heap.get? p = some { cls := .type "list", data := .seq its.toArray n }) (hf : f { cls := .type "list", data := .seq its.toArray n } = { cls := .type "list", data := .seq its'.toArray n' }) (r : Vals ys its') (hz : ys.length ≤ sizeLine) (t : Nat) :
    Inv X pins σ (upd H p (.lst ys)) { s with heap := s.heap.update p f, toks := t } := by
  have e : (s.heap.update p f).get? p = some { cls := .type "list", data := .seq its'.toArray n' } := by
    rw [Heap.get?_update_self f ho (by rw [hf] <;> rfl), hf]
  refine I.write (x := p) (e := p) (by rw [h]; trivial) (.inl rfl) (fun b u hb q => (Heap.get?_update_other _ _ (Ne.symm hb)).trans q) ⟨_, e⟩ ?_
  exact ⟨hz, its', n', r, e⟩
def rSetL : V → V → V → Hp → (Hp → Prop) → Prop := fun o i v H Q => ∃ p xs k j, o = .ref p ∧ i = .int k ∧ H p = some (.lst xs) ∧ ixN xs.length k = some j ∧ Q (upd H p (.lst (xs.set j v)))
theorem set_list : PSet X rSetL := by
  intro pins s σ H o i v ov iv u Q I ro ri rv h
  obtain ⟨p, xs, k, j, rfl, rfl, hp, hj, q⟩ := h
  cases ro
  obtain ⟨t, rfl⟩ := ri
  obtain ⟨its, n, r, ho, hz⟩ := I.lst hp
  obtain ⟨h1, h2, h3, h4⟩ := ixN_seq hj
  have hl := r.length
  have hn := line63
  have I' : Inv X pins σ (upd H p (.lst (xs.set j v))) { s with heap := s.heap.update p (Obj.mapSeq (·.setIfInBounds j u)) } :=
    I.lstUpd hp ho (mapSeq_set its n j u) (r.set rv j) (by rw [List.length_set]; exact hz) s.toks
  by_cases h0 : 0 ≤ k
  · have hk : k.toNat = j := by
      rw [seqIndex_of h0 h4] at h1
      exact Option.some.inj h1
    exact PySem.W.ki_setAt ho h0 (by omega) (by rw [List.size_toArray, ← hl]; exact h4) (by rw [hk]; exact ⟨_, I', q⟩)
  · have hk : (k + (its.toArray.size : Int)).toNat = j := by
      rw [seqIndex_neg (by omega) h3] at h1
      rw [List.size_toArray, ← hl]
      exact Option.some.inj h1
    exact PySem.W.ki_setBack ho (by omega) (by rw [List.size_toArray, ← hl]; exact h3) (by omega) (by rw [hk]; exact ⟨_, I', q⟩)

theorem slice_bounds (lo hi : Option Int) (n : Nat) : (sliceBounds lo hi none n).1 = ((HT.sIx n 0 lo : Nat) : Int) ∧ (sliceBounds lo hi none n).2.1 = ((HT.sIx n n hi : Nat) : Int) ∧ (sliceBounds lo hi none n).2.2 = 1 := by
  refine ⟨?_, ?_, rfl⟩
  · cases lo with
    | none => simp [sliceBounds, HT.sIx]
    | some i =>
      simp only [sliceBounds, HT.sIx, Option.getD_none, show (1 : Int) > 0 by decide, if_true]
      by_cases h : i < 0
      · simp only [h, if_true] <;> omega
      · simp only [h, if_false] <;> omega
  · cases hi with
    | none => simp [sliceBounds, HT.sIx]
    | some i =>
      simp only [sliceBounds, HT.sIx, Option.getD_none, show (1 : Int) > 0 by decide, if_true]
      by_cases h : i < 0
      · simp only [h, if_true] <;> omega
      · simp only [h, if_false] <;> omega
theorem slicePick_cut (its : List Value) (lo hi : Option Int) : slicePick its.toArray lo hi none = ((its.drop (HT.sIx its.length 0 lo)).take (HT.sIx its.length its.length hi - HT.sIx its.length 0 lo)).toArray := by
  obtain ⟨h1, h2, h3⟩ := slice_bounds lo hi its.toArray.size
  unfold slicePick
  rw [h1, h2, h3]
  simp only [sliceRange_one, pick_run, List.size_toArray] <;> rfl
/-- xs[lo:hi] of a list: a new list -/
def rSlL (K : PySem.W.Frag) : V → Option Int → Option Int → Hp → VK → Prop := fun x lo hi H Q => ∃ a xs, x = .ref a ∧ SqL K H a xs ∧ ∀ p, H p = none → Q (.ref p) (upd H p (.lst (cutV xs lo hi)))
theorem sl_list : SlR X (rSlL X.K) := by
  intro pins s σ H x v vl vu lo hi sl Q I rx hs pl pu h
  obtain ⟨a, xs, rfl, hx, q⟩ := h
  cases rx
  obtain ⟨its, r, ht, hz⟩ := I.list hx
  have hlen := r.length
  refine ⟨"list", _, slot_list_getitem.lookup, ht.isList.typeIs, ?_⟩
  refine wpAny_getItem_list_slice ht.isList hs pl pu .none (by simp) ?_ (by rw [List.size_toArray] <;> omega)
  rw [slicePick_cut, ← hlen]
  refine ⟨.ref s.heap.objs.size, _, I.laid (t' := s.toks) (o := .lst (cutV xs lo hi)) (fun b ob q => Heap.get?_push_of_some _ q) (Nat.le_refl _) ?_, rfl, q _ (I.hok.fresh (Nat.le_refl _))⟩
  exact ⟨Nat.le_trans (cutV_length xs lo hi) hz, _, 0, (r.drop (HT.sIx xs.length 0 lo)).take (HT.sIx xs.length xs.length hi - HT.sIx xs.length 0 lo), Heap.get?_push_size _ rfl⟩

theorem call_len_seq : CallR X (.builtin "len") (fun xs H Q => ∃ p ys, xs = [.ref p] ∧ (SqL X.K H p ys ∨ SqT X.K H p ys) ∧ Q (.int ys.length) H) := by
  intro pins s σ H xs us Q I r h
  obtain ⟨p, ys, rfl, hq, q⟩ := h
  obtain ⟨u, rfl, rx⟩ := vals1 r
  cases rx
  have hn := line63
  rcases hq with hq | hq
  · obtain ⟨its, r', pl, hz⟩ := I.list hq
    have hlen := r'.length
    exact Calls.call_len_list pl.isList (by simp only [List.size_toArray] <;> omega) ⟨.int ys.length, H, I.tok _, ⟨s.toks + 1, by rw [List.size_toArray, hlen]⟩, q⟩
  · obtain ⟨its, r', pl, hz⟩ := I.tuple hq
    have hlen := r'.length
    exact len_tuple pl (by simp only [List.size_toArray] <;> omega) ⟨.int ys.length, H, I.tok _, ⟨s.toks + 1, by rw [List.size_toArray, hlen]⟩, q⟩
theorem CallR.or {f : Value} {r r' : List V → Hp → VK → Prop} (h : CallR X f r) (h' : CallR X f r') : CallR X f (fun xs H Q => r xs H Q ∨ r' xs H Q) := by
  intro pins s σ H xs us Q I rs q
  rcases q with q | q
  · exact h pins s σ H xs us Q I rs q
  · exact h' pins s σ H xs us Q I rs q
theorem call_list_of : CallR X (.type "list") (fun xs H Q => ∃ p ys, xs = [.ref p] ∧ (SqL X.K H p ys ∨ SqT X.K H p ys) ∧ ∀ l, H l = none → Q (.ref l) (upd H l (.lst ys))) := by
  intro pins s σ H xs us Q I r h
  obtain ⟨p, ys, rfl, hq, q⟩ := h
  obtain ⟨u, rfl, rx⟩ := vals1 r
  cases rx
  have fin : ∀ (its : List Value), Vals ys its → ys.length ≤ sizeLine → ∀ (h' : Heap) (c' : Nat), (∀ b o', s.heap.get? b = some o' → h'.get? b = some o') →
      h'.get? s.heap.objs.size = some { cls := .type "list", dict := none, data := .seq its.toArray c', slots := #[] } → EP X pins σ Q (.ref s.heap.objs.size) { s with heap := h' } := fun its r' hz h' c' kp e =>
    ⟨.ref s.heap.objs.size, _, I.laid (t' := s.toks) kp (Nat.le_refl _) (show ObjOk X.prog X.w _ h' _ (.lst ys) from ⟨hz, its, c', r', e⟩), rfl, q _ (I.hok.fresh (Nat.le_refl _))⟩
  rcases hq with hq | hq
  · obtain ⟨its, r', pl, hz⟩ := I.list hq
    have hlen := r'.length
    obtain ⟨o, ho, hc, n, hd⟩ := pl.isList
    exact call_list_seq p (.inl rfl) ho hc hd (fun h' c' kp e => fin its r' hz h' c' kp e) (by simp only [List.size_toArray] <;> omega)
  · obtain ⟨its, r', pl, hz⟩ := I.tuple hq
    have hlen := r'.length
    obtain ⟨o, ho, hc, n, hd⟩ := pl
    exact call_list_seq p (.inr rfl) ho hc hd (fun h' c' kp e => fin its r' hz h' c' kp e) (by simp only [List.size_toArray] <;> omega)
theorem call_tuple_of : CallR X (.type "tuple") (fun xs H Q => ∃ p ys, xs = [.ref p] ∧ ((SqL X.K H p ys ∧ ∀ l, H l = none → Q (.ref l) (upd H l (.tup ys))) ∨ (SqT X.K H p ys ∧ Q (.ref p) H))) := by
  intro pins s σ H xs us Q I r h
  obtain ⟨p, ys, rfl, h⟩ := h
  obtain ⟨u, rfl, rx⟩ := vals1 r
  cases rx
  rcases h with ⟨hq, q⟩ | ⟨hq, q⟩
  · obtain ⟨its, r', pl, hz⟩ := I.list hq
    have hlen := r'.length
    refine call_tuple_list pl.isList (fun h' kp => ?_) (by simp only [List.size_toArray] <;> omega)
    have I1 : Inv X pins σ H { s with heap := h' } := I.kept (t' := s.toks) kp
    have I2 : Inv X pins σ (upd H h'.objs.size (.tup ys)) { s with heap := h'.push { cls := .type "tuple", data := .seq its.toArray } } :=
      I1.laid (t' := s.toks) (fun b o e => Heap.get?_push_of_some _ e) (Nat.le_refl _) (show ObjOk X.prog X.w _ _ _ (.tup ys) from ⟨hz, its, r', IsTup.new _ _⟩)
    exact ⟨.ref h'.objs.size, _, I2, rfl, q _ (I1.hok.fresh (Nat.le_refl _))⟩
  · obtain ⟨its, r', pl, hz⟩ := I.tuple hq
    exact call_tuple_same pl ⟨.ref p, H, I, rfl, q⟩

/-- the value is of that builtin type -/
def tyV (K : PySem.W.Frag) (T : String) (x : V) (H : Hp) : Prop := match x with
  | .str _ => T = "str"
  | .int _ => T = "int"
  | .ref p => (T = "list" ∧ ∃ xs, SqL K H p xs) ∨ (T = "tuple" ∧ ∃ o, K.lookup p = some o ∧ o.cls = .type "tuple" ∧ o.dict = none) ∨
      (T = "dict" ∧ ((∃ kvs, H p = some (.dK kvs)) ∨ ∃ kvs, H p = some (.dT kvs))) ∨ (T = "set" ∧ ∃ S n, H p = some (.set S n))
  | _ => False
theorem tyV_is {pins : List (Addr × Obj)} {σ : St} {H : Hp} {s : Shared} {T : String} {x : V} {v : Value} (I : Inv X pins σ H s) (r : RelV x v) (ty : tyV X.K T x H) :
    s.TypeIs v T ∧ ∀ a, v = .ref a → ∃ ob, s.heap.get? a = some ob ∧ ob.dict = none := by
  cases x with
  | str z =>
    obtain ⟨t, rfl⟩ := r
    cases (show T = "str" from ty)
    exact ⟨typeIs_str s z t, fun _ e => nomatch e⟩
  | int i =>
    obtain ⟨t, rfl⟩ := r
    cases (show T = "int" from ty)
    exact ⟨typeIs_int s i t, fun _ e => nomatch e⟩
  | ref p =>
    cases r
    rcases ty with ⟨rfl, xs, hq⟩ | ⟨rfl, o, hk, hc, hd⟩ | ⟨rfl, hk⟩ | ⟨rfl, S, n, hk⟩
    · obtain ⟨its, _, pl, _⟩ := I.list hq
      refine ⟨pl.isList.typeIs, fun a e => ?_⟩
      cases e
      obtain ⟨o, n, e, c, hd, _⟩ := pl
      exact ⟨o, e, hd⟩
    · refine ⟨⟨o, I.kIn p o hk, hc⟩, fun a e => ?_⟩
      cases e
      exact ⟨o, I.kIn _ o hk, hd⟩
    · have z : ∃ o, s.heap.get? p = some o ∧ o.ExactDict := by
        rcases hk with ⟨kvs, hk⟩ | ⟨kvs, hk⟩
        · obtain ⟨_, _, _, _, o, _, _, e, ex, _⟩ := I.hok p _ hk
          exact ⟨o, e, ex⟩
        · obtain ⟨_, _, _, _, o, _, _, e, ex, _⟩ := I.hok p _ hk
          exact ⟨o, e, ex⟩
      obtain ⟨o, e, ex⟩ := z
      refine ⟨⟨o, e, ex.1⟩, fun a e2 => ?_⟩
      cases e2
      exact ⟨o, e, ex.2.1⟩
    · obtain ⟨o, _, _, _, e, ex, _⟩ := I.hok p _ hk
      refine ⟨⟨o, e, ex.1⟩, fun a e2 => ?_⟩
      cases e2
      exact ⟨o, e, ex.2.1⟩
  | _ => exact False.elim ty
def tBM (K : PySem.W.Frag) (T : String) (r : V → List V → Hp → VK → Prop) (to : TE) (t : TA) : TE := fun σ H Q => to σ H fun x H1 => tyV K T x H1 ∧ t σ H1 fun xs H2 => r x xs H2 Q
variable {o e : Expr} {es : List Expr} {to : TE} {t : TA} {name : Str} {apos cpos : Pos} {T id : String} {r : V → List V → Hp → VK → Prop}
theorem pe_bm (pa : PlainAttrs T) (slot : Slot T name id) (hty : typeOf (.builtin id) = pure (.type "method_descriptor")) (hm : MtR X id r) (ho : PE X o to) (ha : PA X (e :: es) t)
    (hbase : attributeBase o name X.env (eval o X.env) = eval o X.env := by rfl)
    (hfew : ((backTo cpos (starEach (e :: es) X.env)).all (fun x => !x.1) && (backToKw cpos (keywordEach [] X.env)).all (fun x => x.1.isSome)
      && decide ((e :: es).length + ([] : List Keyword).length + (if ([] : List Keyword).isEmpty then 0 else 1) < 30)) = true := by rfl)
    (hline : (apos.endLine == cpos.line) = true := by rfl) (hs : starEach (e :: es) X.env = (false, eval e X.env) :: starEach es X.env := by rfl) (hplain : (backTo cpos (starEach es X.env)).any (·.1) = false := by rfl) :
    PE X (.Call (.Attribute o name apos) (e :: es) [] cpos) (tBM X.K T r to t) := by
  intro pins s σ H Q I h
  refine wpAny_Call_method_late hbase hfew hline rfl (thn (ho pins s σ H _ I h) fun v s1 ⟨x, H1, I1, r1, ty, q1⟩ => ?_)
  obtain ⟨h1, h2⟩ := tyV_is I1 r1 ty
  refine ⟨T, id, pa, slot, hty, h1, h2, ?_⟩
  have hA := ha cpos pins s1 σ H1 _ I1 q1
  rw [hs] at hA ⊢
  refine Calls.callWith_builtin (by show (false || (backTo cpos (starEach es X.env)).any (·.1)) = false; rw [hplain] <;> rfl) (Calls.evalArgs_plain ?_)
  exact thn hA fun us s2 ⟨vs, H2, I2, r2, q2⟩ => hm pins s2 σ H2 x vs v us Q I2 r1 r2 q2
end
end L2

namespace L2
open PySem PySem.Spec PyProof.Rows

def MtM (X : Cx) (id : String) (r : V → List V → Hp → VK → Prop) : Prop :=
  ∀ (pins : List (Addr × Obj)) (s : Shared) (σ : St) (H : Hp) (x : V) (xs : List V) (v : Value) (us : List Value) (Q : VK), Inv X pins σ H s → RelV x v → Vals xs us → r x xs H Q →
    wpAny (model X.prog X.w) X.A (call (.builtin id) (v :: us)) (EP X pins σ Q) X.xe s

theorem Vals.one : ∀ {x : V} {us : List Value}, Vals [x] us → ∃ u, us = [u] ∧ RelV x u
  | _, _, .cons r .nil => ⟨_, rfl, r⟩
theorem Vals.two : ∀ {x y : V} {us : List Value}, Vals [x, y] us → ∃ u v, us = [u, v] ∧ RelV x u ∧ RelV y v
  | _, _, _, .cons r (.cons q .nil) => ⟨_, _, rfl, r, q⟩
theorem Vals.zero : ∀ {us : List Value}, Vals [] us → us = []
  | _, .nil => rfl
theorem Vals.dropLast {xs : List V} {us : List Value} (h : Vals xs us) : Vals xs.dropLast us.dropLast := by
  induction h with
  | nil => exact .nil
  | cons r t ih =>
    cases t with
    | nil => exact .nil
    | cons q t' => exact .cons r ih
theorem Vals.reverse {xs : List V} {us : List Value} (h : Vals xs us) : Vals xs.reverse us.reverse := by
  induction h with
  | nil => exact .nil
  | cons r t ih => rw [List.reverse_cons, List.reverse_cons]; exact Vals.append ih (.cons r .nil)
theorem Vals.rep {xs : List V} {us : List Value} (h : Vals xs us) : ∀ k : Nat, Vals (List.replicate k xs).flatten (List.replicate k us).flatten
  | 0 => .nil
  | k + 1 => by
    rw [List.replicate_succ, List.replicate_succ, List.flatten_cons, List.flatten_cons]
    exact Vals.append h (Vals.rep h k)
theorem foldl_rep (its : List Value) : ∀ (k : Nat) (acc : List Value),
    List.foldl (fun x1 x2 => x1 ++ x2) acc.toArray (List.replicate k its.toArray) = (acc ++ (List.replicate k its).flatten).toArray
  | 0, acc => by simp
  | k + 1, acc => by
    have e : acc.toArray ++ its.toArray = (acc ++ its).toArray := by simp
    have e2 : (acc ++ its) ++ (List.replicate k its).flatten = acc ++ (List.replicate (k + 1) its).flatten := by
      rw [List.replicate_succ, List.flatten_cons, List.append_assoc]
    rw [← e2, ← foldl_rep its k (acc ++ its), ← e, List.replicate_succ, List.foldl_cons]

section
variable {X : Cx} {pins : List (Addr × Obj)} {σ : St} {H : Hp} {s : Shared} {l b : Addr} {xs ys zs : List V}

theorem Inv.lset {its its' : List Value} {n : Nat} {f : Array Value → Array Value} {t' : Nat} (I : Inv X pins σ H s) (hH : H l = some (.lst xs))
    (e : s.heap.get? l = some { cls := .type "list", data := .seq its.toArray n }) (hf : f its.toArray = its'.toArray) (hv : Vals ys its') (hz : ys.length ≤ sizeLine) :
    Inv X pins σ (upd H l (.lst ys)) { s with heap := s.heap.update l (Obj.mapSeq f), toks := t' } := by
  have q := PySem.IsL.update e f
  rw [hf] at q
  refine I.write (x := l) (e := l) (by rw [hH]; exact trivial) (.inl rfl) (fun b' u hb hu => (Heap.get?_update_other s.heap (Obj.mapSeq f) (Ne.symm hb)).trans hu) ⟨_, q⟩ ?_
  exact ⟨hz, its', _, hv, q⟩
theorem Inv.lnew {its : List Value} {t' : Nat} (I : Inv X pins σ H s) (hv : Vals ys its) (hz : ys.length ≤ sizeLine) :
    Inv X pins σ (upd H s.heap.objs.size (.lst ys)) { s with heap := s.heap.push { cls := .type "list", data := .seq its.toArray }, toks := t' } :=
  I.laid (fun _ _ q => Heap.get?_push_of_some _ q) (Nat.le_refl _) ⟨hz, its, 0, hv, Heap.get?_push_size _ rfl⟩
theorem Inv.fresh (I : Inv X pins σ H s) : H s.heap.objs.size = none := I.hok.fresh (Nat.le_refl _)
theorem Inv.lstM (I : Inv X pins σ H s) (hH : H l = some (.lst xs)) : xs.length ≤ sizeLine ∧ ∃ (its : List Value) (n : Nat), Vals xs its ∧ xs.length = its.length ∧ s.heap.get? l = some { cls := .type "list", data := .seq its.toArray n } := by
  obtain ⟨z, its, n, r, e⟩ := I.hok l _ hH
  exact ⟨z, its, n, r, r.length, e⟩

theorem notLongL {n : Nat} (h : n ≤ sizeLine) : Builtin.List.listTooLong n = false := by
  unfold Builtin.List.listTooLong
  exact decide_eq_false (by omega)
end

section
variable {X : Cx}

def rAppend : V → List V → Hp → VK → Prop := fun x vs H Q => ∃ l xs y, x = .ref l ∧ vs = [y] ∧ H l = some (.lst xs) ∧ xs.length < sizeLine ∧ Q .non (upd H l (.lst (xs ++ [y])))
theorem mt_append : MtM X "list.append" rAppend := by
  intro pins s σ H x vs v us Q I rx rv h
  obtain ⟨l, xs, y, rfl, rfl, hH, hz, q⟩ := h
  cases rx
  obtain ⟨u, rfl, ru⟩ := rv.one
  obtain ⟨z, its, n, r, hl, e⟩ := I.lstM hH
  refine call_meets F.slot_list_append ⟨_, e, rfl⟩ F.entry_list_append (F.args_list_append_2 _ _) (PySem.list_append l its.toArray n u (by rw [List.size_toArray]; omega)) ⟨e, ?_⟩
  refine ⟨.non, _, I.lset (its' := its ++ [u]) hH e (by simp) (r.append (.cons ru .nil)) ?_, rfl, q⟩
  rw [List.length_append, List.length_singleton]
  omega

/-- a list times an int (a negative one is nothing) -/
def rRep : R2 := fun x y H Q => ∃ l k xs, x = .ref l ∧ y = .int k ∧ H l = some (.lst xs) ∧ -(2 ^ 63) ≤ k ∧ k < 2 ^ 63 ∧ xs.length * k.toNat ≤ sizeLine ∧
  ∀ p, H p = none → Q (.ref p) (upd H p (.lst (List.replicate k.toNat xs).flatten))
theorem len_rep {α : Type} (xs : List α) (k : Nat) : (List.replicate k xs).flatten.length = k * xs.length := by
  induction k with
  | zero => simp
  | succ k ih => rw [List.replicate_succ, List.flatten_cons, List.length_append, ih, Nat.succ_mul, Nat.add_comm]
theorem op_rep : OpR X (binaryOp .Mult) rRep := by
  intro pins s σ H x y v u Q I rx ry h
  obtain ⟨l, k, xs, rfl, rfl, hH, h1, h2, hz, q⟩ := h
  cases rx
  obtain ⟨t, rfl⟩ := ry
  obtain ⟨z, its, n, r, hl, e⟩ := I.lstM hH
  have hlen : its.toArray.size * k.toNat ≤ sizeLine := by rw [List.size_toArray, ← hl]; exact hz
  have hcap : ¬ its.toArray.size * k.toNat > (2 ^ 63 - 1) / 8 := by
    have : (sizeLine : Nat) ≤ (2 ^ 63 - 1) / 8 := by decide
    omega
  have hfit : ¬ (!Builtin.List.listFitsIndex k) = true := by
    rw [fitsIndex_both h1 h2]
    exact Bool.false_ne_true
  have hlong : ¬ Builtin.List.listTooLong (its.toArray.size * k.toNat) = true := by
    rw [notLongL hlen]
    exact Bool.false_ne_true
  have hnew : List.foldl (fun x1 x2 => x1 ++ x2) #[] (List.replicate (if its.toArray.isEmpty = true then 0 else k.toNat) its.toArray) = (List.replicate k.toNat its).flatten.toArray := by
    have f0 : ∀ m : Nat, List.foldl (fun x1 x2 => x1 ++ x2) #[] (List.replicate m its.toArray) = (List.replicate m its).flatten.toArray := fun m => by
      have := foldl_rep its m []
      rw [List.nil_append] at this
      exact this
    rw [f0]
    cases its with
    | nil => simp
    | cons a r' => rw [if_neg (by simp)]
  refine wpAny_binaryOp_repeat_ref (T := "list") (U := "int") (by decide) ⟨_, e, rfl⟩ (fun s' => typeIs_int s' k t) noFill_list_mul F.fills_int_mul F.slot_int_rmul repeat_list F.slot_int_index.lookup
    (call_meets F.slot_int_rmul (typeIs_int s k t) F.entry_int_rmul (F.args_int_rmul_2 _ _) (int___rmul___int_list k t l its.toArray n)
      ⟨e, rfl, ⟨_, e, rfl⟩, call_meets F.slot_list_mul ⟨_, e, rfl⟩ F.entry_list_mul (F.args_list_mul_2 _ _) (AutoListH.list___mul___list_int_3 l its.toArray n k t hfit hcap hlong) ⟨e, ?_⟩⟩)
  rw [hnew]
  exact ⟨.ref _, _, I.lnew (t' := s.toks) (r.rep k.toNat) (by rw [len_rep, Nat.mul_comm]; exact hz), rfl, q _ I.fresh⟩

end

section
variable {prog : Program} {w : World} {A : Around} {E : Value → Shared → Prop} {s : Shared}
set_option maxRecDepth 100000 in
set_option maxRecDepth 100000 in
end

section
variable {X : Cx}
end
end L2

namespace L2
open PySem PySem.Spec PyProof.Rows

theorem Vals.ints : ∀ {ns : List Int} {us : List Value}, Vals (ns.map V.int) us → IntsAre us ns
  | [], us, h => by
    rw [List.map_nil] at h
    cases h
    exact IntsAre.nil
  | n :: ns, us, h => by
    rw [List.map_cons] at h
    cases h with
    | cons r t =>
      obtain ⟨k, rfl⟩ := r
      exact IntsAre.cons n k (Vals.ints t)
theorem Vals.bls : ∀ {bs : List Bool} {us : List Value}, Vals (bs.map V.bl) us → us = bs.map Value.bool
  | [], us, h => by
    rw [List.map_nil] at h
    cases h
    rfl
  | b :: bs, us, h => by
    rw [List.map_cons] at h
    cases h with
    | cons r t =>
      cases r
      rw [Vals.bls t, List.map_cons]
theorem Vals.ref1 {a : Addr} {us : List Value} (r : Vals [V.ref a] us) : us = [Value.ref a] := by
  cases r with
  | cons r t =>
    cases t
    cases r
    rfl

section
variable {prog : Program} {w : World} {A : Around} {E : Value → Shared → Prop} {s : Shared} {l : Addr} {its : List Value} {ns : List Int} {Q : Value → Shared → Prop}
end

section
variable {X : Cx}

end

section
variable {X : Cx}
end

section
variable {X : Cx}
end

theorem iter_any {prog : Program} {w : World} {A : Around} {E : Value → Shared → Prop} {s : Shared} {l : Addr} {items : Array Value} {Q : Value → Shared → Prop} (hl : s.heap.IsList l items)
    (h : ∀ s₂ : Shared, s₂ = { s with heap := s.heap.push { cls := .type "list_iterator", data := .fields #[.ref l, .int 0 0] } } →
      (s₂.heap.IsListIter s.heap.objs.size l 0 ∧ s₂.heap.IsList l items) → l ≠ s.heap.objs.size → Q (.ref s.heap.objs.size) s₂) : wpAny (model prog w) A (pyIter (.ref l)) Q E s := by
  have hlt : l < s.heap.objs.size := by obtain ⟨_, e, _⟩ := hl; exact Heap.lt_size e
  exact wpAny_pyIter_list hl (h _ rfl ⟨⟨_, Heap.get?_push_size _ rfl, rfl, rfl⟩, hl.push _⟩ (Nat.ne_of_lt hlt))
theorem truth_bools {prog : Program} {w : World} {A : Around} {bs : List Bool} {its : List Value} (e : its = bs.map Value.bool) :
    TruthOf prog w A (fun i v => its.toArray[i]? = some v) (fun i => bs.getD i false) := fun i v s Q E hv hq => by
  have hv' : its[i]? = some v := by simpa using hv
  rw [e, List.getElem?_map] at hv'
  obtain ⟨b, hb, rfl⟩ := Option.map_eq_some_iff.mp hv'
  have hg : bs.getD i false = b := by rw [List.getD_eq_getElem?_getD, hb] <;> rfl
  have hq' : Q (bs.getD i false) s := hq
  rw [hg] at hq'
  exact wpAny_truthy_bool hq'
theorem any_range : ∀ bs : List Bool, (List.range bs.length).any (fun i => bs.getD i false) = bs.any id
  | [] => rfl
  | b :: bs => by
    rw [List.length_cons, List.range_succ_eq_map, List.any_cons, List.any_map, List.any_cons, ← any_range bs]
    all_goals rfl
theorem all_range : ∀ bs : List Bool, (List.range bs.length).all (fun i => bs.getD i false) = bs.all id
  | [] => rfl
  | b :: bs => by
    rw [List.length_cons, List.range_succ_eq_map, List.all_cons, List.all_map, List.all_cons, ← all_range bs]
    all_goals rfl
section
variable {X : Cx}
def rAny (K : PySem.W.Frag) : List V → Hp → VK → Prop := fun vs H Q => ∃ (a : Addr) (bs : List Bool), vs = [V.ref a] ∧ SqL K H a (bs.map V.bl) ∧ Q (.bl (bs.any id)) H
def rAll (K : PySem.W.Frag) : List V → Hp → VK → Prop := fun vs H Q => ∃ (a : Addr) (bs : List Bool), vs = [V.ref a] ∧ SqL K H a (bs.map V.bl) ∧ Q (.bl (bs.all id)) H
theorem cr_any (hc : X.calm = true) : CallR X (.builtin "any") (rAny X.K) := by
  intro pins s σ H vs us Q I r h
  obtain ⟨a, bs, rfl, hs, q⟩ := h
  obtain ⟨its, rv, hl, _⟩ := I.list hs
  rw [Vals.ref1 r]
  have hb := rv.bls
  refine call_any_walk (iter_any hl.isList fun s₂ e2 st hne => ?_)
  subst e2
  refine ⟨_, _, _, _, _, _, _, rfl, Walks.list (A := X.A.in1) (I.ok.hd hc) _ a hne its.toArray, st, truth_bools hb, fun h' tk hk => ?_⟩
  refine ⟨.bl _, H, I.kept fun b o eo => hk b o (fun hmem => ?_) (Heap.get?_push_of_some _ eo), ?_, q⟩
  · rcases List.mem_cons.mp hmem with e1 | hmem
    · exact absurd (e1 ▸ Heap.lt_size eo) (Nat.lt_irrefl _)
    · cases hmem
  · show Value.bool _ = Value.bool _
    rw [← any_range, hb, List.size_toArray, List.length_map]
theorem cr_all (hc : X.calm = true) : CallR X (.builtin "all") (rAll X.K) := by
  intro pins s σ H vs us Q I r h
  obtain ⟨a, bs, rfl, hs, q⟩ := h
  obtain ⟨its, rv, hl, _⟩ := I.list hs
  rw [Vals.ref1 r]
  have hb := rv.bls
  refine call_all_walk (iter_any hl.isList fun s₂ e2 st hne => ?_)
  subst e2
  refine ⟨_, _, _, _, _, _, _, rfl, Walks.list (A := X.A.in1) (I.ok.hd hc) _ a hne its.toArray, st, truth_bools hb, fun h' tk hk => ?_⟩
  refine ⟨.bl _, H, I.kept fun b o eo => hk b o (fun hmem => ?_) (Heap.get?_push_of_some _ eo), ?_, q⟩
  · rcases List.mem_cons.mp hmem with e1 | hmem
    · exact absurd (e1 ▸ Heap.lt_size eo) (Nat.lt_irrefl _)
    · cases hmem
  · show Value.bool _ = Value.bool _
    rw [← all_range, hb, List.size_toArray, List.length_map]
end

mutual
inductive Dp (K : PySem.W.Frag) (H : Hp) : V → PyData → Prop
  | non : Dp K H .non .none
  | bl (b : Bool) : Dp K H (.bl b) (.bool b)
  | int (i : Int) : Dp K H (.int i) (.int i)
  | str (x : Str) : Dp K H (.str x) (.str x)
  | lst {a : Addr} {xs : List V} {ds : List PyData} : SqL K H a xs → DpAll K H xs ds → Dp K H (.ref a) (.list ds)
  | tup {a : Addr} {xs : List V} {ds : List PyData} : SqT K H a xs → DpAll K H xs ds → Dp K H (.ref a) (.tuple ds)
inductive DpAll (K : PySem.W.Frag) (H : Hp) : List V → List PyData → Prop
  | nil : DpAll K H [] []
  | cons {v : V} {vs : List V} {d : PyData} {ds : List PyData} : Dp K H v d → DpAll K H vs ds → DpAll K H (v :: vs) (d :: ds)
end
section
variable {X : Cx} {pins : List (Addr × Obj)} {σ : St} {H : Hp} {s : Shared}
mutual
theorem Dp.reads (I : Inv X pins σ H s) : ∀ (d : PyData) (v : V) (u : Value), Dp X.K H v d → RelV v u → ∃ as, Reads s.heap u d as
  | .none, _, _, h, r => by
    cases h
    cases r
    exact ⟨_, Reads.none⟩
  | .bool b, _, _, h, r => by
    cases h
    cases r
    exact ⟨_, Reads.bool b⟩
  | .int i, _, _, h, r => by
    cases h
    obtain ⟨t, rfl⟩ := r
    exact ⟨_, Reads.int i t⟩
  | .str x, _, _, h, r => by
    cases h
    obtain ⟨t, rfl⟩ := r
    exact ⟨_, Reads.str x t⟩
  | .list ds, _, _, h, r => by
    cases h with
    | lst hs ha =>
      cases r
      obtain ⟨its, rv, ⟨o, n, ho, hc, _, hd⟩, _⟩ := I.list hs
      obtain ⟨as, hr⟩ := Dp.readsAll I ds _ its ha rv
      exact ⟨_, Reads.list ho hc hd hr⟩
  | .tuple ds, _, _, h, r => by
    cases h with
    | tup hs ha =>
      cases r
      obtain ⟨its, rv, ⟨o, ho, hc, n, hd⟩, _⟩ := I.tuple hs
      obtain ⟨as, hr⟩ := Dp.readsAll I ds _ its ha rv
      exact ⟨_, Reads.tuple ho hc hd hr⟩
  | .dict _, _, _, h, _ => by cases h
theorem Dp.readsAll (I : Inv X pins σ H s) : ∀ (ds : List PyData) (vs : List V) (us : List Value), DpAll X.K H vs ds → Vals vs us → ∃ as, ReadsAll s.heap us ds as
  | [], _, _, h, r => by
    cases h
    cases r
    exact ⟨_, ReadsAll.nil⟩
  | d :: ds, _, _, h, r => by
    cases h with
    | cons h1 h2 =>
      cases r with
      | cons r1 r2 =>
        obtain ⟨as, q1⟩ := Dp.reads I d _ _ h1 r1
        obtain ⟨bs, q2⟩ := Dp.readsAll I ds _ _ h2 r2
        exact ⟨_, ReadsAll.cons q1 q2⟩
end
end
section
variable {X : Cx}
def rEqD (K : PySem.W.Frag) : R2 := fun x y H Q => ∃ d e, Dp K H x d ∧ Dp K H y e ∧ SeqAt.shaped d = true ∧ SeqAt.shaped e = true ∧ Q (.bl (PyData.eqv d e)) H
def rNeD (K : PySem.W.Frag) : R2 := fun x y H Q => ∃ d e, Dp K H x d ∧ Dp K H y e ∧ SeqAt.shaped d = true ∧ SeqAt.shaped e = true ∧ Q (.bl (!PyData.eqv d e)) H
theorem op_eqD (hu : X.A.units + 64 < cLine) : OpR X (compareOp .Eq) (rEqD X.K) := by
  intro pins s σ H x y v u Q I rx ry h
  obtain ⟨d, e, hd, he, sd, se, q⟩ := h
  obtain ⟨as, r1⟩ := Dp.reads I d x v hd rx
  obtain ⟨bs, r2⟩ := Dp.reads I e y u he ry
  exact SeqAt.compareEq_shaped r1 r2 sd se hu ⟨.bl _, H, I, rfl, q⟩
theorem op_neD (hu : X.A.units + 64 < cLine) : OpR X (compareOp .NotEq) (rNeD X.K) := by
  intro pins s σ H x y v u Q I rx ry h
  obtain ⟨d, e, hd, he, sd, se, q⟩ := h
  obtain ⟨as, r1⟩ := Dp.reads I d x v hd rx
  obtain ⟨bs, r2⟩ := Dp.reads I e y u he ry
  exact SeqAt.compareNe_shaped r1 r2 sd se hu ⟨.bl _, H, I, rfl, q⟩
end
end L2

namespace L2
open PySem PySem.Spec PyProof.Rows
abbrev CellAt (h : Heap) (c : Addr) (v : Option Value) : Prop := h.IsCell c v
def relS (scope sc : Scope) : Scope :=
  { scope with names := scope.names.map fun (n, k) => if (k == .free && sc.kind == .function && sc.names.lookup n == some .cell) then (n, .cell) else (n, k) }

def cloFrom (cells : List (Str × Addr)) : List (Str × NameKind) → List (Str × Addr) → List (Str × Addr)
  | [], acc => acc
  | (n, k) :: r, acc => if k == .free then cloFrom cells r ((n, (cells.lookup n).getD 0) :: acc) else cloFrom cells r acc

theorem closure_loop (env : Env) (f : Str × NameKind → List (Str × Addr) → Sem (ForInStep (List (Str × Addr))))
    (hf : ∀ n k c, f (n, k) c = if k == .free then (do let a ← cellOf env n; pure (.yield ((n, a) :: c))) else pure (.yield c)) :
    ∀ (names : List (Str × NameKind)) (acc : List (Str × Addr)), (∀ y ∈ names, y.2 = .free → ∃ c, env.cells.lookup y.1 = some c) → forIn names acc f = pure (cloFrom env.cells names acc)
  | [], acc, _ => by rw [List.forIn_nil]; rfl
  | (n, k) :: r, acc, h => by
    rw [List.forIn_cons, hf]
    have ih := fun acc => closure_loop env f hf r acc fun y hy => h y (List.mem_cons_of_mem _ hy)
    unfold cloFrom
    by_cases hk : (k == NameKind.free) = true
    · rw [if_pos hk, if_pos hk]
      obtain ⟨c, hc⟩ := h (n, k) List.mem_cons_self (by simpa using hk)
      have e : cellOf env n = pure c := by unfold cellOf; rw [hc]
      rw [e]
      have e2 : (env.cells.lookup n).getD 0 = c := by rw [hc]; rfl
      rw [e2]
      exact ih _
    · rw [if_neg hk, if_neg hk]
      exact ih _
theorem closure_ok {scope : Scope} {env : Env} (h : ∀ y ∈ scope.names, y.2 = .free → ∃ c, env.cells.lookup y.1 = some c) : closureFor scope env = pure (cloFrom env.cells scope.names []) := by
  simp only [closureFor]
  rw [closure_loop env _ (fun n k c => rfl) scope.names [] h]
  rfl

theorem mem_lookup {α : Type} : ∀ {l : List (Str × α)} {n : Str} {c : α}, (n, c) ∈ l → ∃ c', l.lookup n = some c'
  | (k, v) :: r, n, c, h => by
    rw [List.lookup_cons]
    cases hb : n == k with
    | true => exact ⟨_, rfl⟩
    | false =>
      rcases List.mem_cons.mp h with e | h
      · cases e; simp at hb
      · exact mem_lookup h

theorem cloFrom_mem {cells : List (Str × Addr)} : ∀ {names : List (Str × NameKind)} {acc : List (Str × Addr)} {n : Str} {c : Addr}, (n, c) ∈ cloFrom cells names acc → (n, c) ∈ acc ∨ ((n, .free) ∈ names ∧ c = (cells.lookup n).getD 0)
  | [], _, _, _, h => .inl h
  | (m, k) :: r, acc, n, c, h => by
    unfold cloFrom at h
    split at h
    · rename_i hk
      have hk : k = .free := by simpa using hk
      rcases cloFrom_mem h with h | ⟨h1, h2⟩
      · rcases List.mem_cons.mp h with e | h
        · cases e; exact .inr ⟨hk ▸ List.mem_cons_self, rfl⟩
        · exact .inl h
      · exact .inr ⟨List.mem_cons_of_mem _ h1, h2⟩
    · rcases cloFrom_mem h with h | ⟨h1, h2⟩
      · exact .inl h
      · exact .inr ⟨List.mem_cons_of_mem _ h1, h2⟩
theorem cloFrom_acc {cells : List (Str × Addr)} : ∀ {names : List (Str × NameKind)} {acc : List (Str × Addr)} {p : Str × Addr}, p ∈ acc → p ∈ cloFrom cells names acc
  | [], _, _, h => h
  | (m, k) :: r, acc, p, h => by
    unfold cloFrom
    split
    · exact cloFrom_acc (List.mem_cons_of_mem _ h)
    · exact cloFrom_acc h
theorem cloFrom_has {cells : List (Str × Addr)} : ∀ {names : List (Str × NameKind)} {acc : List (Str × Addr)} {n : Str}, (n, .free) ∈ names → (n, (cells.lookup n).getD 0) ∈ cloFrom cells names acc
  | (m, k) :: r, acc, n, h => by
    unfold cloFrom
    rcases List.mem_cons.mp h with e | h
    · cases e
      exact cloFrom_acc List.mem_cons_self
    · split
      · exact cloFrom_has h
      · exact cloFrom_has h

theorem cells_mem : ∀ {names : List (Str × NameKind)} {h : Heap} {acc : List (Str × Addr)} {x : Str} {c : Addr}, (x, c) ∈ cellsFrom h.objs.size names acc →
    (x, c) ∈ acc ∨ ((x, .cell) ∈ names ∧ h.objs.size ≤ c ∧ CellAt (pushCells h names) c none)
  | [], _, _, _, _, h => .inl h
  | (n, k) :: r, h, acc, x, c, hm => by
    unfold cellsFrom at hm
    unfold pushCells
    split at hm
    · rename_i hk
      rw [if_pos hk]
      have hk : k = .cell := by simpa using hk
      rw [← Heap.size_push h { cls := .type "cell", data := .cell none }] at hm
      rcases cells_mem hm with hm | ⟨h1, h2, h3⟩
      · rcases List.mem_cons.mp hm with e | hm
        · cases e
          exact .inr ⟨hk ▸ List.mem_cons_self, Nat.le_refl _, _, pushCells_keeps r _ _ _ (Heap.get?_push_size _ rfl), rfl⟩
        · exact .inl hm
      · rw [Heap.size_push] at h2
        exact .inr ⟨List.mem_cons_of_mem _ h1, Nat.le_of_succ_le h2, h3⟩
    · rename_i hk
      rw [if_neg hk]
      rcases cells_mem hm with hm | ⟨h1, h2, h3⟩
      · exact .inl hm
      · exact .inr ⟨List.mem_cons_of_mem _ h1, h2, h3⟩
theorem cells_acc : ∀ {names : List (Str × NameKind)} {n : Nat} {acc : List (Str × Addr)} {p : Str × Addr}, p ∈ acc → p ∈ cellsFrom n names acc
  | [], _, _, _, h => h
  | (m, k) :: r, n, acc, p, h => by
    unfold cellsFrom
    split
    · exact cells_acc (List.mem_cons_of_mem _ h)
    · exact cells_acc h
theorem cells_has : ∀ {names : List (Str × NameKind)} {n : Nat} {acc : List (Str × Addr)} {x : Str}, (x, .cell) ∈ names → ∃ c, (x, c) ∈ cellsFrom n names acc
  | (m, k) :: r, n, acc, x, h => by
    unfold cellsFrom
    rcases List.mem_cons.mp h with e | h
    · cases e
      exact ⟨n, cells_acc List.mem_cons_self⟩
    · split
      · exact cells_has h
      · exact cells_has h
theorem cells_inj : ∀ {names : List (Str × NameKind)} {h : Heap} {acc : List (Str × Addr)} {x y : Str} {c : Addr}, (∀ p ∈ acc, p.2 < h.objs.size) → (∀ x y c, (x, c) ∈ acc → (y, c) ∈ acc → x = y) →
    (x, c) ∈ cellsFrom h.objs.size names acc → (y, c) ∈ cellsFrom h.objs.size names acc → x = y
  | [], _, _, _, _, _, _, hi, h1, h2 => hi _ _ _ h1 h2
  | (n, k) :: r, h, acc, x, y, c, hl, hi, h1, h2 => by
    unfold cellsFrom at h1 h2
    split at h1
    · rename_i hk
      rw [if_pos hk] at h2
      rw [← Heap.size_push h { cls := .type "cell", data := .cell none }] at h1 h2
      refine cells_inj (h := h.push _) (fun p hp => ?_) (fun x y c a b => ?_) h1 h2
      · rw [Heap.size_push]
        rcases List.mem_cons.mp hp with rfl | hp
        · exact Nat.lt_succ_self _
        · exact Nat.lt_succ_of_lt (hl p hp)
      · rcases List.mem_cons.mp a with e | a <;> rcases List.mem_cons.mp b with e' | b
        · cases e; cases e'; rfl
        · cases e; exact absurd (hl _ b) (Nat.lt_irrefl _)
        · cases e'; exact absurd (hl _ a) (Nat.lt_irrefl _)
        · exact hi _ _ _ a b
    · rename_i hk
      rw [if_neg hk] at h2
      exact cells_inj hl hi h1 h2

theorem newEnv_comp {M : Model} {A : Around} {E : Value → Shared → Prop} {s : Shared} {scope : Scope} {globals : Addr} {closure : List (Str × Addr)} {qual : Str} {func : Option Addr} {code : Value} {around : Env} {builtins : Addr} {Q : Env → Shared → Prop}
    (h : Q (newEnv scope s.heap.objs.size globals (cellsFrom (s.heap.objs.size + 1) scope.names closure) qual func code (some around) builtins)
      { s with heap := pushCells (s.heap.push { cls := .type "dict", data := .dict #[] }) scope.names }) :
    wpAny M A (newFunctionEnv scope globals closure [] qual func code (some around) builtins) Q E s := by
  simp only [newFunctionEnv, Option.isSome_some, if_true]
  refine wpAny_bind (wpAny_alloc ?_)
  refine wpAny_bind (wpAny_layCells _ (fun n k c => rfl) scope.names closure _ _ ?_)
  rw [show ({ s with heap := s.heap.push { cls := .type "dict", data := .dict #[] } } : Shared).heap.objs.size = s.heap.objs.size + 1 from Heap.size_push ..]
  rw [List.forIn_nil]
  exact wpAny_bind (wpAny_pure (wpAny_pure h))

/-- every name of the written scope, in the scope that runs -/
theorem lookup_relS {sc : Scope} : ∀ {names : List (Str × NameKind)} {x : Str} {k : NameKind},
    (names.map fun (n, k) => if (k == NameKind.free && sc.kind == .function && sc.names.lookup n == some .cell) then (n, NameKind.cell) else (n, k)).lookup x = some k →
    ∃ k', names.lookup x = some k' ∧ (k = k' ∨ (k' = .free ∧ k = .cell))
  | [], _, _, h => by simp at h
  | (n, k₀) :: r, x, k, h => by
    have ih := @lookup_relS sc r x k
    have h' : List.lookup x ((if (k₀ == NameKind.free && sc.kind == .function && sc.names.lookup n == some .cell) = true then (n, NameKind.cell) else (n, k₀)) :: (r.map _)) = some k := h
    cases hx : x == n with
    | true =>
      simp only [List.lookup_cons, hx]
      by_cases hc : (k₀ == NameKind.free && sc.kind == .function && sc.names.lookup n == some .cell) = true
      · rw [if_pos hc] at h'
        simp only [List.lookup_cons, hx] at h'
        cases h'
        simp only [Bool.and_eq_true, beq_iff_eq] at hc
        exact ⟨k₀, rfl, .inr ⟨hc.1.1, rfl⟩⟩
      · rw [if_neg hc] at h'
        simp only [List.lookup_cons, hx] at h'
        cases h'
        exact ⟨_, rfl, .inl rfl⟩
    | false =>
      simp only [List.lookup_cons, hx]
      by_cases hc : (k₀ == NameKind.free && sc.kind == .function && sc.names.lookup n == some .cell) = true
      · rw [if_pos hc] at h'
        simp only [List.lookup_cons, hx] at h'
        exact ih h'
      · rw [if_neg hc] at h'
        simp only [List.lookup_cons, hx] at h'
        exact ih h'

/-- the names of a comprehension's block: its own (with their places in N), or captured -/
structure BlkOk (N : List Str) (sc scope : Scope) (own : List (Str × Nat)) : Prop where
  kind : scope.kind = .function
  uniq : ∀ y ∈ scope.names, scope.names.lookup y.1 = some y.2
  ix : ∀ p ∈ own, N[p.2]? = some p.1
  free : ∀ y ∈ scope.names, y.2 = .free → sc.names.lookup y.1 = some .cell ∨ sc.names.lookup y.1 = some .free
  own : ∀ y ∈ scope.names, y.2 = .local ∨ y.2 = .cell → y.1 ∈ own.map (·.1) ∨ y.1 ∉ N
/-- the slots of the block's own names forgotten -/
def wipe (σ : St) : List Nat → St
  | [] => σ
  | v :: vs => (wipe σ vs).set v none
theorem wipe_length (σ : St) : ∀ vs : List Nat, (wipe σ vs).length = σ.length
  | [] => rfl
  | v :: vs => by unfold wipe; rw [List.length_set, wipe_length σ vs]
theorem wipe_some {σ : St} {i : Nat} {x : V} : ∀ {vs : List Nat}, (wipe σ vs)[i]? = some (some x) → σ[i]? = some (some x) ∧ i ∉ vs
  | [], h => ⟨h, by simp⟩
  | v :: vs, h => by
    unfold wipe at h
    by_cases hi : v = i
    · subst hi
      by_cases hv : v < (wipe σ vs).length
      · rw [List.getElem?_set_self hv] at h; cases h
      · rw [List.getElem?_eq_none (by simpa using hv)] at h; cases h
    · rw [List.getElem?_set_ne hi] at h
      obtain ⟨h1, h2⟩ := wipe_some h
      exact ⟨h1, by simp only [List.mem_cons, not_or]; exact ⟨fun e => hi e.symm, h2⟩⟩

/-- the context of a block that starts at s, its iterator's objects at fp -/
abbrev Cx.blk (X : Cx) (s : Shared) (H : Hp) (scope : Scope) (cenv : Env) (fp : List Addr) : Cx := { X with s_0 := s, H_0 := H, env := cenv, outer := X.stack, ex := fp, fn := fun x => scope.names.lookup x == some .cell, pn := [], xe := fun _ _ => False }
section
variable {X : Cx} {pins : List (Addr × Obj)} {σ : St} {H : Hp} {s : Shared}
theorem block_start {scope : Scope} {own : List (Str × Nat)} {fp : List Addr} (I : Inv X pins σ H s) (ok : BlkOk X.N X.env.scope scope own) (hN : X.N.Nodup) (hfp : ∀ b ∈ fp, FpOk X pins H b ∧ b < s.heap.objs.size) :
    Inv (X.blk s H scope (compEnvC scope (cellsFrom (s.heap.objs.size + 1) scope.names (cloFrom X.env.cells scope.names [])) s.heap.objs.size X.env) fp) [] (wipe σ (own.map (·.2))) H { s with heap := pushCells (s.heap.push { cls := .type "dict", data := .dict #[] }) scope.names } := by
  have hfree : ∀ y ∈ scope.names, y.2 = .free → ∃ c, X.env.cells.lookup y.1 = some c := fun y hy e => by
    rcases ok.free y hy e with k | k
    · exact I.ok.has _ (.inl k)
    · exact I.ok.has _ (.inr k)
  generalize hcenv : compEnvC scope (cellsFrom (s.heap.objs.size + 1) scope.names (cloFrom X.env.cells scope.names [])) s.heap.objs.size X.env = cenv
  have kp : ∀ b o, s.heap.get? b = some o → (pushCells (s.heap.push { cls := .type "dict", data := .dict #[] }) scope.names).get? b = some o := fun b o e => pushCells_keeps _ _ _ _ (Heap.get?_push_of_some _ e)
  have hL : cenv.locals = s.heap.objs.size := by rw [← hcenv]; rfl
  have hcl : cenv.cells = cellsFrom (s.heap.objs.size + 1) scope.names (cloFrom X.env.cells scope.names []) := by rw [← hcenv]; rfl
  have hsc : cenv.scope = relS scope X.env.scope := by rw [← hcenv]; rfl
  rw [← Heap.size_push s.heap { cls := .type "dict", data := .dict #[] }] at hcl
  have cm : ∀ {y c}, (y, c) ∈ cloFrom X.env.cells scope.names [] → X.env.cells.lookup y = some c ∧ c < s.heap.objs.size := fun {y c} hm => by
    rcases cloFrom_mem hm with hm | ⟨h1, rfl⟩
    · cases hm
    · obtain ⟨c, hc⟩ := hfree _ h1 rfl
      rw [hc]
      obtain ⟨w, z⟩ := I.cell _ _ hc
      exact ⟨rfl, z.lt⟩
  have mem : ∀ {y c}, cenv.cells.lookup y = some c → (X.env.cells.lookup y = some c ∧ c < s.heap.objs.size) ∨ (s.heap.objs.size + 1 ≤ c ∧ CellAt (pushCells (s.heap.push { cls := .type "dict", data := .dict #[] }) scope.names) c none) := fun {y c} e => by
    rw [hcl] at e
    rcases cells_mem (PySem.mem_of_lookup e) with hm | ⟨_, h2, h3⟩
    · exact .inl (cm hm)
    · rw [Heap.size_push] at h2; exact .inr ⟨h2, h3⟩
  have look : ∀ {y}, scope.names.lookup y = some .free → ∃ c, cenv.cells.lookup y = some c ∧ X.env.cells.lookup y = some c := fun {y} hl => by
    have hy : (y, NameKind.free) ∈ scope.names := PySem.mem_of_lookup hl
    obtain ⟨c', e'⟩ := mem_lookup (cells_acc (names := scope.names) (n := (s.heap.push { cls := .type "dict", data := .dict #[] }).objs.size) (cloFrom_has (cells := X.env.cells) (acc := []) hy))
    rw [← hcl] at e'
    refine ⟨c', e', ?_⟩
    rw [hcl] at e'
    rcases cells_mem (PySem.mem_of_lookup e') with hm | ⟨h1, _, _⟩
    · exact (cm hm).1
    · have := ok.uniq _ h1
      rw [hl] at this; cases this
  have okB : (X.blk s H scope cenv fp).Ok := by
    refine ⟨I.ok.mod, by show cenv.scope.kind = _; rw [hsc]; exact ok.kind, by show cenv.globals = _; rw [← hcenv]; exact I.ok.glob, by show cenv.builtins = _; rw [← hcenv]; exact I.ok.blt, by show s.heap.objs.size ≤ cenv.locals; rw [hL]; exact Nat.le_refl _,
      fun y z c e1 e2 => ?_, fun y hy => ?_, fun y c z e => ?_, I.ok.hd, I.ok.frames, .inl rfl, fun b hb => ⟨?_, fun y c e z => ?_⟩, I.bs, Nat.le_trans I.ok.bsz I.sz, fun b o e hb => ?_, fun b hb z => ?_, I.stack, I.stkFree⟩
    · have e1 : cenv.cells.lookup y = some c := e1
      have e2 : cenv.cells.lookup z = some c := e2
      rw [hcl] at e1 e2
      refine cells_inj (fun p hp => ?_) (fun y z c a b => I.ok.inj y z c (cm a).1 (cm b).1) (PySem.mem_of_lookup e1) (PySem.mem_of_lookup e2)
      rw [Heap.size_push]
      exact Nat.lt_succ_of_lt (cm (y := p.1) (c := p.2) hp).2
    · show ∃ c, cenv.cells.lookup y = some c
      have key : ∀ k, cenv.kindOf y = some k → (k = .cell ∨ k = .free) → ∃ c, cenv.cells.lookup y = some c := fun k hk hk' => by
        unfold Env.kindOf at hk
        rw [hsc] at hk
        obtain ⟨k', e, r⟩ := lookup_relS hk
        have : k' = .cell ∨ k' = .free := by
          rcases r with rfl | ⟨rfl, _⟩
          · exact hk'
          · exact .inr rfl
        rcases this with rfl | rfl
        · obtain ⟨c, hm⟩ := cells_has (n := (s.heap.push { cls := .type "dict", data := .dict #[] }).objs.size) (acc := cloFrom X.env.cells scope.names []) (PySem.mem_of_lookup e)
          obtain ⟨c', e'⟩ := mem_lookup hm
          exact ⟨c', by rw [hcl]; exact e'⟩
        · obtain ⟨c, h1, _⟩ := look e
          exact ⟨c, h1⟩
      rcases hy with hy | hy
      · exact key _ hy (.inl rfl)
      · exact key _ hy (.inr rfl)
    · have z : (scope.names.lookup y == some NameKind.cell) = true := z
      have z : scope.names.lookup y = some .cell := by simpa using z
      have e : cenv.cells.lookup y = some c := e
      rw [hcl] at e
      rcases cells_mem (PySem.mem_of_lookup e) with hm | ⟨_, h2, _⟩
      · rcases cloFrom_mem hm with hm | ⟨h1, _⟩
        · cases hm
        · have q := ok.uniq _ h1
          rw [z] at q; cases q
      · rw [Heap.size_push] at h2
        exact Nat.le_of_succ_le h2
    · show b ≠ cenv.locals
      rw [hL]; exact Nat.ne_of_lt (hfp b hb).2
    · have e : cenv.cells.lookup y = some c := e
      rcases mem e with ⟨h1, _⟩ | ⟨h1, _⟩
      · exact (hfp b hb).1.2.2.2.2.1 y c h1 z
      · have h2 : s.heap.objs.size + 1 ≤ b := by rw [← z]; exact h1
        exact absurd (Nat.lt_of_lt_of_le (hfp b hb).2 (Nat.le_of_succ_le h2)) (Nat.lt_irrefl _)
    · rcases (hfp b hb).1.2.2.2.1 with z | z
      · exact I.ok.noex b o e z
      · exact absurd (Nat.lt_of_lt_of_le (Heap.lt_size e) (Nat.le_trans I.ok.bsz z)) (Nat.lt_irrefl _)
    · rcases List.mem_cons.mp (I.stkSub b z) with z | z
      · exact (hfp b hb).1.2.1 z
      · exact (hfp b hb).1.2.2.1 z
  refine ⟨okB, rfl, I.bare, Un.kept kp, ⟨fun _ => none, ?_, fun i y av e1 e2 e3 => ?_⟩, fun y c e => ?_, ?_, fun y c e => ?_, fun p hp => ?_, I.hok.kept kp, by rw [wipe_length]; exact I.len⟩
  · show Heap.Ns _ cenv.locals _
    rw [hL]
    exact Heap.Ns.keeps (Heap.Ns.new ..) fun b o e => pushCells_keeps _ _ _ _ e
  · obtain ⟨e2, hne⟩ := wipe_some e2
    have hfr : scope.names.lookup y = some .free ∧ (cenv.kindOf y = some .cell ∨ cenv.kindOf y = some .free) := by
      have key : ∀ k, cenv.scope.names.lookup y = some k → k = .local ∨ k = .cell ∨ k = .free → scope.names.lookup y = some .free ∧ (cenv.kindOf y = some .cell ∨ cenv.kindOf y = some .free) := fun k hk hk' => by
        have hk0 := hk
        rw [hsc] at hk
        obtain ⟨k', e, r⟩ := lookup_relS hk
        have no : ¬ (k' = .local ∨ k' = .cell) := fun hh => by
          rcases ok.own _ (PySem.mem_of_lookup e) hh with e' | e'
          · obtain ⟨p, hp, hpy⟩ := List.mem_map.mp e'
            have e3 := ok.ix p hp
            have : p.1 = y := hpy
            rw [this] at e3
            exact hne (List.mem_map.mpr ⟨p, hp, nodup_ix hN e3 e1⟩)
          · exact e' (List.mem_of_getElem? e1)
        rcases r with rfl | ⟨rfl, rfl⟩
        · rcases hk' with rfl | rfl | rfl
          · exact absurd (.inl rfl) no
          · exact absurd (.inr rfl) no
          · exact ⟨e, .inr hk0⟩
        · exact ⟨e, .inl hk0⟩
      have e3 : Vis cenv.scope y := e3
      rcases e3 with e3 | e3 | e3
      · exact key _ e3 (.inl rfl)
      · exact key _ e3 (.inr (.inl rfl))
      · exact key _ e3 (.inr (.inr rfl))
    obtain ⟨m, hn, hl⟩ := I.loc
    have hvis : Vis X.env.scope y := (ok.free _ (PySem.mem_of_lookup hfr.1) rfl).elim (fun k => .inr (.inl k)) (fun k => .inr (.inr k))
    obtain ⟨w, r, q⟩ := hl i y av e1 e2 hvis
    refine ⟨w, r, .inr ⟨hfr.2, ?_⟩⟩
    obtain ⟨c, h1, h2⟩ := look hfr.1
    rcases q with ⟨k, _⟩ | ⟨_, c', e', z⟩
    · have k : X.env.scope.names.lookup y = some .local := k
      rcases ok.free _ (PySem.mem_of_lookup hfr.1) rfl with k' | k' <;> rw [show X.env.scope.names.lookup y = _ from k'] at k <;> cases k
    · rw [h2] at e'; cases e'
      exact ⟨c, h1, z.keeps kp⟩
  · have e : cenv.cells.lookup y = some c := e
    rcases mem e with ⟨h1, _⟩ | ⟨_, z⟩
    · obtain ⟨w, z⟩ := I.cell y c h1
      exact ⟨w, z.keeps kp⟩
    · exact ⟨_, z⟩
  · show H cenv.locals = none
    rw [hL]; exact I.hok.fresh (Nat.le_refl _)
  · have e : cenv.cells.lookup y = some c := e
    rcases mem e with ⟨h1, _⟩ | ⟨h1, _⟩
    · exact I.freeC y c h1
    · exact I.hok.fresh (Nat.le_of_succ_le h1)
  · exact absurd (show p ∈ ([] : List (Addr × Obj)) ++ [] from hp) (by simp)

/-- an item appended to a tracked list -/
theorem app_ok {E : Value → Shared → Prop} {D : Addr} {xs : List V} {y : V} {v : Value} {Q : Value → Shared → Prop} (I : Inv X pins σ H s) (hD : H D = some (.lst xs)) (hz : xs.length < sizeLine) (r : RelV y v)
    (h : ∀ s', Inv X pins σ (upd H D (.lst (xs ++ [y]))) s' → Q .none s') : wpAny (model X.prog X.w) X.A (call (.builtin "list.append") [.ref D, v]) Q E s := by
  obtain ⟨hz', its, n, ri, e⟩ := I.hok D _ hD
  have hl := ri.length
  refine append_at (hsz := by rw [List.size_toArray]; omega) e fun h' sb ho' => ?_
  refine h { s with heap := h' } (I.write (t' := s.toks) (by rw [hD]; trivial) (.inl rfl) (fun b u hb q => (sb.2 b hb).trans q) ⟨_, ho'⟩ ⟨by rw [List.length_append]; exact hz, its ++ [v], n + 1, ri.append (.cons r .nil), ?_⟩)
  rw [ho']
  simp

/-- a clause's tests -/
def PTs (X : Cx) (ifs : List Expr) (t : TT) : Prop :=
  ∀ (pins : List (Addr × Obj)) (s : Shared) (σ : St) (H : Hp) (Q : Bool → Hp → Prop), Inv X pins σ H s → t σ H Q →
    wpAny (model X.prog X.w) X.A (forIn ifs true fun c r => if r = true then do let ok ← isTrue c X.env (eval c X.env); pure (ForInStep.yield ok) else pure (ForInStep.yield r)) (TP X pins σ Q) X.xe s
def tYes : TT := fun _ H Q => Q true H
theorem pts_nil : PTs X [] tYes := fun _ _ _ H _ I h => wpAny_tests_nil ⟨H, I, h⟩
end

theorem thnF {α : Type} {t : Sem α} {Q Q' : α → Shared → Prop} {M : Model} {A : Around} {E : Value → Shared → Prop} {s : Shared} (h : wpAny M A t Q (fun _ _ => False) s) (hQ : ∀ a s, Q a s → Q' a s) : wpAny M A t Q' E s := wpAny_mono h hQ fun _ _ z => False.elim z

/-- the loop of a list comprehension's block, the target of any form (codeAny_compLoop_tests asks a target that no tuple goes to; statement and proof follow it, PyProof/CompMap.lean:41-61, with the step letOwnedTupleGo kept) -/
theorem compLoop_any {prog : Program} {w : World} {A : Around} {R : Result → Shared → Prop} {s : Shared} {elt target iter : Expr} {ifs : List Expr} {scope : Scope} {pos : Pos} {it acc : Value} {env : Env} (I : Nat → Shared → Prop)
    (turn : ∀ n s, I n s → wpAny (model prog w) A (pyNext it) (fun r s₁ => match r with
      | none => R (.ok .next) s₁
      | some v => wpAny (model prog w) A (letOwnedTupleGo target it v) (fun _ s₁' => wpAny (model prog w) A (assign target env v) (fun _ s₂ =>
          wpAny (model prog w) A (forIn ifs true fun c r => if r = true then do let ok ← isTrue c env (eval c env); pure (ForInStep.yield ok) else pure (ForInStep.yield r)) (fun ok s₃ =>
            if ok = true then wpAny (model prog w) A (eval elt env) (fun x s₄ =>
              wpAny (model prog w) A (call (.builtin "list.append") [acc, x]) (fun _ s₅ => ∃ m, m < n ∧ I m s₅) (notedBy (model prog w) A env fun e s' => R (.error e) s') s₄) (notedBy (model prog w) A env fun e s' => R (.error e) s') s₃
            else ∃ m, m < n ∧ I m s₃) (notedBy (model prog w) A env fun e s' => R (.error e) s') s₂) (notedBy (model prog w) A env fun e s' => R (.error e) s') s₁') (notedBy (model prog w) A env fun e s' => R (.error e) s') s₁) (notedBy (model prog w) A env fun e s' => R (.error e) s') s)
    (n : Nat) (h : I n s) :
    codeAny (model prog w) A (.compLoop (.ListComp elt [⟨target, iter, ifs, 0⟩] scope pos) 0 it acc env) R s := by
  refine codeAny_loop rfl I (fun n s hI => ?_) n h
  show wpAny _ A ((compTurn (.ListComp elt [⟨target, iter, ifs, 0⟩] scope pos) 0 it acc env).onRaise (fun x => do noteFrame x env; theTreesLotGoes x)) _ _ s
  refine wpAny_noted ?_
  rw [compTurn_list]
  refine wpAny_bind (wpAny_standAt (wpAny_bind (wpAny_mono (turn n s hI) (fun r s₁ h₁ => ?_) fun _ _ h' => h')))
  cases r with
  | none => exact wpAny_pure h₁
  | some v =>
    refine wpAny_bind (wpAny_mono h₁ (fun _ s₁' h₁' => ?_) fun _ _ h' => h')
    refine wpAny_bind (wpAny_mono h₁' (fun _ s₂ h₂ => wpAny_bind (wpAny_mono h₂ (fun ok s₃ h₃ => ?_) fun _ _ h' => h')) fun _ _ h' => h')
    cases ok with
    | false => exact wpAny_pure ⟨rfl, h₃⟩
    | true =>
      exact wpAny_bind (wpAny_bind (wpAny_mono h₃ (fun x s₄ h₄ => wpAny_bind (wpAny_mono h₄ (fun _ s₅ h₅ => wpAny_pure (wpAny_pure ⟨rfl, h₅⟩)) fun _ _ h' => h')) fun _ _ h' => h'))

section
variable {X : Cx}
/-- [elt for target in iter if ..]: D the new list; W by the turn and a measure, Nx what a turn is to reach -/
def tLc (wi : TI) (g : TG) (tt : TT) (te : TE) (vs : List Nat) : TE := fun σ H Q => wi σ H fun J H1 => ∀ D, H1 D = none → ∃ W : Nat → Nat → Hp → Prop, (∃ m, W 0 m (upd H1 D (.lst []))) ∧ ∀ i m H, W i m H →
  (J.stop i H ∧ Q (.ref D) H) ∨ (J.go i H ∧ ∃ Nx : Hp → Prop, (∀ H', Nx H' → ∃ m', m' < m ∧ W (i + 1) m' H') ∧ ∀ x H', J.yld i H x H' → g x (wipe σ vs) H' fun σ2 H2 => wipe σ2 vs = wipe σ vs ∧ tt σ2 H2 fun b H3 =>
    if b = true then te σ2 H3 fun y H4 => ∃ acc, H4 D = some (.lst acc) ∧ acc.length < sizeLine ∧ Nx (upd H4 D (.lst (acc ++ [y]))) else Nx H3)
theorem lc_core {pins : List (Addr × Obj)} {s : Shared} {σ : St} {H : Hp} {Q : VK} {elt tg iter : Expr} {ifs : List Expr} {scope : Scope} {own : List (Str × Nat)} {pos pos' : Pos} {wi : TI} {g : TG} {tt : TT} {te : TE} {use : Option (Value → Sem Unit)} {Qf : Value → Shared → Prop}
    (hc : X.calm = true) (hN : X.N.Nodup) (I : Inv X pins σ H s) (hi : PI X tg iter wi) (ok : BlkOk X.N X.env.scope scope own)
    (hg : ∀ (s : Shared) (H : Hp) (C : Addr) (cl : List (Str × Addr)) (fp : List Addr), PG (X.blk s H scope (compEnvC scope cl C X.env) fp) tg g) (ht : ∀ (s : Shared) (H : Hp) (C : Addr) (cl : List (Str × Addr)) (fp : List Addr), PTs (X.blk s H scope (compEnvC scope cl C X.env) fp) ifs tt)
    (he : ∀ (s : Shared) (H : Hp) (C : Addr) (cl : List (Str × Addr)) (fp : List Addr), PE (X.blk s H scope (compEnvC scope cl C X.env) fp) elt te) (hs : ∀ x, foldedSetIterable iter X.env x = pure x)
    (h : tLc wi g tt te (own.map (·.2)) σ H Q)
    (hRR : ∀ D C s' m H', Inv X pins σ H' s' → Q (.ref D) H' → s'.heap.Ns C m → FpOk X pins H' C → compPost (model X.prog X.w) X.A X.xe use Qf (.ref D) C (.ok .next) s') :
    wpAny (model X.prog X.w) X.A (comprehension (.ListComp elt [⟨tg, iter, ifs, 0⟩] scope pos) scope X.env pos' (newList []) false (eval iter X.env) use) Qf X.xe s := by
  have hfree : ∀ y ∈ scope.names, y.2 = .free → ∃ c, X.env.cells.lookup y.1 = some c := fun y hy e => by
    rcases ok.free y hy e with k | k
    · exact I.ok.has _ (.inl k)
    · exact I.ok.has _ (.inr k)
  refine wpAny_comprehension_free (use := use) rfl hs (closure_ok hfree) ok.kind (fun y hy e => by rw [ok.uniq y hy, e])
    (thn (hi pins s σ H _ I h) fun xv s1 hx => thn hx fun itv s2 h2 => ?_)
  obtain ⟨it, fp, tn, J, H2, e, I2, T, st2, f2, q⟩ := h2
  subst e
  refine wpAny_newObj_type (newEnv_comp ?_) (by show 0 ≤ sizeLine; decide)
  generalize hD : s2.heap.objs.size = D
  have hDn : H2 D = none := I2.hok.fresh (Nat.le_of_eq hD)
  obtain ⟨W, ⟨m0, w0⟩, turn⟩ := q D hDn
  -- the new list
  generalize hs3 : ({ s2 with heap := s2.heap.push { cls := .type "list", data := .seq ([] : List Value).toArray } } : Shared) = s3
  have I3 : Inv X pins σ (upd H2 D (.lst [])) s3 := by
    rw [← hs3]
    refine I2.laid (t' := s2.toks) (fun b o e => Heap.get?_push_of_some _ e) (Nat.le_of_eq hD) ⟨Nat.zero_le _, [], 0, .nil, ?_⟩
    rw [← hD]
    exact Heap.get?_push_size _ rfl
  have h3 : s3.heap = s2.heap.push { cls := .type "list", data := .seq ([] : List Value).toArray } := by rw [← hs3]
  have sz : ∀ b ∈ fp, b < s2.heap.objs.size := fun b hb => by
    obtain ⟨o, e, _⟩ := T.obj _ _ st2 b hb
    exact Heap.lt_size e
  have f3 : ∀ b ∈ fp, FpOk X pins (upd H2 D (.lst [])) b ∧ b < s3.heap.objs.size := fun b hb => by
    have hlt := sz b hb
    refine ⟨⟨?_, (f2 b hb).2⟩, by rw [h3, Heap.size_push]; exact Nat.lt_succ_of_lt hlt⟩
    rw [upd_ne (by rw [← hD]; exact Nat.ne_of_lt hlt)]
    exact (f2 b hb).1
  have st3 : tn 0 s3.heap := T.keep _ _ _ st2 fun b _ o e => by rw [h3]; exact Heap.get?_push_of_some _ e
  have I4 := block_start I3 ok hN f3
  have pg := hg s3 (upd H2 D (.lst [])) s3.heap.objs.size (cellsFrom (s3.heap.objs.size + 1) scope.names (cloFrom X.env.cells scope.names [])) fp
  have pt := ht s3 (upd H2 D (.lst [])) s3.heap.objs.size (cellsFrom (s3.heap.objs.size + 1) scope.names (cloFrom X.env.cells scope.names [])) fp
  have pe := he s3 (upd H2 D (.lst [])) s3.heap.objs.size (cellsFrom (s3.heap.objs.size + 1) scope.names (cloFrom X.env.cells scope.names [])) fp
  show codeAny _ _ (.compStart (.ListComp elt [⟨tg, iter, ifs, 0⟩] scope pos) 0 (.ref it) (.ref D) (compEnvC scope (cellsFrom (s3.heap.objs.size + 1) scope.names (cloFrom X.env.cells scope.names [])) s3.heap.objs.size X.env)) (compPost (model X.prog X.w) X.A X.xe use Qf (.ref D) s3.heap.objs.size) { s3 with heap := pushCells (s3.heap.push { cls := .type "dict", data := .dict #[] }) scope.names }
  have nfp : ∀ b ∈ fp, (upd H2 D (.lst [])) b = none := fun b hb => (f3 b hb).1.1
  generalize hce : compEnvC scope (cellsFrom (s3.heap.objs.size + 1) scope.names (cloFrom X.env.cells scope.names [])) s3.heap.objs.size X.env = ce at I4 pg pt pe ⊢
  have cL : ce.locals = s3.heap.objs.size := by subst hce; rfl
  generalize hH3 : upd H2 D (.lst []) = H3 at I3 I4 pg pt pe w0 nfp f3
  generalize hs4 : ({ s3 with heap := pushCells (s3.heap.push { cls := .type "dict", data := .dict #[] }) scope.names } : Shared) = s4 at I4 ⊢
  have st4 : tn 0 s4.heap := T.keep _ _ _ st3 fun b _ o e => by rw [← hs4]; exact pushCells_keeps _ _ _ _ (Heap.get?_push_of_some _ e)
  have stat : ∀ {σ' : St} {H' : Hp} {s' : Shared}, Inv (X.blk s3 H3 scope ce fp) [] σ' H' s' → (∀ b ∈ fp, H' b = none) → ∀ b ∈ fp, FpOk (X.blk s3 H3 scope ce fp) [] H' b := fun {σ' H' s'} I' hn b hb =>
    ⟨hn b hb, (I'.ok.exf b hb).1, I'.ok.exfs b hb, .inl hb, fun x c e => (I'.ok.exf b hb).2 x c e, fun p hp => absurd (show p ∈ ([] : List (Addr × Obj)) ++ [] from hp) (by simp)⟩
  have loop : codeAny (model X.prog X.w) X.A (.compLoop (.ListComp elt [⟨tg, iter, ifs, 0⟩] scope pos) 0 (.ref it) (.ref D) ce) (compPost (model X.prog X.w) X.A X.xe use Qf (.ref D) s3.heap.objs.size) s4 := by
    refine compLoop_any (fun n s' => ∃ i H', Inv (X.blk s3 H3 scope ce fp) [] (wipe σ (own.map (·.2))) H' s' ∧ tn i s'.heap ∧ (∀ b ∈ fp, H' b = none) ∧ W i n H') ?_ m0 ⟨0, H3, I4, st4, nfp, w0⟩
    rintro n s5 ⟨i, H5, I5, st5, n5, w5⟩
    rcases turn i n H5 w5 with ⟨stop, qq⟩ | ⟨go, Nx, hNx, step⟩
    · have td := T.done (X.blk s3 H3 scope ce fp) rfl rfl rfl hc i [] s5 _ H5 (fun _ _ => False) I5 (stat I5 n5) st5 stop
      refine thnF td fun r s6 ⟨hr, I6⟩ => ?_
      subst hr
      -- back in the def's context
      have I7 : Inv X pins σ H5 s6 := I3.call' (ch := fp) I6.os I6.base I6.hok I6.bare fun b hb => ⟨(f3 b hb).1.2.2.2.1, (f3 b hb).1.2.1, (f3 b hb).1.2.2.2.2.1, (f3 b hb).1.2.2.2.2.2⟩
      have nC : H5 s3.heap.objs.size = none := by
        have z : H5 ce.locals = none := I6.free
        rw [cL] at z
        exact z
      obtain ⟨m, hn, _⟩ := I6.loc
      have hn : s6.heap.Ns ce.locals m := hn
      rw [cL] at hn
      exact hRR D s3.heap.objs.size s6 m H5 I7 qq hn (I3.fpOk (Nat.le_refl _) nC)
    · have ti := T.item (X.blk s3 H3 scope ce fp) rfl rfl rfl hc i [] s5 _ H5 (fun _ _ => False) I5 (stat I5 n5) st5 go
      refine thnF ti fun r s6 ⟨u, hr, h6⟩ => ?_
      subst hr
      refine thnF h6 fun _ s7 ⟨x, H7, I7, r7, y7, st7, n7⟩ => ?_
      have I7' := I7.pinned (stat I7 n7) (T.obj _ _ st7)
      refine thnF (pg _ s7 _ H7 x u _ I7' r7 (step x H7 y7)) fun _ s8 ⟨σ8, H8, I8, hw8, q8⟩ => ?_
      refine thnF (pt _ s8 σ8 H8 _ I8 q8) fun b s9 ⟨H9, I9, q9⟩ => ?_
      -- the turn's end
      have fin : ∀ {s' : Shared} {H' : Hp}, Inv (X.blk s3 H3 scope ce fp) ([] ++ pinsAt fp s7.heap) σ8 H' s' → Nx H' → ∃ m, m < n ∧ ∃ i H', Inv (X.blk s3 H3 scope ce fp) [] (wipe σ (own.map (·.2))) H' s' ∧ tn i s'.heap ∧ (∀ b ∈ fp, H' b = none) ∧ W i m H' := fun {s' H'} I' nx => by
        obtain ⟨m', hm, w'⟩ := hNx H' nx
        have pin' : ∀ b ∈ fp, ∀ o, s7.heap.get? b = some o → s'.heap.get? b = some o ∧ H' b = none := fun b hb o e =>
          let z := I'.pin (b, o) (List.mem_append_right _ (List.mem_append_right _ (mem_pinsAt hb e)))
          ⟨z.1, z.2.1⟩
        have hl : (wipe σ (own.map (·.2))).length = σ8.length := by rw [← hw8, wipe_length]
        refine ⟨m', hm, i + 1, H', (I'.unpinned (pins := [])).weak hl (fun j v e => ?_), T.keep _ _ _ st7 fun b hb o e => (pin' b hb o e).1, fun b hb => ?_, w'⟩
        · rw [← hw8] at e
          exact (wipe_some e).1
        · obtain ⟨o, e, _⟩ := T.obj _ _ st7 b hb
          exact (pin' b hb o e).2
      cases b with
      | false =>
        simp only [Bool.false_eq_true, if_false] at q9 ⊢
        exact fin I9 q9
      | true =>
        simp only [if_true] at q9 ⊢
        refine thnF (pe _ s9 σ8 H9 _ I9 q9) fun z s10 ⟨yv, H10, I10, r10, acc, hD10, hz10, nx⟩ => ?_
        exact app_ok (X := X.blk s3 H3 scope ce fp) I10 hD10 hz10 r10 fun s11 I11 => fin I11 nx
  exact codeAny_compStart_list loop (T.self X.A 0 _ _ _ st4 loop)
/-- as a value -/
theorem pe_lc {elt tg iter : Expr} {ifs : List Expr} {scope : Scope} {own : List (Str × Nat)} {pos : Pos} {wi : TI} {g : TG} {tt : TT} {te : TE} (hc : X.calm = true) (hN : X.N.Nodup) (hi : PI X tg iter wi) (ok : BlkOk X.N X.env.scope scope own)
    (hg : ∀ (s : Shared) (H : Hp) (C : Addr) (cl : List (Str × Addr)) (fp : List Addr), PG (X.blk s H scope (compEnvC scope cl C X.env) fp) tg g) (ht : ∀ (s : Shared) (H : Hp) (C : Addr) (cl : List (Str × Addr)) (fp : List Addr), PTs (X.blk s H scope (compEnvC scope cl C X.env) fp) ifs tt)
    (he : ∀ (s : Shared) (H : Hp) (C : Addr) (cl : List (Str × Addr)) (fp : List Addr), PE (X.blk s H scope (compEnvC scope cl C X.env) fp) elt te) (hs : ∀ x, foldedSetIterable iter X.env x = pure x := by intro _; rfl) :
    PE X (.ListComp elt [⟨tg, iter, ifs, 0⟩] scope pos) (tLc wi g tt te (own.map (·.2))) := by
  intro pins s σ H Q I h
  rw [eval_ListComp]
  refine lc_core hc hN I hi ok hg ht he hs h fun D C s' m H' I' q hn f => ⟨m, hn, fun h'' sb => ?_⟩
  obtain ⟨f0, f1, f2, f3, f4, f5⟩ := f
  exact ⟨.ref D, H', I'.turned (t' := s'.toks) (fun b o hb e => (sb.2 b hb).trans e) f0 f1 f3 f4 f5, rfl, q⟩
end

/-- over a list that the block leaves as it is -/
theorem lc_list {K : PySem.W.Frag} {a : Addr} {xs : List V} {g : TG} {tt : TT} {te : TE} {vs : List Nat} {σ : St} {H1 : Hp} {D : Addr} {Qd : Hp → Prop} (Pv : Nat → Hp → Prop) (h0 : Pv 0 (upd H1 D (.lst []))) (hl : ∀ i H, i ≤ xs.length → Pv i H → SqL K H a xs)
    (hs : ∀ i x H, xs[i]? = some x → Pv i H → g x (wipe σ vs) H fun σ2 H2 => wipe σ2 vs = wipe σ vs ∧ tt σ2 H2 fun b H3 =>
      if b = true then te σ2 H3 fun y H4 => ∃ acc, H4 D = some (.lst acc) ∧ acc.length < sizeLine ∧ Pv (i + 1) (upd H4 D (.lst (acc ++ [y]))) else Pv (i + 1) H3) (hd : ∀ H, Pv xs.length H → Qd H) :
    ∃ W : Nat → Nat → Hp → Prop, (∃ m, W 0 m (upd H1 D (.lst []))) ∧ ∀ i m H, W i m H →
      ((Itl K a).stop i H ∧ Qd H) ∨ ((Itl K a).go i H ∧ ∃ Nx : Hp → Prop, (∀ H', Nx H' → ∃ m', m' < m ∧ W (i + 1) m' H') ∧ ∀ x H', (Itl K a).yld i H x H' → g x (wipe σ vs) H' fun σ2 H2 => wipe σ2 vs = wipe σ vs ∧ tt σ2 H2 fun b H3 =>
        if b = true then te σ2 H3 fun y H4 => ∃ acc, H4 D = some (.lst acc) ∧ acc.length < sizeLine ∧ Nx (upd H4 D (.lst (acc ++ [y]))) else Nx H3) := by
  refine ⟨fun i m H => m = xs.length - i ∧ i ≤ xs.length ∧ Pv i H, ⟨xs.length, by simp, Nat.zero_le _, h0⟩, ?_⟩
  rintro i m H ⟨rfl, hi, p⟩
  have q := hl i H hi p
  by_cases hlt : i < xs.length
  · refine .inr ⟨⟨xs, xs[i], q, by simp [hlt]⟩, Pv (i + 1), fun H' p' => ⟨xs.length - (i + 1), by omega, rfl, hlt, p'⟩, fun x H' y => ?_⟩
    obtain ⟨e, y⟩ := y
    subst e
    exact hs i x _ (y xs q) p
  · have e : i = xs.length := by omega
    subst e
    exact .inl ⟨⟨xs, q, Nat.le_refl _⟩, hd H p⟩
end L2

namespace L2
open PySem PySem.Spec PyProof.Rows

section
variable {prog : Program} {w : World} {A : Around} {R : Result → Shared → Prop} {s : Shared} {elt t0 i0 t1 i1 : Expr} {ifs0 ifs1 : List Expr} {scope : Scope} {pos : Pos} {it acc : Value} {env : Env}
end

section
variable {X : Cx}
end
end L2

namespace L2
open PySem PySem.Spec PyProof.Rows

section
variable {κ : Type} [DecidableEq κ]
def valV (kvs : List (κ × V)) (k : κ) : Option V := (kvs.find? fun kv => decide (kv.1 = k)).map (·.2)
/-- in its place, or at the end -/
def putK (kvs : List (κ × V)) (k : κ) (v : V) : List (κ × V) :=
  if (kvs.any fun kv => decide (kv.1 = k)) = true then kvs.map (fun kv => if kv.1 = k then (kv.1, v) else kv) else kvs ++ [(k, v)]
def dropK (kvs : List (κ × V)) (k : κ) : List (κ × V) := kvs.filter fun kv => decide (kv.1 ≠ k)

theorem valV_nil {k : κ} : valV ([] : List (κ × V)) k = none := rfl
theorem valV_pos {p : κ × V} {r : List (κ × V)} {k : κ} (e : p.1 = k) : valV (p :: r) k = some p.2 := by simp [valV, List.find?_cons, e]
theorem valV_neg {p : κ × V} {r : List (κ × V)} {k : κ} (e : ¬ p.1 = k) : valV (p :: r) k = valV r k := by simp [valV, List.find?_cons, e]
theorem valV_any (k : κ) : ∀ kvs : List (κ × V), (kvs.any fun kv => decide (kv.1 = k)) = (valV kvs k).isSome
  | [] => rfl
  | p :: r => by
    rw [List.any_cons]
    by_cases e : p.1 = k
    · simp only [valV_pos e, decide_eq_true e, Bool.true_or, Option.isSome_some]
    · rw [valV_neg e, decide_eq_false e, Bool.false_or]; exact valV_any k r
theorem length_putK (kvs : List (κ × V)) (k : κ) (v : V) : (putK kvs k v).length ≤ kvs.length + 1 := by
  unfold putK
  split
  · rw [List.length_map]; omega
  · rw [List.length_append, List.length_cons, List.length_nil]; omega
theorem putK_new {kvs : List (κ × V)} {k : κ} (v : V) (h : valV kvs k = none) : putK kvs k v = kvs ++ [(k, v)] := by
  unfold putK
  rw [valV_any, h]
  exact if_neg (by decide)

theorem RelO.isSome_eq {o : Option V} {u : Option Value} (r : RelO o u) : o.isSome = u.isSome := by
  cases o with
  | none => cases u with
    | none => rfl
    | some _ => exact (show False from r).elim
  | some _ => cases u with
    | none => exact (show False from r).elim
    | some _ => rfl
theorem RelO.getD {o : Option V} {u : Option Value} {d : V} {d' : Value} (r : RelO o u) (rd : RelV d d') : RelV (o.getD d) (u.getD d') := by
  cases o with
  | none => cases u with
    | none => exact rd
    | some _ => exact (show False from r).elim
  | some _ => cases u with
    | none => exact (show False from r).elim
    | some _ => exact r

/-- raw tables of the same keys -/
theorem KV.val {kvs : List (κ × V)} {vs : List (κ × Value)} (r : KV kvs vs) (k : κ) : RelO (valV kvs k) (valueAt vs k) := by
  unfold KV at r
  induction r with
  | nil => exact True.intro
  | @cons p q ps qs h t ih =>
    obtain ⟨h1, h2⟩ := h
    by_cases e : p.1 = k
    · have e' : q.1 = k := h1.symm.trans e
      have b : valueAt (q :: qs) k = some q.2 := by simp [valueAt, List.find?_cons, e']
      rw [valV_pos e, b]; exact h2
    · have e' : ¬ q.1 = k := fun z => e (h1.trans z)
      have b : valueAt (q :: qs) k = valueAt qs k := by simp [valueAt, List.find?_cons, e']
      rw [valV_neg e, b]; exact ih
theorem KV.any {kvs : List (κ × V)} {vs : List (κ × Value)} (r : KV kvs vs) (k : κ) : (kvs.any fun kv => decide (kv.1 = k)) = vs.any fun kv => decide (kv.1 = k) := by
  unfold KV at r
  induction r with
  | nil => rfl
  | cons h t ih => rw [List.any_cons, List.any_cons, ih, h.1]
theorem KV.repl {kvs : List (κ × V)} {vs : List (κ × Value)} (r : KV kvs vs) (k : κ) {y : V} {u : Value} (ry : RelV y u) :
    KV (kvs.map fun kv => if kv.1 = k then (kv.1, y) else kv) (vs.map fun kv => if kv.1 = k then (kv.1, u) else kv) := by
  unfold KV at r ⊢
  induction r with
  | nil => exact .nil
  | @cons p q ps qs h t ih =>
    rw [List.map_cons, List.map_cons]
    refine .cons ?_ ih
    obtain ⟨h1, h2⟩ := h
    by_cases e : p.1 = k
    · rw [if_pos e, if_pos (h1.symm.trans e)]; exact ⟨h1, ry⟩
    · rw [if_neg e, if_neg (fun z => e (h1.trans z))]; exact ⟨h1, h2⟩
theorem KV.put {kvs : List (κ × V)} {vs : List (κ × Value)} (r : KV kvs vs) (k : κ) {y : V} {u : Value} (ry : RelV y u) : KV (putK kvs k y) (stored vs k u) := by
  unfold putK stored
  rw [r.any k]
  by_cases e : (vs.any fun kv => decide (kv.1 = k)) = true
  · rw [if_pos e, if_pos e]; exact r.repl k ry
  · rw [if_neg e, if_neg e]; exact Paired.snoc r ⟨rfl, ry⟩
theorem KV.drop {kvs : List (κ × V)} {vs : List (κ × Value)} (r : KV kvs vs) (k : κ) : KV (dropK kvs k) (without vs k) := by
  unfold KV at r ⊢
  unfold dropK without
  induction r with
  | nil => exact .nil
  | @cons p q ps qs h t ih =>
    obtain ⟨h1, h2⟩ := h
    rw [List.filter_cons, List.filter_cons]
    by_cases e : p.1 = k
    · have a : ¬ decide (p.1 ≠ k) = true := by simp [e]
      have b : ¬ decide (q.1 ≠ k) = true := by simp [h1.symm.trans e]
      rw [if_neg a, if_neg b]; exact ih
    · have e' : ¬ q.1 = k := fun z => e (h1.trans z)
      have a : decide (p.1 ≠ k) = true := by simp [e]
      have b : decide (q.1 ≠ k) = true := by simp [e']
      rw [if_pos a, if_pos b]; exact .cons ⟨h1, h2⟩ ih
theorem KV.keys {kvs : List (κ × V)} {vs : List (κ × Value)} (r : KV kvs vs) : kvs.map (·.1) = vs.map (·.1) := by
  unfold KV at r
  induction r with
  | nil => rfl
  | cons h t ih => rw [List.map_cons, List.map_cons, ih, h.1]
theorem KV.length {kvs : List (κ × V)} {vs : List (κ × Value)} (r : KV kvs vs) : kvs.length = vs.length := Paired.length r
end

theorem kV_is {P : Program} {w : World} {k : Key} {u : Value} (r : RelV (kV k) u) : (mixKind P w).is k u = true := by
  cases k with
  | inl i => obtain ⟨t, e⟩ := (show ∃ t, u = Value.int i t from r); subst e; exact mixKind_int P w i t
  | inr x => obtain ⟨t, e⟩ := (show ∃ t, u = Value.str x t from r); subst e; exact mixKind_str P w x t
theorem items_are {P : Program} {w : World} : ∀ {ks : List Key} {us : List Value}, Vals (ks.map kV) us → ItemsAre (mixKind P w) ks us
  | [], _, r => by rw [List.map_nil] at r; cases r; exact .nil
  | k :: ks, _, r => by
    rw [List.map_cons] at r
    cases r with
    | cons h t => exact .cons (kV_is h) (items_are t)

/-- raw entries of a dict with tuple keys -/
abbrev KT (H : Hp) : List (List Key × V) → List (List Key × Addr × Value) → Prop := Paired fun p q => p.1 = q.1 ∧ H q.2.1 = some (.tup (p.1.map kV)) ∧ RelV p.2 q.2.2
theorem KT.val {H : Hp} {kvs : List (List Key × V)} {xs : List (List Key × Addr × Value)} (r : KT H kvs xs) (k : List Key) : RelO (valV kvs k) ((atKey xs k).map (·.2)) := by
  induction r with
  | nil => exact True.intro
  | @cons p q ps qs h t ih =>
    obtain ⟨h1, _, h2⟩ := h
    by_cases e : p.1 = k
    · have e' : q.1 = k := h1.symm.trans e
      have b : atKey (q :: qs) k = some q.2 := by simp [atKey, List.find?_cons, e']
      rw [valV_pos e, b]; exact h2
    · have e' : ¬ q.1 = k := fun z => e (h1.trans z)
      have b : atKey (q :: qs) k = atKey qs k := by simp [atKey, List.find?_cons, e']
      rw [valV_neg e, b]; exact ih
theorem KT.repl {H : Hp} {kvs : List (List Key × V)} {xs : List (List Key × Addr × Value)} (r : KT H kvs xs) (k : List Key) {y : V} {u : Value} (ry : RelV y u) :
    KT H (kvs.map fun kv => if kv.1 = k then (kv.1, y) else kv) (xs.map (putAt k u)) := by
  induction r with
  | nil => exact .nil
  | @cons p q ps qs h t ih =>
    rw [List.map_cons, List.map_cons]
    refine .cons ?_ ih
    obtain ⟨h1, h2, h3⟩ := h
    unfold putAt
    by_cases e : p.1 = k
    · rw [if_pos e, if_pos (h1.symm.trans e)]; exact ⟨h1, h2, ry⟩
    · rw [if_neg e, if_neg (fun z => e (h1.trans z))]; exact ⟨h1, h2, h3⟩
theorem KT.put {H : Hp} {kvs : List (List Key × V)} {xs : List (List Key × Addr × Value)} (r : KT H kvs xs) (k : List Key) {b : Addr} {y : V} {u : Value} (hb : H b = some (.tup (k.map kV))) (ry : RelV y u) :
    KT H (putK kvs k y) (storedH xs k b u) := by
  have e : (kvs.any fun kv => decide (kv.1 = k)) = (atKey xs k).isSome := by
    rw [valV_any, (r.val k).isSome_eq, Option.isSome_map]
  unfold putK storedH
  rw [e]
  by_cases q : (atKey xs k).isSome = true
  · rw [if_pos q, if_pos q]; exact r.repl k ry
  · rw [if_neg q, if_neg q]; exact Paired.snoc r ⟨rfl, hb, ry⟩
theorem KT.keeps {H H' : Hp} {kvs : List (List Key × V)} {xs : List (List Key × Addr × Value)} (r : KT H kvs xs) (ht : ∀ b ys, H b = some (.tup ys) → H' b = some (.tup ys)) : KT H' kvs xs :=
  Paired.mapP r fun _ _ z => ⟨z.1, ht _ _ z.2.1, z.2.2⟩

section
variable {P : Program} {w : World} {H : Hp} {h : Heap} {a : Addr}
theorem rd_of {u : HO} (ok : HOk P w H h) (e : Rd H a u) : ObjOk P w H h a u := e.ok ok
theorem dk_rd {kvs : List (Key × V)} (ok : HOk P w H h) (e : Rd H a (.dK kvs)) : kvs.length ≤ sizeLine ∧ (a == sysModules) = false ∧ ∃ vs, KV kvs vs ∧ h.DictOf (mixKind P w) a vs :=
  show ObjOk P w H h a (.dK kvs) from rd_of ok e
theorem dk_of {kvs : List (Key × V)} (ok : HOk P w H h) (e : H a = some (.dK kvs)) : kvs.length ≤ sizeLine ∧ (a == sysModules) = false ∧ ∃ vs, KV kvs vs ∧ h.DictOf (mixKind P w) a vs := dk_rd ok (.inl e)
/-- a tracked tuple of ints and texts is a key -/
theorem key_of {ks : List Key} (ok : HOk P w H h) (e : H a = some (.tup (ks.map kV))) : (tupleKind (mixKind P w)).is h ks a := by
  obtain ⟨_, its, r, o, h1, h2, n, h3⟩ := (show ObjOk P w H h a (.tup (ks.map kV)) from ok a _ e)
  exact ⟨o, its.toArray, n, h1, h2, h3, by simpa using items_are r⟩
theorem dt_rd {kvs : List (List Key × V)} (ok : HOk P w H h) (e : Rd H a (.dT kvs)) : kvs.length ≤ sizeLine ∧ (a == sysModules) = false ∧
    ∃ xs, KT H kvs xs ∧ h.DictOfH (tupleKind (mixKind P w)) a xs := by
  obtain ⟨z, y, xs, r, o, es, ep, h1, h2, h3, h4, h5⟩ := (show ObjOk P w H h a (.dT kvs) from rd_of ok e)
  refine ⟨z, y, xs, r, o, es, ep, h1, h2, h3, h4, fun x hx => ?_, h5⟩
  have all : ∀ {l : List (List Key × V)} {m : List (List Key × Addr × Value)}, KT H l m → ∀ x ∈ m, (tupleKind (mixKind P w)).is h x.1 x.2.1 := by
    intro l m q
    induction q with
    | nil => intro x hx; exact nomatch hx
    | @cons p q ps qs hq t ih =>
      intro x hx
      rcases List.mem_cons.mp hx with e | hx
      · subst e
        exact key_of ok (by rw [← hq.1]; exact hq.2.1)
      · exact ih x hx
  exact all r x hx
theorem dt_of {kvs : List (List Key × V)} (ok : HOk P w H h) (e : H a = some (.dT kvs)) : kvs.length ≤ sizeLine ∧ (a == sysModules) = false ∧
    ∃ xs, KT H kvs xs ∧ h.DictOfH (tupleKind (mixKind P w)) a xs := dt_rd ok (.inl e)
end

/-- what the dict at a holds at the key y -/
def DGet (H : Hp) (a : Addr) (y : V) (r : Option V) : Prop :=
  (∃ kvs k, Rd H a (.dK kvs) ∧ y = kV k ∧ r = valV kvs k) ∨ ∃ kvs k b, Rd H a (.dT kvs) ∧ y = .ref b ∧ H b = some (.tup (k.map kV)) ∧ r = valV kvs k
/-- the heap behind a[y] = v -/
def DPut (H : Hp) (a : Addr) (y v : V) (H' : Hp) : Prop :=
  (∃ kvs k, H a = some (.dK kvs) ∧ y = kV k ∧ kvs.length < sizeLine ∧ H' = upd H a (.dK (putK kvs k v))) ∨
  ∃ kvs k b, H a = some (.dT kvs) ∧ y = .ref b ∧ H b = some (.tup (k.map kV)) ∧ kvs.length < sizeLine ∧ H' = upd H a (.dT (putK kvs k v))
theorem DGet.k {H : Hp} {a : Addr} {kvs : List (Key × V)} {k : Key} (e : H a = some (.dK kvs)) : DGet H a (kV k) (valV kvs k) := .inl ⟨kvs, k, .inl e, rfl, rfl⟩
theorem DGet.t {H : Hp} {a b : Addr} {kvs : List (List Key × V)} {k : List Key} (e : H a = some (.dT kvs)) (eb : H b = some (.tup (k.map kV))) : DGet H a (.ref b) (valV kvs k) := .inr ⟨kvs, k, b, .inl e, rfl, eb, rfl⟩
theorem DPut.k {H : Hp} {a : Addr} {kvs : List (Key × V)} {k : Key} {v : V} (e : H a = some (.dK kvs)) (hl : kvs.length < sizeLine) : DPut H a (kV k) v (upd H a (.dK (putK kvs k v))) := .inl ⟨kvs, k, e, rfl, hl, rfl⟩
theorem DPut.t {H : Hp} {a b : Addr} {kvs : List (List Key × V)} {k : List Key} {v : V} (e : H a = some (.dT kvs)) (eb : H b = some (.tup (k.map kV))) (hl : kvs.length < sizeLine) :
    DPut H a (.ref b) v (upd H a (.dT (putK kvs k v))) := .inr ⟨kvs, k, b, e, rfl, eb, hl, rfl⟩

section
variable {X : Cx} {pins : List (Addr × Obj)} {σ : St} {H : Hp} {s : Shared} {a : Addr} {y v : V} {u r : Value} {o : Option V} {A : Around} {E : Value → Shared → Prop}

theorem Inv.big (I : Inv X pins σ H s) : sysModules < s.heap.objs.size := by
  have h : mainGlobals < s.heap.objs.size := (I.mod.glob.keeps I.bk).lt
  exact Nat.lt_trans (by decide) h

/-- d[y], there -/
theorem d_getItem {Q : Value → Shared → Prop} (hu : A.units + 1 < cLine) (I : Inv X pins σ H s) (g : DGet H a y (some v)) (ry : RelV y u) (h : ∀ w' s', Inv X pins σ H s' → RelV v w' → Q w' s') :
    wpAny (model X.prog X.w) A (getItem (.ref a) u) Q E s := by
  rcases g with ⟨kvs, k, e, ey, l⟩ | ⟨kvs, k, b, e, ey, eb, l⟩
  · subst ey
    obtain ⟨z, hd, vs, rel, dd⟩ := dk_rd I.hok e
    obtain ⟨w', hw, rw'⟩ := RelO.some_of (v := v) (o := valueAt vs k) (by rw [l]; exact rel.val k)
    exact wpAny_getItem_of (kV_is ry) dd.mapOf hw (h w' _ (I.tok _) rw')
  · subst ey
    cases (show u = Value.ref b from ry)
    obtain ⟨z, hd, xs, rel, dd⟩ := dt_rd I.hok e
    obtain ⟨w', hw, rw'⟩ := RelO.some_of (v := v) (o := (atKey xs k).map (·.2)) (by rw [l]; exact rel.val k)
    obtain ⟨p, hp, hp2⟩ := Option.map_eq_some_iff.mp hw
    refine wpAny_getItem_heap (tupleKind_room_in1 hu) (key_of I.hok eb) dd hp ?_
    rw [hp2]
    exact h w' _ (I.tok _) rw'
theorem d_notIn {Q : Value → Shared → Prop} (hu : A.units + 1 < cLine) (I : Inv X pins σ H s) (g : DGet H a y o) (ry : RelV y u) (h : ∀ s', Inv X pins σ H s' → Q (.bool (!o.isSome)) s') :
    wpAny (model X.prog X.w) A (compareOp .NotIn u (.ref a)) Q E s := by
  rcases g with ⟨kvs, k, e, ey, l⟩ | ⟨kvs, k, b, e, ey, eb, l⟩
  · subst ey
    obtain ⟨z, hd, vs, rel, dd⟩ := dk_rd I.hok e
    refine wpAny_notIn_of (kV_is ry) hd dd.mapOf ?_
    rw [← (rel.val k).isSome_eq, ← l]
    exact h _ (I.tok _)
  · subst ey
    cases (show u = Value.ref b from ry)
    obtain ⟨z, hd, xs, rel, dd⟩ := dt_rd I.hok e
    refine wpAny_notIn_heap (tupleKind_room_in1 hu) (key_of I.hok eb) hd dd ?_
    have q := (rel.val k).isSome_eq
    rw [Option.isSome_map] at q
    rw [← q, ← l]
    exact h _ (I.tok _)
/-- a dict's object is replaced -/
theorem d_write {h' : Heap} {t' : Nat} {ob : HO} (I : Inv X pins σ H s) (mu : Mut (H a)) (hs : Heap.SameBut a s.heap h') (he : ∃ q, h'.get? a = some q) (new : ObjOk X.prog X.w (upd H a ob) h' a ob) :
    Inv X pins σ (upd H a ob) { s with heap := h', toks := t' } :=
  I.write (x := a) (e := a) mu (.inl rfl) (fun b q hb z => (hs.2 b hb).trans z) he new
theorem dk_new {P : Program} {w : World} {H' : Hp} {h' : Heap} {kvs : List (Key × V)} {vs : List (Key × Value)} (z : kvs.length ≤ sizeLine) (hd : (a == sysModules) = false) (rel : KV kvs vs) (dd : h'.DictOf (mixKind P w) a vs) :
    ObjOk P w H' h' a (.dK kvs) := ⟨z, hd, vs, rel, dd⟩
/-- d[y] = v -/
theorem d_setItem {H' : Hp} {Q : Unit → Shared → Prop} (hu : A.units + 1 < cLine) (I : Inv X pins σ H s) (g : DPut H a y v H') (ry : RelV y u) (rv : RelV v r) (h : ∀ s', Inv X pins σ H' s' → Q () s') :
    wpAny (model X.prog X.w) A (setItem (.ref a) u r) Q E s := by
  rcases g with ⟨kvs, k, e, ey, l, eH⟩ | ⟨kvs, k, b, e, ey, eb, l, eH⟩
  · subst ey eH
    obtain ⟨z, hd, vs, rel, dd⟩ := dk_of I.hok e
    have hz : vs.length ≤ sizeLine := by rw [← rel.length]; exact z
    have hl : (putK kvs k v).length ≤ sizeLine := by have := length_putK kvs k v; omega
    refine wpAny_setItem_pairs (hsz := hz) (kV_is ry) dd fun h' dd' hs => h _ ?_
    have he : ∃ q, h'.get? a = some q := let ⟨q, _, _, hq, _⟩ := dd'; ⟨q, hq⟩
    exact d_write I (by rw [e]; exact True.intro) hs he (dk_new hl hd (rel.put k rv) dd')
  · subst ey eH
    cases (show u = Value.ref b from ry)
    obtain ⟨z, hd, xs, rel, dd⟩ := dt_of I.hok e
    have hz : xs.length ≤ sizeLine := by rw [← Paired.length rel]; exact z
    have hl : (putK kvs k v).length ≤ sizeLine := by have := length_putK kvs k v; omega
    refine wpAny_setItem_heap (hsz := hz) (tupleKind_room_in1 hu) (key_of I.hok eb) dd fun h' dd' hs => h _ ?_
    obtain ⟨q, es, ep, hq, h2, h3, h4, _, h5⟩ := dd'
    refine d_write I (by rw [e]; exact True.intro) hs ⟨q, hq⟩ ⟨hl, hd, _, (rel.put k eb rv).keeps fun c ys ec => ?_, q, es, ep, hq, h2, h3, h4, h5⟩
    rw [upd_ne (ne_of ec e (fun z => nomatch z))]
    exact ec
end

section
variable {X : Cx} {pins : List (Addr × Obj)} {σ : St} {H : Hp} {s : Shared} {a : Addr} {kvs : List (Key × V)} {k : Key} {u : Value} {A : Around} {E : Value → Shared → Prop}
end

/-- the element of a subscription, not a slice -/
def NoSl (i : Expr) : Prop := ∀ ov iv, subscripted i false ov iv = operate [ov, iv] (getItem ov iv)
theorem subD_of {prog : Program} {w : World} {A : Around} {E : Value → Shared → Prop} {s : Shared} {env : Env} {value slice : Expr} {pos : Pos} {T id : String} {Q : Value → Shared → Prop}
    (hl : typeLookup (.type T) "__getitem__" = pure (some (.builtin id))) (hs : NoSl slice)
    (h : wpAny (model prog w) A (eval value env) (fun o s₁ => wpAny (model prog w) A (eval slice env) (fun i s₂ => s₂.TypeIs o T ∧ wpAny (model prog w) A (getItem o i) Q E s₂) E s₁) E s) :
    wpAny (model prog w) A (eval (.Subscript value slice pos) env) Q E s := by
  refine Subscript_ (wpAny_mono h (fun o s₁ h₁ => wpAny_mono h₁ (fun i s₂ h₂ => ?_) fun _ _ x => x) fun _ _ x => x)
  obtain ⟨hT, h₂⟩ := h₂
  unfold subscriptTail
  refine wpAny_bind ?_
  rw [getitemInPython_of_ne hT.not_modules]
  refine wpAny_bind (wpAny_specialOf hT hl ?_)
  have fin : wpAny (model prog w) A (subscripted slice false o i) (fun r s₃ => wpAny (model prog w) A (letTemporaryGo value o r >>= fun _ => pure r) Q E s₃) E s₂ := by
    rw [hs o i]
    exact wpAny_operating (wpAny_mono h₂ (fun r s₃ h₃ => wpAny_bind (wpAny_letTemporaryGo (wpAny_pure h₃))) fun _ _ x => x)
  first
    | exact wpAny_pure (wpAny_bind fin)
    | exact wpAny_bind (wpAny_pure (wpAny_bind fin))
    | exact wpAny_bind fin

theorem dict_typeIs {X : Cx} {pins : List (Addr × Obj)} {σ : St} {H : Hp} {s : Shared} {a : Addr} {y : V} {o : Option V} (I : Inv X pins σ H s) (g : DGet H a y o) : s.TypeIs (.ref a) "dict" := by
  rcases g with ⟨kvs, k, e, _, _⟩ | ⟨kvs, k, b, e, _, _, _⟩
  · obtain ⟨_, _, vs, _, dd⟩ := dk_rd I.hok e
    exact dd.typeIs
  · obtain ⟨_, _, xs, _, dd⟩ := dt_rd I.hok e
    exact dd.typeIs

/-- d[y] -/
def tDGet (td ty : TE) : TE := fun σ H Q => td σ H fun x H1 => ty σ H1 fun y H2 => ∃ a v, x = .ref a ∧ DGet H2 a y (some v) ∧ Q v H2
def tDNotIn (ty td : TE) : TE := fun σ H Q => ty σ H fun y H1 => td σ H1 fun x H2 => ∃ a o, x = .ref a ∧ DGet H2 a y o ∧ Q (.bl (!o.isSome)) H2
/-- d[y] = v -/
def sDPut (td ty tv : TE) : TS := fun D σ H => tv σ H fun v H1 => td σ H1 fun x H2 => ty σ H2 fun y H3 => ∃ a H4, x = .ref a ∧ DPut H3 a y v H4 ∧ D.nx σ H4

section
variable {X : Cx} {o i e value : Expr} {pos pos' tpos : Pos} {td ty tv : TE}
theorem pe_dget (hu : X.A.units + 1 < cLine) (ho : PE X o td) (hi : PE X i ty) (hs : NoSl i) : PE X (.Subscript o i pos) (tDGet td ty) := by
  intro pins s σ H Q I h
  refine subD_of PySem.F.slot_dict_getitem.lookup hs (thn (ho pins s σ H _ I h) fun u s1 ⟨x, H1, I1, rx, q1⟩ => thn (hi pins s1 σ H1 _ I1 q1) fun iv s2 ⟨y, H2, I2, ry, a, v, ex, g, q2⟩ => ?_)
  subst ex
  obtain rfl : u = Value.ref a := rx
  exact ⟨dict_typeIs I2 g, d_getItem hu I2 g ry fun w' s3 I3 rw' => ⟨v, H2, I3, rw', q2⟩⟩
theorem pc_dnotin (hu : X.A.units + 1 < cLine) (hi : PE X i ty) (ho : PE X o td) : PC X .NotIn i o (tDNotIn ty td) := by
  intro pins s σ H Q I h
  refine thn (hi pins s σ H _ I h) fun iv s1 ⟨y, H1, I1, ry, q1⟩ => thn (ho pins s1 σ H1 _ I1 q1) fun u s2 ⟨x, H2, I2, rx, a, ov, ex, g, q2⟩ => ?_
  subst ex
  obtain rfl : u = Value.ref a := rx
  exact d_notIn hu I2 g ry fun s3 I3 => ⟨.bl (!ov.isSome), H2, I3, rfl, q2⟩
theorem ps_dput (hu : X.A.units + 1 < cLine) (ho : PE X o td) (hi : PE X i ty) (hv : PE X value tv) (hs : swapsWith value (some (.Subscript o i pos')) pos.line X.env = pure false) :
    PS X (.Assign [.Subscript o i pos'] value pos) (sDPut td ty tv) := by
  intro pins s σ H D I h
  refine wpAny_Assign_Subscript (thn (hv pins s σ H _ I h) fun r s1 ⟨v, H1, I1, rv, q1⟩ => thn (ho pins s1 σ H1 _ I1 q1) fun u s2 ⟨x, H2, I2, rx, q2⟩ => thn (hi pins s2 σ H2 _ I2 q2) fun iv s3 ⟨y, H3, I3, ry, a, H4, ex, g, q3⟩ => ?_) hs
  subst ex
  obtain rfl : u = Value.ref a := rx
  exact d_setItem hu I3 g ry rv fun s4 I4 => ⟨σ, H4, I4, q3⟩
end

theorem dt_empty {P : Program} {w : World} {H : Hp} (h : Heap) (hb : sysModules < h.objs.size) : ObjOk P w H (h.push { cls := .type "dict", data := .dict #[] }) h.objs.size (.dT []) :=
  ⟨Nat.zero_le _, beq_eq_false_iff_ne.mpr (Ne.symm (Nat.ne_of_lt hb)), [], .nil, _, #[], 0, Heap.get?_push_size _ rfl, ⟨rfl, rfl, rfl⟩, rfl, rfl, List.nodup_nil⟩
def tDNewT : TE := fun _ H Q => ∀ p, H p = none → Q (.ref p) (upd H p (.dT []))
section
variable {X : Cx} {pos : Pos}
theorem pe_dnewT : PE X (.Dict [] [] pos) tDNewT := fun pins s σ H Q I h =>
  wpAny_Dict_empty ⟨.ref s.heap.objs.size, _, I.laid (a := s.heap.objs.size) (o := .dT []) (t' := s.toks) (fun _ _ q => Heap.get?_push_of_some _ q) (Nat.le_refl _) (dt_empty s.heap I.big), rfl, h _ (I.hok.fresh (Nat.le_refl _))⟩
end

/-- a method call o.m(e) of a built-in, with one argument: what must be seen of the text -/
structure M1 (X : Cx) (o : Expr) (m : Str) (apos : Pos) (e : Expr) (cpos : Pos) : Prop where
  base : attributeBase o m X.env (eval o X.env) = eval o X.env
  few : ((backTo cpos (starEach [e] X.env)).all (fun x => !x.1) && (backToKw cpos (keywordEach [] X.env)).all (fun x => x.1.isSome)
    && decide (([e] : List Expr).length + ([] : List Keyword).length + (if ([] : List Keyword).isEmpty then 0 else 1) < 30)) = true
  line : (apos.endLine == cpos.line) = true
  trees : backTo cpos (starEach [e] X.env) = [(false, eval e X.env)]
structure M2 (X : Cx) (o : Expr) (m : Str) (apos : Pos) (e f : Expr) (cpos : Pos) : Prop where
  base : attributeBase o m X.env (eval o X.env) = eval o X.env
  few : ((backTo cpos (starEach [e, f] X.env)).all (fun x => !x.1) && (backToKw cpos (keywordEach [] X.env)).all (fun x => x.1.isSome)
    && decide (([e, f] : List Expr).length + ([] : List Keyword).length + (if ([] : List Keyword).isEmpty then 0 else 1) < 30)) = true
  line : (apos.endLine == cpos.line) = true
  trees : backTo cpos (starEach [e, f] X.env) = [(false, eval e X.env), (false, eval f X.env)]

section
variable {X : Cx} {pins : List (Addr × Obj)} {σ : St} {H : Hp} {s : Shared} {a : Addr} {y d : V} {u r : Value} {o : Option V} {A : Around} {E : Value → Shared → Prop}
end

section
variable {X : Cx} {o e f : Expr} {apos cpos : Pos} {td ty tx : TE}
end

section
variable {X : Cx} {pins : List (Addr × Obj)} {σ : St} {H : Hp} {s : Shared} {a : Addr} {kvs : List (Key × V)} {A : Around} {E : Value → Shared → Prop}
end

section
variable {X : Cx} {pins : List (Addr × Obj)} {σ : St} {H : Hp} {s : Shared} {a : Addr} {y : V} {u : Value} {A : Around} {E : Value → Shared → Prop}
end
end L2

namespace L2
open PySem PySem.Spec PyProof.Rows

section
variable {prog : Program} {w : World} {A : Around} {E : Value → Shared → Prop}

end

section
variable {X : Cx}
end
end L2

namespace L2
open PySem PySem.Spec PyProof.Rows

section
variable {X : Cx} {pins : List (Addr × Obj)} {σ : St} {H : Hp} {s : Shared} {h' : Heap}
/-- several records of ours have turned -/
theorem Inv.turnedL {t' : Nat} {ch : List Addr} (I : Inv X pins σ H s) (k : ∀ b o, b ∉ ch → s.heap.get? b = some o → h'.get? b = some o) (hf : ∀ b ∈ ch, FpOk X pins H b) : Inv X pins σ H { s with heap := h', toks := t' } := by
  have nit : ∀ b u, H b = some u → b ∉ ch := fun b u e z => by
    have q := (hf b z).1
    rw [q] at e; cases e
  refine I.step (g' := s.gens) (d' := s.drawn) (ch := ch) (fun b hb => ⟨(hf b hb).2.2.2.1, (hf b hb).2.1, (hf b hb).2.2.2.2.1, (hf b hb).2.2.2.2.2⟩) (fun b o _ _ hc e _ => k b o hc e) (fun b o _ _ hc e _ => ⟨o.slots, k b o hc e⟩)
    (fun _ _ _ _ n => n) (fun b o hc e => ⟨o, k b o hc e⟩) (fun _ _ e => e) (fun _ _ _ e => e) (fun b ps e => ⟨#[], by rw [e]; simp⟩) (fun m hm => ?_) (fun b u e => ?_) I.bare
  · obtain ⟨o, es, ep, ho, r⟩ := hm
    exact ⟨o, es, ep, k _ o (fun z => (hf _ z).2.1 rfl) ho, r⟩
  · refine (I.hok b u e).stay (fun c v hc q => k c v ?_ q) (fun _ q => q) fun _ _ q => q
    rcases hc with z | z
    · rw [z]; exact nit b u e
    · exact nit c _ z
/-- .. and one new object is laid -/
theorem Inv.turnedNew {t' : Nat} {ch : List Addr} {T : Addr} {ob : HO} (I : Inv X pins σ H s) (k : ∀ b o, b ∉ ch → s.heap.get? b = some o → h'.get? b = some o) (hf : ∀ b ∈ ch, FpOk X pins H b) (hT : s.heap.objs.size ≤ T)
    (new : ObjOk X.prog X.w (upd H T ob) h' T ob) : Inv X pins σ (upd H T ob) { s with heap := h', toks := t' } := by
  have hn : H T = none := I.hok.fresh hT
  have nit : ∀ b u, H b = some u → b ∉ ch := fun b u e z => by
    have q := (hf b z).1
    rw [q] at e; cases e
  refine I.step (g' := s.gens) (d' := s.drawn) (ch := ch) (fun b hb => ⟨(hf b hb).2.2.2.1, (hf b hb).2.1, (hf b hb).2.2.2.2.1, (hf b hb).2.2.2.2.2⟩) (fun b o _ _ hc e _ => k b o hc e) (fun b o _ _ hc e _ => ⟨o.slots, k b o hc e⟩)
    (fun b o _ e n => ?_) (fun b o hc e => ⟨o, k b o hc e⟩) (fun b xs e => ?_) (fun b o u e => ?_) (fun b ps e => ⟨#[], ?_⟩) (fun m hm => ?_) (fun b u e => ?_) I.bare
  · rw [upd_ne (Nat.ne_of_lt (Nat.lt_of_lt_of_le (Heap.lt_size e) hT))]; exact n
  · rw [upd_ne (ne_of_none e hn)]; exact e
  · rw [upd_ne (ne_of_none e hn)]; exact e
  · rw [upd_ne (ne_of_none e hn), e]; simp
  · obtain ⟨o, es, ep, ho, r⟩ := hm
    exact ⟨o, es, ep, k _ o (fun z => (hf _ z).2.1 rfl) ho, r⟩
  · by_cases hb : b = T
    · subst hb
      rw [upd_same] at e
      cases e
      exact new
    · rw [upd_ne hb] at e
      refine (I.hok b u e).stay (fun c v hc q => k c v ?_ q) (fun c q => by rw [upd_ne (ne_of_none q hn)]; exact q) fun c xs q => by rw [upd_ne (ne_of_none q hn)]; exact q
      rcases hc with z | z
      · rw [z]; exact nit b u e
      · exact nit c _ z

end
section
variable {X : Cx}

end

section
variable {X : Cx} {tg : Expr}
end

section
variable {X : Cx} {tg : Expr}
end

section
variable {prog : Program} {w : World} {A : Around} {E : Value → Shared → Prop} {s : Shared}
end

section
variable {X : Cx} {pins : List (Addr × Obj)} {σ : St} {H : Hp} {s : Shared} {d : Addr} {o : Obj}
end

section
variable {P : Program} {w : World} {K : PySem.W.Frag} {tg : Expr} {d : Addr} {o : Obj} {es : Array DictEntry} {ep : Nat}
end

section
variable {X : Cx} {tg e : Expr} {td : TE} {apos cpos : Pos}
end

/-- the list at a as it stands at each turn, each item in a new pair -/
def Ite (K : PySem.W.Frag) (a : Addr) : It :=
  ⟨fun i H => ∃ (xs : List V) (x : V), SqL K H a xs ∧ xs[i]? = some x, fun i H v H' => ∃ T x, v = .ref T ∧ H T = none ∧ H' = upd H T (.tup [.int (i : Nat), x]) ∧ ∀ xs, SqL K H a xs → xs[i]? = some x, fun i H => ∃ xs : List V, SqL K H a xs ∧ xs.length ≤ i⟩
theorem turn_enum {P : Program} {w : World} {K : PySem.W.Frag} {elts : List Expr} {kk : Nat} {tpos : Pos} (a e it : Addr) :
    Turn P w K (.Tuple elts kk tpos) (Ite K a) [e, it] e (fun i h => (∃ old, IsEnum h e it ((i : Nat) : Int) old) ∧ h.IsListIter it a i ∧ e ≠ it) where
  mem := by simp
  obj := fun i h st b hb => by
    obtain ⟨⟨old, he⟩, ⟨o, ho, hc, hd⟩, _⟩ := st
    have e' : b = e ∨ b = it := by simpa using hb
    rcases e' with z | z
    · rw [z]; exact ⟨_, he, fun v q => nomatch q⟩
    · rw [z]; exact ⟨o, ho, fun v q => by rw [hd] at q; cases q⟩
  keep := fun i h h' st k => let ⟨⟨old, he⟩, hi, hne⟩ := st; ⟨⟨old, k e (by simp) _ he⟩, hi.at fun o q => k it (by simp) o q, hne⟩
  item := by
    intro X hP hw hK hc i pins s σ H E I hf st hg
    subst hP hw hK
    obtain ⟨⟨old, he⟩, hit, hne⟩ := st
    obtain ⟨xs, x, hq, hx⟩ := hg
    obtain ⟨its, rv, p, hz⟩ := I.list hq
    obtain ⟨u, hu, ru⟩ := rv.get hx
    have hel : e < s.heap.objs.size := Heap.lt_size he
    have hil : it < s.heap.objs.size := by obtain ⟨_, q, _⟩ := hit; exact Heap.lt_size q
    refine wpAny_pyNext_enum_item he hit p.isList (x := u) (by simpa using hu) hne fun h' ho hit' hT hsz hk => ?_
    refine ⟨_, rfl, wpAny_letOwnedTupleGo_enum (s := { s with heap := h', toks := s.toks + 1 }) ho fun h'' he' sb => ?_⟩
    have hT2 : h''.get? s.heap.objs.size = some { cls := .type "tuple", data := .seq #[.int i s.toks, u] } := (sb.2 _ (Nat.ne_of_gt hel)).trans hT
    have new : ObjOk X.prog X.w (upd H s.heap.objs.size (.tup [.int (i : Nat), x])) h'' s.heap.objs.size (.tup [.int (i : Nat), x]) :=
      ⟨by show 2 ≤ sizeLine; decide, [.int i s.toks, u], .cons ⟨_, rfl⟩ (.cons ru .nil), ⟨_, hT2, rfl, _, rfl⟩⟩
    have I1 : Inv X pins σ (upd H s.heap.objs.size (.tup [.int (i : Nat), x])) { s with heap := h'', toks := s.toks + 1 } :=
      I.turnedNew (ch := [e, it]) (fun b ob hb q => (sb.2 b (fun z => hb (by simp [z]))).trans (hk b ob (fun z => hb (by simp [z])) (fun z => hb (by simp [z])) q)) hf (Nat.le_refl _) new
    refine ⟨.ref s.heap.objs.size, _, I1, rfl, ⟨_, x, rfl, I.hok.fresh (Nat.le_refl _), rfl, fun ys hy => by rw [I.list_inj hy hq]; exact hx⟩, ⟨⟨u, ?_⟩, hit'.at fun o q => (sb.2 it (Ne.symm hne)).trans q, hne⟩, fun b hb => ?_⟩
    · have e1 : ((i + 1 : Nat) : Int) = (i : Int) + 1 := by omega
      rw [e1]; exact he'
    · have hb' : b < s.heap.objs.size := by
        have e' : b = e ∨ b = it := by simpa using hb
        rcases e' with z | z
        · rw [z]; exact hel
        · rw [z]; exact hil
      rw [upd_ne (Nat.ne_of_lt hb')]
      exact (hf b hb).1
  done := by
    intro X hP hw hK hc i pins s σ H E I hf st hg
    subst hP hw hK
    obtain ⟨⟨old, he⟩, hit, hne⟩ := st
    obtain ⟨xs, hq, hx⟩ := hg
    obtain ⟨its, rv, p, hz⟩ := I.list hq
    obtain ⟨f0, f1, f2, f3, f4, f5⟩ := hf it (by simp)
    have hl := rv.length
    exact wpAny_pyNext_enum_end (I.ok.hd hc) he hit p.isList (by simp; omega) fun h' eb => ⟨rfl, I.turned (t' := s.toks) (fun b o hb q => eb b o hb q) f0 f1 f3 f4 f5⟩
  self := fun A i s Q E st h => let ⟨⟨_, he⟩, _⟩ := st; wpAny_pyIter_enum he h
def iEnum (K : PySem.W.Frag) (ta : TA) : TI := fun σ H R => ta σ H fun vs H1 => ∃ a xs, vs = [.ref a] ∧ SqL K H1 a xs ∧ R (Ite K a) H1
theorem pi_enum {X : Cx} {e : Expr} {ta : TA} {p pos tpos : Pos} {elts : List Expr} {kk : Nat} (hg : Gl X "enumerate") (hm : X.mg "enumerate" = none) (ha : PA X [e] ta) (hs : starEach [e] X.env = [(false, eval e X.env)] := by rfl) :
    PI X (.Tuple elts kk tpos) (.Call (.Name "enumerate" p) [e] [] pos) (iEnum X.K ta) := by
  intro pins s σ H R I h
  refine Call_ (ld_blt I hg hm boot_enumerate (PyProof.Rows.callWith_type1 (thn (ha pos pins s σ H _ I h) fun us s1 ⟨vs, H1, I1, r1, q1⟩ => ?_) hs rfl))
  obtain ⟨a, xs, ex, hq, q⟩ := q1
  subst ex
  cases r1 with
  | cons r rr =>
    cases rr
    cases r
    obtain ⟨its, rv, p', hz⟩ := I1.list hq
    refine call_enumerate_list p'.isList fun h' he hit hsz hk => wpAny_pyIter_enum he ?_
    have I2 : Inv X pins σ H1 { s1 with heap := h' } := I1.kept (t' := s1.toks) hk
    refine ⟨s1.heap.objs.size + 1, [s1.heap.objs.size + 1, s1.heap.objs.size], _, _, H1, rfl, I2, turn_enum a (s1.heap.objs.size + 1) s1.heap.objs.size, ⟨⟨.none, he⟩, hit, Nat.succ_ne_self _⟩, fun b hb => ?_, q⟩
    have e' : b = s1.heap.objs.size + 1 ∨ b = s1.heap.objs.size := by simpa using hb
    have hle : s1.heap.objs.size ≤ b := by
      rcases e' with z | z
      · rw [z]; exact Nat.le_add_right _ _
      · rw [z]; exact Nat.le_refl _
    exact I1.fpOk hle (I1.hok.fresh hle)
theorem boot_zip5 : bootBuiltins "zip" = some (.type "zip") := by decide +kernel
end L2

section 
namespace Bits
open PySem PyProof.Rows

end Bits
end 

section 
namespace TL
open PySem PySem.Builtin PySem.Builtin.Str PySem.StrLaws

abbrev tl (x : Str) : List Nat := x.cps.toList
theorem len_tl (x : Str) : x.length = (tl x).length := by simp [tl, Str.length]
theorem ext_tl {x y : Str} (h : tl x = tl y) : x = y := Str.ext' (Array.toList_inj.mp h)
theorem tl_append (x y : Str) : tl (x ++ y) = tl x ++ tl y := by
  show (x ++ y).cps.toList = _
  rw [Str.cps_append, Array.toList_append]
theorem map_tl_inj : ∀ {l m : List Str}, l.map tl = m.map tl → l = m
  | [], [], _ => rfl
  | [], _ :: _, h => by simp at h
  | _ :: _, [], h => by simp at h
  | x :: l, y :: m, h => by
    rw [List.map_cons, List.map_cons] at h
    injection h with h1 h2
    rw [ext_tl h1, map_tl_inj h2]

/-- S stands at the head of l -/
def pre (S l : List Nat) : Bool := l.take S.length == S
/-- l cut at each S from the left; k signs are still to be passed over -/
def spl (S : List Nat) : Nat → List Nat → List Nat → List (List Nat)
  | _, acc, [] => [acc]
  | 0, acc, c :: r => if pre S (c :: r) = true then acc :: spl S (S.length - 1) [] r else spl S 0 (acc ++ [c]) r
  | k + 1, acc, _ :: r => spl S k acc r
/-- what stands before the first S, and behind it -/
def par (S : List Nat) : List Nat → List Nat → Option (List Nat × List Nat)
  | _, [] => none
  | acc, c :: r => if pre S (c :: r) = true then some (acc, (c :: r).drop S.length) else par S (acc ++ [c]) r

theorem spl_nil (S : List Nat) (k : Nat) (acc : List Nat) : spl S k acc [] = [acc] := by cases k <;> rfl
theorem spl_hit {S acc r : List Nat} {c : Nat} (h : pre S (c :: r) = true) : spl S 0 acc (c :: r) = acc :: spl S (S.length - 1) [] r := by
  show (if pre S (c :: r) = true then acc :: spl S (S.length - 1) [] r else spl S 0 (acc ++ [c]) r) = _
  rw [if_pos h]
theorem spl_miss {S acc r : List Nat} {c : Nat} (h : pre S (c :: r) = false) : spl S 0 acc (c :: r) = spl S 0 (acc ++ [c]) r := by
  show (if pre S (c :: r) = true then acc :: spl S (S.length - 1) [] r else spl S 0 (acc ++ [c]) r) = _
  rw [if_neg (by rw [h]; exact Bool.false_ne_true)]
theorem spl_pass (S : List Nat) : ∀ (k : Nat) (acc l : List Nat), spl S k acc l = spl S 0 acc (l.drop k)
  | 0, _, _ => by rw [List.drop_zero]
  | k + 1, acc, [] => by rw [List.drop_nil, spl_nil, spl_nil]
  | k + 1, acc, c :: r => by
    show spl S k acc r = spl S 0 acc (r.drop k)
    exact spl_pass S k acc r

theorem pre_nil {S : List Nat} (hS : S ≠ []) : pre S [] = false := by
  cases S with
  | nil => exact absurd rfl hS
  | cons s S => rfl
theorem pre_of_head {s c : Nat} (S r : List Nat) (h : c ≠ s) : pre (s :: S) (c :: r) = false := by
  cases hp : pre (s :: S) (c :: r) with
  | false => rfl
  | true =>
    have e : (c :: r).take (s :: S).length = s :: S := eq_of_beq hp
    rw [List.length_cons, List.take_succ_cons] at e
    injection e with e1 e2
    exact absurd e1 h
theorem pre_self (S r : List Nat) : pre S (S ++ r) = true := by
  show ((S ++ r).take S.length == S) = true
  have e : (S ++ r).take S.length = S := List.take_left
  rw [e] <;> exact beq_self_eq_true S

theorem getElem_drop_cons {L : List Nat} {a : Nat} (h : a < L.length) : ∃ c, L.drop a = c :: L.drop (a + 1) := ⟨L[a], List.drop_eq_getElem_cons h⟩
theorem spl_run (S L : List Nat) : ∀ (m a : Nat) (acc : List Nat), a + m ≤ L.length → (∀ k, a ≤ k → k < a + m → pre S (L.drop k) = false) →
    spl S 0 acc (L.drop a) = spl S 0 (acc ++ (L.drop a).take m) (L.drop (a + m))
  | 0, a, acc, _, _ => by rw [List.take_zero, List.append_nil, Nat.add_zero]
  | m + 1, a, acc, h, hn => by
    have hlt : a < L.length := by omega
    obtain ⟨c, e⟩ := getElem_drop_cons hlt
    have h0 := hn a (Nat.le_refl _) (by omega)
    have ih := spl_run S L m (a + 1) (acc ++ [c]) (by omega) (fun k h1 h2 => hn k (by omega) (by omega))
    have e2 : a + 1 + m = a + (m + 1) := by omega
    rw [e2] at ih
    rw [e] at h0
    rw [e, spl_miss h0, ih, List.take_succ_cons, List.append_assoc] <;> rfl
theorem drop_two (L : List Nat) (a b : Nat) : (L.drop a).drop b = L.drop (a + b) := by
  first
    | rw [List.drop_drop]
    | rw [List.drop_drop, Nat.add_comm]
theorem spl_at {S L : List Nat} (hS : S ≠ []) {c : Nat} {acc : List Nat} (h : pre S (L.drop c) = true) : spl S 0 acc (L.drop c) = acc :: spl S 0 [] (L.drop (c + S.length)) := by
  rw [← drop_two]
  cases e : L.drop c with
  | nil => rw [e, pre_nil hS] at h; cases h
  | cons d r =>
    rw [e] at h
    rw [spl_hit h, spl_pass]
    cases S with
    | nil => exact absurd rfl hS
    | cons s S => rfl

theorem at_iff {x y : Str} (hy : tl y ≠ []) (i : Nat) : At x y x.length i ↔ pre (tl y) ((tl x).drop i) = true := by
  have hx := len_tl x
  have hl := len_tl y
  constructor
  · intro h
    have h2 := h.2
    rw [subAt_eq, hl] at h2
    exact h2
  · intro h
    have e : ((tl x).drop i).take (tl y).length = tl y := eq_of_beq h
    have e1 := congrArg List.length e
    rw [List.length_take, List.length_drop] at e1
    have e2 : 0 < (tl y).length := List.length_pos_iff.mpr hy
    refine ⟨by omega, ?_⟩
    rw [subAt_eq, hl]
    exact h
theorem no_at {x y : Str} (hy : tl y ≠ []) {i : Nat} (h : ¬ At x y x.length i) : pre (tl y) ((tl x).drop i) = false := by
  cases hp : pre (tl y) ((tl x).drop i) with
  | false => rfl
  | true => exact absurd ((at_iff hy i).mpr hp) h
theorem len1 {y : Str} (hy : tl y ≠ []) : 1 ≤ y.length := by
  have e2 : 0 < (tl y).length := List.length_pos_iff.mpr hy
  rw [len_tl y]
  exact e2
theorem tl_strSub (x : Str) (i j : Nat) : tl (strSub x i j) = ((tl x).drop i).take (j - i) := strSub_toList x i j
theorem tl_strSub_end (x : Str) (i : Nat) : tl (strSub x i x.length) = (tl x).drop i := by
  rw [tl_strSub, len_tl x]
  exact List.take_of_length_le (by rw [List.length_drop] <;> omega)

theorem parts_spl {x y : Str} (hy : tl y ≠ []) : ∀ (cuts : List Nat) (a f : Nat), a ≤ (tl x).length → ChainG x y x.length a cuts f → (∀ k, f ≤ k → ¬ At x y x.length k) →
    (partsFrom x y.length a cuts).map tl = spl (tl y) 0 [] ((tl x).drop a)
  | [], a, f, ha, h, hn => by
    have e : f = a := h
    subst e
    show [tl (strSub x f x.length)] = _
    have run := spl_run (tl y) (tl x) ((tl x).length - f) f [] (by omega) (fun k h1 _ => no_at hy (hn k h1))
    have e2 : f + ((tl x).length - f) = (tl x).length := by omega
    rw [e2, List.drop_length, spl_nil, List.nil_append, List.take_of_length_le (by rw [List.length_drop] <;> omega)] at run
    rw [run, tl_strSub_end]
  | c :: r, a, f, ha, h, hn => by
    obtain ⟨h1, h2, h3, h4⟩ := h
    have hc : c + y.length ≤ x.length := h2.1
    have hx := len_tl x
    have hl := len_tl y
    have ih := parts_spl hy r (c + y.length) f (by omega) h4 hn
    show tl (strSub x a c) :: (partsFrom x y.length (c + y.length) r).map tl = _
    have run := spl_run (tl y) (tl x) (c - a) a [] (by omega) (fun k k1 k2 => no_at hy (h3 k k1 (by omega)))
    have e2 : a + (c - a) = c := by omega
    rw [e2, List.nil_append, spl_at hy ((at_iff hy c).mp h2)] at run
    rw [run, ih, tl_strSub, hl]

/-- hk: by kind_ok where the separator is plain -/
theorem split_spl (x y : Str) (hy : tl y ≠ []) (hk : ¬ Builtin.Str.strKind x < Builtin.Str.strKind y) : (Txt.split x y).map tl = spl (tl y) 0 [] (tl x) := by
  obtain ⟨f, g, hn⟩ := occ_tight x y (len1 hy)
  have key := parts_spl hy _ 0 f (Nat.zero_le _) g hn
  rw [List.drop_zero] at key
  have none_case : occurrences x y 0 x.length (x.length + 1) = [] → [x].map tl = spl (tl y) 0 [] (tl x) := fun ho => by
    rw [ho] at key
    rw [← key]
    show [tl x] = [tl (strSub x 0 x.length)]
    rw [sub_whole]
  unfold Txt.split
  by_cases h1 : (decide (x.length < y.length) || decide (Builtin.Str.strKind x < Builtin.Str.strKind y)) = true
  · rw [if_pos h1]
    have hlt : x.length < y.length := by
      simp only [Bool.or_eq_true, decide_eq_true_eq] at h1
      rcases h1 with h | h
      · exact h
      · exact absurd h hk
    refine none_case ?_
    cases ho : occurrences x y 0 x.length (x.length + 1) with
    | nil => rfl
    | cons c r =>
      rw [ho] at g
      have hc : c + y.length ≤ x.length := g.2.1.1
      omega
  · rw [if_neg h1]
    by_cases h2 : (occurrences x y 0 x.length (x.length + 1)).isEmpty = true
    · rw [if_pos h2]
      exact none_case (List.isEmpty_iff.mp h2)
    · rw [if_neg h2, partsBetween_eq]
      exact key
theorem kind_ok {x y : Str} (h : y.cps.all (· < 256) = true) : ¬ Builtin.Str.strKind x < Builtin.Str.strKind y := by
  have e : Builtin.Str.strKind y = 1 := by unfold PySem.Builtin.Str.strKind; rw [if_pos h]
  rw [e]
  unfold PySem.Builtin.Str.strKind
  split
  · omega
  · split <;> omega

/-- a part that the separator does not begin in, then the separator -/
theorem spl_part {S p rest acc : List Nat} (hS : S ≠ []) (h : ∀ i, i < p.length → pre S ((p ++ (S ++ rest)).drop i) = false) :
    spl S 0 acc (p ++ (S ++ rest)) = (acc ++ p) :: spl S 0 [] rest := by
  have run := spl_run S (p ++ (S ++ rest)) p.length 0 acc (by rw [List.length_append]; omega) (fun k _ k2 => h k (by omega))
  have ed : (p ++ (S ++ rest)).drop p.length = S ++ rest := List.drop_left
  rw [List.drop_zero, Nat.zero_add, List.take_left] at run
  rw [run, spl_at hS (by rw [ed]; exact pre_self S rest), ← drop_two, ed, List.drop_left]
theorem spl_last {S p acc : List Nat} (h : ∀ i, i < p.length → pre S (p.drop i) = false) : spl S 0 acc p = [acc ++ p] := by
  have run := spl_run S p p.length 0 acc (by omega) (fun k _ k2 => h k (by omega))
  rw [List.drop_zero, Nat.zero_add, List.drop_length, spl_nil, List.take_length] at run
  exact run
/-- the separator's first sign is not in the part -/
theorem free_of {s : Nat} {S p q : List Nat} (h : s ∉ p) : ∀ i, i < p.length → pre (s :: S) ((p ++ q).drop i) = false := fun i hi => by
  have hlt : i < (p ++ q).length := by rw [List.length_append]; omega
  have e : (p ++ q).drop i = (p ++ q)[i] :: (p ++ q).drop (i + 1) := List.drop_eq_getElem_cons hlt
  rw [e]
  refine pre_of_head _ _ fun z => h ?_
  have e1 : (p ++ q)[i] = p[i] := List.getElem_append_left hi
  rw [← z, e1]
  exact List.getElem_mem hi
theorem spl_part1 {s : Nat} {S p rest acc : List Nat} (h : s ∉ p) : spl (s :: S) 0 acc (p ++ (s :: S ++ rest)) = (acc ++ p) :: spl (s :: S) 0 [] rest :=
  spl_part (by simp) (free_of h)
theorem spl_last1 {s : Nat} {S p acc : List Nat} (h : s ∉ p) : spl (s :: S) 0 acc p = [acc ++ p] := spl_last fun i hi => by
  have z := free_of (S := S) (q := []) h i hi
  rw [List.append_nil] at z
  exact z

/-- joined lists -/
def joinL (S : List Nat) : List (List Nat) → List Nat
  | [] => []
  | [p] => p
  | p :: q :: r => p ++ (S ++ joinL S (q :: r))
theorem tl_join (y : Str) : ∀ parts : List Str, tl (Str.join y parts) = joinL (tl y) (parts.map tl)
  | [] => rfl
  | [_] => rfl
  | x :: z :: r => by
    show tl (x ++ y ++ Str.join y (z :: r)) = tl x ++ (tl y ++ joinL (tl y) ((z :: r).map tl))
    rw [tl_append, tl_append, tl_join y (z :: r), List.append_assoc]
theorem spl_join {s : Nat} {S : List Nat} : ∀ {parts : List (List Nat)}, parts ≠ [] → (∀ p ∈ parts, s ∉ p) → spl (s :: S) 0 [] (joinL (s :: S) parts) = parts
  | [], h, _ => absurd rfl h
  | [p], _, hp => by
    show spl (s :: S) 0 [] p = [p]
    rw [spl_last1 (hp p (List.mem_singleton.mpr rfl)), List.nil_append]
  | p :: q :: r, _, hp => by
    show spl (s :: S) 0 [] (p ++ (s :: S ++ joinL (s :: S) (q :: r))) = p :: q :: r
    rw [spl_part1 (hp p (List.mem_cons_self ..)), List.nil_append, spl_join (by simp) fun z hz => hp z (List.mem_cons_of_mem _ hz)]
theorem join_eq (y : Str) (parts : List Str) : Txt.join y parts = Str.join y parts := glued_eq_join y parts
/-- THE READ-BACK: a joined text, split -/
theorem split_join {y : Str} {s : Nat} {S : List Nat} (ey : tl y = s :: S) (hk : y.cps.all (· < 256) = true) {parts : List Str} (hne : parts ≠ []) (hp : ∀ p ∈ parts, s ∉ tl p) :
    Txt.split (Txt.join y parts) y = parts := by
  refine map_tl_inj ?_
  rw [split_spl _ y (by rw [ey]; simp) (kind_ok hk), join_eq, tl_join, ey]
  refine spl_join (fun e => hne (List.map_eq_nil_iff.mp e)) fun p h => ?_
  obtain ⟨z, hz, rfl⟩ := List.mem_map.mp h
  exact hp z hz

end TL
end 

namespace L2
open PySem PySem.Spec PyProof.Rows

section
variable {X : Cx} {pins : List (Addr × Obj)} {σ : St} {H : Hp} {s : Shared} {Q : VK}
end

section
variable {X : Cx}

end

section
variable {X : Cx} {o e : Expr} {to te : TE}

end
end L2

namespace L2
open PySem PySem.Spec PyProof.Rows

section
variable {X : Cx}
end

theorem IsPart.raw {v : Value} {o : Option Int} (p : IsPart v o) : ∃ l : Option (Int × Tok), v = partValue l ∧ l.map (·.1) = o := by
  cases p with
  | none => exact ⟨none, rfl, rfl⟩
  | int i t => exact ⟨some (i, t), rfl, rfl⟩

end L2

namespace Att
open PySem PySem.W PySem.Calls PyProof.Rows

section
variable {prog : Program} {w : World} {A : Around} {E : Value → Shared → Prop} {s : Shared} {K : Frag}

/-- a def of the module, or a method (qual 'C.m'), entered: the frame is the next address; cells behind it -/
theorem call_fn {R : Result → Shared → Prop} {name qual : Str} {params : Arguments} {body : List Stmt} {scope : Scope} {dV kV doc pm cdv ct oc : Value} {an od : Option Addr} {osl : Array (Option Value)} {f : Addr} {args : Args} {binds : List (Str × Value)}
    (X : K.In s.heap) (hlim : s.heap.NoLimit) (ho : K.lookup f = some ⟨oc, od, .func (fnOf name qual params body scope dV kV doc pm an cdv ct), osl⟩) (hcd : codeIn K cdv qual = true) (hroom : A.depth < recursionLimit)
    (hbind : BindsTo s (fnOf name qual params body scope dV kV doc pm an cdv ct) args binds)
    (hkind : (binds.all fun y => scope.names.lookup y.1 == some .local || scope.names.lookup y.1 == some .cell) = true)
    (h : ∀ s₁, InCallC s s.heap.objs.size (bindL (envOfC qual scope s.heap.objs.size f cdv).kindOf binds fun _ => none) (cellsFrom (s.heap.objs.size + 1) scope.names [])
        (bindC (envOfC qual scope s.heap.objs.size f cdv).kindOf binds fun _ => none) s₁ →
      wpAny (model prog w) (A.deeper (envOfC qual scope s.heap.objs.size f cdv)) (execs body (envOfC qual scope s.heap.objs.size f cdv))
        (fun fl s' => R (.ok (.ret (match fl with | .ret v => v | _ => .none))) s')
        (fun e s' => wpAny (model prog w) (A.deeper (envOfC qual scope s.heap.objs.size f cdv)) (leaving (envOfC qual scope s.heap.objs.size f cdv) e) (fun _ s'' => R (.error e) s'') (fun e' s'' => R (.error e') s'') s') s₁)
    (hco : scope.isCoroutine = false) (hgen : scope.isGenerator = false) (hk : scope.kind = .function) : codeAny (model prog w) A (.call (.ref f) args) R s := by
  refine codeAny_call_function hroom (X _ _ ho) rfl hco hgen rfl (codeRec_of X hcd) (hbind _ _ _ _ ?_)
  refine wpAny_newFunctionEnv_cells hk (kindsX hkind _) fun env he s₁ x => ?_
  subst he
  exact ⟨hlim.keeps x.toInCall.keep, codeAny_func (h s₁ x)⟩

end
end Att

namespace L2
open PySem PySem.Spec PyProof.Rows

end L2

namespace L2
open PySem PySem.Spec PyProof.Rows

abbrev KOf {K : PySem.W.Frag} {h : Heap} (_ : K.In h) : PySem.W.Frag := K

end L2

namespace L2
open PySem PySem.Spec PyProof.Rows

/-- the j-th statement of a class's body -/
def inClass (s : Stmt) (j : Nat) : Stmt := match s with
  | .ClassDef _ _ _ body _ _ _ _ _ _ _ => body.getD j (.Pass ⟨0, 0, 0, 0⟩)
  | _ => .Pass ⟨0, 0, 0, 0⟩
def defArgs (s : Stmt) : Arguments := match s with
  | .FunctionDef _ a _ _ _ _ _ _ _ _ => a
  | _ => { posonlyargs := [], args := [], vararg := none, kwonlyargs := [], kw_defaults := [], kwarg := none, defaults := [] }
def defBody (s : Stmt) : List Stmt := match s with
  | .FunctionDef _ _ b _ _ _ _ _ _ _ => b
  | _ => []
def defScope (s : Stmt) : Scope := match s with
  | .FunctionDef _ _ _ _ _ _ sc _ _ _ => sc
  | _ => { kind := .function, names := [], isGenerator := false, isCoroutine := false }

abbrev CX0 : CXT := fun _ _ _ _ _ _ => False
abbrev E0 : XK := fun _ _ _ => False
theorem pass0 {X : Cx} : Passes CX0 X E0 := fun _ _ _ _ _ _ _ h => h.elim

structure Fun (K : PySem.W.Frag) (x qual : Str) (st : Stmt) (f : Addr) (fd : FuncData) : Prop where
  ex : ∃ (oc : Value) (od : Option Addr) (kV doc pm : Value) (an : Option Addr) (cdv ct : Value) (osl : Array (Option Value)),
    fd = PySem.W.fnOf x qual (defArgs st) (defBody st) (defScope st) .none kV doc pm an cdv ct ∧ K.lookup f = some ⟨oc, od, .func fd, osl⟩ ∧ PySem.W.codeIn K cdv qual = true
  kp : PySem.W.keepIn K (.ref f) = true
section
variable {P : Program} {w : World} {K : PySem.W.Frag} {mg : Str → Option Value} {base : Heap}
/-- THE RULE for a def: its body as a term of rules, and the reading of that term -/
theorem Fun.ok {x qual : Str} {st : Stmt} {f : Addr} {fd : FuncData} {N ps : List Str} {k : Nat} {sp : Sp} (F : Fun K x qual st f fd) (S : FnScope N ps (defScope st)) (len : ∀ vs H Q E, sp vs H Q E → vs.length = ps.length)
    (hbody : ∀ (cdv : Value) (A : Around) (outer : List Env) (s : Shared) (H : Hp) (vs : List V) (Q : VK) (E : XK), Room k (A.deeper (envOfC qual (defScope st) s.heap.objs.size f cdv)) → sp vs H Q E →
      ∃ t, PSs (cxOf CX0 P w K mg base N qual (defScope st) f cdv A outer s H E).nox (defBody st) t ∧ t { nx := fun _ H' => Q .non H', rt := Q } (start N vs) H) : FnOk P w K mg base CX0 (k + 1) f fd ps sp := by
  obtain ⟨oc, od, kV, doc, pm, an, cdv, ct, osl, rfl, lk, hcd⟩ := F.ex
  refine fn_of lk hcd S len fun A outer s H vs Q E hr hsp => ?_
  obtain ⟨t, h, q⟩ := hbody cdv A outer s H vs Q E hr hsp
  exact ⟨t, h.nox, q⟩
/-- how its arguments bind (no defaults): h is «fun _ _ _ _ _ _ us hl => match us, hl with | [_, _], _ => rfl», one _ a parameter -/
theorem Fun.binds {x qual : Str} {st : Stmt} {f : Addr} {fd : FuncData} {ps : List Str} (F : Fun K x qual st f fd)
    (h : ∀ (kV doc pm : Value) (an : Option Addr) (cdv ct : Value) (us : List Value), us.length = ps.length → bindArgs (PySem.W.fnOf x qual (defArgs st) (defBody st) (defScope st) .none kV doc pm an cdv ct) ⟨us, []⟩ = pure (ps.zip us)) : Binds K fd ps [] := by
  obtain ⟨oc, od, kV, doc, pm, an, cdv, ct, osl, rfl, lk, hcd⟩ := F.ex
  exact .all (h kV doc pm an cdv ct)
theorem fun_mk {x qual : Str} {st : Stmt} {f : Addr} {oc : Value} {od an : Option Addr} {osl : Array (Option Value)} {kV doc pm cdv ct : Value} (l : K.lookup f = some ⟨oc, od, .func (PySem.W.fnOf x qual (defArgs st) (defBody st) (defScope st) .none kV doc pm an cdv ct), osl⟩)
    (c : PySem.W.codeIn K cdv qual = true) (k : PySem.W.keepIn K (.ref f) = true) : Fun K x qual st f (PySem.W.fnOf x qual (defArgs st) (defBody st) (defScope st) .none kV doc pm an cdv ct) := ⟨⟨oc, od, kV, doc, pm, an, cdv, ct, osl, rfl, l, c⟩, k⟩
end
theorem hu_of {A : Around} {k : Nat} (hr : Room k A) : A.units + 1 < cLine := Nat.lt_of_le_of_lt (Nat.add_le_add_left (by decide : 1 ≤ 64) _) hr.units

section
variable {X : Cx}
theorem pv (i : Nat) {x : Str} {pos : Pos} (hN : X.N[i]? = some x := by rfl) (hv : Vis X.env.scope x := by first | exact Or.inl rfl | exact Or.inr (Or.inl rfl) | exact Or.inr (Or.inr rfl)) (hd : (x == ("__debug__" : Str)) = false := by decide)
    (hcd : (x == ("__classdict__" : Str)) = false := by decide) : PE X (.Name x pos) (tVar i) := pe_var hN hv hd hcd
end

theorem iteF {A B : Prop} (h : B) : if false = true then A else B := by
  rw [if_neg Bool.false_ne_true]
  exact h
theorem iteT {A B : Prop} (h : A) : if true = true then A else B := by
  rw [if_pos rfl]
  exact h
theorem ite2 {c A B : Prop} [Decidable c] (h1 : c → A) (h2 : ¬ c → B) : if c then A else B := by
  by_cases h : c
  · rw [if_pos h]
    exact h1 h
  · rw [if_neg h]
    exact h2 h

/-- all that was tracked is as it was -/
def Same (H H' : Hp) : Prop := ∀ b o, H b = some o → H' b = some o
theorem Same.refl (H : Hp) : Same H H := fun _ _ h => h
theorem Same.trans {H H1 H2 : Hp} (a : Same H H1) (b : Same H1 H2) : Same H H2 := fun c o h => b c o (a c o h)
theorem Same.free {H H' : Hp} (e : Same H H') {l : Addr} (h : H' l = Option.none) : H l = Option.none := by
  cases q : H l with
  | none => rfl
  | some o =>
    rw [e l o q] at h
    cases h
theorem Same.seq {K : PySem.W.Frag} {H H' : Hp} {a : Addr} {xs : List V} (e : Same H H') (h : SqL K H a xs) : SqL K H' a xs := by
  rcases h with (h | ⟨o, h⟩) | h
  · exact .inl (.inl (e _ _ h))
  · exact .inl (.inr ⟨o, e _ _ h⟩)
  · exact .inr h

section
variable {κ : Type} [DecidableEq κ]
end
/-- a new instance and its __init__ leave all that was tracked as it was -/
theorem Same.made {H H1 : Hp} {x dx C : Addr} (nx : H x = Option.none) (nd : H dx = Option.none) (k : ∀ b o, (upd (upd H dx (.own x)) x (.ins C dx [])) b = some o → b ≠ x → H1 b = some o) : Same H H1 := fun b o e =>
  k b o (by rw [upd_ne (ne_of_none e nx), upd_ne (ne_of_none e nd)]; exact e) (ne_of_none e nx)
end L2
end
section
set_option maxHeartbeats 2000000
namespace L2
open PySem PySem.Spec PyProof.Rows
open PySem.W (WData Codec OpenSpec Well WellAll ReadsW ReadsAllW)
/-! ### an answer as data -/
mutual
/-- x stands for the datum d, lists and tuples all the way -/
inductive Dw (K : PySem.W.Frag) (H : Hp) : V → WData → Prop
  | non : Dw K H .non .none
  | bl (b : Bool) : Dw K H (.bl b) (.bool b)
  | int (i : Int) : Dw K H (.int i) (.int i)
  | str (x : Str) : Dw K H (.str x) (.str x)
  | byt (b : Array UInt8) : Dw K H (.byt b) (.bytes b.toList)
  | lst {a : Addr} {xs : List V} {ds : List WData} : SqL K H a xs → DwAll K H xs ds → Dw K H (.ref a) (.list ds)
  | tup {a : Addr} {xs : List V} {ds : List WData} : SqT K H a xs → DwAll K H xs ds → Dw K H (.ref a) (.tuple ds)
inductive DwAll (K : PySem.W.Frag) (H : Hp) : List V → List WData → Prop
  | nil : DwAll K H [] []
  | cons {v : V} {vs : List V} {d : WData} {ds : List WData} : Dw K H v d → DwAll K H vs ds → DwAll K H (v :: vs) (d :: ds)
end
theorem dw_ints {K : PySem.W.Frag} {H : Hp} : ∀ ns : List Int, DwAll K H (ns.map V.int) (ns.map WData.int)
  | [] => .nil
  | n :: r => .cons (.int n) (dw_ints r)
theorem ints_dw {K : PySem.W.Frag} {H : Hp} : ∀ (ns : List Int) (xs : List V), DwAll K H xs (ns.map WData.int) → xs = ns.map V.int
  | [], xs, h => by
    cases h
    rfl
  | n :: r, xs, h => by
    cases h with
    | cons h1 h2 =>
      cases h1
      rw [ints_dw r _ h2] <;> rfl
section
variable {P : Program} {w : World} {K : PySem.W.Frag} {H : Hp} {h : Heap} {R : PySem.W.WRecords} {cl : Str → Option Addr}
theorem sqL_at {a : Addr} {xs : List V} (hok : HOk P w H h) (KX : K.In h) (q : SqL K H a xs) : ∃ (its : List Value) (o : Obj) (n : Nat), Vals xs its ∧ h.get? a = some o ∧ o.cls = .type "list" ∧ o.data = .seq its.toArray n := by
  rcases q with q | ⟨o, its, n, e, hc, _, hd, _, hv⟩
  · obtain ⟨_, its, n, hv, e⟩ := (show ObjOk P w H h a (.lst xs) from q.ok hok)
    exact ⟨its, _, n, hv, e, rfl, rfl⟩
  · exact ⟨its.toList, o, n, hv, KX _ _ e, hc, by simp [hd]⟩
theorem sqT_at {a : Addr} {xs : List V} (hok : HOk P w H h) (KX : K.In h) (q : SqT K H a xs) : ∃ (its : List Value) (o : Obj) (n : Nat), Vals xs its ∧ h.get? a = some o ∧ o.cls = .type "tuple" ∧ o.data = .seq its.toArray n := by
  rcases q with q | ⟨o, its, n, e, hc, hd, _, hv⟩
  · obtain ⟨_, its, hv, o, e, hc, n, hd⟩ := (show ObjOk P w H h a (.tup xs) from q.ok hok)
    exact ⟨its, o, n, hv, e, hc, hd⟩
  · exact ⟨its.toList, o, n, hv, KX _ _ e, hc, by simp [hd]⟩
mutual
theorem Dw.reads (hok : HOk P w H h) (KX : K.In h) : ∀ (d : WData) (v : V) (u : Value), Dw K H v d → RelV v u → ∃ as, ReadsW R cl h u d as
  | .none, _, _, x, r => by
    cases x
    cases r
    exact ⟨_, ReadsW.none⟩
  | .bool b, _, _, x, r => by
    cases x
    cases r
    exact ⟨_, ReadsW.bool b⟩
  | .int i, _, _, x, r => by
    cases x
    obtain ⟨t, rfl⟩ := r
    exact ⟨_, ReadsW.int i t⟩
  | .str s, _, _, x, r => by
    cases x
    obtain ⟨t, rfl⟩ := r
    exact ⟨_, ReadsW.str s t⟩
  | .bytes b, _, _, x, r => by
    cases x
    obtain ⟨t, rfl⟩ := r
    exact ⟨_, ReadsW.bytes _ t⟩
  | .list ds, _, _, x, r => by
    cases x with
    | lst hs ha =>
      cases r
      obtain ⟨its, o, n, rv, ho, hc, hd⟩ := sqL_at hok KX hs
      obtain ⟨as, hr⟩ := Dw.readsAll hok KX ds _ its ha rv
      exact ⟨_, ReadsW.list ho hc hd hr⟩
  | .tuple ds, _, _, x, r => by
    cases x with
    | tup hs ha =>
      cases r
      obtain ⟨its, o, n, rv, ho, hc, hd⟩ := sqT_at hok KX hs
      obtain ⟨as, hr⟩ := Dw.readsAll hok KX ds _ its ha rv
      exact ⟨_, ReadsW.tuple ho hc hd hr⟩
  | .float _, _, _, x, _ => by cases x
  | .dict _, _, _, x, _ => by cases x
  | .bytearray _, _, _, x, _ => by cases x
  | .set _, _, _, x, _ => by cases x
  | .frozenset _, _, _, x, _ => by cases x
  | .obj _ _, _, _, x, _ => by cases x
theorem Dw.readsAll (hok : HOk P w H h) (KX : K.In h) : ∀ (ds : List WData) (vs : List V) (us : List Value), DwAll K H vs ds → Vals vs us → ∃ as, ReadsAllW R cl h us ds as
  | [], _, _, x, r => by
    cases x
    cases r
    exact ⟨_, ReadsAllW.nil⟩
  | d :: ds, _, _, x, r => by
    cases x with
    | cons h1 h2 =>
      cases r with
      | cons r1 r2 =>
        obtain ⟨as, q1⟩ := Dw.reads hok KX d _ _ h1 r1
        obtain ⟨bs, q2⟩ := Dw.readsAll hok KX ds _ _ h2 r2
        exact ⟨_, ReadsAllW.cons q1 q2⟩
end
end
/-! ### the arguments -/
mutual
/-- data that a codec tells -/
def plW : WData → Bool
  | .none => true
  | .bool _ => true
  | .int _ => true
  | .str _ => true
  | .bytes _ => true
  | .list xs => plWs xs
  | .tuple xs => plWs xs
  | _ => false
def plWs : List WData → Bool
  | [] => true
  | x :: r => plW x && plWs r
end
theorem plWs_map {α : Type} {f : α → WData} (h : ∀ a, plW (f a) = true) : ∀ l : List α, plWs (l.map f) = true
  | [] => rfl
  | x :: r => by
    show (plW (f x) && plWs (r.map f)) = true
    rw [h x, plWs_map h r] <;> rfl
theorem pl_enc : ∀ (c : Codec) (a : c.denote), plW (c.enc a) = true
  | .unit, _ => rfl
  | .bool, _ => rfl
  | .int _ _, _ => rfl
  | .nat _ _, _ => rfl
  | .u8, _ => rfl
  | .bytes _ _, _ => rfl
  | .text _ _ _ _, _ => rfl
  | .list _ _ c, a => plWs_map (fun x => pl_enc c x) a
  | .pair c d, a => by
    show (plW (c.enc a.1) && (plW (d.enc a.2) && true)) = true
    rw [pl_enc c a.1, pl_enc d a.2] <;> rfl
  | .triple c d e, a => by
    show (plW (c.enc a.1) && (plW (d.enc a.2.1) && (plW (e.enc a.2.2) && true))) = true
    rw [pl_enc c a.1, pl_enc d a.2.1, pl_enc e a.2.2] <;> rfl
  | .option c, none => rfl
  | .option c, some x => pl_enc c x
theorem pl_encAll : ∀ (cs : List Codec) (a : Codec.denoteAll cs), plWs (Codec.encAll cs a) = true
  | [], _ => rfl
  | c :: cs, a => by
    show (plW (c.enc a.1) && plWs (Codec.encAll cs a.2)) = true
    rw [pl_enc c a.1, pl_encAll cs a.2] <;> rfl
theorem weight_mem : ∀ {xs : List WData} {d : WData}, d ∈ xs → d.weight ≤ WData.weightAll xs
  | [], d, h => absurd h (by simp)
  | x :: r, d, h => by
    show d.weight ≤ x.weight + 1 + WData.weightAll r
    rcases List.mem_cons.mp h with e | m
    · rw [e]
      omega
    · have z := weight_mem m
      omega
def toV : Value → V
  | .none => .non
  | .bool b => .bl b
  | .int i _ => .int i
  | .str x _ => .str x
  | .bytes b _ => .byt b
  | .ref a => .ref a
  | _ => .non
/-- a value of the arguments, its objects among A -/
def OkU (A : List Addr) : Value → Prop
  | .none => True
  | .bool _ => True
  | .int _ _ => True
  | .str _ _ => True
  | .bytes _ _ => True
  | .ref a => a ∈ A
  | _ => False
theorem OkU.mono {A B : List Addr} (h : ∀ a ∈ A, a ∈ B) : ∀ {u : Value}, OkU A u → OkU B u := fun {u} x => by
  cases u with
  | ref a => exact h a x
  | none => trivial
  | bool b => trivial
  | int i t => trivial
  | str s t => trivial
  | bytes b t => trivial
  | _ => exact False.elim x
theorem relV_toV {A : List Addr} {u : Value} (x : OkU A u) : RelV (toV u) u := by
  cases u with
  | ref a => rfl
  | none => rfl
  | bool b => rfl
  | int i t => exact ⟨t, rfl⟩
  | str s t => exact ⟨t, rfl⟩
  | bytes b t => exact ⟨t, rfl⟩
  | _ => exact False.elim x
theorem vals_toV {A : List Addr} : ∀ {vs : List Value}, (∀ u ∈ vs, OkU A u) → Vals (vs.map toV) vs
  | [], _ => .nil
  | u :: r, h => .cons (relV_toV (h u (List.mem_cons_self ..))) (vals_toV fun x hx => h x (List.mem_cons_of_mem _ hx))
/-- an object of the arguments -/
def ArgOb (h : Heap) (A : List Addr) (a : Addr) : Prop := ∃ vs : List Value, vs.length ≤ sizeLine ∧ (∀ u ∈ vs, OkU A u) ∧
  (h.get? a = some { cls := .type "list", data := .seq vs.toArray } ∨ h.get? a = some { cls := .type "tuple", data := .seq vs.toArray })
theorem ArgOb.mono {h : Heap} {A B : List Addr} {a : Addr} (k : ∀ a ∈ A, a ∈ B) (x : ArgOb h A a) : ArgOb h B a := by
  obtain ⟨vs, h1, h2, h3⟩ := x
  exact ⟨vs, h1, fun u hu => (h2 u hu).mono k, h3⟩
theorem wellAll_len {P : Params} {h : Heap} : ∀ {vs : List Value} {ds : List WData}, WellAll P h vs ds → vs.length = ds.length
  | _, _, .nil => rfl
  | _, _, .cons _ b => by
    show _ + 1 = _ + 1
    rw [wellAll_len b]
theorem well_list {P : Params} {h : Heap} {v : Value} {ds : List WData} (x : Well P h v (.list ds)) : ∃ (a : Addr) (vs : List Value), v = .ref a ∧ h.get? a = some { cls := .type "list", data := .seq vs.toArray } ∧ WellAll P h vs ds := by
  cases x with
  | list ho hall => exact ⟨_, _, rfl, ho, hall⟩
theorem well_tuple {P : Params} {h : Heap} {v : Value} {ds : List WData} (x : Well P h v (.tuple ds)) : ∃ (a : Addr) (vs : List Value), v = .ref a ∧ h.get? a = some { cls := .type "tuple", data := .seq vs.toArray } ∧ WellAll P h vs ds := by
  cases x with
  | tuple ho hall => exact ⟨_, _, rfl, ho, hall⟩
theorem well_cons {P : Params} {h : Heap} {us : List Value} {d : WData} {ds : List WData} (x : WellAll P h us (d :: ds)) : ∃ (v : Value) (vs : List Value), us = v :: vs ∧ Well P h v d ∧ WellAll P h vs ds := by
  cases x with
  | cons a b => exact ⟨_, _, rfl, a, b⟩
theorem line_of {n : Nat} (h : n ≤ 1048576) : n ≤ sizeLine := Nat.le_trans h (by decide)
section
variable {P : Params} {h : Heap}
mutual
theorem area_one : ∀ (d : WData) (v : Value), Well P h v d → plW d = true → d.weight ≤ 1048576 → ∃ A : List Addr, OkU A v ∧ ∀ a ∈ A, ArgOb h A a
  | .none, _, x, _, _ => by
    cases x
    exact ⟨[], trivial, fun a m => absurd m (by simp)⟩
  | .bool b, _, x, _, _ => by
    cases x
    exact ⟨[], trivial, fun a m => absurd m (by simp)⟩
  | .int i, _, x, _, _ => by
    cases x
    exact ⟨[], trivial, fun a m => absurd m (by simp)⟩
  | .str s, _, x, _, _ => by
    cases x
    exact ⟨[], trivial, fun a m => absurd m (by simp)⟩
  | .bytes b, _, x, _, _ => by
    cases x
    exact ⟨[], trivial, fun a m => absurd m (by simp)⟩
  | .list ds, _, x, p, z => by
    obtain ⟨a, vs, rfl, ho, hall⟩ := well_list x
    have z2 : WData.weightAll ds ≤ 1048576 := z
    obtain ⟨A, h1, h2⟩ := area_all ds _ hall p fun d hd => Nat.le_trans (weight_mem hd) z2
    have k : ∀ b ∈ A, b ∈ a :: A := fun b hb => List.mem_cons_of_mem _ hb
    refine ⟨a :: A, List.mem_cons_self .., fun b hb => ?_⟩
    rcases List.mem_cons.mp hb with e | m
    · rw [e]
      exact ⟨vs, line_of (by rw [wellAll_len hall]; exact Nat.le_trans (PySem.W.length_le_weightAllW ds) z2), fun u hu => (h1 u hu).mono k, .inl ho⟩
    · exact (h2 b m).mono k
  | .tuple ds, _, x, p, z => by
    obtain ⟨a, vs, rfl, ho, hall⟩ := well_tuple x
    have z2 : WData.weightAll ds ≤ 1048576 := z
    obtain ⟨A, h1, h2⟩ := area_all ds _ hall p fun d hd => Nat.le_trans (weight_mem hd) z2
    have k : ∀ b ∈ A, b ∈ a :: A := fun b hb => List.mem_cons_of_mem _ hb
    refine ⟨a :: A, List.mem_cons_self .., fun b hb => ?_⟩
    rcases List.mem_cons.mp hb with e | m
    · rw [e]
      exact ⟨vs, line_of (by rw [wellAll_len hall]; exact Nat.le_trans (PySem.W.length_le_weightAllW ds) z2), fun u hu => (h1 u hu).mono k, .inr ho⟩
    · exact (h2 b m).mono k
  | .float _, _, _, p, _ => Bool.noConfusion (show false = true from p)
  | .dict _, _, _, p, _ => Bool.noConfusion (show false = true from p)
  | .bytearray _, _, _, p, _ => Bool.noConfusion (show false = true from p)
  | .set _, _, _, p, _ => Bool.noConfusion (show false = true from p)
  | .frozenset _, _, _, p, _ => Bool.noConfusion (show false = true from p)
  | .obj _ _, _, _, p, _ => Bool.noConfusion (show false = true from p)
theorem area_all : ∀ (ds : List WData) (vs : List Value), WellAll P h vs ds → plWs ds = true → (∀ d ∈ ds, d.weight ≤ 1048576) → ∃ A : List Addr, (∀ u ∈ vs, OkU A u) ∧ ∀ a ∈ A, ArgOb h A a
  | [], _, x, _, _ => by
    cases x
    exact ⟨[], fun u m => absurd m (by simp), fun a m => absurd m (by simp)⟩
  | d :: ds, _, x, p, z => by
    obtain ⟨v, vs, rfl, x1, x2⟩ := well_cons x
    have q : plW d = true ∧ plWs ds = true := Bool.and_eq_true_iff.mp p
    obtain ⟨A, a1, a2⟩ := area_one d v x1 q.1 (z d (List.mem_cons_self ..))
    obtain ⟨B, b1, b2⟩ := area_all ds vs x2 q.2 fun e he => z e (List.mem_cons_of_mem _ he)
    have kA : ∀ b ∈ A, b ∈ A ++ B := fun b hb => List.mem_append.mpr (.inl hb)
    have kB : ∀ b ∈ B, b ∈ A ++ B := fun b hb => List.mem_append.mpr (.inr hb)
    refine ⟨A ++ B, fun u hu => ?_, fun b hb => ?_⟩
    · rcases List.mem_cons.mp hu with e | m
      · rw [e]
        exact a1.mono kA
      · exact (b1 u m).mono kB
    · rcases List.mem_append.mp hb with m | m
      · exact (a2 b m).mono kA
      · exact (b2 b m).mono kB
end
end
/-- what is tracked of an argument's object -/
def hoOf (o : Obj) : Option HO := match o.data with
  | .seq vs _ => if (o.cls == Value.type "list") = true then some (.frz o (.lst (vs.toList.map toV))) else some (.frz o (.tup (vs.toList.map toV)))
  | _ => none
def argH (K : PySem.W.Frag) (h : Heap) (A : List Addr) : Hp := fun b => if b ∈ A then (if (K.lookup b).isNone = true then (h.get? b).bind hoOf else none) else none
/-- nothing is tracked but what is known to the object -/
def OnlyF (H : Hp) : Prop := ∀ b, H b = none ∨ ∃ o u, H b = some (.frz o u)
theorem hoOf_lst (vs : List Value) : hoOf { cls := .type "list", data := .seq vs.toArray } = some (.frz { cls := .type "list", data := .seq vs.toArray } (.lst (vs.map toV))) := by
  show (if (Value.type "list" == Value.type "list") = true then some (HO.frz { cls := .type "list", data := .seq vs.toArray } (.lst (vs.toArray.toList.map toV))) else some (HO.frz { cls := .type "list", data := .seq vs.toArray } (.tup (vs.toArray.toList.map toV)))) = _
  rw [if_pos (beq_self_eq_true _)]
theorem hoOf_tup (vs : List Value) : hoOf { cls := .type "tuple", data := .seq vs.toArray } = some (.frz { cls := .type "tuple", data := .seq vs.toArray } (.tup (vs.map toV))) := by
  show (if (Value.type "tuple" == Value.type "list") = true then some (HO.frz { cls := .type "tuple", data := .seq vs.toArray } (.lst (vs.toArray.toList.map toV))) else some (HO.frz { cls := .type "tuple", data := .seq vs.toArray } (.tup (vs.toArray.toList.map toV)))) = _
  rw [if_neg (by decide)]
section
variable {P : Program} {w : World} {K : PySem.W.Frag} {h : Heap} {A : List Addr}
theorem argH_at {b : Addr} {o : Obj} (hb : b ∈ A) (hk : K.lookup b = none) (e : h.get? b = some o) : argH K h A b = hoOf o := by
  unfold argH
  rw [if_pos hb, hk, if_pos (show (none : Option Obj).isNone = true from rfl), e] <;> rfl
theorem of_argH {b : Addr} {u : HO} (q : argH K h A b = some u) : b ∈ A ∧ K.lookup b = none := by
  unfold argH at q
  by_cases hb : b ∈ A
  · rw [if_pos hb] at q
    cases hk : K.lookup b with
    | none => exact ⟨hb, rfl⟩
    | some o =>
      rw [hk, if_neg (by simp)] at q
      cases q
  · rw [if_neg hb] at q
    cases q
/-- what stands tracked -/
theorem argH_is (ar : ∀ a ∈ A, ArgOb h A a) {b : Addr} {u : HO} (q : argH K h A b = some u) : K.lookup b = none ∧ ∃ vs : List Value, vs.length ≤ sizeLine ∧ (∀ u ∈ vs, OkU A u) ∧
    ((h.get? b = some { cls := .type "list", data := .seq vs.toArray } ∧ u = .frz { cls := .type "list", data := .seq vs.toArray } (.lst (vs.map toV))) ∨
     (h.get? b = some { cls := .type "tuple", data := .seq vs.toArray } ∧ u = .frz { cls := .type "tuple", data := .seq vs.toArray } (.tup (vs.map toV)))) := by
  obtain ⟨hb, hk⟩ := of_argH q
  obtain ⟨vs, h1, h2, h3⟩ := ar b hb
  refine ⟨hk, vs, h1, h2, ?_⟩
  rcases h3 with e | e
  · rw [argH_at hb hk e, hoOf_lst] at q
    exact .inl ⟨e, (Option.some.inj q).symm⟩
  · rw [argH_at hb hk e, hoOf_tup] at q
    exact .inr ⟨e, (Option.some.inj q).symm⟩
theorem argH_only (ar : ∀ a ∈ A, ArgOb h A a) : OnlyF (argH K h A) := fun b => by
  cases q : argH K h A b with
  | none => exact .inl rfl
  | some u =>
    obtain ⟨_, vs, _, _, ⟨_, e⟩ | ⟨_, e⟩⟩ := argH_is ar q
    · exact .inr ⟨_, _, by rw [e]⟩
    · exact .inr ⟨_, _, by rw [e]⟩
theorem argH_ok (ar : ∀ a ∈ A, ArgOb h A a) : HOk P w (argH K h A) h := fun b u q => by
  obtain ⟨_, vs, h1, h2, ⟨e, rfl⟩ | ⟨e, rfl⟩⟩ := argH_is ar q
  · exact ⟨e, by rw [List.length_map]; exact h1, vs, _, vals_toV h2, e⟩
  · exact ⟨e, by rw [List.length_map]; exact h1, vs, vals_toV h2, _, e, rfl, _, rfl⟩
theorem seq_inj {c c' : Value} {vs us : List Value} (e : (some { cls := c, data := .seq vs.toArray } : Option Obj) = some { cls := c', data := .seq us.toArray }) : c = c' ∧ vs = us := by
  have e1 := Option.some.inj e
  have e2 : c = c' := congrArg Obj.cls e1
  have e3 : Data.seq vs.toArray = Data.seq us.toArray := congrArg Obj.data e1
  injection e3 with e4
  refine ⟨e2, ?_⟩
  have e5 := congrArg Array.toList e4
  simpa using e5
/-- a list argument -/
theorem argL (KX : K.In h) (ar : ∀ a ∈ A, ArgOb h A a) {a : Addr} {vs : List Value} (ha : a ∈ A) (e : h.get? a = some { cls := .type "list", data := .seq vs.toArray }) : (∀ u ∈ vs, OkU A u) ∧ SqL K (argH K h A) a (vs.map toV) := by
  obtain ⟨us, h1, h2, h3⟩ := ar a ha
  have hu : us = vs := by
    rcases h3 with q | q
    · rw [e] at q
      exact (seq_inj q).2.symm
    · rw [e] at q
      exact absurd (Value.type.inj (seq_inj q).1) (by decide)
  subst hu
  refine ⟨h2, ?_⟩
  cases hk : K.lookup a with
  | none => exact .inl (.inr ⟨_, by rw [argH_at ha hk e, hoOf_lst]⟩)
  | some o =>
    have e2 := KX a o hk
    rw [e] at e2
    obtain rfl := Option.some.inj e2
    exact .inr ⟨_, us.toArray, _, hk, rfl, rfl, rfl, by rw [List.size_toArray]; exact h1, by simpa using vals_toV h2⟩
theorem argT (KX : K.In h) (ar : ∀ a ∈ A, ArgOb h A a) {a : Addr} {vs : List Value} (ha : a ∈ A) (e : h.get? a = some { cls := .type "tuple", data := .seq vs.toArray }) : (∀ u ∈ vs, OkU A u) ∧ SqT K (argH K h A) a (vs.map toV) := by
  obtain ⟨us, h1, h2, h3⟩ := ar a ha
  have hu : us = vs := by
    rcases h3 with q | q
    · rw [e] at q
      exact absurd (Value.type.inj (seq_inj q).1) (by decide)
    · rw [e] at q
      exact (seq_inj q).2.symm
  subst hu
  refine ⟨h2, ?_⟩
  cases hk : K.lookup a with
  | none => exact .inl (.inr ⟨_, by rw [argH_at ha hk e, hoOf_tup]⟩)
  | some o =>
    have e2 := KX a o hk
    rw [e] at e2
    obtain rfl := Option.some.inj e2
    exact .inr ⟨_, us.toArray, _, hk, rfl, rfl, by rw [List.size_toArray]; exact h1, by simpa using vals_toV h2⟩
mutual
theorem dw_one {Pm : Params} (KX : K.In h) (ar : ∀ a ∈ A, ArgOb h A a) : ∀ (d : WData) (v : Value), Well Pm h v d → plW d = true → OkU A v → Dw K (argH K h A) (toV v) d
  | .none, _, x, _, _ => by
    cases x
    exact .non
  | .bool b, _, x, _, _ => by
    cases x
    exact .bl b
  | .int i, _, x, _, _ => by
    cases x
    exact .int i
  | .str s, _, x, _, _ => by
    cases x
    exact .str s
  | .bytes b, _, x, _, _ => by
    cases x
    have z := Dw.byt (K := K) (H := argH K h A) b.toArray
    exact z
  | .list ds, _, x, p, hu => by
    obtain ⟨a, vs, rfl, ho, hall⟩ := well_list x
    obtain ⟨h2, hs⟩ := argL KX ar hu ho
    exact .lst hs (dw_all KX ar ds _ hall p h2)
  | .tuple ds, _, x, p, hu => by
    obtain ⟨a, vs, rfl, ho, hall⟩ := well_tuple x
    obtain ⟨h2, hs⟩ := argT KX ar hu ho
    exact .tup hs (dw_all KX ar ds _ hall p h2)
  | .float _, _, _, p, _ => Bool.noConfusion (show false = true from p)
  | .dict _, _, _, p, _ => Bool.noConfusion (show false = true from p)
  | .bytearray _, _, _, p, _ => Bool.noConfusion (show false = true from p)
  | .set _, _, _, p, _ => Bool.noConfusion (show false = true from p)
  | .frozenset _, _, _, p, _ => Bool.noConfusion (show false = true from p)
  | .obj _ _, _, _, p, _ => Bool.noConfusion (show false = true from p)
theorem dw_all {Pm : Params} (KX : K.In h) (ar : ∀ a ∈ A, ArgOb h A a) : ∀ (ds : List WData) (vs : List Value), WellAll Pm h vs ds → plWs ds = true → (∀ u ∈ vs, OkU A u) → DwAll K (argH K h A) (vs.map toV) ds
  | [], _, x, _, _ => by
    cases x
    exact .nil
  | d :: ds, _, x, p, hu => by
    obtain ⟨v, vs, rfl, x1, x2⟩ := well_cons x
    have q : plW d = true ∧ plWs ds = true := Bool.and_eq_true_iff.mp p
    exact .cons (dw_one KX ar d v x1 q.1 (hu _ (List.mem_cons_self ..))) (dw_all KX ar ds vs x2 q.2 fun u m => hu u (List.mem_cons_of_mem _ m))
end
end
/-! ### the call -/
theorem spec_call {P : Program} {w : World} {K : PySem.W.Frag} {mg mb : Str → Option Value} {CX : CXT} {k : Nat} {fa : Addr} {fd : FuncData} {ps : List Str} {sp : Sp} {s₁ : Shared} {vals : List Value} {ds : List WData} {R : PySem.W.WRecords} {cl : Str → Option Addr} {d0 : WData}
    (KX : K.In s₁.heap) (hns : s₁.heap.Ns mainGlobals mg) (hb : s₁.heap.Ns builtinsNs mb) (hbb : ∀ x : Str, x ≠ "__name__" → mb x = bootBuiltins x) (hlim : s₁.heap.NoLimit) (hg : s₁.gens = #[])
    (hwl : WellAll w.params s₁.heap vals ds) (hpl : plWs ds = true) (hwt : ∀ d ∈ ds, d.weight ≤ 1048576) (hr : Room k callerA)
    (F : ∀ base : Heap, K.In base → base.Ns mainGlobals mg → FnOk P w K mg base CX k fa fd ps sp) (hbind : ∀ (s : Shared) (us : List Value), us.length = ps.length → BindsTo s fd ⟨us, []⟩ (ps.zip us)) (hlen : ds.length = ps.length)
    (hsp : ∀ (H : Hp) (xs : List V), OnlyF H → DwAll K H xs ds → sp xs H (fun v H' => Dw K H' v d0) fun _ _ _ => False)
    (hCX : ∀ H e s', CX [] H s₁ (fun _ _ _ => False) e s' → False) :
    codeAny (model P w) callerA (.call (.ref fa) ⟨vals, []⟩) (fun r s' => ∃ u as, r = .ok (.ret u) ∧ ReadsW R cl s'.heap u d0 as ∧ OldK s₁.heap s'.heap ∧ s'.os = s₁.os ∧ AllBare s'.gens) s₁ := by
  obtain ⟨A, ho, ar⟩ := area_all ds vals hwl hpl hwt
  have hO : OnlyF (argH K s₁.heap A) := argH_only ar
  have hok : HOk P w (argH K s₁.heap A) s₁.heap := argH_ok ar
  have hS := dw_all KX ar ds vals hwl hpl ho
  have hV := vals_toV ho
  have hK : ∀ b u, argH K s₁.heap A b = some u → K.lookup b = none := fun b u q => (argH_is ar q).1
  have noA : ∀ {b : Addr} {o : Obj} {es : Array DictEntry} {ep : Nat}, s₁.heap.get? b = some o → o.data = .dict es ep → argH K s₁.heap A b = none := fun {b o es ep} e d => by
    cases q : argH K s₁.heap A b with
    | none => rfl
    | some u =>
      obtain ⟨_, vs, _, _, ⟨e2, _⟩ | ⟨e2, _⟩⟩ := argH_is ar q
      · rw [e2] at e
        cases e
        have d' : Data.seq vs.toArray _ = Data.dict es ep := d
        cases d'
      · rw [e2] at e
        cases e
        have d' : Data.seq vs.toArray _ = Data.dict es ep := d
        cases d'
  generalize argH K s₁.heap A = H at hO hok hS hK noA
  have base_of : ∀ {b : Addr} {o : Obj}, s₁.heap.get? b = some o → H b = none → (hidT s₁.heap H).get? b = some o := fun e n => hidT_get e n
  have nsK : ∀ {b : Addr} {m : Str → Option Value}, s₁.heap.Ns b m → (hidT s₁.heap H).Ns b m := fun {b m} ⟨o, es, ep, e, d, r⟩ => ⟨o, es, ep, base_of e (noA e d), d, r⟩
  have nK : ∀ b o, K.lookup b = some o → H b = none := fun b o e => by
    cases q : H b with
    | none => rfl
    | some u =>
      rw [hK b u q] at e
      cases e
  have hKb : K.In (hidT s₁.heap H) := fun b o e => base_of (KX b o e) (nK b o e)
  have hM : Mod K mg (hidT s₁.heap H) := ⟨hKb, nsK hns, ⟨mb, nsK hb, hbb⟩, let ⟨mc, h1, h2⟩ := hlim; ⟨mc, nsK h1, h2⟩⟩
  have e0 : Env0 P w K mg (hidT s₁.heap H) callerA [] s₁ H := ⟨rfl, hM, fun b o e => of_hidT e, Nat.le_of_eq (hidT_size _ _), trivial, fun b hb => absurd (show b ∈ ([] : List Addr) from hb) (by simp), hok, .of_eq hg⟩
  have hl : vals.length = ps.length := by rw [wellAll_len hwl]; exact hlen
  refine codeAny_mono ((F _ hKb (nsK hns)).run callerA [] s₁ H ⟨vals, []⟩ vals (vals.map toV) _ _ hr e0 (hbind s₁ vals hl) hV (hsp H _ hO hS)) fun r s' x => ?_
  cases r with
  | error e => exact (hCX H e s' x).elim
  | ok fl =>
    cases fl with
    | next => exact False.elim x
    | brk => exact False.elim x
    | cont => exact False.elim x
    | ret u =>
      obtain ⟨v, H', os, bare, un, hok', r', q⟩ := x
      have kept : ∀ b o, s₁.heap.get? b = some o → s'.heap.get? b = some o := fun b o e => by
        cases q2 : H b with
        | none => exact un.keep b o e q2 (by intro z; exact absurd (show b ∈ ([] : List Addr) from z) (by simp)) (by simp)
        | some u2 =>
          rcases hO b with z | ⟨ob, u3, z⟩
          · rw [q2] at z
            cases z
          · have z2 := un.frzs b ob _ z
            obtain ⟨e1, _⟩ := hok b _ z
            obtain ⟨e2, _⟩ := hok' b _ z2
            rw [e] at e1
            cases e1
            exact e2
      have KX' : K.In s'.heap := fun b o e => kept b o (KX b o e)
      obtain ⟨as, hrd⟩ := Dw.reads (R := R) (cl := cl) hok' KX' d0 v u q r'
      exact ⟨u, as, rfl, hrd, OldK.of_keep kept, os, bare⟩
/-! ### the row -/
theorem layable_weight {ds : List WData} (h : WData.layableAll ds = true) : ∀ d ∈ ds, d.weight ≤ 1048576 := fun d hd =>
  (PySem.W.layableW_iff.mp (List.all_eq_true.mp h d hd)).2.2
theorem encAll_len : ∀ (cs : List Codec) (a : Codec.denoteAll cs), (Codec.encAll cs a).length = cs.length
  | [], _ => rfl
  | c :: cs, a => by
    show (Codec.encAll cs a.2).length + 1 = cs.length + 1
    rw [encAll_len cs a.2]
/-- the goal that k_headS leaves (case hc), from the promise of the row's def: whatever the arguments that the codecs let and the row asks for, the def gives what stands for enc (f ..) -/
theorem walk_spec {r : OpenSpec} {k : Nat} {q : Program} {loose : List Str} {XP : (Str → Option Value) → Heap → Prop} {YP : World → Heap → Prop} {d : DefRec} {K : Params → PySem.W.Frag} {CX : World → CXT} {ps : List Str} {sp : World → Sp}
    (hwell : r.wellSaid = true) (hdf : d.params.defaults = []) (hlen : r.args.length = ps.length) (hr : Room k callerA)
    (hY : ∀ (w : World) (h : Heap), YP w h → (K w.params).In h)
    (F : ∀ (w : World) (mg : Str → Option Value) (fa : Addr) (h : Heap), YP w h → (K w.params).In h → h.Ns mainGlobals mg → mg d.name = some (.ref fa) →
      ∃ fd : FuncData, (∀ (s : Shared) (us : List Value), us.length = ps.length → BindsTo s fd ⟨us, []⟩ (ps.zip us)) ∧
        ∀ base : Heap, (K w.params).In base → base.Ns mainGlobals mg → FnOk r.prog w (K w.params) mg base (CX w) k fa fd ps (sp w))
    (hsp : ∀ (w : World) (H : Hp) (xs : List V) (a : Codec.denoteAll r.args), OnlyF H → Codec.withinAll r.args a = true → Codec.app r.args r.asked a = true → DwAll (K w.params) H xs (Codec.encAll r.args a) →
      sp w xs H (fun v H' => Dw (K w.params) H' v (r.ret.enc (Codec.app r.args r.f a))) fun _ _ _ => False)
    (hCX : ∀ (w : World) (H : Hp) (s : Shared) (e : Value) (s' : Shared), CX w [] H s (fun _ _ _ => False) e s' → False) :
    PySem.W.WalkOS q loose XP YP r d [] (fun f vs => PySem.call f vs) := by
  intro w s_0 s₁ mg mb G Y fa o pm cd doc dV kV ho hd hcd hD hmg hg args vals as hpre hlay hrd hwl hlo
  obtain ⟨a, e1, e2⟩ := PySem.W.os_pre_some hpre
  obtain ⟨e3, hwi⟩ := Codec.encAll_of_decAll r.args args a e1
  subst e3
  have KX := hY w _ Y
  obtain ⟨fd, hb, hF⟩ := F w mg fa _ Y KX G.T.g hmg
  refine PySem.W.enter_call (codeAny_mono (spec_call (R := []) (cl := classAt s_0.heap) (d0 := r.ret.enc (Codec.app r.args r.f a)) KX G.T.g G.T.b G.T.builtins G.T.nolimit hg hwl (pl_encAll _ _) (layable_weight hlay) hr hF hb (by rw [encAll_len]; exact hlen)
    (fun H xs hO hS => hsp w H xs a hO hwi e2 hS) fun H e s' => hCX w H s₁ e s') fun r' s' hq => ?_)
  obtain ⟨u, as', rfl, h1, h2, h3, h4⟩ := hq
  exact ⟨.inl ⟨u, _, as', rfl, fun _ => rfl, h1, (OpenSpec.post_iff hwell hwi _ _).mpr rfl, fun z => Bool.noConfusion (show false = true from z)⟩, h2, h3, h4⟩
/-- the same where the promise hangs on the written part alone -/
theorem walk_specK {r : OpenSpec} {k : Nat} {q : Program} {loose : List Str} {XP : (Str → Option Value) → Heap → Prop} {YP : World → Heap → Prop} {d : DefRec} {K : Params → PySem.W.Frag} {CX : CXT} {ps : List Str} {sp : PySem.W.Frag → Sp}
    (hwell : r.wellSaid = true) (hdf : d.params.defaults = []) (hlen : r.args.length = ps.length) (hr : Room k callerA)
    (hY : ∀ (w : World) (h : Heap), YP w h → (K w.params).In h)
    (F : ∀ (w : World) (mg : Str → Option Value) (fa : Addr) (h : Heap), YP w h → (K w.params).In h → h.Ns mainGlobals mg → mg d.name = some (.ref fa) →
      ∃ fd : FuncData, (∀ (s : Shared) (us : List Value), us.length = ps.length → BindsTo s fd ⟨us, []⟩ (ps.zip us)) ∧
        ∀ base : Heap, (K w.params).In base → base.Ns mainGlobals mg → FnOk r.prog w (K w.params) mg base CX k fa fd ps (sp (K w.params)))
    (hsp : ∀ (K : PySem.W.Frag) (H : Hp) (xs : List V) (a : Codec.denoteAll r.args), OnlyF H → Codec.withinAll r.args a = true → Codec.app r.args r.asked a = true → DwAll K H xs (Codec.encAll r.args a) →
      sp K xs H (fun v H' => Dw K H' v (r.ret.enc (Codec.app r.args r.f a))) fun _ _ _ => False)
    (hCX : ∀ (H : Hp) (s : Shared) (e : Value) (s' : Shared), CX [] H s (fun _ _ _ => False) e s' → False) :
    PySem.W.WalkOS q loose XP YP r d [] (fun f vs => PySem.call f vs) :=
  walk_spec (K := K) (CX := fun _ => CX) (sp := fun w => sp (K w.params)) hwell hdf hlen hr hY F (fun w H xs a h1 h2 h3 h4 => hsp (K w.params) H xs a h1 h2 h3 h4) fun _ H s e s' => hCX H s e s'
end L2
end
section
namespace Rn
open Sa55

def bl (c : Nat) : Bool := c == 32

/-! ### splitBy -/
theorem split_cons (k c : Nat) (r w : Bytes) : splitBy k (c :: r) w = if c = k then w :: splitBy k r [] else splitBy k r (w ++ [c]) := rfl
theorem split_ne (k : Nat) : ∀ (l w : Bytes), splitBy k l w ≠ []
  | [], w => by simp [splitBy]
  | c :: r, w => by
    unfold splitBy
    split
    · simp
    · exact split_ne k r _
theorem split_join (k : Nat) : ∀ (l w : Bytes) (a : Bytes) (rest : List Bytes), splitBy k l w = a :: rest → (rest = [] ∧ a = w ++ l) ∨ ∃ b t, rest = b :: t ∧ ∃ l2, w ++ l = a ++ k :: l2 ∧ splitBy k l2 [] = b :: t
  | [], w, a, rest, h => by
    simp [splitBy] at h
    exact .inl ⟨h.2, by simp [h.1]⟩
  | c :: r, w, a, rest, h => by
    unfold splitBy at h
    split at h
    · rename_i e
      subst e
      simp at h
      obtain ⟨h1, h2⟩ := h
      subst h1
      cases rest with
      | nil => exact absurd h2 (split_ne _ _ _)
      | cons b t => exact .inr ⟨b, t, rfl, r, rfl, h2⟩
    · have := split_join k r (w ++ [c]) a rest h
      simpa [List.append_assoc] using this
theorem split_none {k : Nat} : ∀ {l : Bytes} (w : Bytes), k ∉ l → splitBy k l w = [w ++ l]
  | [], w, _ => by simp [splitBy]
  | c :: r, w, h => by
    have h1 : ¬ c = k := fun e => h (by simp [e])
    have h2 : k ∉ r := fun e => h (by simp [e])
    unfold splitBy
    rw [if_neg h1, split_none _ h2]
    simp
theorem split_one {k : Nat} : ∀ {a : Bytes} (w b : Bytes), k ∉ a → splitBy k (a ++ k :: b) w = (w ++ a) :: splitBy k b []
  | [], w, b, _ => by simp [splitBy]
  | c :: r, w, b, h => by
    have h1 : ¬ c = k := fun e => h (by simp [e])
    have h2 : k ∉ r := fun e => h (by simp [e])
    show splitBy k (c :: (r ++ k :: b)) w = _
    rw [split_cons, if_neg h1, split_one _ _ h2]
    simp
theorem split_two {k : Nat} {a b : Bytes} (ha : k ∉ a) (hb : k ∉ b) : splitBy k (a ++ k :: b) [] = [a, b] := by
  rw [split_one _ _ ha, split_none _ hb]
  simp
theorem of_split_two {k : Nat} {c a b : Bytes} (h : splitBy k c [] = [a, b]) : c = a ++ k :: b := by
  rcases split_join k c [] a [b] h with ⟨h1, _⟩ | ⟨b', t, h1, l2, h2, h3⟩
  · cases h1
  · cases h1
    rcases split_join k l2 [] _ _ h3 with ⟨_, h4⟩ | ⟨_, _, h4, _⟩
    · simp at h4 h2; rw [h2, h4]
    · cases h4
theorem split_head (k : Nat) : ∀ (l w : Bytes), (splitBy k l w).head? = some (w ++ l.takeWhile fun x => x != k)
  | [], w => by simp [splitBy]
  | c :: r, w => by
    unfold splitBy
    by_cases e : c = k
    · rw [if_pos e]; simp [e]
    · rw [if_neg e, split_head k r]
      have : (c != k) = true := by simpa using e
      simp [List.takeWhile_cons, this]
/-- the loop's step -/
theorem split_step (k : Nat) {l : Bytes} {i : Nat} {c : Nat} (h : l[i]? = some c) (w : Bytes) :
    splitBy k (l.drop i) w = if c = k then w :: splitBy k (l.drop (i + 1)) [] else splitBy k (l.drop (i + 1)) (w ++ [c]) := by
  obtain ⟨hi, e⟩ := List.getElem?_eq_some_iff.mp h
  rw [List.drop_eq_getElem_cons hi, e]
  rfl
theorem cut_grow {l : Bytes} {s i c : Nat} (h : l[i]? = some c) (hs : s ≤ i) : (l.take i).drop s ++ [c] = (l.take (i + 1)).drop s := by
  obtain ⟨hi, e⟩ := List.getElem?_eq_some_iff.mp h
  rw [List.take_add_one, h, List.drop_append_of_le_length (by simp; omega)]
  rfl

/-! ### unblank -/
theorem dw_all {p : Nat → Bool} : ∀ {l : Bytes} {i : Nat}, i ≤ l.length → (∀ j c, j < i → l[j]? = some c → p c = true) → (∀ c, l[i]? = some c → p c = false) → l.dropWhile p = l.drop i
  | [], i, h, _, _ => by simp
  | a :: l, 0, _, _, h => by
    have := h a rfl
    simp [List.dropWhile_cons, this]
  | a :: l, i + 1, h, h1, h2 => by
    have := h1 0 a (by omega) rfl
    rw [List.dropWhile_cons, this]
    simp only [if_true, List.drop_succ_cons]
    exact dw_all (by simpa using h) (fun j c hj e => h1 (j + 1) c (by omega) (by simpa using e)) fun c e => h2 c (by simpa using e)
theorem tw_all {p : Nat → Bool} : ∀ {l : Bytes} {i : Nat}, i ≤ l.length → (∀ j c, j < i → l[j]? = some c → p c = true) → (∀ c, l[i]? = some c → p c = false) → l.takeWhile p = l.take i
  | [], i, h, _, _ => by simp
  | a :: l, 0, _, _, h => by
    have := h a rfl
    simp [List.takeWhile_cons, this]
  | a :: l, i + 1, h, h1, h2 => by
    have := h1 0 a (by omega) rfl
    rw [List.takeWhile_cons, this]
    simp only [if_true, List.take_succ_cons]
    rw [tw_all (i := i) (by simpa using h) (fun j c hj e => h1 (j + 1) c (by omega) (by simpa using e)) fun c e => h2 c (by simpa using e)]
/-- the blanks behind a row are gone -/
def rtrim (m : Bytes) : Bytes := (m.reverse.dropWhile fun c => c == 32).reverse
theorem unblank_eq (l : Bytes) : unblank l = rtrim (l.dropWhile fun c => c == 32) := rfl
theorem rtrim_snoc (m : Bytes) (c : Nat) : rtrim (m ++ [c]) = if c = 32 then rtrim m else m ++ [c] := by
  unfold rtrim
  rw [List.reverse_append, List.reverse_singleton, List.singleton_append, List.dropWhile_cons]
  by_cases h : c = 32
  · simp [h]
  · have : (c == 32) = false := by simpa using h
    simp [this, h]
theorem rtrim_nil : rtrim [] = [] := rfl
theorem unblank_b (w : Bytes) : unblank (32 :: w) = unblank w := by
  rw [unblank_eq, unblank_eq]
  simp [List.dropWhile_cons]
theorem dw_snoc_b : ∀ (w : Bytes), rtrim ((w ++ [32]).dropWhile fun c => c == 32) = rtrim (w.dropWhile fun c => c == 32)
  | [] => by simp [List.dropWhile_cons]
  | a :: w => by
    rw [List.cons_append, List.dropWhile_cons, List.dropWhile_cons]
    split
    · exact dw_snoc_b w
    · rw [← List.cons_append, rtrim_snoc, if_pos rfl]
theorem unblank_e (w : Bytes) : unblank (w ++ [32]) = unblank w := by
  rw [unblank_eq, unblank_eq]
  exact dw_snoc_b w
theorem rtrim_last (m : Bytes) : (rtrim m).getLast? ≠ some 32 := by
  unfold rtrim
  rw [List.getLast?_reverse]
  intro h
  have := List.head?_dropWhile_not (fun c : Nat => c == 32) m.reverse
  rw [h] at this
  simp at this
theorem unblank_last (m : Bytes) : (unblank m).getLast? ≠ some 32 := rtrim_last _
theorem rtrim_id {m : Bytes} (h : m.getLast? ≠ some 32) : rtrim m = m := by
  rcases List.eq_nil_or_concat m with e | ⟨m', c, e⟩
  · subst e; rfl
  · subst e
    rw [List.concat_eq_append, rtrim_snoc, if_neg]
    intro e
    simp [e] at h
theorem rtrim_ex (m : Bytes) : ∃ j, m = rtrim m ++ List.replicate j 32 := by
  rcases List.eq_nil_or_concat m with e | ⟨m', c, e⟩
  · subst e; exact ⟨0, rfl⟩
  · subst e
    rw [List.concat_eq_append, rtrim_snoc]
    by_cases h : c = 32
    · rw [if_pos h]
      obtain ⟨j, e⟩ := rtrim_ex m'
      refine ⟨j + 1, ?_⟩
      rw [List.replicate_succ', ← List.append_assoc, ← e, h]
    · rw [if_neg h]; exact ⟨0, by simp⟩
termination_by m.length
decreasing_by simp_all
theorem dw_ex : ∀ (l : Bytes), ∃ i, l = List.replicate i 32 ++ l.dropWhile fun c => c == 32
  | [] => ⟨0, rfl⟩
  | a :: l => by
    rw [List.dropWhile_cons]
    by_cases h : a = 32
    · obtain ⟨i, e⟩ := dw_ex l
      refine ⟨i + 1, ?_⟩
      simp only [h, beq_self_eq_true, if_true]
      rw [List.replicate_succ, List.cons_append, ← e]
    · have : (a == 32) = false := by simpa using h
      rw [this]
      exact ⟨0, by simp⟩
theorem unblank_ex (l : Bytes) : ∃ i j, l = List.replicate i 32 ++ (unblank l ++ List.replicate j 32) := by
  obtain ⟨i, e1⟩ := dw_ex l
  obtain ⟨j, e2⟩ := rtrim_ex (l.dropWhile fun c => c == 32)
  refine ⟨i, j, ?_⟩
  rw [unblank_eq, ← e2]; exact e1
/-- the end's loop: n signs of m are left -/
theorem trim_step {m : Bytes} {n : Nat} (h : m[n]? = some 32) : rtrim (m.take (n + 1)) = rtrim (m.take n) := by
  rw [List.take_add_one, h]
  show rtrim (m.take n ++ [32]) = _
  rw [rtrim_snoc, if_pos rfl]
theorem trim_end {m : Bytes} {n : Nat} (hn : n ≤ m.length) (h : ∀ j, n = j + 1 → m[j]? ≠ some 32) : rtrim (m.take n) = m.take n := by
  cases n with
  | zero => simp [rtrim_nil]
  | succ j =>
    apply rtrim_id
    rw [List.getLast?_take]
    have : j < m.length := by omega
    simp [this]
    have := h j rfl
    simpa [*] using this

theorem split_pre (k : Nat) : ∀ (r w : Bytes), (splitBy k r (32 :: w)).map unblank = (splitBy k r w).map unblank
  | [], w => by simp [splitBy, unblank_b]
  | c :: r, w => by
    unfold splitBy
    split
    · simp [unblank_b]
    · rw [List.cons_append]; exact split_pre k r _
theorem split_post {k : Nat} (hk : ¬ 32 = k) : ∀ (r w : Bytes), (splitBy k (r ++ [32]) w).map unblank = (splitBy k r w).map unblank
  | [], w => by
    show (splitBy k [32] w).map unblank = _
    unfold splitBy
    rw [if_neg hk]
    simp [splitBy, unblank_e]
  | c :: r, w => by
    show (splitBy k (c :: (r ++ [32])) w).map unblank = _
    unfold splitBy
    split
    · simp only [List.map_cons]; rw [split_post hk r]
    · exact split_post hk r _
theorem split_pres {k : Nat} (hk : ¬ 32 = k) (r : Bytes) : ∀ i, (splitBy k (List.replicate i 32 ++ r) []).map unblank = (splitBy k r []).map unblank
  | 0 => by simp
  | i + 1 => by
    rw [List.replicate_succ, List.cons_append]
    show (splitBy k (32 :: (List.replicate i 32 ++ r)) []).map unblank = _
    rw [show splitBy k (32 :: (List.replicate i 32 ++ r)) [] = splitBy k (List.replicate i 32 ++ r) [32] by
      conv => lhs; unfold splitBy
      rw [if_neg hk]; rfl]
    rw [split_pre, split_pres hk r i]
theorem split_posts {k : Nat} (hk : ¬ 32 = k) (r : Bytes) : ∀ i, (splitBy k (r ++ List.replicate i 32) []).map unblank = (splitBy k r []).map unblank
  | 0 => by simp
  | i + 1 => by
    rw [List.replicate_succ', ← List.append_assoc, split_post hk, split_posts hk r i]
theorem split_unblank {k : Nat} (hk : ¬ 32 = k) (b : Bytes) : (splitBy k (unblank b) []).map unblank = (splitBy k b []).map unblank := by
  obtain ⟨i, j, e⟩ := unblank_ex b
  conv => rhs; rw [e]
  rw [split_pres hk, split_posts hk]
end Rn
end
section
namespace Rn
open Sa55

/-! ### terms and sides -/
theorem drop_last {b : Bytes} (k : Nat) (h : b.getLast? ≠ some 32) : (b.drop k).getLast? ≠ some 32 := by
  intro e
  by_cases hk : k < b.length
  · rw [List.getLast?_drop] at e
    rw [if_neg (by omega)] at e
    exact h e
  · rw [List.drop_eq_nil_of_le (by omega)] at e
    cases e
theorem dw_last {b : Bytes} (h : b.getLast? ≠ some 32) : (b.dropWhile fun c => c == 32).getLast? ≠ some 32 := by
  obtain ⟨i, e⟩ := dw_ex b
  intro q
  apply h
  rw [e, List.getLast?_append, q]
  rfl
/-- behind a number's digits: what stands there without its blanks -/
theorem unblank_drop {b : Bytes} (k : Nat) (h : b.getLast? ≠ some 32) : unblank (b.drop k) = (b.drop k).dropWhile fun c => c == 32 := by
  rw [unblank_eq]
  exact rtrim_id (dw_last (drop_last k h))
/-- the number of a term: none if it is wrong -/
def numOf (d : Bytes) : Option Nat := if d = [] then some 1 else if 2 < d.length ∨ d.head? = some 48 then none else some (d.foldl (fun n c => 10 * n + (c - 48)) 0)
theorem termOf_eq (t : Bytes) : termOf (unblank t) = if nameOk (unblank ((unblank t).drop ((unblank t).takeWhile digit).length)) = false then none else
    (numOf ((unblank t).takeWhile digit)).map fun v => (v, unblank ((unblank t).drop ((unblank t).takeWhile digit).length)) := by
  rw [unblank_drop _ (unblank_last t)]
  unfold termOf numOf
  dsimp only
  by_cases h1 : nameOk (List.dropWhile (fun c => c == 32) (List.drop (List.takeWhile digit (unblank t)).length (unblank t))) = false
  · rw [if_pos (.inl h1), if_pos h1]
  · rw [if_neg h1]
    by_cases h2 : List.takeWhile digit (unblank t) = []
    · rw [if_pos h2, if_pos h2, if_neg (by
        intro q
        rcases q with q | q | q
        · exact h1 q
        · rw [h2] at q; simp at q
        · rw [h2] at q; simp at q)]
      rfl
    · rw [if_neg h2, if_neg h2]
      by_cases h3 : 2 < (List.takeWhile digit (unblank t)).length ∨ (List.takeWhile digit (unblank t)).head? = some 48
      · rw [if_pos h3, if_pos (.inr h3)]; rfl
      · rw [if_neg h3, if_neg (by intro q; rcases q with q | q; exact h1 q; exact h3 q)]; rfl

def addName (ns : List Bytes) (n : Bytes) : List Bytes := if ns.contains n = true then ns else ns ++ [n]
/-- the program's reading of a side's terms; none: the line is wrong -/
def sideT (ns : List Bytes) (am : List Nat) : List Term → Option (List Bytes × List Nat)
  | [] => some (ns, am)
  | (v, n) :: r =>
    if 24 < (addName ns n).length then none
    else if 99 < am.getD ((addName ns n).idxOf n) 0 + v then none
    else sideT (addName ns n) (am.set ((addName ns n).idxOf n) (am.getD ((addName ns n).idxOf n) 0 + v)) r
def sideM (ns : List Bytes) (am : List Nat) : List Bytes → Option (List Bytes × List Nat)
  | [] => some (ns, am)
  | t :: r => match termOf (unblank t) with
    | none => none
    | some (v, n) =>
      if 24 < (addName ns n).length then none
      else if 99 < am.getD ((addName ns n).idxOf n) 0 + v then none
      else sideM (addName ns n) (am.set ((addName ns n).idxOf n) (am.getD ((addName ns n).idxOf n) 0 + v)) r
theorem sideM_eq : ∀ (ps : List Bytes) (ns : List Bytes) (am : List Nat), sideM ns am ps = (ps.mapM fun t => termOf (unblank t)).bind (sideT ns am)
  | [], ns, am => by simp [sideM, sideT]
  | t :: r, ns, am => by
    rw [List.mapM_cons]
    unfold sideM
    cases h : termOf (unblank t) with
    | none => simp
    | some x =>
      obtain ⟨v, n⟩ := x
      simp only [Option.bind_eq_bind, Option.bind_some]
      cases h2 : (r.mapM fun t => termOf (unblank t)) with
      | none =>
        simp only [Option.bind_none]
        split
        · rfl
        · split
          · rfl
          · rw [sideM_eq r, h2]; rfl
      | some ts =>
        simp only [Option.bind_some, Option.pure_def]
        unfold sideT
        split
        · rfl
        · split
          · rfl
          · rw [sideM_eq r, h2]; rfl
def zeros : List Nat := List.replicate 24 0
/-- a side as the program reads it -/
def sideR (ns : List Bytes) (part : Bytes) : Option (List Bytes × List Nat) :=
  if unblank part = [48] then some (ns, zeros) else sideM ns zeros (splitBy 43 (unblank part) [])
theorem mapM_comp {α β γ : Type} (f : β → Option γ) (g : α → β) : ∀ (l : List α), (l.mapM fun x => f (g x)) = (l.map g).mapM f
  | [] => by simp
  | a :: l => by rw [List.mapM_cons, List.map_cons, List.mapM_cons, mapM_comp f g l]
theorem sideR_eq (ns : List Bytes) (part : Bytes) : sideR ns part = (sideOf part).bind (sideT ns zeros) := by
  unfold sideR sideOf
  by_cases h : unblank part = [48]
  · rw [if_pos h, if_pos h]; rfl
  · rw [if_neg h, if_neg h, sideM_eq]
    rw [mapM_comp termOf unblank, mapM_comp termOf unblank, split_unblank (by decide)]

/-! ### amounts -/
theorem amount_nil (n : Bytes) : amount [] n = 0 := rfl
theorem amount_cons (v : Nat) (n m : Bytes) (t : List Term) : amount ((v, n) :: t) m = (if n = m then v else 0) + amount t m := by
  unfold amount
  rw [List.map_cons, List.sum_cons]
theorem amount_snoc (t : List Term) (v : Nat) (n m : Bytes) : amount (t ++ [(v, n)]) m = amount t m + if n = m then v else 0 := by
  unfold amount
  rw [List.map_append, List.sum_append]
  simp
theorem amount_append (t u : List Term) (m : Bytes) : amount (t ++ u) m = amount t m + amount u m := by
  unfold amount
  rw [List.map_append, List.sum_append]
theorem amount_out {t : List Term} {n : Bytes} (h : ∀ x ∈ t, x.2 ≠ n) : amount t n = 0 := by
  induction t with
  | nil => rfl
  | cons a t ih =>
    obtain ⟨v, m⟩ := a
    rw [amount_cons, if_neg (h (v, m) (by simp)), ih fun x hx => h x (by simp [hx])]
theorem newNames_nil (ns : List Bytes) : newNames ns [] = ns := rfl
theorem newNames_cons (ns : List Bytes) (v : Nat) (n : Bytes) (t : List Term) : newNames ns ((v, n) :: t) = newNames (addName ns n) t := rfl
theorem newNames_append (ns : List Bytes) (t u : List Term) : newNames ns (t ++ u) = newNames (newNames ns t) u := by
  unfold newNames; rw [List.foldl_append]
theorem newNames_snoc (ns : List Bytes) (t : List Term) (v : Nat) (n : Bytes) : newNames ns (t ++ [(v, n)]) = addName (newNames ns t) n := by
  rw [newNames_append]; rfl
theorem addName_mem (ns : List Bytes) (n : Bytes) : n ∈ addName ns n := by
  unfold addName
  split
  · rename_i h; simpa using h
  · simp
theorem addName_pre (ns : List Bytes) (n : Bytes) : ns <+: addName ns n := by
  unfold addName
  split
  · exact List.prefix_refl _
  · exact List.prefix_append _ _
theorem newNames_pre : ∀ (t : List Term) (ns : List Bytes), ns <+: newNames ns t
  | [], ns => List.prefix_refl _
  | (v, n) :: t, ns => by
    rw [newNames_cons]
    exact (addName_pre ns n).trans (newNames_pre t _)
theorem addName_nodup {ns : List Bytes} {n : Bytes} (h : ns.Nodup) : (addName ns n).Nodup := by
  unfold addName
  split
  · exact h
  · rename_i hn
    rw [List.nodup_append]
    refine ⟨h, by simp, ?_⟩
    intro a ha b hb
    simp at hb
    subst hb
    intro e
    subst e
    simp [ha] at hn
theorem newNames_nodup : ∀ (t : List Term) {ns : List Bytes}, ns.Nodup → (newNames ns t).Nodup
  | [], _, h => h
  | (v, n) :: t, ns, h => by rw [newNames_cons]; exact newNames_nodup t (addName_nodup h)
theorem newNames_has : ∀ (t : List Term) (ns : List Bytes), ∀ x ∈ t, x.2 ∈ newNames ns t
  | [], _, x, h => by simp at h
  | (v, n) :: t, ns, x, h => by
    rw [newNames_cons]
    rcases List.mem_cons.mp h with e | e
    · subst e
      exact (newNames_pre t _).subset (addName_mem ns n)
    · exact newNames_has t _ x e
theorem newNames_new : ∀ (t : List Term) (ns : List Bytes), ∀ n ∈ newNames ns t, n ∈ ns ∨ ∃ x ∈ t, x.2 = n
  | [], ns, n, h => .inl h
  | (v, m) :: t, ns, n, h => by
    rw [newNames_cons] at h
    rcases newNames_new t _ n h with h | ⟨x, hx, e⟩
    · unfold addName at h
      split at h
      · exact .inl h
      · rcases List.mem_append.mp h with h | h
        · exact .inl h
        · simp at h; exact .inr ⟨(v, m), by simp, h.symm⟩
    · exact .inr ⟨x, by simp [hx], e⟩

/-- a side over the names, filled up to 24 -/
def vec (ns : List Bytes) (t : List Term) : List Nat := ns.map (amount t) ++ List.replicate (24 - ns.length) 0
theorem vec_len {ns : List Bytes} (t : List Term) (h : ns.length ≤ 24) : (vec ns t).length = 24 := by
  unfold vec; simp; omega
theorem vec_nil {ns : List Bytes} (h : ns.length ≤ 24) : vec ns [] = zeros := by
  unfold vec zeros
  have : ns.map (amount []) = List.replicate ns.length 0 := by
    rw [List.eq_replicate_iff]; simp [amount_nil]
  rw [this, List.replicate_append_replicate]
  congr 1
  omega
theorem vec_get {ns : List Bytes} (t : List Term) (h : ns.length ≤ 24) (i : Nat) (hi : i < 24) : (vec ns t)[i]? = some (((ns[i]?).map (amount t)).getD 0) := by
  unfold vec
  by_cases h2 : i < ns.length
  · rw [List.getElem?_append_left (by simpa using h2), List.getElem?_map]
    simp [h2]
  · rw [List.getElem?_append_right (by simpa using h2)]
    simp only [List.length_map]
    rw [List.getElem?_replicate, if_pos (by omega), List.getElem?_eq_none (by omega)]
    rfl
/-- names that the side has not add noughts -/
theorem vec_more {ns ms : List Bytes} {t : List Term} (p : ns <+: ms) (nd : ms.Nodup) (hm : ms.length ≤ 24) (h : ∀ x ∈ t, x.2 ∈ ns) : vec ms t = vec ns t := by
  obtain ⟨r, e⟩ := p
  subst e
  unfold vec
  rw [List.map_append, List.append_assoc]
  congr 1
  have : r.map (amount t) = List.replicate r.length 0 := by
    rw [List.eq_replicate_iff]
    refine ⟨by simp, fun b hb => ?_⟩
    obtain ⟨n, hn, e⟩ := List.mem_map.mp hb
    rw [← e]
    refine amount_out fun x hx q => ?_
    rw [List.nodup_append] at nd
    exact nd.2.2 x.2 (h x hx) n hn q
  rw [this, List.replicate_append_replicate]
  simp at hm ⊢
  congr 1
  omega
theorem idx_get {ns : List Bytes} {n : Bytes} (h : n ∈ ns) : ns[ns.idxOf n]? = some n := by
  have := List.idxOf_lt_length_of_mem h
  rw [List.getElem?_eq_getElem this, List.getElem_idxOf this]
/-- one term more -/
theorem vec_step {ns : List Bytes} (pre : List Term) (v : Nat) (n : Bytes) (nd : ns.Nodup) (hp : ∀ x ∈ pre, x.2 ∈ ns) (hl : (addName ns n).length ≤ 24) :
    vec (addName ns n) (pre ++ [(v, n)]) = (vec ns pre).set ((addName ns n).idxOf n) ((vec ns pre).getD ((addName ns n).idxOf n) 0 + v)
      ∧ (vec ns pre).getD ((addName ns n).idxOf n) 0 + v = amount (pre ++ [(v, n)]) n := by
  have hm := addName_mem ns n
  have nd' := addName_nodup (n := n) nd
  have e0 : vec ns pre = vec (addName ns n) pre := (vec_more (addName_pre ns n) nd' hl hp).symm
  rw [e0]
  have hi := List.idxOf_lt_length_of_mem hm
  have g := idx_get hm
  have ga : (vec (addName ns n) pre).getD ((addName ns n).idxOf n) 0 = amount pre n := by
    rw [List.getD_eq_getElem?_getD, vec_get pre hl _ (by omega), g]; rfl
  rw [ga]
  refine ⟨?_, by rw [amount_snoc, if_pos rfl]⟩
  apply List.ext_getElem?
  intro j
  by_cases hj : j < 24
  · rw [vec_get _ hl j hj]
    by_cases hji : (addName ns n).idxOf n = j
    · subst hji
      rw [List.getElem?_set_self (by rw [vec_len _ hl]; omega), g]
      simp [amount_snoc]
    · rw [List.getElem?_set_ne hji, vec_get _ hl j hj]
      cases h : (addName ns n)[j]? with
      | none => rfl
      | some m =>
        have : n ≠ m := by
          intro q
          subst q
          apply hji
          obtain ⟨h1, h2⟩ := List.getElem?_eq_some_iff.mp h
          obtain ⟨h3, h4⟩ := List.getElem?_eq_some_iff.mp g
          exact (List.getElem_inj nd').mp (h4.trans h2.symm)
        simp [amount_snoc, this]
  · rw [List.getElem?_eq_none (by rw [vec_len _ hl]; omega), List.getElem?_eq_none (by rw [List.length_set, vec_len _ hl]; omega)]
def sideOk (ns : List Bytes) (t : List Term) : Prop := (newNames ns t).length ≤ 24 ∧ ∀ n ∈ newNames ns t, amount t n ≤ 99
instance (ns : List Bytes) (t : List Term) : Decidable (sideOk ns t) := by unfold sideOk; infer_instance
theorem sideT_run {ns : List Bytes} (nd : ns.Nodup) : ∀ (ts pre : List Term), sideOk ns pre →
    sideT (newNames ns pre) (vec (newNames ns pre) pre) ts = if sideOk ns (pre ++ ts) then some (newNames ns (pre ++ ts), vec (newNames ns (pre ++ ts)) (pre ++ ts)) else none
  | [], pre, ok => by rw [List.append_nil, if_pos ok]; rfl
  | (v, n) :: ts, pre, ok => by
    unfold sideT
    have nd' := newNames_nodup pre nd
    have e1 : pre ++ (v, n) :: ts = (pre ++ [(v, n)]) ++ ts := by simp
    have l1 : (newNames ns (pre ++ [(v, n)])).length ≤ (newNames ns (pre ++ (v, n) :: ts)).length := by
      rw [e1, newNames_append ns _ ts]; exact (newNames_pre ts _).length_le
    rw [← newNames_snoc (v := v)]
    by_cases h1 : 24 < (newNames ns (pre ++ [(v, n)])).length
    · rw [if_pos h1, if_neg]
      intro q
      have := q.1
      omega
    · rw [if_neg h1]
      have h1' : (addName (newNames ns pre) n).length ≤ 24 := by rw [← newNames_snoc (v := v)]; omega
      obtain ⟨s1, s2⟩ := vec_step pre v n nd' (newNames_has pre ns) h1'
      rw [newNames_snoc]
      have hin : n ∈ newNames ns (pre ++ (v, n) :: ts) := newNames_has _ _ (v, n) (by simp)
      by_cases h2 : 99 < amount (pre ++ [(v, n)]) n
      · rw [if_pos (by rw [s2]; exact h2), if_neg]
        intro q
        have q2 := q.2 n hin
        rw [e1, amount_append] at q2
        omega
      · rw [if_neg (by rw [s2]; exact h2), ← s1, ← newNames_snoc (v := v), e1]
        refine sideT_run nd ts (pre ++ [(v, n)]) ⟨by omega, fun m hm => ?_⟩
        by_cases hmn : n = m
        · subst hmn; omega
        · rw [amount_snoc, if_neg hmn]
          rw [newNames_snoc] at hm
          unfold addName at hm
          split at hm
          · exact ok.2 m hm
          · rcases List.mem_append.mp hm with hm | hm
            · exact ok.2 m hm
            · simp at hm; exact absurd hm.symm hmn
theorem sideT_all {ns : List Bytes} (nd : ns.Nodup) (h : ns.length ≤ 24) (ts : List Term) :
    sideT ns zeros ts = if sideOk ns ts then some (newNames ns ts, vec (newNames ns ts) ts) else none := by
  have := sideT_run nd ts [] ⟨h, fun n _ => by rw [amount_nil]; omega⟩
  rw [newNames_nil, vec_nil h] at this
  exact this
theorem sideR_all {ns : List Bytes} (nd : ns.Nodup) (h : ns.length ≤ 24) (part : Bytes) :
    sideR ns part = (sideOf part).bind fun ts => if sideOk ns ts then some (newNames ns ts, vec (newNames ns ts) ts) else none := by
  rw [sideR_eq]
  congr 1
  funext ts
  exact sideT_all nd h ts
end Rn
end
section
namespace Rn
open Sa55

/-! ### what signs a side has -/
def okc (c : Nat) : Prop := c ≠ 45 ∧ c ≠ 62 ∧ c ≠ 60
theorem okc_name {c : Nat} (h : (letter c || (digit c || c == 95)) = true) : okc c := by
  unfold letter digit at h
  simp at h
  unfold okc
  omega
theorem unblank_ok {l : Bytes} (h : ∀ c ∈ unblank l, okc c) : ∀ c ∈ l, okc c := by
  obtain ⟨i, j, e⟩ := unblank_ex l
  intro c hc
  rw [e] at hc
  rcases List.mem_append.mp hc with q | q
  · rw [(List.mem_replicate.mp q).2]; unfold okc; omega
  · rcases List.mem_append.mp q with q | q
    · exact h c q
    · rw [(List.mem_replicate.mp q).2]; unfold okc; omega
theorem dw_ok {l : Bytes} (h : ∀ c ∈ l.dropWhile (fun c => c == 32), okc c) : ∀ c ∈ l, okc c := by
  obtain ⟨i, e⟩ := dw_ex l
  intro c hc
  rw [e] at hc
  rcases List.mem_append.mp hc with q | q
  · rw [(List.mem_replicate.mp q).2]; unfold okc; omega
  · exact h c q
theorem tw_mem {p : Nat → Bool} : ∀ {l : Bytes} {c : Nat}, c ∈ l.takeWhile p → p c = true
  | a :: l, c, h => by
    rw [List.takeWhile_cons] at h
    split at h
    · rename_i hp
      rcases List.mem_cons.mp h with e | e
      · rw [e]; exact hp
      · exact tw_mem e
    · simp at h
theorem term_ok {b : Bytes} {x : Term} (h : termOf b = some x) : ∀ c ∈ b, okc c := by
  unfold termOf at h
  dsimp only at h
  split at h
  · cases h
  · rename_i hn
    have h1 : nameOk ((b.drop (b.takeWhile digit).length).dropWhile fun c => c == 32) = true := by
      cases e : nameOk ((b.drop (b.takeWhile digit).length).dropWhile fun c => c == 32) with
      | true => rfl
      | false => exact absurd (.inl e) hn
    unfold nameOk at h1
    simp only [Bool.and_eq_true, List.all_eq_true] at h1
    have h2 : ∀ c ∈ b.drop (b.takeWhile digit).length, okc c := dw_ok fun c hc => okc_name (h1.2.2 c hc)
    intro c hc
    have e : b = b.takeWhile digit ++ b.drop (b.takeWhile digit).length := by
      have : b.take (b.takeWhile digit).length = b.takeWhile digit := (List.prefix_iff_eq_take.mp (List.takeWhile_prefix digit)).symm
      conv => lhs; rw [← List.take_append_drop (b.takeWhile digit).length b]
      rw [this]
    rw [e] at hc
    rcases List.mem_append.mp hc with q | q
    · have := tw_mem q
      exact okc_name (by simp [this])
    · exact h2 c q
theorem split_mem (k : Nat) : ∀ (l w : Bytes) (c : Nat), c ∈ w ++ l → c = k ∨ ∃ p ∈ splitBy k l w, c ∈ p
  | [], w, c, h => .inr ⟨w, by simp [splitBy], by simpa using h⟩
  | a :: l, w, c, h => by
    rw [split_cons]
    by_cases e : a = k
    · rw [if_pos e]
      rcases List.mem_append.mp h with q | q
      · exact .inr ⟨w, by simp, q⟩
      · rcases List.mem_cons.mp q with q | q
        · exact .inl (q.trans e)
        · rcases split_mem k l [] c (by simpa using q) with r | ⟨p, hp, hc⟩
          · exact .inl r
          · exact .inr ⟨p, by simp [hp], hc⟩
    · rw [if_neg e]
      exact split_mem k l (w ++ [a]) c (by simpa using h)
theorem mapM_some {α β : Type} {f : α → Option β} : ∀ {l : List α} {r : List β}, l.mapM f = some r → ∀ a ∈ l, ∃ b, f a = some b
  | [], _, _, a, h => by simp at h
  | x :: l, r, h, a, ha => by
    rw [List.mapM_cons] at h
    cases e : f x with
    | none => rw [e] at h; cases h
    | some y =>
      rw [e] at h
      cases e2 : l.mapM f with
      | none => rw [e2] at h; cases h
      | some ys =>
        rcases List.mem_cons.mp ha with q | q
        · rw [q]; exact ⟨y, e⟩
        · exact mapM_some e2 a q
theorem side_ok {b : Bytes} {ts : List Term} (h : sideOf b = some ts) : ∀ c ∈ b, okc c := by
  unfold sideOf at h
  split at h
  · rename_i e
    refine unblank_ok fun c hc => ?_
    rw [e] at hc
    simp at hc
    subst hc
    unfold okc; omega
  · intro c hc
    rcases split_mem 43 b [] c (by simpa using hc) with q | ⟨p, hp, hc⟩
    · subst q; unfold okc; omega
    · obtain ⟨x, hx⟩ := mapM_some h p hp
      exact unblank_ok (term_ok hx) c hc

/-! ### arrows -/
def pArrow (c : Bytes) : Option (Bytes × Bytes × Bool) := match splitBy 45 c [] with
  | [h0, h1] => if h1.take 1 = [62] then some (if (h0.getLast? == some 60) = true then h0.dropLast else h0, h1.drop 1, h0.getLast? == some 60) else none
  | _ => none
def sArrow (c : Bytes) : Option (Bytes × Bytes × Bool) := match splitBy 62 c [] with
  | [l, r] => if l.getLast? ≠ some 45 then none else some (if (l.dropLast.getLast? == some 60) = true then l.dropLast.dropLast else l.dropLast, r, l.dropLast.getLast? == some 60)
  | _ => none
def two (q : Bytes × Bytes × Bool) : Option (List Term × List Term × Bool) := match sideOf q.1, sideOf q.2.1 with
  | some x, some y => some (x, y, q.2.2)
  | _, _ => none
theorem two_some {q : Bytes × Bytes × Bool} {r} (h : two q = some r) : ∃ x y, sideOf q.1 = some x ∧ sideOf q.2.1 = some y ∧ r = (x, y, q.2.2) := by
  unfold two at h
  split at h
  · rename_i x y e1 e2
    exact ⟨x, y, e1, e2, (Option.some.inj h).symm⟩
  · cases h
theorem lineOf_eq (row : Bytes) : lineOf row = if unblank (row.takeWhile fun x => x != 35) = [] then .nothing else match (sArrow (unblank (row.takeWhile fun x => x != 35))).bind two with
    | none => .wrong
    | some (x, y, back) => .reaction x y back := by
  unfold lineOf
  dsimp only
  by_cases h : unblank (row.takeWhile fun x => x != 35) = []
  · rw [if_pos h, if_pos h]
  · rw [if_neg h, if_neg h]
    unfold sArrow two
    generalize unblank (row.takeWhile fun x => x != 35) = c
    rcases e : splitBy 62 c [] with _ | ⟨l, _ | ⟨r, _ | ⟨q, t⟩⟩⟩
    · rfl
    · rfl
    · dsimp only
      by_cases h2 : l.getLast? = some 45
      · rw [if_neg (show ¬ (l.getLast? ≠ some 45) by simp [h2]), if_neg (show ¬ (l.getLast? ≠ some 45) by simp [h2])]
        simp only [Option.bind_some]
        rcases e1 : sideOf (if (l.dropLast.getLast? == some 60) = true then l.dropLast.dropLast else l.dropLast) with _ | x
        · rfl
        · rcases e2 : sideOf r with _ | y
          · rfl
          · rfl
      · rw [if_pos h2, if_pos h2]; rfl
    · rfl
theorem last_cons {l : Bytes} {x : Nat} (h : l.getLast? = some x) : l = l.dropLast ++ [x] := by
  obtain ⟨l', e⟩ := List.getLast?_eq_some_iff.mp h
  rw [e]; simp
/-- the sign ahead of the arrow's -, given back -/
theorem back_ok {h0 : Bytes} {x : List Term} (h : sideOf (if (h0.getLast? == some 60) = true then h0.dropLast else h0) = some x) : ∀ c ∈ h0, c ≠ 45 ∧ c ≠ 62 := by
  by_cases e : h0.getLast? = some 60
  · rw [if_pos (by simp [e])] at h
    intro c hc
    rw [last_cons e] at hc
    rcases List.mem_append.mp hc with q | q
    · have := side_ok h c q; exact ⟨this.1, this.2.1⟩
    · simp at q; omega
  · rw [if_neg (by simpa using e)] at h
    intro c hc
    have := side_ok h c hc
    exact ⟨this.1, this.2.1⟩
theorem arrow_sp (c : Bytes) (r) (h : (sArrow c).bind two = some r) : (pArrow c).bind two = some r := by
  obtain ⟨q, h1, h2⟩ := Option.bind_eq_some_iff.mp h
  obtain ⟨x, y, e1, e2, rfl⟩ := two_some h2
  unfold sArrow at h1
  rcases e : splitBy 62 c [] with _ | ⟨l, _ | ⟨m, _ | ⟨z, t⟩⟩⟩
  · rw [e] at h1; cases h1
  · rw [e] at h1; cases h1
  · rw [e] at h1
    dsimp only at h1
    by_cases h3 : l.getLast? = some 45
    · rw [if_neg (by simp [h3])] at h1
      have h1 := Option.some.inj h1
      subst h1
      dsimp only at e1 e2
      have k1 := back_ok e1
      have k2 := side_ok e2
      have ec := of_split_two e
      have el := last_cons h3
      have ec2 : c = l.dropLast ++ 45 :: (62 :: m) := by rw [ec, el]; simp
      have es : splitBy 45 c [] = [l.dropLast, 62 :: m] := by
        rw [ec2]
        refine split_two (fun q => (k1 _ q).1 rfl) fun q => ?_
        rcases List.mem_cons.mp q with q | q
        · omega
        · exact (k2 _ q).1 rfl
      unfold pArrow
      rw [es]
      exact h2
    · rw [if_pos h3] at h1; cases h1
  · rw [e] at h1; cases h1
theorem arrow_ps (c : Bytes) (r) (h : (pArrow c).bind two = some r) : (sArrow c).bind two = some r := by
  obtain ⟨q, h1, h2⟩ := Option.bind_eq_some_iff.mp h
  obtain ⟨x, y, e1, e2, rfl⟩ := two_some h2
  unfold pArrow at h1
  rcases e : splitBy 45 c [] with _ | ⟨l, _ | ⟨m, _ | ⟨z, t⟩⟩⟩
  · rw [e] at h1; cases h1
  · rw [e] at h1; cases h1
  · rw [e] at h1
    dsimp only at h1
    split at h1
    · rename_i h3
      have h1 := Option.some.inj h1
      subst h1
      dsimp only at e1 e2
      have k1 := back_ok e1
      have k2 := side_ok e2
      have ec := of_split_two e
      have em : m = 62 :: m.drop 1 := by
        conv => lhs; rw [← List.take_append_drop 1 m]
        rw [h3]; rfl
      have ec2 : c = (l ++ [45]) ++ 62 :: m.drop 1 := by rw [ec]; conv => lhs; rw [em]
                                                         simp
      have es : splitBy 62 c [] = [l ++ [45], m.drop 1] := by
        rw [ec2]
        refine split_two (fun q => ?_) fun q => (k2 _ q).2.1 rfl
        rcases List.mem_append.mp q with q | q
        · exact (k1 _ q).2 rfl
        · simp at q
      unfold sArrow
      rw [es]
      dsimp only
      rw [if_neg (by simp), List.dropLast_concat]
      exact h2
    · cases h1
  · rw [e] at h1; cases h1
theorem arrow_eq (c : Bytes) : (pArrow c).bind two = (sArrow c).bind two := by
  cases e : (sArrow c).bind two with
  | some r => exact arrow_sp c r e
  | none =>
    cases e2 : (pArrow c).bind two with
    | none => rfl
    | some r => rw [arrow_ps c r e2] at e; cases e

/-! ### lines -/
abbrev Vec := List Nat
def add (rs : List (Vec × Vec)) (x y : Vec) (both : Bool) : Option (List (Vec × Vec)) :=
  if rs.length = 24 then none else if both = true then (if rs.length + 1 = 24 then none else some (rs ++ [(x, y)] ++ [(y, x)])) else some (rs ++ [(x, y)])
/-- a line as the program reads it: none: it is wrong -/
def lineM (ns : List Bytes) (rs : List (Vec × Vec)) (row : Bytes) : Option (List Bytes × List (Vec × Vec)) :=
  if unblank (row.takeWhile fun x => x != 35) = [] then some (ns, rs)
  else match pArrow (unblank (row.takeWhile fun x => x != 35)) with
    | none => none
    | some (a, b, back) => match sideR ns a with
      | none => none
      | some (n1, x) => match sideR n1 b with
        | none => none
        | some (n2, y) => match add rs x y back with
          | none => none
          | some q => some (n2, q)
def tooMuch (N : List Bytes) (m : Nat) (x y : List Term) : Prop := 24 < N.length ∨ 24 < m ∨ (N.any fun n => decide (99 < amount x n) || decide (99 < amount y n)) = true
instance (N : List Bytes) (m : Nat) (x y : List Term) : Decidable (tooMuch N m x y) := by unfold tooMuch; infer_instance
theorem lineM_eq {ns : List Bytes} {rs : List (Vec × Vec)} (nd : ns.Nodup) (h : ns.length ≤ 24) (hr : rs.length ≤ 24) (row : Bytes) :
    lineM ns rs row = match lineOf row with
      | .nothing => some (ns, rs)
      | .wrong => none
      | .reaction x y back => if tooMuch (newNames (newNames ns x) y) (rs.length + if back = true then 2 else 1) x y then none else
        some (newNames (newNames ns x) y, rs ++ ((vec (newNames (newNames ns x) y) x, vec (newNames (newNames ns x) y) y) :: if back = true then [(vec (newNames (newNames ns x) y) y, vec (newNames (newNames ns x) y) x)] else [])) := by
  rw [lineOf_eq]
  unfold lineM
  by_cases h0 : unblank (row.takeWhile fun x => x != 35) = []
  · rw [if_pos h0, if_pos h0]
  · rw [if_neg h0, if_neg h0, ← arrow_eq]
    generalize unblank (row.takeWhile fun x => x != 35) = c
    cases e : pArrow c with
    | none => rfl
    | some q =>
      obtain ⟨a, b, back⟩ := q
      simp only [Option.bind_some]
      unfold two
      dsimp only
      rw [sideR_all nd h]
      cases e1 : sideOf a with
      | none => rfl
      | some x =>
        simp only [Option.bind_some]
        have hb : ∀ (n1 : List Bytes) (v : List Nat), sideOf b = none → n1.Nodup → n1.length ≤ 24 → (match sideR n1 b with
          | none => (none : Option (List Bytes × List (Vec × Vec)))
          | some (n2, y) => match add rs v y back with
            | none => none
            | some q => some (n2, q)) = none := fun n1 v hb d1 l1 => by rw [sideR_all d1 l1, hb]; rfl
        by_cases ok1 : sideOk ns x
        · rw [if_pos ok1]
          dsimp only
          cases e2 : sideOf b with
          | none => exact hb _ _ e2 (newNames_nodup x nd) ok1.1
          | some y =>
            dsimp only
            rw [sideR_all (newNames_nodup x nd) ok1.1, e2]
            simp only [Option.bind_some]
            have hxin := newNames_has x ns
            have pre := newNames_pre y (newNames ns x)
            have ndN := newNames_nodup y (newNames_nodup x nd)
            by_cases ok2 : sideOk (newNames ns x) y
            · rw [if_pos ok2]
              dsimp only
              have ev : vec (newNames ns x) x = vec (newNames (newNames ns x) y) x := (vec_more pre ndN ok2.1 hxin).symm
              have a0 : ∀ n ∈ newNames (newNames ns x) y, amount x n ≤ 99 := fun n hn => by
                by_cases hn' : n ∈ newNames ns x
                · exact ok1.2 n hn'
                · rw [amount_out fun z hz q => hn' (by rw [← q]; exact hxin z hz)]; omega
              have na : (List.any (newNames (newNames ns x) y) fun n => decide (99 < amount x n) || decide (99 < amount y n)) = false := by
                rw [List.any_eq_false]
                intro n hn
                have q1 := a0 n hn
                have q2 := ok2.2 n hn
                simp; omega
              unfold add
              by_cases h24 : rs.length = 24
              · rw [if_pos h24, if_pos (.inr (.inl (by split <;> omega)))]
              · rw [if_neg h24]
                cases back with
                | false =>
                  simp only [Bool.false_eq_true, if_false]
                  rw [if_neg, ev]
                  rintro (q | q | q)
                  · have := ok2.1; omega
                  · omega
                  · rw [na] at q; cases q
                | true =>
                  simp only [if_true]
                  by_cases h23 : rs.length + 1 = 24
                  · rw [if_pos h23, if_pos (.inr (.inl (by omega)))]
                  · rw [if_neg h23, if_neg, ev]
                    · simp
                    · rintro (q | q | q)
                      · have := ok2.1; omega
                      · omega
                      · rw [na] at q; cases q
            · rw [if_neg ok2]
              dsimp only
              rw [if_pos]
              by_cases l2 : 24 < (newNames (newNames ns x) y).length
              · exact .inl l2
              · refine .inr (.inr ?_)
                cases q : (List.any (newNames (newNames ns x) y) fun n => decide (99 < amount x n) || decide (99 < amount y n)) with
                | true => rfl
                | false =>
                  rw [List.any_eq_false] at q
                  exfalso
                  refine ok2 ⟨by omega, fun n hn => ?_⟩
                  have := q n hn
                  simp at this; omega
        · rw [if_neg ok1]
          dsimp only
          cases e2 : sideOf b with
          | none => rfl
          | some y =>
            dsimp only
            rw [if_pos]
            have pre := newNames_pre y (newNames ns x)
            have ll := pre.length_le
            by_cases l2 : 24 < (newNames ns x).length
            · exact .inl (by omega)
            · refine .inr (.inr ?_)
              cases q : (List.any (newNames (newNames ns x) y) fun n => decide (99 < amount x n) || decide (99 < amount y n)) with
              | true => rfl
              | false =>
                rw [List.any_eq_false] at q
                exfalso
                refine ok1 ⟨by omega, fun n hn => ?_⟩
                have := q n (pre.subset hn)
                simp at this; omega

/-! ### the text -/
def netM : Nat → List Bytes → List Bytes → List (Vec × Vec) → (List Bytes × List (Vec × Vec)) ⊕ Nat
  | _, [], ns, rs => .inl (ns, rs)
  | k, b :: r, ns, rs => match lineM ns rs b with
    | none => .inr k
    | some (n, q) => netM (k + 1) r n q
structure Rel (s : Net) (ns : List Bytes) (rs : List (Vec × Vec)) : Prop where
  nm : ns = s.names
  nd : ns.Nodup
  le : ns.length ≤ 24
  lr : rs.length ≤ 24
  rx : rs = s.reactions.map fun p => (vec ns p.1, vec ns p.2)
  has : ∀ p ∈ s.reactions, (∀ x ∈ p.1, x.2 ∈ ns) ∧ ∀ x ∈ p.2, x.2 ∈ ns
def Res (a : Net ⊕ Nat) (b : (List Bytes × List (Vec × Vec)) ⊕ Nat) : Prop := match a, b with
  | .inl s, .inl (ns, rs) => Rel s ns rs
  | .inr j, .inr k => j = k
  | _, _ => False
theorem read_eq : ∀ (ls : List Bytes) (k : Nat) (s : Net) (ns : List Bytes) (rs : List (Vec × Vec)), Rel s ns rs → Res (Sa55.read k ls s) (netM k ls ns rs)
  | [], k, s, ns, rs, R => R
  | b :: r, k, s, ns, rs, R => by
    unfold Sa55.read netM
    rw [lineM_eq R.nd R.le R.lr]
    cases e : lineOf b with
    | nothing => exact read_eq r (k + 1) s ns rs R
    | wrong => exact rfl
    | reaction x y back =>
      dsimp only
      have ln : (s.reactions ++ ((x, y) :: if back = true then [(y, x)] else [])).length = rs.length + if back = true then 2 else 1 := by
        rw [R.rx]; cases back <;> simp
      rw [ln, ← R.nm]
      by_cases t : tooMuch (newNames (newNames ns x) y) (rs.length + if back = true then 2 else 1) x y
      · have t2 := t
        unfold tooMuch at t2
        rw [if_pos t, if_pos t2]; exact rfl
      · have t2 := t
        unfold tooMuch at t2
        rw [if_neg t, if_neg t2]
        dsimp only
        have t' : (newNames (newNames ns x) y).length ≤ 24 ∧ rs.length + (if back = true then 2 else 1) ≤ 24 := by
          constructor
          · by_cases q : 24 < (newNames (newNames ns x) y).length
            · exact absurd (.inl q) t
            · omega
          · by_cases q : 24 < rs.length + (if back = true then 2 else 1)
            · exact absurd (.inr (.inl q)) t
            · omega
        have pre := (newNames_pre x ns).trans (newNames_pre y (newNames ns x))
        have ndN := newNames_nodup y (newNames_nodup x R.nd)
        refine read_eq r (k + 1) _ _ _ ⟨rfl, ndN, t'.1, ?_, ?_, ?_⟩
        · have := t'.2
          cases back <;> simp at this ⊢ <;> omega
        · rw [List.map_append]
          congr 1
          · rw [R.rx]
            apply List.map_congr_left
            intro p hp
            obtain ⟨h1, h2⟩ := R.has p hp
            rw [vec_more pre ndN t'.1 h1, vec_more pre ndN t'.1 h2]
          · cases back <;> simp
        · intro p hp
          have hx : ∀ z ∈ x, z.2 ∈ newNames (newNames ns x) y := fun z hz => (newNames_pre y _).subset (newNames_has x ns z hz)
          have hy : ∀ z ∈ y, z.2 ∈ newNames (newNames ns x) y := newNames_has y _
          rcases List.mem_append.mp hp with hp | hp
          · obtain ⟨h1, h2⟩ := R.has p hp
            exact ⟨fun z hz => pre.subset (h1 z hz), fun z hz => pre.subset (h2 z hz)⟩
          · rcases List.mem_cons.mp hp with e | hp
            · rw [e]; exact ⟨hx, hy⟩
            · cases back with
              | false => simp at hp
              | true => simp at hp; rw [hp]; exact ⟨hy, hx⟩
theorem netM_tail : ∀ (ls : List Bytes) (k : Nat) (ns : List Bytes) (rs : List (Vec × Vec)), netM k (ls ++ [[]]) ns rs = netM k ls ns rs
  | [], k, ns, rs => by
    show netM k [[]] ns rs = _
    unfold netM lineM
    rw [if_pos (show unblank (List.takeWhile (fun x => x != 35) []) = [] from rfl)]
    rfl
  | b :: r, k, ns, rs => by
    show netM k (b :: (r ++ [[]])) ns rs = _
    unfold netM
    cases lineM ns rs b with
    | none => rfl
    | some q => exact netM_tail r _ _ _
theorem netOf_eq (b : Bytes) : Res (netOf b) (netM 0 (splitBy 10 b []) [] []) := by
  unfold netOf linesOf
  dsimp only
  have R0 : Rel ⟨[], []⟩ [] [] := ⟨rfl, List.nodup_nil, by simp, by simp, rfl, fun p hp => by simp at hp⟩
  by_cases h : (splitBy 10 b []).getLast? = some []
  · rw [if_pos h]
    obtain ⟨l, e⟩ := List.getLast?_eq_some_iff.mp h
    rw [e, netM_tail, List.dropLast_concat]
    exact read_eq _ _ _ _ _ R0
  · rw [if_neg h]
    exact read_eq _ _ _ _ _ R0

/-! ### the mixes -/
def put (a : List Vec) (k : Vec) : List Vec := if a.contains k = true then a else a ++ [k]
def mixesOf (rs : List (Vec × Vec)) : List Vec := rs.foldl (fun a p => put (put a p.1) p.2) []
theorem mixesOf_eq (rs : List (Vec × Vec)) (a : List Vec) : rs.foldl (fun a p => put (put a p.1) p.2) a = (rs.flatMap fun p => [p.1, p.2]).foldl put a := by
  induction rs generalizing a with
  | nil => rfl
  | cons p rs ih => rw [List.foldl_cons, ih, List.flatMap_cons]; rfl
theorem foldl_put : ∀ (l a : List Vec), l.foldl put a = a ++ (l.filter fun k => !a.contains k).eraseDups
  | [], a => by simp
  | k :: l, a => by
    rw [List.foldl_cons, foldl_put l]
    unfold put
    by_cases h : a.contains k = true
    · rw [if_pos h, List.filter_cons, if_neg (by simpa using h)]
    · rw [if_neg h, List.filter_cons, if_pos (by simpa using h), List.eraseDups_cons, List.append_assoc, List.singleton_append, List.filter_filter]
      congr 3
      apply List.filter_congr
      intro x _
      by_cases hx : x = k
      · subst hx; simp
      · have : (x == k) = false := by simpa using hx
        simp [this, hx]
theorem eraseDups_map {α β : Type} [BEq α] [LawfulBEq α] [BEq β] [LawfulBEq β] (f : α → β) (S : α → Prop) (inj : ∀ a b, S a → S b → f a = f b → a = b) : ∀ (n : Nat) (l : List α), l.length ≤ n → (∀ a ∈ l, S a) → (l.map f).eraseDups = l.eraseDups.map f
  | _, [], _, _ => by simp
  | 0, a :: l, h, _ => by simp at h
  | n + 1, a :: l, h, hS => by
    rw [List.map_cons, List.eraseDups_cons, List.eraseDups_cons, List.map_cons]
    congr 1
    rw [← eraseDups_map f S inj n _ (Nat.le_trans (List.length_filter_le _ _) (by simpa using h)) (fun b hb => hS b (by simp [(List.mem_filter.mp hb).1]))]
    rw [List.filter_map]
    congr 2
    apply List.filter_congr
    intro x hx
    have sa := hS a (by simp)
    have sx := hS x (by simp [hx])
    by_cases e : x = a
    · subst e; simp
    · have h1 : (f x == f a) = false := beq_eq_false_iff_ne.mpr fun q => e (inj x a sx sa q)
      have h2 : (x == a) = false := beq_eq_false_iff_ne.mpr e
      simp [h1, h2]
theorem mixes_len {s : Net} {ns : List Bytes} {rs : List (Vec × Vec)} (R : Rel s ns rs) : (mixesOf rs).length = (mixes s).length := by
  unfold mixesOf mixes
  rw [mixesOf_eq, foldl_put, List.nil_append]
  have e1 : (List.filter (fun k => !List.contains ([] : List Vec) k) (rs.flatMap fun p => [p.1, p.2])) = rs.flatMap fun p => [p.1, p.2] := by
    rw [List.filter_eq_self]; intro a _; rfl
  rw [e1]
  have e2 : (rs.flatMap fun p => [p.1, p.2]) = (s.reactions.flatMap fun x => [mix s x.1, mix s x.2]).map fun m => m ++ List.replicate (24 - ns.length) 0 := by
    rw [R.rx, List.map_flatMap, List.flatMap_map]
    congr 1
    funext p
    unfold mix vec
    rw [← R.nm]
    rfl
  rw [e2, eraseDups_map (fun m : Vec => m ++ List.replicate (24 - ns.length) 0) (fun _ => True) (fun a b _ _ e => List.append_cancel_right e) _ _ (Nat.le_refl _) (fun _ _ => True.intro), List.length_map]
/-- what the program answers -/
def answer (b : Bytes) : List Int := match netM 0 (splitBy 10 b []) [] [] with
  | .inr k => [-100 - (k : Int)]
  | .inl (ns, rs) => [0, (ns.length : Int), (rs.length : Int), ((mixesOf rs).length : Int)]
theorem answer_eq (b : Bytes) : answer b = match netOf b with
    | .inr k => [-100 - (k : Int)]
    | .inl s => [0, (size s : Int), (count s : Int), ((mixes s).length : Int)] := by
  have h := netOf_eq b
  unfold answer
  cases e1 : netOf b with
  | inr j =>
    cases e2 : netM 0 (splitBy 10 b []) [] [] with
    | inr k => rw [e1, e2] at h; rw [show j = k from h]
    | inl q => rw [e1, e2] at h; exact h.elim
  | inl s =>
    cases e2 : netM 0 (splitBy 10 b []) [] [] with
    | inr k => rw [e1, e2] at h; exact h.elim
    | inl q =>
      obtain ⟨ns, rs⟩ := q
      rw [e1, e2] at h
      have R : Rel s ns rs := h
      dsimp only
      rw [mixes_len R, R.nm]
      unfold size count
      have : rs.length = s.reactions.length := by rw [R.rx]; simp
      rw [this]
end Rn
end
section
namespace Rn
open Sa55

/-! ### what of a network the other calls lean on -/
theorem getD_pad (l : List Nat) (n j : Nat) : (l ++ List.replicate n 0).getD j 0 = l.getD j 0 := by
  rw [List.getD_eq_getElem?_getD, List.getD_eq_getElem?_getD]
  by_cases h : j < l.length
  · rw [List.getElem?_append_left h]
  · rw [List.getElem?_append_right (by omega), List.getElem?_eq_none (l := l) (by omega), List.getElem?_replicate]
    split <;> rfl
theorem Rel.size {s : Net} {ns : List Bytes} {rs : List (Vec × Vec)} (R : Rel s ns rs) : Sa55.size s = ns.length := by
  unfold Sa55.size
  rw [R.nm]
theorem Rel.count {s : Net} {ns : List Bytes} {rs : List (Vec × Vec)} (R : Rel s ns rs) : Sa55.count s = rs.length := by
  unfold Sa55.count
  rw [R.rx, List.length_map]
theorem mix_nil (s : Net) (j : Nat) : (mix s []).getD j 0 = 0 := by
  unfold mix
  rw [List.getD_eq_getElem?_getD, List.getElem?_map]
  cases s.names[j]? with
  | none => rfl
  | some n => exact amount_nil n
theorem Rel.takes {s : Net} {ns : List Bytes} {rs : List (Vec × Vec)} (R : Rel s ns rs) (r j : Nat) : Sa55.takes s r j = ((rs.getD r ([], [])).1).getD j 0 := by
  unfold Sa55.takes
  rw [R.rx, List.getD_eq_getElem?_getD (l := s.reactions.map _), List.getElem?_map, List.getD_eq_getElem?_getD (l := s.reactions)]
  cases s.reactions[r]? with
  | none => exact mix_nil s j
  | some p =>
    show (mix s p.1).getD j 0 = (vec ns p.1).getD j 0
    unfold vec mix
    rw [getD_pad, R.nm]
theorem Rel.gives {s : Net} {ns : List Bytes} {rs : List (Vec × Vec)} (R : Rel s ns rs) (r j : Nat) : Sa55.gives s r j = ((rs.getD r ([], [])).2).getD j 0 := by
  unfold Sa55.gives
  rw [R.rx, List.getD_eq_getElem?_getD (l := s.reactions.map _), List.getElem?_map, List.getD_eq_getElem?_getD (l := s.reactions)]
  cases s.reactions[r]? with
  | none => exact mix_nil s j
  | some p =>
    show (mix s p.2).getD j 0 = (vec ns p.2).getD j 0
    unfold vec mix
    rw [getD_pad, R.nm]
theorem Rel.vlen {s : Net} {ns : List Bytes} {rs : List (Vec × Vec)} (R : Rel s ns rs) : ∀ q ∈ rs, q.1.length = 24 ∧ q.2.length = 24 := fun q hq => by
  rw [R.rx] at hq
  obtain ⟨p, _, e⟩ := List.mem_map.mp hq
  rw [← e]
  exact ⟨vec_len _ R.le, vec_len _ R.le⟩
theorem net_inl {b : Bytes} {ns : List Bytes} {rs : List (Vec × Vec)} (h : netM 0 (splitBy 10 b []) [] [] = .inl (ns, rs)) : ∃ s, netOf b = .inl s ∧ Rel s ns rs := by
  have z := netOf_eq b
  rw [h] at z
  cases e : netOf b with
  | inr j => rw [e] at z; exact z.elim
  | inl s => rw [e] at z; exact ⟨s, rfl, z⟩
theorem net_inr {b : Bytes} {k : Nat} (h : netM 0 (splitBy 10 b []) [] [] = .inr k) : netOf b = .inr k := by
  have z := netOf_eq b
  rw [h] at z
  cases e : netOf b with
  | inr j => rw [e] at z; rw [show j = k from z]
  | inl s => rw [e] at z; exact z.elim

/-! ### least sets -/
def minOf (P : Nat → Bool) (n : Nat) : List Nat := (List.range n).filter fun z => P z && (List.range z).all fun x => !(P x && (x &&& z) == x)
theorem and_trans {x y z : Nat} (h1 : x &&& y = x) (h2 : y &&& z = y) : x &&& z = x := by
  calc x &&& z = (x &&& y) &&& z := by rw [h1]
    _ = x &&& (y &&& z) := Nat.and_assoc ..
    _ = x &&& y := by rw [h2]
    _ = x := h1
theorem least_in {P : Nat → Bool} {z : Nat} : ∀ y, y < z → P y = true → y &&& z = y → ∃ x, x ≤ y ∧ x ∈ minOf P z ∧ x &&& z = x := by
  intro y
  induction y using Nat.strongRecOn with
  | _ y ih =>
    intro hy hp ha
    by_cases h : ∃ x, x < y ∧ P x = true ∧ x &&& y = x
    · obtain ⟨x, h1, h2, h3⟩ := h
      obtain ⟨w, w1, w2, w3⟩ := ih x h1 (by omega) h2 (and_trans h3 ha)
      exact ⟨w, by omega, w2, w3⟩
    · refine ⟨y, Nat.le_refl _, ?_, ha⟩
      unfold minOf
      rw [List.mem_filter]
      refine ⟨List.mem_range.mpr hy, ?_⟩
      rw [hp, Bool.true_and, List.all_eq_true]
      intro x hx
      have hx' := List.mem_range.mp hx
      cases q : (P x && (x &&& y) == x) with
      | false => rfl
      | true =>
        rw [Bool.and_eq_true, beq_iff_eq] at q
        exact absurd ⟨x, hx', q.1, q.2⟩ h
theorem minOf_any (P : Nat → Bool) (z : Nat) : ((minOf P z).any fun x => (x &&& z) == x) = !((List.range z).all fun x => !(P x && (x &&& z) == x)) := by
  cases q : (List.range z).all fun x => !(P x && (x &&& z) == x) with
  | true =>
    rw [List.all_eq_true] at q
    show _ = false
    rw [List.any_eq_false]
    intro x hx hz
    unfold minOf at hx
    rw [List.mem_filter, Bool.and_eq_true] at hx
    have := q x hx.1
    rw [hx.2.1, hz] at this
    cases this
  | false =>
    show _ = true
    rw [List.all_eq_false] at q
    obtain ⟨y, hy, h⟩ := q
    have h' : (P y && (y &&& z) == y) = true := by
      cases e : (P y && (y &&& z) == y) with
      | true => rfl
      | false => rw [e] at h; exact absurd rfl h
    rw [Bool.and_eq_true, beq_iff_eq] at h'
    obtain ⟨x, _, h2, h3⟩ := least_in y (List.mem_range.mp hy) h'.1 h'.2
    rw [List.any_eq_true]
    exact ⟨x, h2, beq_iff_eq.mpr h3⟩
theorem minOf_zero (P : Nat → Bool) : minOf P 0 = [] := rfl
theorem minOf_succ (P : Nat → Bool) (n : Nat) : minOf P (n + 1) = if (P n && !((minOf P n).any fun x => (x &&& n) == x)) = true then minOf P n ++ [n] else minOf P n := by
  rw [minOf_any, Bool.not_not]
  conv => lhs; unfold minOf
  rw [List.range_succ, List.filter_append]
  show minOf P n ++ _ = _
  rw [List.filter_cons, List.filter_nil]
  split
  · rfl
  · rw [List.append_nil]
theorem empties_eq (s : Net) : empties s = minOf (stays s) (2 ^ Sa55.size s) := rfl
theorem minOf_lt {P : Nat → Bool} {n x : Nat} (h : x ∈ minOf P n) : x < n ∧ P x = true := by
  unfold minOf at h
  rw [List.mem_filter, Bool.and_eq_true] at h
  exact ⟨List.mem_range.mp h.1, h.2.1⟩
theorem minOf_len (P : Nat → Bool) (n : Nat) : (minOf P n).length ≤ n := by
  have := List.length_filter_le (fun z => P z && (List.range z).all fun x => !(P x && (x &&& z) == x)) (List.range n)
  rw [List.length_range] at this
  exact this

/-! ### in how many ways -/
theorem choose_zero (n : Nat) : choose n 0 = 1 := by cases n <;> rfl
theorem choose_ss (n k : Nat) : choose (n + 1) (k + 1) = choose n k + choose n (k + 1) := rfl
theorem choose_out : ∀ {n k : Nat}, n < k → choose n k = 0
  | 0, 0, h => by omega
  | 0, k + 1, _ => rfl
  | n + 1, 0, h => by omega
  | n + 1, k + 1, h => by rw [choose_ss, choose_out (by omega), choose_out (by omega)]
theorem choose_mul : ∀ n k : Nat, choose n (k + 1) * (k + 1) = choose n k * (n - k)
  | 0, k => by
    show 0 * (k + 1) = _
    rw [Nat.zero_sub, Nat.mul_zero, Nat.zero_mul]
  | n + 1, 0 => by
    have h := choose_mul n 0
    rw [choose_zero] at h
    rw [choose_ss, choose_zero, choose_zero]
    omega
  | n + 1, k + 1 => by
    have h1 := choose_mul n k
    have h2 := choose_mul n (k + 1)
    rw [choose_ss n (k + 1), choose_ss n k, Nat.add_mul, Nat.add_mul, h2]
    have e : n + 1 - (k + 1) = n - k := by omega
    rw [e, ← h1]
    by_cases h : k < n
    · have e2 : n - k = (n - (k + 1)) + 1 := by omega
      rw [e2]
      simp only [Nat.mul_add]
      omega
    · rw [choose_out (show n < k + 1 by omega)]
      omega
theorem choose_div (n k : Nat) : choose n k * (n - k) / (k + 1) = choose n (k + 1) := by
  rw [← choose_mul, Nat.mul_div_cancel _ (by omega)]
theorem choose_le : ∀ n k : Nat, choose n k ≤ 2 ^ n
  | n, 0 => by rw [choose_zero]; exact Nat.one_le_two_pow
  | 0, k + 1 => by show 0 ≤ _; omega
  | n + 1, k + 1 => by
    have h1 := choose_le n k
    have h2 := choose_le n (k + 1)
    rw [choose_ss, Nat.pow_succ]
    omega
end Rn
end
section
namespace Rn
open Sa55

/-! ### a side's substances as bits -/
def bitsTo (v : List Nat) : Nat → Nat
  | 0 => 0
  | i + 1 => if 0 < v.getD i 0 then bitsTo v i ||| 2 ^ i else bitsTo v i
def bitsOf (v : List Nat) : Nat := bitsTo v v.length
theorem bitsTo_test (v : List Nat) : ∀ i j, (bitsTo v i).testBit j = (decide (j < i) && decide (0 < v.getD j 0))
  | 0, j => by
    show (0 : Nat).testBit j = _
    rw [Nat.zero_testBit, decide_eq_false (Nat.not_lt_zero j), Bool.false_and]
  | i + 1, j => by
    have ih := bitsTo_test v i j
    unfold bitsTo
    by_cases hv : 0 < v.getD i 0
    · rw [if_pos hv, Nat.testBit_or, ih, Nat.testBit_two_pow]
      by_cases e : i = j
      · subst e
        rw [decide_eq_true (rfl : i = i), Bool.or_true, decide_eq_true (Nat.lt_succ_self i), decide_eq_true hv]
        rfl
      · rw [decide_eq_false e, Bool.or_false]
        congr 1
        exact decide_eq_decide.mpr (by omega)
    · rw [if_neg hv, ih]
      by_cases e : i = j
      · subst e
        rw [decide_eq_false hv, Bool.and_false, Bool.and_false]
      · congr 1
        exact decide_eq_decide.mpr (by omega)
theorem bitsOf_test (v : List Nat) (j : Nat) : (bitsOf v).testBit j = decide (0 < v.getD j 0) := by
  unfold bitsOf
  rw [bitsTo_test]
  by_cases h : j < v.length
  · rw [decide_eq_true h, Bool.true_and]
  · rw [decide_eq_false h, Bool.false_and, List.getD_eq_getElem?_getD, List.getElem?_eq_none (by omega)]
    rfl
theorem and_bits {z n : Nat} (h : z < 2 ^ n) (v : List Nat) : (z &&& bitsOf v != 0) = (List.range n).any fun j => z.testBit j && v.getD j 0 != 0 := by
  have key : (z &&& bitsOf v) ≠ 0 ↔ ∃ j, j < n ∧ z.testBit j = true ∧ v.getD j 0 ≠ 0 := by
    constructor
    · intro hn
      obtain ⟨j, hj⟩ := Nat.exists_testBit_of_ne_zero hn
      rw [Nat.testBit_and, bitsOf_test, Bool.and_eq_true, decide_eq_true_iff] at hj
      refine ⟨j, ?_, hj.1, by omega⟩
      have := Nat.ge_two_pow_of_testBit hj.1
      exact (Nat.pow_lt_pow_iff_right (a := 2) (by decide)).mp (Nat.lt_of_le_of_lt this h)
    · rintro ⟨j, _, h1, h2⟩ e
      have := congrArg (fun x => x.testBit j) e
      simp only [Nat.testBit_and, bitsOf_test, h1, Nat.zero_testBit, Bool.true_and] at this
      have := of_decide_eq_false this
      omega
  rw [Bool.eq_iff_iff, bne_iff_ne, key, List.any_eq_true]
  constructor
  · rintro ⟨j, h1, h2, h3⟩
    refine ⟨j, List.mem_range.mpr h1, ?_⟩
    rw [h2, Bool.true_and, bne_iff_ne]
    exact h3
  · rintro ⟨j, h1, h2⟩
    rw [Bool.and_eq_true, bne_iff_ne] at h2
    exact ⟨j, List.mem_range.mp h1, h2.1, h2.2⟩
/-- what the program asks of a set -/
def staysM (ps : List (Nat × Nat)) (z : Nat) : Bool := ps.all fun p => !(z &&& p.2 != 0 && z &&& p.1 == 0)
def pairsM (rs : List (Vec × Vec)) : List (Nat × Nat) := rs.map fun q => (bitsOf q.1, bitsOf q.2)
theorem beq_bne (a : Nat) : (a == 0) = !(a != 0) := by simp [bne]
theorem stays_eq {s : Net} {ns : List Bytes} {rs : List (Vec × Vec)} (R : Rel s ns rs) {z : Nat} (h1 : 1 ≤ z) (h2 : z < 2 ^ ns.length) : stays s z = staysM (pairsM rs) z := by
  unfold stays staysM pairsM
  rw [R.size, R.count, decide_eq_true h2, Bool.true_and, show (z != 0) = true from bne_iff_ne.mpr (by omega), Bool.true_and, List.all_map, Bool.eq_iff_iff, List.all_eq_true, List.all_eq_true]
  have one : ∀ r q, rs[r]? = some q → (!((List.range ns.length).any fun j => z.testBit j && gives s r j != 0) || (List.range ns.length).any fun j => z.testBit j && takes s r j != 0) = !(z &&& bitsOf q.2 != 0 && z &&& bitsOf q.1 == 0) := fun r q hq => by
    have e1 : ((List.range ns.length).any fun j => z.testBit j && gives s r j != 0) = (z &&& bitsOf q.2 != 0) := by
      rw [and_bits h2]
      congr 1
      funext j
      rw [R.gives, List.getD_eq_getElem?_getD (l := rs), hq]
      rfl
    have e2 : ((List.range ns.length).any fun j => z.testBit j && takes s r j != 0) = (z &&& bitsOf q.1 != 0) := by
      rw [and_bits h2]
      congr 1
      funext j
      rw [R.takes, List.getD_eq_getElem?_getD (l := rs), hq]
      rfl
    rw [e1, e2, beq_bne, Bool.not_and, Bool.not_not]
  constructor
  · intro h q hq
    obtain ⟨r, hr⟩ := List.getElem?_of_mem hq
    have := h r (List.mem_range.mpr (List.getElem?_eq_some_iff.mp hr).1)
    rw [one r q hr] at this
    exact this
  · intro h r hr
    have hr' := List.mem_range.mp hr
    rw [one r _ (List.getElem?_eq_getElem hr')]
    exact h _ (List.getElem_mem hr')
/-- the sets that are found below z -/
theorem minOf_one (s : Net) : minOf (stays s) 1 = [] := by
  rw [minOf_succ, minOf_zero]
  have : stays s 0 = false := rfl
  rw [this]
  rfl
theorem minOf_step {s : Net} {ns : List Bytes} {rs : List (Vec × Vec)} (R : Rel s ns rs) {z : Nat} (h1 : 1 ≤ z) (h2 : z < 2 ^ ns.length) :
    minOf (stays s) (z + 1) = if (!((minOf (stays s) z).any fun o => z &&& o == o) && staysM (pairsM rs) z) = true then minOf (stays s) z ++ [z] else minOf (stays s) z := by
  rw [minOf_succ, stays_eq R h1 h2, Bool.and_comm]
  have e : ((minOf (stays s) z).any fun x => (x &&& z) == x) = (minOf (stays s) z).any fun o => z &&& o == o := by
    congr 1
    funext x
    rw [Nat.and_comm]
  rw [e]
/-- what empty answers -/
def emptyM (m : Int) (b : Bytes) : List Int := if m < 0 then [-2] else match netOf b with
  | .inr k => [-100 - (k : Int)]
  | .inl s => ((empties s).length : Int) :: ((empties s).take m.toNat).map fun x : Nat => (x : Int)
end Rn
end
section
namespace Rn
open Sa55

/-! ### steps, over the reader's tuples -/
def lacks (n : Nat) (a t : List Nat) : Bool := (List.range n).any fun j => decide (a.getD j 0 < t.getD j 0)
def after (n : Nat) (a t g : List Nat) : List Nat := (List.range n).map fun j => a.getD j 0 - t.getD j 0 + g.getD j 0
def goM (n : Nat) (rs : List (Vec × Vec)) : Nat → List Nat → List Nat → List Nat × Int
  | k, a, [] => (a, k)
  | k, a, r :: l =>
    if lacks n a (rs.getD r ([], [])).1 = true then (a, k)
    else if ((after n a (rs.getD r ([], [])).1 (rs.getD r ([], [])).2).any fun x => decide (2 ^ 32 ≤ x)) = true then (a, -5)
    else goM n rs (k + 1) (after n a (rs.getD r ([], [])).1 (rs.getD r ([], [])).2) l
theorem go_eq {s : Net} {ns : List Bytes} {rs : List (Vec × Vec)} (R : Rel s ns rs) : ∀ (l : List Nat) (k : Nat) (a : List Nat), Sa55.go s k a l = goM ns.length rs k a l
  | [], k, a => rfl
  | r :: l, k, a => by
    have e1 : ((List.range (Sa55.size s)).any fun j => decide (a.getD j 0 < takes s r j)) = lacks ns.length a (rs.getD r ([], [])).1 := by
      unfold lacks
      rw [R.size]
      congr 1
      funext j
      rw [R.takes]
    have e2 : ((List.range (Sa55.size s)).map fun j => a.getD j 0 - takes s r j + gives s r j) = after ns.length a (rs.getD r ([], [])).1 (rs.getD r ([], [])).2 := by
      unfold after
      rw [R.size]
      congr 1
      funext j
      rw [R.takes, R.gives]
    unfold Sa55.go Sa55.step goM
    rw [e1]
    by_cases h1 : lacks ns.length a (rs.getD r ([], [])).1 = true
    · rw [if_pos h1, if_pos h1]
    · rw [if_neg h1, if_neg h1]
      dsimp only
      rw [e2]
      by_cases h2 : ((after ns.length a (rs.getD r ([], [])).1 (rs.getD r ([], [])).2).any fun x => decide (2 ^ 32 ≤ x)) = true
      · rw [if_pos h2, if_pos h2]
      · rw [if_neg h2, if_neg h2]
        exact go_eq R l (k + 1) _
/-! ### weights -/
def weighM (n : Nat) (a t : List Nat) (c : Nat) : Nat := ((List.range n).map fun j => choose (a.getD j 0) (t.getD j 0)).foldl (· * ·) c
theorem weight_eq {s : Net} {ns : List Bytes} {rs : List (Vec × Vec)} (R : Rel s ns rs) (a rates : List Nat) (r : Nat) : weight s a rates r = weighM ns.length a (rs.getD r ([], [])).1 (rates.getD r 0) := by
  unfold weight weighM
  rw [R.size]
  congr 1
  congr 1
  funext j
  rw [R.takes]
def weighsM (n : Nat) (rs : List (Vec × Vec)) (a rates : List Nat) : List Nat := (List.range rs.length).map fun r => weighM n a (rs.getD r ([], [])).1 (rates.getD r 0)
theorem weights_eq {s : Net} {ns : List Bytes} {rs : List (Vec × Vec)} (R : Rel s ns rs) (a rates : List Nat) : weights s a rates = weighsM ns.length rs a rates := by
  unfold weights weighsM
  rw [R.count]
  congr 1
  funext r
  exact weight_eq R a rates r
def drawM (ws : List Nat) (u : Nat) : Option Nat := (List.range ws.length).find? fun r => decide (u * ws.sum < (ws.take (r + 1)).sum * 2 ^ 64)
theorem drawn_eq {s : Net} {ns : List Bytes} {rs : List (Vec × Vec)} (R : Rel s ns rs) (a rates : List Nat) (u : Nat) : drawn s a rates u = drawM (weighsM ns.length rs a rates) u := by
  unfold drawn drawM
  rw [weights_eq R]
  have : Sa55.count s = (weighsM ns.length rs a rates).length := by
    unfold weighsM
    rw [R.count, List.length_map, List.length_range]
  rw [this]
/-- the product up to a place -/
theorem weigh_zero (a t : List Nat) (c : Nat) : weighM 0 a t c = c := rfl
theorem weigh_succ (n : Nat) (a t : List Nat) (c : Nat) : weighM (n + 1) a t c = weighM n a t c * choose (a.getD n 0) (t.getD n 0) := by
  unfold weighM
  rw [List.range_succ, List.map_append, List.foldl_append]
  rfl
theorem weigh_c (n : Nat) (a t : List Nat) (c : Nat) : weighM n a t c = c * weighM n a t 1 := by
  induction n with
  | zero => rw [weigh_zero, weigh_zero, Nat.mul_one]
  | succ n ih => rw [weigh_succ, weigh_succ, ih, Nat.mul_assoc]
theorem weigh_le {n : Nat} {a t : List Nat} {c : Nat} (ha : ∀ x ∈ a, x ≤ 1000) : weighM n a t c ≤ c * 2 ^ (1000 * n) := by
  induction n with
  | zero => rw [weigh_zero, Nat.mul_zero, Nat.pow_zero, Nat.mul_one]; exact Nat.le_refl _
  | succ n ih =>
    rw [weigh_succ, Nat.mul_add, Nat.mul_one, Nat.pow_add, ← Nat.mul_assoc]
    refine Nat.mul_le_mul ih (Nat.le_trans (choose_le _ _) (Nat.pow_le_pow_right (by decide) ?_))
    rw [List.getD_eq_getElem?_getD]
    cases h : a[n]? with
    | none => exact Nat.zero_le _
    | some x => exact ha x (List.mem_of_getElem? h)
theorem sum_le {l : List Nat} {b : Nat} (h : ∀ x ∈ l, x ≤ b) : l.sum ≤ l.length * b := by
  induction l with
  | nil => simp
  | cons x l ih =>
    rw [List.sum_cons, List.length_cons, Nat.add_mul, Nat.one_mul, Nat.add_comm]
    exact Nat.add_le_add (ih fun y hy => h y (List.mem_cons_of_mem _ hy)) (h x (by simp))
theorem sum_take_le (l : List Nat) (k : Nat) : (l.take k).sum ≤ l.sum := by
  have := List.take_append_drop k l
  have e := congrArg List.sum this
  rw [List.sum_append] at e
  omega
/-- none is drawn where all weigh nothing; else one is -/
theorem draw_none {ws : List Nat} {u : Nat} (h : ws.sum = 0) : drawM ws u = none := by
  unfold drawM
  rw [List.find?_eq_none]
  intro r _
  have := sum_take_le ws (r + 1)
  rw [h] at this ⊢
  have e : (ws.take (r + 1)).sum = 0 := by omega
  rw [e]
  simp
theorem draw_some {ws : List Nat} {u : Nat} (h : ws.sum ≠ 0) (hu : u < 2 ^ 64) : ∃ r, drawM ws u = some r := by
  cases e : drawM ws u with
  | some r => exact ⟨r, rfl⟩
  | none =>
    exfalso
    unfold drawM at e
    rw [List.find?_eq_none] at e
    have hl : 0 < ws.length := by
      cases ws with
      | nil => exact absurd rfl h
      | cons x l => simp
    have := e (ws.length - 1) (List.mem_range.mpr (by omega))
    apply this
    rw [decide_eq_true_iff, show ws.length - 1 + 1 = ws.length by omega, List.take_length, Nat.mul_comm]
    exact Nat.mul_lt_mul_of_pos_left hu (by omega)
/-- the first at or behind k, nothing drawn before -/
theorem draw_first {ws : List Nat} {u r : Nat} (hr : r < ws.length) (hb : ∀ k, k < r → ¬ u * ws.sum < (ws.take (k + 1)).sum * 2 ^ 64) (h : u * ws.sum < (ws.take (r + 1)).sum * 2 ^ 64) : drawM ws u = some r := by
  unfold drawM
  rw [List.find?_eq_some_iff_getElem]
  refine ⟨decide_eq_true h, r, by rw [List.length_range]; exact hr, by rw [List.getElem_range], fun j hj => ?_⟩
  rw [List.getElem_range, Bool.not_eq_true', decide_eq_false_iff_not]
  exact hb j hj
theorem take_sum_succ {ws : List Nat} {k w : Nat} (h : ws[k]? = some w) : (ws.take (k + 1)).sum = (ws.take k).sum + w := by
  rw [List.take_add_one, h, List.sum_append]
  simp
end Rn
end
section
namespace Rn
open Sa55

theorem within_len {n : Nat} (h : n ≤ 65536) : within (n : Int) 0 65536 = true := by
  unfold within
  rw [decide_eq_true (show (0 : Int) ≤ (n : Int) by omega), decide_eq_true (show (n : Int) ≤ 65536 by omega)]
  rfl
/-- what go answers -/
def goAns (b a q : List Nat) : List Int := match netOf b with
  | .inr j => (-100 - (j : Int)) :: a.map fun x : Nat => (x : Int)
  | .inl s => if (q.any fun r => decide (count s ≤ r)) = true then -5 :: a.map fun x : Nat => (x : Int) else (Sa55.go s 0 a q).2 :: (Sa55.go s 0 a q).1.map fun x : Nat => (x : Int)
theorem nat_back {a : List Int} (h : ∀ x ∈ a, 0 ≤ x) : (a.map Int.toNat).map (fun x : Nat => (x : Int)) = a := by
  rw [List.map_map]
  conv => rhs; rw [← List.map_id a]
  apply List.map_congr_left
  intro x hx
  have := h x hx
  show ((x.toNat : Nat) : Int) = x
  omega
theorem go_is {t a q : List Int} (ht : t.length ≤ 2000) (hq : q.length ≤ 300) (ha : ∀ x ∈ a, 0 ≤ x) (hp : ∀ x ∈ q, 0 ≤ x) : PySa55.go t a q = goAns (t.map Int.toNat) (a.map Int.toNat) (q.map Int.toNat) := by
  have e : PySa55.go t a q = if (within (t.length : Int) 0 65536 && within (q.length : Int) 0 65536) = false then -2 :: a else match netOf (t.map Int.toNat) with
      | .inr j => (-100 - (j : Int)) :: a
      | .inl s => if (q.any fun r => decide ((count s : Int) ≤ r)) = true then -5 :: a else (Sa55.go s 0 (a.map Int.toNat) (q.map Int.toNat)).2 :: (Sa55.go s 0 (a.map Int.toNat) (q.map Int.toNat)).1.map fun x : Nat => (x : Int) := rfl
  rw [e, within_len (by omega), within_len (by omega), if_neg (by decide)]
  unfold goAns
  rw [nat_back ha]
  cases netOf (t.map Int.toNat) with
  | inr j => rfl
  | inl s =>
    dsimp only
    have e2 : ((q.map Int.toNat).any fun r => decide (count s ≤ r)) = q.any fun r => decide ((count s : Int) ≤ r) := by
      rw [List.any_map, Bool.eq_iff_iff, List.any_eq_true, List.any_eq_true]
      constructor
      · rintro ⟨x, h1, h2⟩
        have h3 := hp x h1
        have h4 : count s ≤ x.toNat := of_decide_eq_true h2
        exact ⟨x, h1, decide_eq_true (by omega)⟩
      · rintro ⟨x, h1, h2⟩
        have h3 := hp x h1
        have h4 := of_decide_eq_true h2
        exact ⟨x, h1, decide_eq_true (show count s ≤ x.toNat by omega)⟩
    rw [e2]
theorem go_ask {t a q : List Int} (h : PySa55.go_asked t a q = true) : ∀ s, netOf (t.map Int.toNat) = .inl s → a.length = Sa55.size s := by
  intro s hs
  have e : PySa55.go_asked t a q = (Sa55Neutral.text t (t.length : Int) && (Sa55Neutral.numbers a && (Sa55Neutral.whole (q.length : Int) 32 && (q.all (fun (z : Int) => Sa55Neutral.natural z 8) && (decide (q.length ≤ 300) && (decide ((q.length : Int) = if 0 ≤ (q.length : Int) ∧ (q.length : Int) ≤ 65536 then (q.length : Int) else 0) &&
    (match netOf (t.map Int.toNat) with
    | .inr _ => true
    | .inl s => a.length == Sa55.size s && true))))))) := rfl
  rw [e, hs] at h
  simp only [Bool.and_eq_true] at h
  exact beq_iff_eq.mp h.2.2.2.2.2.2.1
/-- what draw answers -/
def drawAns (u : Nat) (b a q : List Nat) : List Int := match netOf b with
  | .inr j => [-100 - (j : Int)]
  | .inl s => if (a.any fun x => decide (1000 < x)) = true ∨ (q.any fun x => decide (1000000 < x)) = true then [-2] else match drawn s a q u with
    | some r => [(r : Int)]
    | none => [-5]
theorem any_nat {a : List Int} (h : ∀ x ∈ a, 0 ≤ x) (n : Nat) : ((a.map Int.toNat).any fun x => decide (n < x)) = a.any fun x => decide ((n : Int) < x) := by
  rw [List.any_map, Bool.eq_iff_iff, List.any_eq_true, List.any_eq_true]
  constructor
  · rintro ⟨x, h1, h2⟩
    have h3 := h x h1
    have h4 : n < x.toNat := of_decide_eq_true h2
    exact ⟨x, h1, decide_eq_true (by omega)⟩
  · rintro ⟨x, h1, h2⟩
    have h3 := h x h1
    have h4 := of_decide_eq_true h2
    exact ⟨x, h1, decide_eq_true (show n < x.toNat by omega)⟩
theorem draw_is {u : Int} {t a q : List Int} (ht : t.length ≤ 2000) (ha : ∀ x ∈ a, 0 ≤ x) (hp : ∀ x ∈ q, 0 ≤ x) : PySa55.draw u t a q = drawAns u.toNat (t.map Int.toNat) (a.map Int.toNat) (q.map Int.toNat) := by
  have e : PySa55.draw u t a q = if within (t.length : Int) 0 65536 = false then [-2] else match netOf (t.map Int.toNat) with
      | .inr k => [-100 - (k : Int)]
      | .inl s => if a.any (fun x => decide (1000 < x)) = true ∨ q.any (fun x => decide (1000000 < x)) = true then [-2] else match drawn s (a.map Int.toNat) (q.map Int.toNat) u.toNat with
        | some r => [(r : Int)]
        | none => [-5] := rfl
  rw [e, within_len (by omega), if_neg (by decide)]
  unfold drawAns
  rw [any_nat ha, any_nat hp]
  rfl
theorem draw_ask {u : Int} {t a q : List Int} (h : PySa55.draw_asked u t a q = true) : ∀ s, netOf (t.map Int.toNat) = .inl s → a.length = Sa55.size s ∧ q.length = Sa55.count s := by
  intro s hs
  have e : PySa55.draw_asked u t a q = (Sa55Neutral.text t (t.length : Int) && (Sa55Neutral.natural u 64 && (Sa55Neutral.numbers a && (Sa55Neutral.numbers q &&
    (match netOf (t.map Int.toNat) with
    | .inr _ => true
    | .inl s => a.length == Sa55.size s && (q.length == Sa55.count s)))))) := rfl
  rw [e, hs] at h
  simp only [Bool.and_eq_true] at h
  exact ⟨beq_iff_eq.mp h.2.2.2.2.1, beq_iff_eq.mp h.2.2.2.2.2⟩
end Rn
end
section
namespace Rn
open Sa55

/-! ### go, as it is walked -/
def lkB (a t : List Nat) (i : Nat) : List Bool := (List.range i).map fun j => decide (a.getD j 0 < t.getD j 0)
theorem lkB_succ (a t : List Nat) (i : Nat) : lkB a t (i + 1) = lkB a t i ++ [decide (a.getD i 0 < t.getD i 0)] := by
  unfold lkB
  rw [List.range_succ, List.map_append]
  rfl
theorem lkB_len (a t : List Nat) (i : Nat) : (lkB a t i).length = i := by
  unfold lkB
  rw [List.length_map, List.length_range]
theorem lkB_any (a t : List Nat) (n : Nat) : (lkB a t n).any id = lacks n a t := by
  unfold lkB lacks
  rw [List.any_map]
  rfl
theorem lacks_no {n : Nat} {a t : List Nat} (h : lacks n a t ≠ true) : ∀ j, j < n → t.getD j 0 ≤ a.getD j 0 := fun j hj => by
  by_cases z : a.getD j 0 < t.getD j 0
  · refine absurd ?_ h
    unfold lacks
    rw [List.any_eq_true]
    exact ⟨j, List.mem_range.mpr hj, decide_eq_true z⟩
  · omega
theorem after_succ (i : Nat) (a t g : List Nat) : after (i + 1) a t g = after i a t g ++ [a.getD i 0 - t.getD i 0 + g.getD i 0] := by
  unfold after
  rw [List.range_succ, List.map_append]
  rfl
theorem after_len (n : Nat) (a t g : List Nat) : (after n a t g).length = n := by
  unfold after
  rw [List.length_map, List.length_range]
theorem getD_of {α : Type} {l : List α} {i : Nat} {x d : α} (h : l[i]? = some x) : l.getD i d = x := by
  rw [List.getD_eq_getElem?_getD, h]
  rfl
section
variable {n : Nat} {rs : List (Vec × Vec)} {k r : Nat} {a l : List Nat} {pr : Vec × Vec}
theorem goM_lack (hr : rs[r]? = some pr) (h : lacks n a pr.1 = true) : goM n rs k a (r :: l) = (a, (k : Int)) := by
  unfold goM
  rw [getD_of hr, if_pos h]
theorem goM_over (hr : rs[r]? = some pr) (h : lacks n a pr.1 ≠ true) (h2 : ((after n a pr.1 pr.2).any fun x => decide (2 ^ 32 ≤ x)) = true) : goM n rs k a (r :: l) = (a, -5) := by
  unfold goM
  rw [getD_of hr, if_neg h, if_pos h2]
theorem goM_next (hr : rs[r]? = some pr) (h : lacks n a pr.1 ≠ true) (h2 : ((after n a pr.1 pr.2).any fun x => decide (2 ^ 32 ≤ x)) ≠ true) : goM n rs k a (r :: l) = goM n rs (k + 1) (after n a pr.1 pr.2) l := by
  conv => lhs; unfold goM
  rw [getD_of hr, if_neg h, if_neg h2]
end
theorem any_over {l : List Nat} {m : Nat} (h1 : m = 0 ∨ m ∈ l) (h2 : ∀ y ∈ l, y ≤ m) (c : Nat) : (l.any fun x => decide (c < x)) = decide (c < m) := by
  by_cases z : c < m
  · rw [decide_eq_true z, List.any_eq_true]
    rcases h1 with e | e
    · omega
    · exact ⟨m, e, decide_eq_true z⟩
  · rw [decide_eq_false z, List.any_eq_false]
    intro x hx
    have := h2 x hx
    rw [decide_eq_true_iff]
    omega
theorem any_over32 {l : List Nat} {m : Nat} (h1 : m = 0 ∨ m ∈ l) (h2 : ∀ y ∈ l, y ≤ m) : (l.any fun x => decide (2 ^ 32 ≤ x)) = decide (4294967295 < m) :=
  (show (l.any fun x => decide (2 ^ 32 ≤ x)) = l.any fun x => decide (4294967295 < x) from rfl).trans (any_over h1 h2 4294967295)
theorem goAns_bad {b a q : List Nat} {k : Nat} (h : netOf b = .inr k) : goAns b a q = (-100 - (k : Int)) :: a.map fun x : Nat => (x : Int) := by
  unfold goAns
  rw [h]
theorem all_in {q : List Nat} {c : Nat} : (q.any fun r => decide (c ≤ r)) = !(q.all fun r => decide (r < c)) := by
  induction q with
  | nil => rfl
  | cons x q ih =>
    rw [List.any_cons, List.all_cons, ih, Bool.not_and]
    congr 1
    by_cases z : x < c
    · rw [decide_eq_true z, decide_eq_false (show ¬ c ≤ x by omega)]; rfl
    · rw [decide_eq_false z, decide_eq_true (show c ≤ x by omega)]; rfl
theorem goAns_in {b a q : List Nat} {s : Net} {ns : List Bytes} {rs : List (Vec × Vec)} (h : netOf b = .inl s) (R : Rel s ns rs) (hq : (q.all fun x => decide (x < rs.length)) = true) :
    goAns b a q = (goM ns.length rs 0 a q).2 :: (goM ns.length rs 0 a q).1.map fun x : Nat => (x : Int) := by
  unfold goAns
  rw [h]
  dsimp only
  rw [R.count, all_in, hq, if_neg (by decide), go_eq R]
theorem goAns_out {b a q : List Nat} {s : Net} {ns : List Bytes} {rs : List (Vec × Vec)} (h : netOf b = .inl s) (R : Rel s ns rs) (hq : (q.all fun x => decide (x < rs.length)) = false) :
    goAns b a q = -5 :: a.map fun x : Nat => (x : Int) := by
  unfold goAns
  rw [h]
  dsimp only
  rw [R.count, all_in, hq, if_pos (by decide)]
/-! ### draw, as it is walked -/
theorem choose_step (a k : Nat) : ((choose a k : Nat) : Int) * ((a : Int) - (k : Int)) / ((k : Int) + 1) = ((choose a (k + 1) : Nat) : Int) := by
  by_cases z : k ≤ a
  · have e : (a : Int) - (k : Int) = ((a - k : Nat) : Int) := by omega
    have e2 : (k : Int) + 1 = ((k + 1 : Nat) : Int) := by omega
    rw [e, e2, ← Int.natCast_mul, ← Int.natCast_ediv, choose_div]
  · rw [choose_out (show a < k by omega), choose_out (show a < k + 1 by omega)]
    simp
def wsTo (n : Nat) (rs : List (Vec × Vec)) (a rates : List Nat) (i : Nat) : List Nat := (List.range i).map fun r => weighM n a (rs.getD r ([], [])).1 (rates.getD r 0)
theorem wsTo_all (n : Nat) (rs : List (Vec × Vec)) (a rates : List Nat) : wsTo n rs a rates rs.length = weighsM n rs a rates := rfl
theorem wsTo_succ (n : Nat) (rs : List (Vec × Vec)) (a rates : List Nat) (i : Nat) : wsTo n rs a rates (i + 1) = wsTo n rs a rates i ++ [weighM n a (rs.getD i ([], [])).1 (rates.getD i 0)] := by
  unfold wsTo
  rw [List.range_succ, List.map_append]
  rfl
theorem wsTo_len (n : Nat) (rs : List (Vec × Vec)) (a rates : List Nat) (i : Nat) : (wsTo n rs a rates i).length = i := by
  unfold wsTo
  rw [List.length_map, List.length_range]
theorem mul_lt_pow {c e : Nat} (h : c < 2 ^ 100) : c * 2 ^ e < 2 ^ (100 + e) := by
  rw [Nat.pow_add]
  exact Nat.mul_lt_mul_of_pos_right h (Nat.two_pow_pos _)
theorem weigh_lt {n : Nat} {a t : List Nat} {c : Nat} (hn : n ≤ 24) (ha : ∀ x ∈ a, x ≤ 1000) (hc : c ≤ 1000000) : weighM n a t c < 2 ^ 24100 := by
  have h1 := weigh_le (n := n) (t := t) (c := c) ha
  have h2 : 2 ^ (1000 * n) ≤ 2 ^ 24000 := Nat.pow_le_pow_right (by decide) (by omega)
  exact Nat.lt_of_le_of_lt (Nat.le_trans h1 (Nat.mul_le_mul hc h2)) (mul_lt_pow (e := 24000) (by decide))
theorem sum_lt {l : List Nat} (hl : l.length ≤ 24) (h : ∀ x ∈ l, x < 2 ^ 24100) : l.sum < 2 ^ 24200 := by
  have h1 : l.sum ≤ l.length * 2 ^ 24100 := sum_le fun x hx => Nat.le_of_lt (h x hx)
  exact Nat.lt_of_le_of_lt (Nat.le_trans h1 (Nat.mul_le_mul_right _ hl)) (mul_lt_pow (e := 24100) (by decide))
theorem draw_no {ws : List Nat} {u : Nat} (h : ∀ k, k < ws.length → ¬ u * ws.sum < (ws.take (k + 1)).sum * 2 ^ 64) : drawM ws u = none := by
  unfold drawM
  rw [List.find?_eq_none]
  intro r hr
  rw [decide_eq_true_iff]
  exact h r (List.mem_range.mp hr)
def drawI (ws : List Nat) (u : Nat) : Int := match drawM ws u with
  | some r => (r : Int)
  | none => -5
theorem drawI_first {ws : List Nat} {u r : Nat} (hr : r < ws.length) (hb : ∀ k, k < r → ¬ u * ws.sum < (ws.take (k + 1)).sum * 2 ^ 64) (h : u * ws.sum < (ws.take (r + 1)).sum * 2 ^ 64) : drawI ws u = (r : Int) := by
  unfold drawI
  rw [draw_first hr hb h]
theorem drawI_no {ws : List Nat} {u : Nat} (h : ∀ k, k < ws.length → ¬ u * ws.sum < (ws.take (k + 1)).sum * 2 ^ 64) : drawI ws u = -5 := by
  unfold drawI
  rw [draw_no h]
theorem drawAns_bad {u : Nat} {b a q : List Nat} {k : Nat} (h : netOf b = .inr k) : drawAns u b a q = [-100 - (k : Int)] := by
  unfold drawAns
  rw [h]
theorem drawAns_out {u : Nat} {b a q : List Nat} {s : Net} (h : netOf b = .inl s) (hx : (a.any fun x => decide (1000 < x)) = true ∨ (q.any fun x => decide (1000000 < x)) = true) : drawAns u b a q = [-2] := by
  unfold drawAns
  rw [h]
  dsimp only
  rw [if_pos hx]
theorem drawAns_in {u : Nat} {b a q : List Nat} {s : Net} {ns : List Bytes} {rs : List (Vec × Vec)} (h : netOf b = .inl s) (R : Rel s ns rs) (h1 : (a.any fun x => decide (1000 < x)) ≠ true) (h2 : (q.any fun x => decide (1000000 < x)) ≠ true) :
    drawAns u b a q = [drawI (weighsM ns.length rs a q) u] := by
  unfold drawAns drawI
  rw [h]
  dsimp only
  rw [if_neg (fun z => z.elim h1 h2), drawn_eq R]
  cases drawM (weighsM ns.length rs a q) u <;> rfl
theorem all_le {a : List Nat} {c : Nat} (h : (a.any fun x => decide (c < x)) ≠ true) : ∀ x ∈ a, x ≤ c := fun x hx => by
  by_cases z : c < x
  · exact absurd (List.any_eq_true.mpr ⟨x, hx, decide_eq_true z⟩) h
  · omega
end Rn
end
section
namespace Rx
open PySem

/-! ### an exception in flight, over any heap -/
/-- the frames' slots may change, of the records at ex nothing is said, all else stands -/
def Sl (fs ex : List Addr) (h h' : Heap) : Prop :=
  (∀ b o, b ∉ fs → b ∉ ex → h.get? b = some o → h'.get? b = some o) ∧ ∀ b o, b ∉ ex → h.get? b = some o → ∃ sl, h'.get? b = some { o with slots := sl }
theorem Sl.trans {fs ex ex' : List Addr} {h h1 h2 : Heap} (x : Sl fs ex h h1) (y : Sl fs ex' h1 h2) : Sl fs (ex ++ ex') h h2 := by
  refine ⟨fun b o h1 h2 e => y.1 b o h1 (fun z => h2 (by simp [z])) (x.1 b o h1 (fun z => h2 (by simp [z])) e), fun b o h2 e => ?_⟩
  obtain ⟨s1, e1⟩ := x.2 b o (fun z => h2 (by simp [z])) e
  obtain ⟨s2, e2⟩ := y.2 b _ (fun z => h2 (by simp [z])) e1
  exact ⟨s2, e2⟩
theorem dict_mapFields (o : Obj) (f) : (o.mapFields f).dict = o.dict := by
  obtain ⟨c, d, dt, sl⟩ := o
  cases dt <;> rfl
/-- an own exception: its record, its dict -/
structure Ex (h : Heap) (e : Addr) (c : Value) (dx : Addr) (vs : Array Value) : Prop where
  ob : ∃ o, h.get? e = some o ∧ o.cls = c ∧ o.dict = some dx ∧ o.data = .fields vs
/-- its traceback, and where it flies -/
structure Tb (h : Heap) (e : Addr) (vs : Array Value) (T : Addr) (fl : Value) : Prop where
  at1 : vs[1]? = some (.ref T)
  ne : T ≠ e
  ob : ∃ o ts, h.get? T = some o ∧ o.data = .fields ts ∧ ts[3]? = some fl

section
variable {M : Model} {A : Around} {E : Value → Shared → Prop} {s : Shared} {base : Heap} {env : Env} {outer : List Env} {L e T : Addr} {c fl : Value} {dx : Addr} {vs : Array Value} {Q : Unit → Shared → Prop}

theorem entry_own {head : Value} {had : Bool} (fr : A.frames = some (env :: outer)) (ff : s.heap.FunFrames base (env :: outer)) (lf : env.frame = some L) (x : Ex s.heap e c dx vs) (sz : 1 < vs.size)
    (q : ∀ h' T vs', Sl ((env :: outer).filterMap (·.frame)) [e] s.heap h' → s.heap.objs.size ≤ T → Ex h' e c dx vs' → Tb h' e vs' T (rawInt L) → Q () { s with heap := h' }) :
    wpAny M A (do
      let a ← frameOf env
      let pl ← entryPlaceOf L had
      let b ← EntryCells.newEntry head a .none (rawInt L) .none pl
      setField (.ref e) 1 b) Q E s := by
  obtain ⟨oe, ge, kc, kd, kf⟩ := x.ob
  have notF : e ∉ (env :: outer).filterMap (·.frame) := fun m => by
    obtain ⟨_, o, g, n⟩ := ff.mem m
    rw [ge] at g
    cases g
    exact n vs kf
  refine wpAny_bind (wpAny_frameOf_fun fr ff lf fun h1 s1 => ?_)
  refine wpAny_bind (wpAny_entryPlaceOf fun pl ok => ?_)
  unfold EntryCells.newEntry newFields
  refine wpAny_bind (wpAny_newObj_type ?_ (ok.sizeOk5 ..))
  have g1 : h1.get? e = some oe := (s1.2.1 e notF).trans ge
  generalize ho : ({ cls := .type "traceback", dict := none, data := .fields ([head, .ref L, .none, rawInt L, .none] ++ (if pl.isEmpty then List.replicate 6 Value.none else pl)).toArray } : Obj) = ot
  have kt : ot.data = .fields ([head, .ref L, .none, rawInt L, .none] ++ (if pl.isEmpty then List.replicate 6 Value.none else pl)).toArray := by rw [← ho]
  have g2 : (h1.push ot).get? e = some oe := Heap.get?_push_of_some _ g1
  refine wpAny_setField g2 kf sz ?_
  have ne : h1.objs.size ≠ e := Nat.ne_of_gt (Heap.lt_size g1)
  have kf3 := Obj.data_mapFields kf (·.setIfInBounds 1 (Value.ref h1.objs.size))
  have g3 := Heap.get?_update_self (Obj.mapFields (·.setIfInBounds 1 (Value.ref h1.objs.size))) g2 (Obj.isFreed_of_fields kf3)
  have gT : (h1.push ot).get? h1.objs.size = some ot := Heap.get?_push_size h1 (by rw [← ho]; rfl)
  refine q _ h1.objs.size _ ⟨fun b o nf nx g => ?_, fun b o nx g => ?_⟩ ?_ ⟨_, g3, (Obj.cls_mapFields _ _).trans kc, (dict_mapFields _ _).trans kd, kf3⟩ ⟨by simp [sz], ne, ot, _, ?_, kt, ?_⟩
  · have nb : b ≠ e := fun z => nx (by simp [z])
    rw [Heap.get?_update_other _ _ (Ne.symm nb)]
    exact Heap.get?_push_of_some _ ((s1.2.1 b nf).trans g)
  · have nb : b ≠ e := fun z => nx (by simp [z])
    obtain ⟨sl, gs⟩ := s1.2.2 b o g
    exact ⟨sl, by rw [Heap.get?_update_other _ _ (Ne.symm nb)]; exact Heap.get?_push_of_some _ gs⟩
  · rw [s1.1]
    exact Nat.le_refl _
  · rw [Heap.get?_update_other _ _ (Ne.symm ne)]
    exact gT
  · simp

/-- the traceback's own mark is set -/
theorem flight_own {fr : Option Addr} (x : Ex s.heap e c dx vs) (t : Tb s.heap e vs T fl)
    (q : ∀ h', Sl [] [T] s.heap h' → Ex h' e c dx vs → Tb h' e vs T (fr.elim .none fun f => rawInt f) → Q () { s with heap := h' }) : wpAny M A (setFlight (.ref e) fr) Q E s := by
  obtain ⟨oe, ge, kc, kd, kf⟩ := x.ob
  obtain ⟨ot, ts, gt, kt, k3⟩ := t.ob
  unfold setFlight
  refine wpAny_bind (wpAny_field ge kf t.at1 ?_)
  rw [if_pos (show (Value.ref T != Value.none) = true by simp)]
  have sz : 3 < ts.size := (Array.getElem?_eq_some_iff.mp k3).1
  refine wpAny_setField gt kt sz (q _ ⟨fun b o _ nx g => ?_, fun b o nx g => ⟨o.slots, ?_⟩⟩ ⟨oe, ?_, kc, kd, kf⟩ ⟨t.at1, t.ne, _, _, Heap.get?_update_self _ gt (Obj.isFreed_of_fields (Obj.data_mapFields kt _)), Obj.data_mapFields kt _, by simp [sz]⟩)
  · rw [Heap.get?_update_other _ _ (fun z => nx (by simp [z]))]
    exact g
  · rw [Heap.get?_update_other _ _ (fun z => nx (by simp [z]))]
    exact g
  · rw [Heap.get?_update_other _ _ t.ne]
    exact ge

/-- noteFrame: a new exception, one that comes from a callee, one that is noted here already -/
theorem note_own (fr : A.frames = some (env :: outer)) (ff : s.heap.FunFrames base (env :: outer)) (lf : env.frame = some L) (x : Ex s.heap e c dx vs)
    (hd : vs[1]? = some .none ∨ (∃ T, Tb s.heap e vs T .none) ∨ ∃ T, Tb s.heap e vs T (rawInt L))
    (q : ∀ h' T vs' ex, Sl ((env :: outer).filterMap (·.frame)) ex s.heap h' → (∀ b ∈ ex, b = e ∨ vs[1]? = some (.ref b)) → (s.heap.objs.size ≤ T ∨ vs[1]? = some (.ref T)) → Ex h' e c dx vs' → Tb h' e vs' T (rawInt L) → Q () { s with heap := h' }) :
    wpAny M A (noteFrame (.ref e) env) Q E s := by
  obtain ⟨oe, ge, kc, kd, kf⟩ := id x.ob
  unfold noteFrame
  simp only [lf]
  rcases hd with k1 | ⟨T, t⟩ | ⟨T, t⟩
  · refine wpAny_bind (wpAny_field ge kf k1 ?_)
    rw [if_neg (by decide)]
    exact entry_own fr ff lf x (Array.getElem?_eq_some_iff.mp k1).1 fun h' T vs' a b c d => q h' T vs' [e] a (fun b hb => .inl (by simpa using hb)) (.inl b) c d
  · obtain ⟨ot, ts, gt, kt, k3⟩ := id t.ob
    refine wpAny_bind (wpAny_field ge kf t.at1 ?_)
    rw [if_pos (show (Value.ref T != Value.none) = true by simp)]
    refine wpAny_bind (wpAny_field gt kt k3 ?_)
    rw [if_neg (show ¬ ((Value.none == rawInt L) = true) by simp [rawInt])]
    have sz : 3 < ts.size := (Array.getElem?_eq_some_iff.mp k3).1
    refine wpAny_bind (wpAny_setField gt kt sz ?_)
    have oth : ∀ b, b ≠ T → (s.heap.update T (Obj.mapFields (·.setIfInBounds 3 Value.none))).get? b = s.heap.get? b := fun b nb => Heap.get?_update_other _ _ (Ne.symm nb)
    have gT' : (s.heap.update T (Obj.mapFields (·.setIfInBounds 3 Value.none))).get? T = some (Obj.mapFields (·.setIfInBounds 3 Value.none) ot) := Heap.get?_update_self _ gt (Obj.isFreed_of_fields (Obj.data_mapFields kt _))
    have first : Sl [] [T] s.heap (s.heap.update T (Obj.mapFields (·.setIfInBounds 3 Value.none))) :=
      ⟨fun b o _ nx g => (oth b (fun z => nx (by simp [z]))).trans g, fun b o nx g => ⟨o.slots, (oth b (fun z => nx (by simp [z]))).trans g⟩⟩
    have ff' : (s.heap.update T (Obj.mapFields (·.setIfInBounds 3 Value.none))).FunFrames base (env :: outer) := ff.of_keeps fun b o g n =>
      ⟨o, (oth b (fun z => by rw [z, gt] at g; cases g; exact n ts kt)).trans g, rfl⟩
    refine entry_own (s := { s with heap := s.heap.update T (Obj.mapFields (·.setIfInBounds 3 Value.none)) }) fr ff' lf ⟨oe, (oth e (Ne.symm t.ne)).trans ge, kc, kd, kf⟩ (Array.getElem?_eq_some_iff.mp t.at1).1 fun h' T' vs' a b c d => ?_
    refine q h' T' vs' [T, e] ⟨fun b o nf nx g => a.1 b o nf (fun z => nx (by simp at z; simp [z])) (first.1 b o (by simp) (fun z => nx (by simp at z; simp [z])) g), fun b o nx g => ?_⟩ (fun b hb => ?_) (.inl ?_) c d
    · obtain ⟨_, g1⟩ := first.2 b o (fun z => nx (by simp at z; simp [z])) g
      obtain ⟨sl, g2⟩ := a.2 b _ (fun z => nx (by simp at z; simp [z])) g1
      exact ⟨sl, g2⟩
    · simp at hb
      rcases hb with z | z
      · exact .inr (by rw [z]; exact t.at1)
      · exact .inl z
    · rw [← Heap.size_after_update s.heap T (Obj.mapFields (·.setIfInBounds 3 Value.none))]
      exact b
  · obtain ⟨ot, ts, gt, kt, k3⟩ := id t.ob
    refine wpAny_bind (wpAny_field ge kf t.at1 ?_)
    rw [if_pos (show (Value.ref T != Value.none) = true by simp)]
    refine wpAny_bind (wpAny_field gt kt k3 ?_)
    rw [if_pos (show (rawInt L == rawInt L) = true by simp)]
    exact wpAny_pure (q s.heap T vs [] ⟨fun _ _ _ _ g => g, fun b o _ g => ⟨o.slots, g⟩⟩ (fun b hb => nomatch hb) (.inr t.at1) x t)
end
end Rx
end
section
namespace Rx
open PySem
open Builtin Builtin.ObjectAttr

/-! ### an attribute of an own exception, out of its dict -/
section
variable {prog : Program} {w : World} {A : Around} {E : Value → Shared → Prop} {h : Heap} {g : Array GenState} {d : Drawn} {t : Nat} {os : OsState}
variable {nm q : Str} {C N a dx : Addr} {bs bm : List Value} {sn : List Str} {sub : List Value} {ab : Bool} {col : Option Bool} {dd : Option Addr} {k0 k1 k2 k3 k5 : Option Value} {newId : String}
variable {mN mA : Str → Option Value} {name : Str} {v : Value} {o : Obj} {vs : Array Value}

theorem own_entry {tk : Tok} {Q : Fin → Shared → Prop} (FB : ExcAttrBase "Exception" bm)
    (gC : h.get? C = some (excClassObj nm q C N bs bm true sn sub ab col dd k0 k1 k2 k3 k5 newId)) (hn : h.Ns N mN) (n1 : mN name = none) (n2 : typeLookup (.type "Exception") name = pure none)
    (ga : h.get? a = some o) (kc : o.cls = .ref C) (kd : o.dict = some dx) (kf : o.data = .fields vs) (nd : h.Ns1 dx mA) (hv : mA name = some v) (hq : Q (.done (.ret v)) ⟨h, g, d, t, os⟩) :
    wpAny (model prog w) A (Builtin.«object.__getattribute__» ⟨[.ref a, .str name tk], []⟩) Q E ⟨h, g, d, t, os⟩ := by
  unfold Builtin.«object.__getattribute__»
  repeat (first
    | (with_reducible refine wpAny_loadPart_at ga ?_; rw [kc])
    | (with_reducible refine wpAny_typeLookup_exc gC hn FB.mro n2 ?_; rw [n1])
    | wp_step)
  split
  · rename_i z
    rw [kf] at z
    cases z
  unfold instanceDict
  repeat (first
    | (with_reducible refine wpAny_loadPart_at ga ?_; rw [kc])
    | with_reducible refine wpAny_loadPart_at gC ?_
    | wp_step)
  rw [kd]
  repeat (first
    | (with_reducible refine wpAny_nsGet nd.ns ?_; rw [hv])
    | wp_step)
  exact hq

theorem own_call {tk : Tok} {R : Result → Shared → Prop} (FB : ExcAttrBase "Exception" bm)
    (gC : h.get? C = some (excClassObj nm q C N bs bm true sn sub ab col dd k0 k1 k2 k3 k5 newId)) (hn : h.Ns N mN) (n1 : mN name = none) (n2 : typeLookup (.type "Exception") name = pure none)
    (ga : h.get? a = some o) (kc : o.cls = .ref C) (kd : o.dict = some dx) (kf : o.data = .fields vs) (nd : h.Ns1 dx mA) (hv : mA name = some v) (hq : R (.ok (.ret v)) ⟨h, g, d, t, os⟩) :
    codeAny (model prog w) A (.call (.builtin "BaseException.__getattribute__") ⟨[.ref a, .str name tk], []⟩) R ⟨h, g, d, t, os⟩ :=
  codeAny_call_builtin FB.ga.plain F.entry_bexc_ga (wpAny_check_ga_own FB gC .base ga kc (own_entry FB gC hn n1 n2 ga kc kd kf nd hv hq))

theorem own_attr {ex : Bool} {Q : Value → Shared → Prop} (FB : ExcAttrBase "Exception" bm)
    (gC : h.get? C = some (excClassObj nm q C N bs bm true sn sub ab col dd k0 k1 k2 k3 k5 newId)) (hn : h.Ns N mN) (n1 : mN name = none) (n2 : typeLookup (.type "Exception") name = pure none)
    (n3 : mN "__getattribute__" = none) (n4 : mN "__getattr__" = none)
    (ga : h.get? a = some o) (kc : o.cls = .ref C) (kd : o.dict = some dx) (kf : o.data = .fields vs) (nd : h.Ns1 dx mA) (hv : mA name = some v) (hh : handedOut v = pure v) (hq : Q v ⟨h, g, d, t + 1, os⟩) :
    wpAny (model prog w) A (getAttr (.ref a) name ex) Q E ⟨h, g, d, t, os⟩ := by
  have b1 := FB.ga.bind (.ref a)
  have b2 : (ex && onTheHeap (Value.builtin "BaseException.__getattribute__")) = false := by cases ex <;> rfl
  have b3 : (Value.builtin "BaseException.__getattribute__" == Value.builtin "object.__getattribute__") = false := by decide +kernel
  have b4 : (onTheHeap (Value.ref C) && Value.builtin "BaseException.__getattribute__" == Value.builtin "object.__getattribute__") = false := by
    rw [b3]
    rfl
  unfold getAttr
  repeat (any_goals (first
    | assumption
    | (with_reducible refine wpAny_loadPart_at ga ?_; rw [kc])
    | (with_reducible refine wpAny_typeLookup_exc gC hn FB.mro FB.ga.lookup ?_; rw [n3])
    | (with_reducible refine wpAny_typeLookup_exc gC hn FB.mro FB.noGetattr ?_; rw [n4])
    | wp_step))
  refine own_call FB gC hn n1 n2 ga kc kd kf nd hv ?_
  repeat (any_goals (first | assumption | (rw [hh]) | wp_step))
end
end Rx
end
section
namespace Rx
open PySem

/-! ### raise C(..), C an own exception with an __init__ of its own -/
section
variable {M : Model} {A : Around} {E : Value → Shared → Prop} {env : Env}
variable {nm q : Str} {C N : Addr} {bs bm : List Value} {hdct : Bool} {sn : List Str} {sub : List Value} {ab : Bool} {col : Option Bool} {dd : Option Addr} {k0 k1 k2 k3 k5 : Option Value} {newId : String}

abbrev excRec (C dx t : Addr) (sl : Array (Option Value)) : Obj := { cls := .ref C, dict := some dx, data := .fields #[.ref t, .none, .none, .none, .bool false, .none], slots := sl }

theorem raise_own {s : Shared} {x : Sem Value} {Q : Flow → Shared → Prop} (hb : bm.contains (.type "BaseException") = true) (hh : A.handled = none)
    (h : wpAny M A x (fun v s1 => ∃ e dx t sl, v = .ref e ∧ s1.heap.get? C = some (excClassObj nm q C N bs bm hdct sn sub ab col dd k0 k1 k2 k3 k5 newId) ∧ s1.heap.get? e = some (excRec C dx t sl) ∧ E (.ref e) s1) E s) :
    wpAny M A (raiseStmt env (some x) none) Q E s := by
  have cB : (Value.ref C :: bm).contains (.type "BaseException") = true := by
    rw [List.contains_cons, hb, Bool.or_true]
  unfold raiseStmt
  refine wpAny_bind (wpAny_mono h (fun v s1 h1 => ?_) fun _ _ z => z)
  obtain ⟨e, dx, t, sl, rfl, gC, ge, hE⟩ := h1
  obtain ⟨hp, g, d, tk, os⟩ := s1
  repeat (first
    | with_reducible refine wpAny_loadPart_at ge ?_
    | with_reducible refine wpAny_loadPart_at gC ?_
    | (with_reducible refine wpAny_isSubtype_exc gC ?_; rw [cB])
    | wp_step)
  exact wpAny_raiseNew_none hh hE
end

section
variable {prog : Program} {w : World} {A : Around} {E : Value → Shared → Prop} {s : Shared} {env : Env}
variable {nm q : Str} {C N : Addr} {bs bm : List Value} {hdct : Bool} {sn : List Str} {sub : List Value} {ab : Bool} {col : Option Bool} {dd : Option Addr} {k0 k1 k2 k3 k5 : Option Value} {newId : String}

theorem Raise_own {x : Str} {np cpos pos : Pos} {e0 : Expr} {Q : Flow → Shared → Prop} (hb : bm.contains (.type "BaseException") = true) (hh : A.handled = none)
    (hs : starEach [e0] env = [(false, eval e0 env)])
    (h : wpAny (model prog w) A (eval (.Name x np) env) (fun f s1 => f = .ref C ∧ wpAny (model prog w) A (spliced (backTo cpos (starEach [e0] env)))
      (fun us s2 => s2.heap.get? C = some (excClassObj nm q C N bs bm hdct sn sub ab col dd k0 k1 k2 k3 k5 newId) ∧
        wpAny (model prog w) A (call (.ref C) us) (fun v s3 => ∃ e dx t sl, v = .ref e ∧ s3.heap.get? C = some (excClassObj nm q C N bs bm hdct sn sub ab col dd k0 k1 k2 k3 k5 newId) ∧ s3.heap.get? e = some (excRec C dx t sl) ∧ E (.ref e) s3) E s2) E s1) E s) :
    wpAny (model prog w) A (exec (.Raise (some (.Call (.Name x np) [e0] [] cpos)) none pos) env) Q E s := by
  have core : wpAny (model prog w) A (eval (.Call (.Name x np) [e0] [] cpos) env) (fun v s3 => ∃ e dx t sl, v = .ref e ∧ s3.heap.get? C = some (excClassObj nm q C N bs bm hdct sn sub ab col dd k0 k1 k2 k3 k5 newId) ∧ s3.heap.get? e = some (excRec C dx t sl) ∧ E (.ref e) s3) E s := by
    refine wpAny_Call_ofName (wpAny_mono h (fun f s1 h1 => ?_) fun _ _ z => z)
    obtain ⟨rfl, h1⟩ := h1
    unfold callWith
    have pl : (backTo cpos (starEach [e0] env)).any (·.1) = false := by rw [hs]; rfl
    rw [hs] at h1 pl ⊢
    refine wpAny_bind (wpAny_holding (Calls.evalArgs_plain (wpAny_mono h1 (fun us s2 h2 => wpAny_bind (wpAny_standAt ?_)) fun _ _ z => z)))
    obtain ⟨gC, h2⟩ := h2
    obtain ⟨hp, g, d, tk, os⟩ := s2
    simp only [pl]
    refine wpAny_bind (wpAny_keeperOf_exc gC ?_)
    exact wpAny_bind (wpAny_mono h2 (fun v s3 h3 => wpAny_bind (wpAny_holding (wpAny_point (wpAny_pure h3)))) fun _ _ z => z)
  rw [arm_exec_Raise]
  first
    | exact wpAny_bind (wpAny_standAt (raise_own hb hh (wpAny_bind (wpAny_mono core (fun v s3 h3 => wpAny_bind (wpAny_standAt (wpAny_pure h3))) fun _ _ z => z))))
    | (simp only [evalOpt, Option.map]
       exact wpAny_bind (wpAny_standAt (raise_own hb hh (wpAny_bind (wpAny_mono core (fun v s3 h3 => wpAny_bind (wpAny_standAt (wpAny_pure h3))) fun _ _ z => z)))))
end
end Rx
end
section
namespace Rx
open PySem

/-! ### except C as n, C the exception's own class; nothing is raised in the suite -/
section
variable {prog : Program} {w : World} {A : Around} {E : Value → Shared → Prop} {s : Shared} {env : Env}
variable {nm q : Str} {C N : Addr} {bs bm : List Value} {hdct : Bool} {sn : List Str} {sub : List Value} {ab : Bool} {col : Option Bool} {dd : Option Addr} {k0 k1 k2 k3 k5 : Option Value} {newId : String}

theorem handle_own {e : Addr} {t : Expr} {n : Str} {b0 : Stmt} {suite : List Stmt} {pos : Pos} {rest : List ExceptHandler} {Q : Flow → Shared → Prop} (hb : bm.contains (.type "BaseException") = true)
    (h : wpAny (model prog w) (A.mark (some (.ref e))) (eval t env) (fun c s1 => c = .ref C ∧ s1.heap.get? C = some (excClassObj nm q C N bs bm hdct sn sub ab col dd k0 k1 k2 k3 k5 newId) ∧ (∃ oe, s1.heap.get? e = some oe ∧ oe.cls = .ref C) ∧
      wpAny (model prog w) (A.mark (some (.ref e))) (setFlight (.ref e) none) (fun _ s2 =>
        wpAny (model prog w) (A.mark (some (.ref e))) (storeName env n (.ref e)) (fun _ s3 =>
          wpAny (model prog w) (A.mark (some (.ref e))) (execs (b0 :: suite) env)
            (fun f s4 => wpAny (model prog w) A (do bindName env n .none; unbindBehindTheSuite env n pos) (fun _ s5 => Q f s5) E s4) (fun _ _ => False) s3) (fun _ _ => False) s2) (fun _ _ => False) s1) (fun _ _ => False) s) :
    wpAny (model prog w) A (handleBy (.ref e) env (.ExceptHandler (some t) (some n) (b0 :: suite) pos :: rest)) Q E s := by
  refine wpAny_handleBy_cons (codeAny_handlers_test (wpAny_mono h (fun c s1 h1 => ?_) fun _ _ z => z.elim)) (by intro z; cases z)
  obtain ⟨rfl, gC, ⟨oe, ge, kc⟩, h1⟩ := h1
  obtain ⟨hp, g, d, tk, os⟩ := s1
  refine wpAny_excMatches_sub_self gC ge kc hb ?_
  refine codeAny_handlers_suite_as (wpAny_mono h1 (fun _ s2 h2 => ?_) fun _ _ z => z.elim)
  refine wpAny_mono h2 (fun _ s3 h3 => ?_) fun _ _ z => z.elim
  exact wpAny_mono h3 (fun f s4 h4 => h4) fun _ _ z => z.elim
end
end Rx
end
section
namespace Rx
open PySem
open Builtin Builtin.ObjectAttr

/-! ### the first attribute of an own exception: its dict is made -/
section
variable {prog : Program} {w : World} {A : Around} {E : Value → Shared → Prop} {h : Heap} {g : Array GenState} {d : Drawn} {t : Nat} {os : OsState}
variable {nm q : Str} {C N x : Addr} {bs bm : List Value} {sn : List Str} {sub : List Value} {ab : Bool} {col : Option Bool} {dd : Option Addr} {k0 k1 k2 k3 k5 : Option Value} {B newId sa owner : String}
variable {mN : Str → Option Value} {name : Str} {v : Value} {vs : Array Value} {o : Obj}

theorem first_entry {tk : Tok} {Q : Fin → Shared → Prop} (SF : StoreFacts B bm sa owner)
    (gC : h.get? C = some (excClassObj nm q C N bs bm true sn sub ab col dd k0 k1 k2 k3 k5 newId)) (hn : h.Ns N mN) (n1 : mN name = none) (n2 : typeLookup (.type B) name = pure none)
    (gx : h.get? x = some o) (kc : o.cls = .ref C) (kd : o.dict = none) (kf : o.data = .fields vs)
    (hq : ∀ h' tk', h'.get? x = some { cls := o.cls, dict := some h.objs.size, data := o.data, slots := o.slots } → h'.Ns1 h.objs.size (fun y => if y = name then some v else none) →
      (∀ b ob, b ≠ x → h.get? b = some ob → h'.get? b = some ob) → Q (.done (.ret .none)) ⟨h', g, d, tk', os⟩) :
    wpAny (model prog w) A (Builtin.«object.__setattr__» ⟨[.ref x, .str name tk, v], []⟩) Q E ⟨h, g, d, t, os⟩ := by
  have pass := SF.passes (.ref x)
  unfold Builtin.«object.__setattr__»
  repeat (first
    | rw [refuse_eq]
    | (rw [refuseLoop_ref, pass])
    | (with_reducible refine wpAny_loadPart_at gx ?_; rw [kc])
    | with_reducible refine wpAny_mroOf_exc gC ?_
    | (with_reducible refine wpAny_typeLookup_exc gC hn SF.mro n2 ?_; rw [n1])
    | wp_step)
  have nx : x ≠ h.objs.size := Nat.ne_of_lt (Heap.lt_size gx)
  have gx1 : (h.push { cls := .type "dict", data := .dict #[] }).get? x = some o := Heap.get?_push_of_some _ gx
  generalize hu : ((h.push { cls := .type "dict", data := .dict #[] }).update x fun o => { cls := o.cls, dict := some h.objs.size, data := o.data, slots := o.slots }) = h1
  have gd : h1.get? h.objs.size = some { cls := .type "dict", data := .dict #[] } := by
    rw [← hu, Heap.get?_update_ne _ _ _ _ nx.symm]
    exact Heap.get?_push_at rfl rfl
  have gx2 : h1.get? x = some { cls := o.cls, dict := some h.objs.size, data := o.data, slots := o.slots } := by
    rw [← hu]
    refine Heap.get?_update_self _ gx1 ?_
    obtain ⟨oc, od, odt, osl⟩ := o
    cases kf
    rfl
  have ne : h1.Ns h.objs.size (fun _ => none) := ⟨_, #[], _, gd, rfl, fun e he => absurd he (by simp), fun _ => rfl⟩
  rw [kd, if_neg (by simp [typeHasDict])]
  split
  · rename_i z
    cases z
  split
  · rename_i z
    rw [kf] at z
    cases z
  · refine wpAny_bind (wpAny_alloc' (wpAny_bind (wpAny_update' gx1 (wpAny_pure ?_))))
    rw [hu]
    show wpAny _ _ (storeInDict h.objs.size (.str name tk) name v) _ _ _
    unfold storeInDict newKeyGuard
    refine wpAny_bind (wpAny_pure (wpAny_bind (wpAny_nsSet1 (Heap.Ns1.of_empty ne) fun h2 nn sb => ?_)))
    obtain ⟨oD, eD, pD, gD, dD, cD⟩ := nn.count (Within.cons name v Within.nil)
    refine wpAny_bind (wpAny_lookBehind gD ?_ ?_)
    · rw [dD]
      refine pastItsLine_dict (Nat.le_trans cD ?_)
      rw [List.length_cons, List.length_nil, sizeLine_eq]
      omega
    · wp_walk
      refine hq h2 _ ((sb.2 x nx).trans gx2) nn fun b ob nb gb => (sb.2 b (Nat.ne_of_lt (Heap.lt_size gb))).trans ?_
      rw [← hu]
      exact (Heap.get?_update_ne _ _ _ _ nb).trans (Heap.get?_push_of_some _ gb)

theorem first_attr {Q : Unit → Shared → Prop} (SF : StoreFacts B bm sa owner)
    (gC : h.get? C = some (excClassObj nm q C N bs bm true sn sub ab col dd k0 k1 k2 k3 k5 newId)) (hn : h.Ns N mN) (n0 : mN "__setattr__" = none) (n1 : mN name = none) (n2 : typeLookup (.type B) name = pure none)
    (gx : h.get? x = some o) (kc : o.cls = .ref C) (kd : o.dict = none) (kf : o.data = .fields vs)
    (hq : ∀ h' tk', h'.get? x = some { cls := o.cls, dict := some h.objs.size, data := o.data, slots := o.slots } → h'.Ns1 h.objs.size (fun y => if y = name then some v else none) →
      (∀ b ob, b ≠ x → h.get? b = some ob → h'.get? b = some ob) → Q () ⟨h', g, d, tk', os⟩) :
    wpAny (model prog w) A (setAttr (.ref x) name v) Q E ⟨h, g, d, t, os⟩ := by
  have b1 := SF.slot.bind (.ref x)
  unfold setAttr callSpecial? specialOf
  repeat (any_goals (first
    | assumption
    | (with_reducible refine wpAny_loadPart_at gx ?_; rw [kc])
    | (with_reducible refine wpAny_typeLookup_exc gC hn SF.mro SF.slot.lookup ?_; rw [n0])
    | wp_step))
  refine codeAny_call_builtin SF.slot.plain SF.entry (wpAny_check_sa SF gC gx kc (first_entry SF gC hn n1 n2 gx kc kd kf fun h' tk' a b c => ?_))
  repeat (any_goals (first | assumption | wp_step))
  exact hq h' _ a b c
end
end Rx
end
section
namespace Rx
open PySem

/-! ### len of any exact dict -/
section
variable {prog : Program} {w : World} {A : Around} {E : Value → Shared → Prop} {s : Shared} {d : Addr} {o : Obj} {es : Array DictEntry} {ep : Nat}
theorem meets_len (hd : (d == sysModules) = false) : MeetsIn prog w (Builtin.«dict.__len__» ⟨[.ref d], []⟩)
    (fun _ R s => ∃ o es ep, s.heap.get? d = some o ∧ o.data = .dict es ep ∧ R (.ok (.ret (.int es.size s.toks))) { s with toks := s.toks + 1 }) :=
  .of_wp fun A R s ⟨o, es, ep, g, k, h⟩ => by
    show wpAny _ _ (dictSize d >>= _) _ _ s
    unfold dictSize
    refine wpAny_bind (wpAny_bind (wpAny_dictEntries g k (wpAny_pure ?_)))
    show wpAny _ _ (Builtin.Dict.pendingCount d >>= _) _ _ s
    refine wpAny_bind (wpAny_pendingCount_other hd (wpAny_ret_mkInt ?_))
    rw [Nat.add_zero]
    exact h
theorem len_exact {Q : Value → Shared → Prop} (hd : (d == sysModules) = false) (g : s.heap.get? d = some o) (x : o.ExactDict) (k : o.data = .dict es ep) (fit : (es.size : Int) < 2 ^ 63)
    (h : Q (.int es.size (s.toks + 1)) { s with toks := s.toks + 1 + 1 }) : wpAny (model prog w) A (call (.builtin "len") [.ref d]) Q E s := by
  have ty : s.TypeIs (.ref d) "dict" := ⟨o, g, x.1⟩
  refine Calls.call_function_entry kind_len plain_len entry_len (args_len1 _) ?_
  unfold Builtin.«len»
  refine wpAny_bind (m := oneArg "len" _) (wpAny_pure ?_)
  refine wpAny_bind (m := callSpecial? (.ref d) (Str.ofString "__len__")) (wpAny_callSpecial?_slot (name := Str.ofString "__len__") ty F.slot_dict_len
    (call_meetsIn F.slot_dict_len ty F.entry_dict_len (F.args_dict_len_1 _) (meets_len hd) ⟨o, es, ep, g, k, ?_⟩))
  show wpAny _ _ _ _ _ { s with toks := s.toks + 1 }
  refine wpAny_bind (wpAny_holding (wpAny_pure (wpAny_bind (wpAny_letGo ?_))))
  show wpAny _ _ (if ((es.size : Nat) : Int) < 0 then _ else _) _ _ _
  rw [if_neg (by omega)]
  show wpAny _ _ (if ((es.size : Nat) : Int) ≥ 2 ^ 63 then _ else _) _ _ _
  rw [if_neg (by omega)]
  exact wpAny_bind (wpAny_mkInt (wpAny_pure ⟨_, rfl, h⟩))
end
end Rx
end
section
namespace Xn
open PySem PySem.Spec L2
open PyProof.Rows hiding St

/-! ### every tracked object stands in the heap -/
theorem ob_there {P : Program} {w : World} {H : Hp} {h : Heap} {a : Addr} {o : HO} (x : ObjOk P w H h a o) : ∃ ob, h.get? a = some ob := by
  cases o with
  | lst xs => obtain ⟨_, _, _, _, e⟩ := x; exact ⟨_, e⟩
  | tup xs => obtain ⟨_, _, _, ob, e, _⟩ := x; exact ⟨ob, e⟩
  | dK kvs => obtain ⟨_, _, _, _, o, _, _, e, _⟩ := x; exact ⟨o, e⟩
  | dT kvs => obtain ⟨_, _, _, _, o, _, _, e, _⟩ := x; exact ⟨o, e⟩
  | set S n => obtain ⟨o, _, _, _, e, _⟩ := x; exact ⟨o, e⟩
  | ins C dx fs => obtain ⟨_, _, _, e, _⟩ := x; exact ⟨_, e⟩
  | own y => exact x
  | xd fs => obtain ⟨_, ⟨o, _, _, e, _⟩, _⟩ := x; exact ⟨o, e⟩
  | rng lo hi => obtain ⟨_, _, _, e⟩ := x; exact ⟨_, e⟩
  | frz ob u => obtain ⟨e, _⟩ := x; exact ⟨ob, e⟩
  | tbl ps => exact ⟨_, (show h.get? a = some _ from x)⟩
  | met f y => exact ⟨_, (show h.get? a = some _ from x)⟩
  | ext φ => exact x.2.1
theorem free_of {P : Program} {w : World} {H : Hp} {h : Heap} {a : Addr} (x : HOk P w H h) (e : h.get? a = none) : H a = none := by
  cases q : H a with
  | none => rfl
  | some o =>
    obtain ⟨ob, z⟩ := ob_there (x a o q)
    rw [e] at z
    cases z

/-! ### a def's own context -/
structure DefCx (X : Cx) : Prop where
  pn : X.pn = []
  ex : X.ex = []
  stk : X.stack = X.env :: X.outer
  fr : X.env.frame = some X.env.locals

section
variable {X : Cx} {σ : St} {H : Hp} {s : Shared} {h' : Heap}
/-- what an exception's passing writes: slots of frames, the records at ch -/
theorem inv_sl {ch : List Addr} (D : DefCx X) (I : Inv X [] σ H s) (st : Rx.Sl (frs X.stack) ch s.heap h')
    (hch : ∀ b ∈ ch, X.s_0.heap.get? b = none ∧ H b = none ∧ ∃ o vs, s.heap.get? b = some o ∧ o.data = .fields vs) : Inv X [] σ H { s with heap := h' } := by
  have nch : ∀ b o, s.heap.get? b = some o → (∀ vs, o.data ≠ .fields vs) → b ∉ ch := fun b o e n z => by
    obtain ⟨_, _, o', vs, e', d⟩ := hch b z
    rw [e] at e'
    cases e'
    exact n vs d
  have cellK : ∀ c v, s.heap.IsCell c v → h'.IsCell c v := fun c v ⟨o, ho, hd⟩ => by
    obtain ⟨sl, e⟩ := st.2 c o (nch c o ho fun vs z => by rw [hd] at z; cases z) ho
    exact ⟨_, e, hd⟩
  have s0ch : ∀ b o, X.s_0.heap.get? b = some o → b ∉ ch := fun b o e z => by
    rw [(hch b z).1] at e
    cases e
  have s0L : ∀ b o, X.s_0.heap.get? b = some o → b ≠ X.env.locals := fun b o e => Nat.ne_of_lt (Nat.lt_of_lt_of_le (Heap.lt_size e) I.ok.above)
  refine ⟨I.ok, I.os, I.bare, ⟨fun b o e n hb hx => ?_, fun b o e n hb hx => ?_, I.base.free, fun b o e hx => ?_, I.base.tups, I.base.frzs, I.base.tbls⟩, ?_, fun x c e => ?_, I.free, I.freeC, fun p hp => ?_, fun a o e => ?_, I.len⟩
  · refine st.1 b o (fun z => ?_) (s0ch b o e) (I.base.keep b o e n hb hx)
    rcases List.mem_cons.mp (I.stkSub b z) with z | z
    · exact s0L b o e z
    · exact hb z
  · obtain ⟨sl, e1⟩ := I.base.slot b o e n hb hx
    obtain ⟨sl', e2⟩ := st.2 b _ (s0ch b o e) e1
    exact ⟨sl', e2⟩
  · obtain ⟨o', e1⟩ := I.base.there b o e hx
    obtain ⟨sl', e2⟩ := st.2 b _ (s0ch b o e) e1
    exact ⟨_, e2⟩
  · obtain ⟨m, ⟨o, es, ep, ho, hd, r⟩, hl⟩ := I.loc
    obtain ⟨sl, e⟩ := st.2 _ o (nch _ o ho fun vs z => by rw [hd] at z; cases z) ho
    refine ⟨m, ⟨_, es, ep, e, hd, r⟩, fun i x v e1 e2 e3 => ?_⟩
    obtain ⟨u, rv, l⟩ := hl i x v e1 e2 e3
    refine ⟨u, rv, ?_⟩
    rcases l with l | ⟨k, c, ec, z⟩
    · exact .inl l
    · exact .inr ⟨k, c, ec, cellK c _ z⟩
  · obtain ⟨v, z⟩ := I.cell x c e
    exact ⟨v, cellK c v z⟩
  · rw [D.pn] at hp
    exact absurd hp (by simp)
  · refine (I.hok a o e).stay (fun b u hb q => st.1 b u (fun z => ?_) (fun z => ?_) q) (fun _ q => q) fun _ _ q => q
    · have hn := I.stkFree b z
      rcases hb with rfl | hb
      · rw [e] at hn; cases hn
      · rw [hb] at hn; cases hn
    · have hn := (hch b z).2.1
      rcases hb with rfl | hb
      · rw [e] at hn; cases hn
      · rw [hb] at hn; cases hn
end

/-! ### the exception in flight -/
/-- where its traceback stands; ok: what may be written -/
abbrev Hd := Heap → Addr → Array Value → (Addr → Prop) → Prop
def hdNew : Hd := fun _ _ vs _ => vs[1]? = some .none
def hdAt (fl : Value) : Hd := fun h e vs ok => ∃ T, ok T ∧ Rx.Tb h e vs T fl
def hdAny (L : Addr) : Hd := fun h e vs ok => hdNew h e vs ok ∨ hdAt .none h e vs ok ∨ hdAt (rawInt L) h e vs ok
/-- the exception of the class at C, its line in its dict -/
structure Xv (C : Addr) (h : Heap) (e : Addr) (k : Int) (dx : Addr) (vs : Array Value) (mA : Str → Option Value) : Prop where
  ex : Rx.Ex h e (.ref C) dx vs
  ns : h.Ns1 dx mA
  line : ∃ t, mA "line" = some (.int k t)
  no : ∀ y : Str, y ≠ "line" → mA y = none
/-- the frame's slots as they are told -/
def Fz (C : Addr) (X : Cx) (E : XK) (σ : St) (hd : Hd) : Value → Shared → Prop := fun v s => ∃ (e : Addr) (k : Int) (H : Hp) (dx : Addr) (vs : Array Value) (mA : Str → Option Value),
  v = .ref e ∧ Inv X [] σ H s ∧ Xv C s.heap e k dx vs mA ∧ X.s_0.heap.get? e = none ∧ H e = none ∧ (X.s_0.heap.get? dx = none ∧ dx ≠ X.env.locals ∧ H dx = none) ∧ E (.int k 0) none H ∧ hd s.heap e vs fun T => X.s_0.heap.get? T = none ∧ H T = none
def Fx (C : Addr) (X : Cx) (E : XK) (hd : Hd) : Value → Shared → Prop := fun v s => ∃ σ : St, Fz C X E σ hd v s
abbrev Fly (C : Addr) (X : Cx) (E : XK) : Value → Shared → Prop := Fx C X E (hdAny X.env.locals)
theorem Xv.sl {C : Addr} {h h' : Heap} {e : Addr} {k : Int} {dx : Addr} {vs vs' : Array Value} {mA : Str → Option Value} {fs ch : List Addr} (x : Xv C h e k dx vs mA) (st : Rx.Sl fs ch h h')
    (hch : ∀ b ∈ ch, ∃ o ws, h.get? b = some o ∧ o.data = .fields ws) (y : Rx.Ex h' e (.ref C) dx vs') : Xv C h' e k dx vs' mA := by
  refine ⟨y, ?_, x.line, x.no⟩
  obtain ⟨o, es, ep, ho, hd, r⟩ := x.ns
  obtain ⟨sl, q⟩ := st.2 dx o (fun z => by
    obtain ⟨o', ws, e', d⟩ := hch dx z
    rw [ho] at e'
    cases e'
    rw [hd] at d
    cases d) ho
  exact ⟨_, es, ep, q, hd, r⟩
section
variable {C : Addr} {X : Cx} {E : XK} {v : Value} {s : Shared} {M : Model} {E' : Value → Shared → Prop}
theorem fz_note {σ : St} (D : DefCx X) (h : Fz C X E σ (hdAny X.env.locals) v s) : wpAny M X.A (noteFrame v X.env) (fun _ s' => Fz C X E σ (hdAt (rawInt X.env.locals)) v s') E' s := by
  obtain ⟨e, k, H, dx, vs, mA, rfl, I, x, n0, nH, nd, hE, hd⟩ := h
  have hfr : X.A.frames = some (X.env :: X.outer) := by rw [← D.stk]; exact I.ok.frames
  have hff : s.heap.FunFrames X.base (X.env :: X.outer) := by rw [← D.stk]; exact I.stack
  obtain ⟨oe, ge, kc, kd, kf⟩ := id x.ex.ob
  have okT : ∀ T, vs[1]? = some (.ref T) → (X.s_0.heap.get? T = none ∧ H T = none) ∧ ∃ o ws, s.heap.get? T = some o ∧ o.data = .fields ws := fun T hT => by
    rcases hd with z | ⟨T', z, b⟩ | ⟨T', z, b⟩
    · rw [show vs[1]? = some Value.none from z] at hT
      cases hT
    · rw [b.at1] at hT
      cases hT
      obtain ⟨o, ts, e1, e2, _⟩ := b.ob
      exact ⟨z, o, ts, e1, e2⟩
    · rw [b.at1] at hT
      cases hT
      obtain ⟨o, ts, e1, e2, _⟩ := b.ob
      exact ⟨z, o, ts, e1, e2⟩
  have hd' : vs[1]? = some .none ∨ (∃ T, Rx.Tb s.heap e vs T .none) ∨ ∃ T, Rx.Tb s.heap e vs T (rawInt X.env.locals) := by
    rcases hd with z | ⟨T', z, b⟩ | ⟨T', z, b⟩
    · exact .inl z
    · exact .inr (.inl ⟨T', b⟩)
    · exact .inr (.inr ⟨T', b⟩)
  refine Rx.note_own hfr hff D.fr x.ex hd' fun h' T vs' ex st hex hT y tb => ?_
  have hch : ∀ b ∈ ex, X.s_0.heap.get? b = none ∧ H b = none ∧ ∃ o ws, s.heap.get? b = some o ∧ o.data = .fields ws := fun b hb => by
    rcases hex b hb with z | z
    · subst z
      exact ⟨n0, nH, oe, vs, ge, kf⟩
    · exact ⟨(okT b z).1.1, (okT b z).1.2, (okT b z).2⟩
  have st' : Rx.Sl (frs X.stack) ex s.heap h' := by rw [D.stk]; exact st
  refine ⟨e, k, H, dx, vs', mA, rfl, inv_sl D I st' hch, x.sl st (fun b hb => (hch b hb).2.2) y, n0, nH, nd, hE, T, ?_, tb⟩
  rcases hT with z | z
  · exact ⟨Heap.get?_none_of_le (Nat.le_trans I.sz z), I.hok.fresh z⟩
  · exact (okT T z).1
theorem fx_note (D : DefCx X) (h : Fly C X E v s) : wpAny M X.A (noteFrame v X.env) (fun _ s' => Fx C X E (hdAt (rawInt X.env.locals)) v s') E' s := by
  obtain ⟨σ, h⟩ := h
  exact wpAny_mono (fz_note D h) (fun _ s' q => ⟨σ, q⟩) fun _ _ z => z
theorem fz_flight {σ : St} {fl : Value} {fr : Option Addr} {A : Around} (D : DefCx X) (h : Fz C X E σ (hdAt fl) v s) : wpAny M A (setFlight v fr) (fun _ s' => Fz C X E σ (hdAt (fr.elim .none fun f => rawInt f)) v s') E' s := by
  obtain ⟨e, k, H, dx, vs, mA, rfl, I, x, n0, nH, nd, hE, T, okT, tb⟩ := h
  refine Rx.flight_own x.ex tb fun h' st y tb' => ?_
  obtain ⟨o, ts, e1, e2, _⟩ := tb.ob
  have hch : ∀ b ∈ [T], X.s_0.heap.get? b = none ∧ H b = none ∧ ∃ o ws, s.heap.get? b = some o ∧ o.data = .fields ws := fun b hb => by
    have z : b = T := by simpa using hb
    subst z
    exact ⟨okT.1, okT.2, o, ts, e1, e2⟩
  have st' : Rx.Sl (frs X.stack) [T] s.heap h' := ⟨fun b o _ => st.1 b o (by simp), st.2⟩
  exact ⟨e, k, H, dx, vs, mA, rfl, inv_sl D I st' hch, x.sl st (fun b hb => (hch b hb).2.2) y, n0, nH, nd, hE, T, okT, tb'⟩
theorem fx_flight {fl : Value} {fr : Option Addr} {A : Around} (D : DefCx X) (h : Fx C X E (hdAt fl) v s) : wpAny M A (setFlight v fr) (fun _ s' => Fx C X E (hdAt (fr.elim .none fun f => rawInt f)) v s') E' s := by
  obtain ⟨σ, h⟩ := h
  exact wpAny_mono (fz_flight D h) (fun _ s' q => ⟨σ, q⟩) fun _ _ z => z
/-- through a loop of the def -/
theorem fly_own (D : DefCx X) : PassesOwn M X.A X.env (Fly C X E) := by
  intro v s h
  refine wpAny_mono (fx_note (E' := fun _ _ => False) D h) (fun _ s1 h1 => ?_) fun _ _ z => z.elim
  unfold cameBackBy
  obtain ⟨σ, e, k, H, dx, vs, mA, rfl, I, x, n0, nH, nd, hE, T, okT, tb⟩ := id h1
  obtain ⟨oe, ge, kc, kd, kf⟩ := id x.ex.ob
  refine wpAny_bind (wpAny_field ge kf tb.at1 ?_)
  rw [if_neg (by simp)]
  refine wpAny_mono (fx_flight (E' := fun _ _ => False) D h1) (fun _ s2 h2 => ?_) fun _ _ z => z.elim
  obtain ⟨σ2, e2, k2, H2, dx2, vs2, mA2, q1, I2, x2, n02, nH2, nd2, hE2, q⟩ := h2
  rw [D.fr] at q
  exact ⟨σ2, e2, k2, H2, dx2, vs2, mA2, q1, I2, x2, n02, nH2, nd2, hE2, .inr (.inr q)⟩
/-- out of the def -/
theorem fly_leave (D : DefCx X) (h : Fly C X E v s) : wpAny M X.A (leaving X.env v) (fun _ s' => Fx C X E (hdAt .none) v s') E' s := by
  unfold leaving
  exact wpAny_bind (wpAny_mono (fx_note D h) (fun _ s1 h1 => fx_flight (fr := none) D h1) fun _ _ z => z)
end

/-! ### how it lies behind a call -/
def CXW (P : Program) (w : World) (C : Addr) : CXT := fun outer H s E v s' => ∃ (e : Addr) (k : Int) (H' : Hp) (dx : Addr) (vs : Array Value) (mA : Str → Option Value) (T : Addr),
  v = .ref e ∧ s'.os = s.os ∧ AllBare s'.gens ∧ Un (frs outer) [] H H' s.heap s'.heap ∧ HOk P w H' s'.heap ∧ Xv C s'.heap e k dx vs mA ∧ s.heap.get? e = none ∧ H' e = none ∧ s.heap.get? dx = none ∧ H' dx = none ∧ E (.int k 0) none H' ∧
    s.heap.get? T = none ∧ H' T = none ∧ Rx.Tb s'.heap e vs T .none
section
variable {C : Addr} {X : Cx} {E : XK} {v : Value} {s : Shared}
theorem cxw_of (D : DefCx X) (h : Fx C X E (hdAt .none) v s) : CXW X.prog X.w C X.outer X.H_0 X.s_0 E v s := by
  obtain ⟨σ, e, k, H, dx, vs, mA, rfl, I, x, n0, nH, nd, hE, T, okT, tb⟩ := h
  have u := I.base
  rw [D.ex] at u
  exact ⟨e, k, H, dx, vs, mA, T, rfl, I.os, I.bare, u, I.hok, x, n0, nH, nd.1, nd.2.2, hE, okT.1, okT.2, tb⟩
theorem fz_of {pins : List (Addr × Obj)} {σ : St} {H : Hp} {s' : Shared} (D : DefCx X) (I : Inv X pins σ H s) (h : CXW X.prog X.w C X.stack H s E v s') : Fz C X E σ (hdAny X.env.locals) v s' := by
  obtain ⟨e, k, H', dx, vs, mA, T, rfl, os, bare, un, hok, x, n0, nH, nd, ndH, hE, t0, tH, tb⟩ := h
  have old : ∀ b, s.heap.get? b = none → X.s_0.heap.get? b = none := fun b z => by
    cases q : X.s_0.heap.get? b with
    | none => rfl
    | some o =>
      obtain ⟨o', e'⟩ := I.base.there b o q (by rw [D.ex]; simp)
      rw [z] at e'
      cases e'
  have I0 : Inv X [] σ H s := I.pins_of (pins' := []) fun p hp => absurd hp (by simp)
  have I1 : Inv X [] σ H' s' := I0.call' (ch := []) os un hok bare fun b hb => absurd hb (by simp)
  have nL : dx ≠ X.env.locals := fun z => by
    obtain ⟨m, ⟨o, es, ep, ho, _⟩, _⟩ := I.loc
    rw [← z, nd] at ho
    cases ho
  exact ⟨e, k, H', dx, vs, mA, rfl, I1, x, old e n0, nH, ⟨old dx nd, nL, ndH⟩, hE, .inr (.inl ⟨T, ⟨old T t0, tH⟩, tb⟩)⟩
theorem fly_of {pins : List (Addr × Obj)} {σ : St} {H : Hp} {s' : Shared} (D : DefCx X) (I : Inv X pins σ H s) (h : CXW X.prog X.w C X.stack H s E v s') : Fly C X E v s' := ⟨σ, fz_of D I h⟩
theorem passW (D : DefCx X) : Passes (CXW X.prog X.w C) (X.wish (Fly C X E)) E := fun pins σ H s v s' I h => fly_of D I.unwish h
theorem PSs.unwish {st : List Stmt} {t : TS} {E' : Value → Shared → Prop} (h : PSs (X.wish E') st t) (hE : ∀ v s, E' v s → X.xe v s) : PSs X st t := fun pins s σ H D I hw =>
  wpAny_mono (h pins s σ H D (I.wish _) hw) (fun _ _ q => q.unwish) hE
end
section
variable {P : Program} {w : World} {K : PySem.W.Frag} {mg : Str → Option Value} {base : Heap} {C : Addr}
theorem defCx {CX : CXT} {N : List Str} {qual : Str} {scope : Scope} {f : Addr} {cd : Value} {A : Around} {outer : List Env} {s : Shared} {H : Hp} {E : XK} : DefCx (cxOf CX P w K mg base N qual scope f cd A outer s H E) := ⟨rfl, rfl, rfl, rfl⟩
/-- a def that may raise the exception -/
theorem okW {x qual : Str} {st : Stmt} {f : Addr} {fd : FuncData} {N ps : List Str} {k : Nat} {sp : Sp} (F : Fun K x qual st f fd) (S : FnScope N ps (defScope st)) (len : ∀ vs H Q E, sp vs H Q E → vs.length = ps.length)
    (hbody : ∀ (cdv : Value) (A : Around) (outer : List Env) (s : Shared) (H : Hp) (vs : List V) (Q : VK) (E : XK), Room k (A.deeper (envOfC qual (defScope st) s.heap.objs.size f cdv)) → sp vs H Q E →
      ∃ t, PSs ((cxOf (CXW P w C) P w K mg base N qual (defScope st) f cdv A outer s H E).wish (Fly C (cxOf (CXW P w C) P w K mg base N qual (defScope st) f cdv A outer s H E) E)) (defBody st) t ∧ t { nx := fun _ H' => Q .non H', rt := Q } (start N vs) H) :
    FnOk P w K mg base (CXW P w C) (k + 1) f fd ps sp := by
  obtain ⟨oc, od, kV, doc, pm, an, cdv, ct, osl, rfl, lk, hcd⟩ := F.ex
  refine fn_of lk hcd S len fun A outer s H vs Q E hr hsp => ?_
  obtain ⟨t, h, q⟩ := hbody cdv A outer s H vs Q E hr hsp
  refine ⟨t, PSs.unwish h fun v s' z => ?_, q⟩
  exact wpAny_mono (fly_leave (M := model P w) (E' := fun _ _ => False) defCx z) (fun _ s2 z2 => cxw_of (X := cxOf (CXW P w C) P w K mg base N qual (defScope st) f cdv A outer s H E) defCx z2) fun _ _ y => y.elim
end
end Xn
end
section
namespace Xn
open PySem PySem.Spec L2
open PyProof.Rows hiding St

/-! ### the exception's class as it stands behind the top -/
abbrev bmE : List Value := [.type "Exception", .type "BaseException", .type "object"]
structure XCls (K : PySem.W.Frag) (C fI : Addr) : Prop where
  ob : ∃ (nm q : Str) (N : Addr) (bs : List Value) (sn : List Str) (sub : List Value) (ab : Bool) (col : Option Bool) (dd : Option Addr) (k0 k1 k2 k3 k5 : Option Value) (on : Obj) (es : Array DictEntry) (ep : Nat) (oI : Obj),
    K.lookup C = some (excClassObj nm q C N bs bmE true sn sub ab col dd k0 k1 k2 k3 k5 "Exception.__new__") ∧ K.lookup N = some on ∧ on.data = .dict es ep ∧ StrKeys es ∧
    nsFind es "__init__" = some (.ref fI) ∧ nsFind es "line" = none ∧ nsFind es "__setattr__" = none ∧ nsFind es "__getattribute__" = none ∧ nsFind es "__getattr__" = none ∧ K.lookup fI = some oI ∧ oI.cls = .type "function"
theorem no_line : typeLookup (.type "Exception") "line" = pure none := by
  rw [typeLookup_type, builtinLookup_eq_fast]
  kernel_rfl
theorem has_base : bmE.contains (.type "BaseException") = true := by decide +kernel
/-- def __init__(self, line): self.line = line -/
structure InitSt (st : Stmt) : Prop where
  body : ∃ p1 p2 p3 p4, defBody st = [.Assign [.Attribute (.Name "self" p1) "line" p2] (.Name "line" p3) p4]
  kind : (defScope st).kind = .function
  co : (defScope st).isCoroutine = false
  gen : (defScope st).isGenerator = false
  n1 : (defScope st).names.lookup ("self" : Str) = some .local
  n2 : (defScope st).names.lookup ("line" : Str) = some .local

section
variable {X : Cx} {pins : List (Addr × Obj)} {σ : St} {H : Hp} {s : Shared} {C fI : Addr} {fdI : FuncData} {st : Stmt} {q : Str}
/-- C(k): a new exception, its line in its dict -/
theorem make_w {E' : Value → Shared → Prop} {k : Int} {t : Tok} {n : Nat} (T : XCls X.K C fI) (F : Fun X.K "__init__" q st fI fdI) (B : Binds X.K fdI ["self", "line"] []) (S : InitSt st) (hr : Room (n + 1) X.A) (I : Inv X pins σ H s)
    {Q : Value → Shared → Prop} (hq : ∀ e dx tt sl s', Inv X pins σ H s' → s'.heap.get? e = some (Rx.excRec C dx tt sl) → s.heap.get? e = none → s.heap.get? dx = none → s'.heap.Ns1 dx (fun y => if y = "line" then some (.int k t) else none) → Q (.ref e) s') :
    wpAny (model X.prog X.w) X.A (call (.ref C) [.int k t]) Q E' s := by
  obtain ⟨nm, qn, N, bs, sn, sub, ab, col, dd, k0, k1, k2, k3, k5, on, es, ep, oI, lC, lN, dN, sk, i1, i2, i3, i4, i5, lI, cI⟩ := T.ob
  have gC := I.kIn _ _ lC
  have hn : s.heap.Ns N (nsFind es) := ⟨on, es, ep, I.kIn _ _ lN, dN, sk, fun _ => rfl⟩
  have gI := I.kIn _ _ lI
  obtain ⟨hh, g, d, tk, os⟩ := s
  refine wpAny_call_exc_init PySem.F.excBase_Exception gC hn i1 gI cI (fun h' e made => ?_) (by show 1 ≤ sizeLine; decide)
  obtain ⟨tt, ge, gt0, gt⟩ := made.there
  have KX : X.K.In h' := I.kIn.keeps made.keeps
  have lim : h'.NoLimit := I.nolimit.keeps made.keeps
  have hb := B ⟨h', g, d, tk, os⟩ [.ref e, .int k t] KX rfl
  obtain ⟨oc, od, kV, doc, pm, an, cdv, ct, osl, rfl, lk, hcd⟩ := F.ex
  obtain ⟨p1, p2, p3, p4, eb⟩ := S.body
  refine wpAny_call (Att.call_fn (s := ⟨h', g, d, tk, os⟩) KX lim lk hcd (hr.make C [.int k t] []).depth hb ?_ (fun s1 x => ?_) S.co S.gen S.kind)
  · show (([("self", .ref e), ("line", .int k t)] : List (Str × Value)).all fun y => (defScope st).names.lookup y.1 == some .local || (defScope st).names.lookup y.1 == some .cell) = true
    simp [S.n1, S.n2]
  · rw [eb]
    have hns := x.toInCall.ns
    obtain ⟨h1, tk1, rfl, keep1⟩ := x.done
    have v2 : bindL (envOfC q (defScope st) h'.objs.size fI cdv).kindOf ((["self", "line"] : List Str).zip ([Value.ref e, .int k t] ++ [])) (fun _ => none) "line" = some (.int k t) :=
      bindL_get (i := 1) (by decide +kernel) rfl rfl S.n2
    have v1 : bindL (envOfC q (defScope st) h'.objs.size fI cdv).kindOf ((["self", "line"] : List Str).zip ([Value.ref e, .int k t] ++ [])) (fun _ => none) "self" = some (.ref e) :=
      bindL_get (i := 0) (by decide +kernel) rfl rfl S.n1
    refine wpAny_execs_cons (plainObj_wpAny_Assign_Attribute (wpAny_Name (wpAny_loadName_local S.kind S.n2 hns v2 (wpAny_Name (wpAny_loadName_local S.kind S.n1 hns v1 ?_)))))
    have gC1 := keep1 _ _ (made.keeps _ _ gC)
    have hn1 := (hn.keeps made.keeps).keeps keep1
    refine Rx.first_attr PySem.F.store_Exception gC1 hn1 i3 i2 no_line (keep1 _ _ ge) rfl rfl rfl fun h2 tk2 a b c => wpAny_execs_nil ⟨rfl, ?_⟩
    have ne : ∀ z ob, hh.get? z = some ob → z ≠ e := fun z ob g z' => by
      rw [z', made.new] at g
      cases g
    have keep : ∀ z ob, hh.get? z = some ob → h2.get? z = some ob := fun z ob g => c z ob (ne z ob g) (keep1 _ _ (made.keeps _ _ g))
    refine hq e h1.objs.size tt _ ⟨h2, g, d, tk2, os⟩ (I.kept (t' := tk2) keep) a made.new ?_ b
    cases z : hh.get? h1.objs.size with
    | none => rfl
    | some ob => exact absurd (Heap.lt_size (keep1 _ _ (made.keeps _ _ z))) (Nat.lt_irrefl _)

/-- raise C(e), e an int -/
def tRaise (ta : TE) (E : XK) : TS := fun _ σ H => ta σ H fun x H1 => ∃ k, [x] = [V.int k] ∧ E (.int k 0) none H1
theorem ps_raise {E : XK} {arg : Expr} {ta : TE} {x : Str} {np cpos pos : Pos} {n : Nat} (D : DefCx X) (hc : X.calm = true) (T : XCls X.K C fI) (F : Fun X.K "__init__" q st fI fdI) (B : Binds X.K fdI ["self", "line"] []) (S : InitSt st) (hr : Room (n + 1) X.A)
    (hg : Gl X x) (hm : X.mg x = some (.ref C)) (ha : PE (X.wish (Fly C X E)) arg ta) (hd : (x == ("__debug__" : Str)) = false := by decide) (hs : starEach [arg] X.env = [(false, eval arg X.env)] := by rfl) :
    PS (X.wish (Fly C X E)) (.Raise (some (.Call (.Name x np) [arg] [] cpos)) none pos) (tRaise ta E) := by
  intro pins s σ H Dn I h
  have hPA : PA (X.wish (Fly C X E)) [arg] (tCons ta tNil) := pa_cons ha pa_nil hs
  obtain ⟨nm, qn, N, bs, sn, sub, ab, col, dd, k0, k1, k2, k3, k5, on, es, ep, oI, lC, r⟩ := id T.ob
  refine Rx.Raise_own (nm := nm) (q := qn) (C := C) (N := N) (bs := bs) (bm := bmE) (hdct := true) (sn := sn) (sub := sub) (ab := ab) (col := col) (dd := dd) (k0 := k0) (k1 := k1) (k2 := k2) (k3 := k3) (k5 := k5) (newId := "Exception.__new__")
    has_base (I.ok.hd hc) hs (ld_glob I hg hm ⟨rfl, ?_⟩ hd)
  refine thn (hPA cpos pins s σ H (fun vs H1 => ∃ k, vs = [V.int k] ∧ E (.int k 0) none H1) I h) fun us s2 ⟨vs, H2, I2, rv, k, ev, hE⟩ => ⟨I2.kIn _ _ lC, ?_⟩
  · subst ev
    obtain ⟨u, rfl, t, rfl⟩ := vals1 rv
    refine make_w (X := X) T F B S hr I2.unwish fun e dx tt sl s3 I3 ge n0 nd nn => ⟨e, dx, tt, sl, rfl, I3.kIn _ _ lC, ge, ?_⟩
    have old : ∀ b, s2.heap.get? b = none → X.s_0.heap.get? b = none := fun b z => by
      cases q : X.s_0.heap.get? b with
      | none => rfl
      | some o =>
        obtain ⟨o', e'⟩ := I2.base.there b o q (by rw [D.ex]; simp)
        rw [z] at e'
        cases e'
    refine ⟨σ, e, k, H2, dx, _, _, rfl, I3.pins_of (pins' := []) fun p hp => absurd hp (by simp), ⟨⟨_, ge, rfl, rfl, rfl⟩, nn, ⟨t, by rw [if_pos rfl]⟩, fun y hy => by rw [if_neg hy]⟩, old e n0, free_of I2.hok n0, ⟨old dx nd, fun z => ?_, free_of I2.hok nd⟩, hE, .inl rfl⟩
    obtain ⟨m, ⟨o, es, ep, ho, _⟩, _⟩ := I2.loc
    have ho' : s2.heap.get? X.env.locals = some o := ho
    rw [← z, nd] at ho'
    cases ho'
end
end Xn
end
section
namespace Xn
open PySem PySem.Spec L2
open PyProof.Rows hiding St

/-! ### a statement, a block where no loop of the def stands around it -/
def PS0 (X : Cx) (st : Stmt) (t : TS) : Prop :=
  ∀ (s : Shared) (σ : St) (H : Hp) (D : Ends), Inv X [] σ H s → t D σ H → wpAny (model X.prog X.w) X.A (exec st X.env) (SP X [] D) X.xe s
def PSs0 (X : Cx) (st : List Stmt) (t : TS) : Prop :=
  ∀ (s : Shared) (σ : St) (H : Hp) (D : Ends), Inv X [] σ H s → t D σ H → wpAny (model X.prog X.w) X.A (execs st X.env) (SP X [] D) X.xe s
theorem pss0_cons {X : Cx} {st : Stmt} {rest : List Stmt} {t u : TS} (h1 : PS0 X st t) (h2 : PSs X rest u) : PSs0 X (st :: rest) (tSeq t u) := by
  intro s σ H D I h
  refine wpAny_execs_cons (thn (h1 s σ H { D with nx := u D } I h) fun f s1 q => ?_)
  cases f with
  | next =>
    obtain ⟨σ', H', I', q⟩ := q
    exact h2 [] s1 σ' H' D I' q
  | ret v => exact q
  | brk => exact q
  | cont => exact q
section
variable {P : Program} {w : World} {K : PySem.W.Frag} {mg : Str → Option Value} {base : Heap}
/-- a def whose body is such a block -/
theorem ok0 {x qual : Str} {st : Stmt} {f : Addr} {fd : FuncData} {N ps : List Str} {k : Nat} {sp : Sp} (F : Fun K x qual st f fd) (S : FnScope N ps (defScope st)) (len : ∀ vs H Q E, sp vs H Q E → vs.length = ps.length)
    (hbody : ∀ (cdv : Value) (A : Around) (outer : List Env) (s : Shared) (H : Hp) (vs : List V) (Q : VK) (E : XK), Room k (A.deeper (envOfC qual (defScope st) s.heap.objs.size f cdv)) → sp vs H Q E →
      ∃ t, PSs0 (cxOf CX0 P w K mg base N qual (defScope st) f cdv A outer s H E).nox (defBody st) t ∧ t { nx := fun _ H' => Q .non H', rt := Q } (start N vs) H) : FnOk P w K mg base CX0 (k + 1) f fd ps sp := by
  obtain ⟨oc, od, kV, doc, pm, an, cdv, ct, osl, rfl, lk, hcd⟩ := F.ex
  refine ⟨len, fun A outer s H args us vs Q E hr e0 hb r hsp => ?_⟩
  have hl := len _ _ _ _ hsp
  have KX : K.In s.heap := e0.mod.kin.keeps fun b o e => (e0.bs b o e).1
  have lim : s.heap.NoLimit := e0.mod.nolimit.keeps fun b o e => (e0.bs b o e).1
  have hkind : ∀ y ∈ ps.zip us, (defScope st).names.lookup y.1 = some .local ∨ ((defScope st).names.lookup y.1 = some .cell ∧ ((cellsFrom (s.heap.objs.size + 1) (defScope st).names []).lookup y.1).isSome = true) := fun ⟨n, v⟩ hy => by
    rcases S.par n (List.of_mem_zip hy).1 with q | q
    · exact .inl q
    · exact .inr ⟨q, PySem.W.cellsFrom_some _ _ _ (.inl q)⟩
  refine codeAny_call_function hr.depth (KX _ _ lk) rfl S.co S.gen rfl (PySem.W.codeRec_of KX hcd) (hb _ _ _ _ ?_)
  refine wpAny_newFunctionEnv_cells S.kind hkind fun env he s1 x => ?_
  subst he
  refine ⟨lim.keeps x.toInCall.keep, codeAny_func ?_⟩
  obtain ⟨t, ht, hq⟩ := hbody cdv A outer s H vs Q E (hr.deeper _) hsp
  have I : Inv (cxOf CX0 P w K mg base N qual (defScope st) f cdv A outer s H E) [] (start N vs) H s1 := inv_start S hr.hd e0 hl r x
  refine wpAny_mono (ht s1 (start N vs) H _ (I.wish _) hq) (fun fl s' hs => ?_) fun e s' hs => hs.elim
  have fin : ∀ {σ' : St} {H' : Hp} {v : V} {u : Value}, Inv (cxOf CX0 P w K mg base N qual (defScope st) f cdv A outer s H E).nox [] σ' H' s' → RelV v u → Q v H' → CE outer P w H s Q u s' :=
    fun {σ' H' v u} J rv q => ⟨v, H', J.os, J.bare, J.base, J.hok, rv, q⟩
  cases fl with
  | ret u =>
    obtain ⟨v, σ', H', J, rv, q⟩ := hs
    exact fin J rv q
  | next =>
    obtain ⟨σ', H', J, q⟩ := hs
    exact fin (v := V.non) (u := Value.none) J rfl q
  | brk =>
    obtain ⟨_, _, _, q⟩ := hs
    exact False.elim q
  | cont =>
    obtain ⟨_, _, _, q⟩ := hs
    exact False.elim q
end

section
variable {X : Cx} {pins : List (Addr × Obj)} {σ : St} {H : Hp} {s : Shared}
abbrev marked (X : Cx) (v : Value) : Cx := { X with A := X.A.mark (some v), calm := false }
theorem inv_mark (I : Inv X pins σ H s) (v : Value) : Inv (marked X v) pins σ H s :=
  ⟨⟨I.ok.mod, I.ok.kind, I.ok.glob, I.ok.blt, I.ok.above, I.ok.inj, I.ok.has, I.ok.cab, fun z => Bool.noConfusion (show false = true from z), I.ok.frames, I.ok.stk, I.ok.exf, I.ok.bs, I.ok.bsz, I.ok.noex, I.ok.exfs, I.ok.funs, I.ok.frf⟩,
    I.os, I.bare, I.base, I.loc, I.cell, I.free, I.freeC, I.pin, I.hok, I.len⟩
/-- the frame's names are forgotten, its object changed -/
theorem inv_forget {h' : Heap} {m' : Str → Option Value} {t' : Nat} (hpn : X.pn = []) (I : Inv X [] σ H s) (hn : h'.Ns X.env.locals m') (sb : Heap.SameBut X.env.locals s.heap h') : Inv X [] (σ.map fun _ => none) H { s with heap := h', toks := t' } := by
  have k : ∀ b o, b ≠ X.env.locals → s.heap.get? b = some o → h'.get? b = some o := fun b o hb e => (sb.2 b hb).trans e
  have s0L : ∀ b o, X.s_0.heap.get? b = some o → b ≠ X.env.locals := fun b o e => Nat.ne_of_lt (Nat.lt_of_lt_of_le (Heap.lt_size e) I.ok.above)
  refine ⟨I.ok, I.os, I.bare, ⟨fun b o e n hb hx => k b o (s0L b o e) (I.base.keep b o e n hb hx), fun b o e n hb hx => ?_, I.base.free, fun b o e hx => ?_, I.base.tups, I.base.frzs, I.base.tbls⟩, ⟨m', hn, fun i x v e1 e2 e3 => ?_⟩, fun x c e => ?_, I.free, I.freeC, fun p hp => ?_, fun a o e => ?_, by rw [List.length_map]; exact I.len⟩
  · obtain ⟨sl, e1⟩ := I.base.slot b o e n hb hx
    exact ⟨sl, k b _ (s0L b o e) e1⟩
  · obtain ⟨o', e1⟩ := I.base.there b o e hx
    exact ⟨o', k b _ (s0L b o e) e1⟩
  · rw [List.getElem?_map] at e2
    cases q : σ[i]? with
    | none => rw [q] at e2; cases e2
    | some z => rw [q] at e2; cases e2
  · obtain ⟨v, o, ho, hd⟩ := I.cell x c e
    exact ⟨v, o, k c o (I.cne x c e) ho, hd⟩
  · rw [hpn] at hp
    exact absurd hp (by simp)
  · refine (I.hok a o e).stay (fun b u hb q => k b u (fun z => ?_) q) (fun _ q => q) fun _ _ q => q
    have hf := I.free
    rw [← z] at hf
    rcases hb with rfl | hb
    · rw [e] at hf; cases hf
    · rw [hb] at hf; cases hf

/-- try: body except C as n: return [c - n.line] -/
def tTry (c : Int) (tb : TS) (E : XK) : TS := fun D σ H => tb D σ H ∧ ∀ k H1, E (.int k 0) none H1 → ∀ p, H1 p = none → D.rt (.ref p) (upd H1 p (.lst [.int (c - k)]))
theorem ps_try {C fI : Addr} {E : XK} {body : List Stmt} {tb : TS} {i : Nat} {cn nn fl : Str} {c : Int} {tf : Tok} {p1 p2 p3 p4 p5 p6 p7 p8 p9 : Pos} (D : DefCx X) (T : XCls X.K C fI)
    (hg : Gl X cn) (hm : X.mg cn = some (.ref C)) (hgf : Gl X fl) (hmf : X.mg fl = some (.int c tf)) (hN : X.N.Nodup) (hi : X.N[i]? = some nn) (hl : X.env.scope.names.lookup nn = some .local)
    (hb : PSs (X.wish (Fly C X E)) body tb) (d1 : (cn == ("__debug__" : Str)) = false := by decide) (d2 : (fl == ("__debug__" : Str)) = false := by decide) (d3 : (nn == ("__debug__" : Str)) = false := by decide) :
    PS0 X (.Try body [.ExceptHandler (some (.Name cn p1)) (some nn) [.Return (some (.List [.BinOp (.Name fl p2) .Sub (.Attribute (.Name nn p3) "line" p4) p5] p6)) p7] p8] [] [] p9) (tTry c tb E) := by
  intro s σ H Dn I h
  refine wpAny_Try_except (wpAny_mono (hb [] s σ H Dn (I.wish _) h.1) (fun f s1 q => ?_) fun v s1 z => ?_)
  · cases f with
    | next => exact wpAny_execs_nil q.unwish
    | ret u => exact q.unwish
    | brk => exact q.unwish
    | cont => exact q.unwish
  · refine wpAny_mono (fx_note (E' := X.xe) D z) (fun _ s2 z2 => ?_) fun _ _ y => y
    refine wpAny_mono (fx_flight (fr := none) (E' := X.xe) D z2) (fun _ s3 z3 => ?_) fun _ _ y => y
    obtain ⟨σ3, e, k, H3, dx, vs, mA, rfl, I3, x3, n0, nH, nd, hE, hdT⟩ := id z3
    obtain ⟨nm, qn, N, bs, sn, sub, ab, col, dd, k0, k1, k2, k3, k5, on, es, ep, oI, lC, lN, dN, sk, i1, i2, i3, i4, i5, lI, cI⟩ := T.ob
    obtain ⟨oe, ge, kc, kd, kf⟩ := id x3.ex.ob
    refine Rx.handle_own (nm := nm) (q := qn) (C := C) (N := N) (bs := bs) (bm := bmE) (hdct := true) (sn := sn) (sub := sub) (ab := ab) (col := col) (dd := dd) (k0 := k0) (k1 := k1) (k2 := k2) (k3 := k3) (k5 := k5) (newId := "Exception.__new__") has_base
      (ld_glob (X := marked X (.ref e)) (inv_mark I3 (.ref e)) hg hm ⟨rfl, I3.kIn _ _ lC, ⟨oe, ge, kc⟩, ?_⟩ d1)
    refine wpAny_mono (fx_flight (fr := none) (E' := fun _ _ => False) D z3) (fun _ s4 z4 => ?_) fun _ _ y => y
    obtain ⟨σ4, e', k', H4, dx4, vs4, mA4, ee, I4, x4, n04, nH4, nd4, hE4, _⟩ := z4
    cases ee
    refine store_ok2 I4 hN hi (.inl hl) (v := .ref e) rfl (fun s5 I5 ⟨a, sb, ha⟩ => ?_) (.inr hl)
    obtain ⟨oe4, ge4, kc4, kd4, kf4⟩ := id x4.ex.ob
    obtain ⟨t4, hline⟩ := x4.line
    have nea : e ≠ a := fun z => by
      rcases ha with q | q
      · obtain ⟨m, ⟨o, _, _, ho, hd, _⟩, _⟩ := I4.loc
        rw [← q, ← z, ge4] at ho
        cases ho
        rw [kf4] at hd
        cases hd
      · obtain ⟨v, o, ho, hd⟩ := I4.cell _ _ q
        rw [← z, ge4] at ho
        cases ho
        rw [kf4] at hd
        cases hd
    have nda : dx4 ≠ a := fun z => by
      rcases ha with q | q
      · exact nd4.2.1 (z.trans q)
      · obtain ⟨v, o, ho, hd⟩ := I4.cell _ _ q
        obtain ⟨o', es', ep', ho', hd', _⟩ := x4.ns
        rw [← z, ho'] at ho
        cases ho
        rw [hd'] at hd
        cases hd
    have ge5 := (sb.2 e nea).trans ge4
    have nn5 : s5.heap.Ns1 dx4 mA4 := x4.ns.sameBut sb nda
    obtain ⟨m5, hn5, hl5⟩ := id I5.loc
    have hi5 : i < σ4.length := by rw [I4.len]; exact (List.getElem?_eq_some_iff.mp hi).1
    obtain ⟨u, ru, lu⟩ := hl5 i nn (.ref e) hi (List.getElem?_set_self hi5) (.inl hl)
    cases ru
    have hv : m5 nn = some (.ref e) := by
      rcases lu with ⟨_, q⟩ | ⟨q, _⟩
      · exact q
      · rcases q with q | q
        · rw [show X.env.kindOf nn = some .local from hl] at q; cases q
        · rw [show X.env.kindOf nn = some .local from hl] at q; cases q
    have gC5 := I5.kIn _ _ lC
    have hns5 : s5.heap.Ns N (nsFind es) := ⟨on, es, ep, I5.kIn _ _ lN, dN, sk, fun _ => rfl⟩
    have J5 := inv_mark I5 (.ref e)
    refine wpAny_execs_cons (wpAny_Return_some (wpAny_List_spliced ?_))
    show wpAny _ _ (spliced ((false, eval (.BinOp (.Name fl p2) .Sub (.Attribute (.Name nn p3) "line" p4) p5) X.env) :: backTo p6 [])) _ _ _
    refine Calls.spliced_cons (wpAny_BinOp (ld_glob (X := marked X (.ref e)) J5 hgf hmf (Attribute_name (wpAny_Name (wpAny_loadName_local I5.ok.kind hl hn5 hv ?_) d3)) d2))
    obtain ⟨h5, g5, dr5, tk5, os5⟩ := s5
    refine Rx.own_attr PySem.F.attrBase_Exception gC5 hns5 i2 no_line i4 i5 ge5 kc4 kd4 kf4 nn5 hline rfl ?_
    refine sub_int ?_
    refine Calls.spliced_nil ⟨by show 1 ≤ sizeLine; decide, ?_⟩
    have I6 : Inv X [] (σ4.set i (some (.ref e))) (upd H4 h5.objs.size (.lst [.int (c - k')])) { heap := h5.push { cls := .type "list", data := .seq [Value.int (c - k') (tk5 + 1)].toArray }, gens := g5, drawn := dr5, toks := tk5 + 1 + 1, os := os5 } :=
      I5.laid (a := h5.objs.size) (o := .lst [.int (c - k')]) (t' := tk5 + 1 + 1) (fun b u q => Heap.get?_push_of_some _ q) (Nat.le_refl _) ⟨by show 1 ≤ sizeLine; decide, _, 0, .cons ⟨_, rfl⟩ .nil, Heap.get?_push_size _ rfl⟩
    obtain ⟨m6, hn6, _⟩ := id I6.loc
    refine wpAny_nameGoes hl hn6 (by rw [I6.ok.kind]; rfl) fun h7 m7 hn7 sb7 => ?_
    exact ⟨.ref h5.objs.size, _, _, inv_forget D.pn I6 hn7 sb7, rfl, h.2 k' H4 hE4 _ (I5.hok.fresh (Nat.le_refl _))⟩
end
end Xn
end
section
namespace Xn
open PySem PySem.Spec L2
open PyProof.Rows hiding St

/-! ### try: x = f(..) except C as n: return e -/
/-- within the handler: the exception is being handled, it and its dict stand as they are -/
abbrev hCx (X : Cx) (e dx : Addr) (oe od : Obj) : Cx := { X with A := X.A.mark (some (.ref e)), calm := false, pn := [(e, oe), (dx, od)], xe := fun _ _ => False }
structure Hx (C e dx : Addr) (oe od : Obj) (k : Int) : Prop where
  cls : oe.cls = .ref C
  dct : oe.dict = some dx
  dat : ∃ vs, oe.data = .fields vs
  ns : ∃ mA : Str → Option Value, (∀ h : Heap, h.get? dx = some od → h.Ns1 dx mA) ∧ ∃ t, mA "line" = some (.int k t)
section
variable {X : Cx} {σ : St} {H : Hp} {s : Shared} {C fI e dx : Addr} {oe od : Obj} {k : Int}
theorem inv_h (I : Inv X [] σ H s) (h1 : s.heap.get? e = some oe ∧ H e = none ∧ e ≠ X.env.locals ∧ e ∉ X.fs ∧ ∀ v, oe.data ≠ .cell v) (h2 : s.heap.get? dx = some od ∧ H dx = none ∧ dx ≠ X.env.locals ∧ dx ∉ X.fs ∧ ∀ v, od.data ≠ .cell v) : Inv (hCx X e dx oe od) [] σ H s :=
  ⟨⟨I.ok.mod, I.ok.kind, I.ok.glob, I.ok.blt, I.ok.above, I.ok.inj, I.ok.has, I.ok.cab, fun z => Bool.noConfusion (show false = true from z), I.ok.frames, I.ok.stk, I.ok.exf, I.ok.bs, I.ok.bsz, I.ok.noex, I.ok.exfs, I.ok.funs, I.ok.frf⟩,
    I.os, I.bare, I.base, I.loc, I.cell, I.free, I.freeC, fun p hp => by
      have hp : p ∈ [(e, oe), (dx, od)] ++ [] := hp
      rw [List.append_nil] at hp
      rcases List.mem_cons.mp hp with z | z
      · rw [z]; exact h1
      · rw [List.mem_singleton.mp z]; exact h2, I.hok, I.len⟩
theorem inv_unh {σ' : St} {H' : Hp} {s' : Shared} (hpn : X.pn = []) (I0 : Inv X [] σ H s) (J : Inv (hCx X e dx oe od) [] σ' H' s') : Inv X [] σ' H' s' :=
  ⟨I0.ok, J.os, J.bare, J.base, J.loc, J.cell, J.free, J.freeC, fun p hp => by rw [hpn] at hp; exact absurd hp (by simp), J.hok, J.len⟩
/-- n.line -/
theorem pe_line {i : Nat} {nn : Str} {p3 p4 : Pos} (T : XCls X.K C fI) (Z : Hx C e dx oe od k) (hi : X.N[i]? = some nn) (hl : X.env.scope.names.lookup nn = some .local) (d3 : (nn == ("__debug__" : Str)) = false := by decide) :
    PE (hCx X e dx oe od) (.Attribute (.Name nn p3) "line" p4) (fun σ H Q => σ[i]? = some (some (.ref e)) ∧ Q (.int k) H) := by
  intro pins s σ H Q I h
  obtain ⟨h0, q⟩ := h
  obtain ⟨nm, qn, N, bs, sn, sub, ab, col, dd, k0, k1, k2, k3, k5, on, es, ep, oI, lC, lN, dN, sk, i1, i2, i3, i4, i5, lI, cI⟩ := T.ob
  obtain ⟨vs, kf⟩ := Z.dat
  obtain ⟨mA, hns, t, hline⟩ := Z.ns
  obtain ⟨m5, hn5, hl5⟩ := id I.loc
  obtain ⟨u, ru, lu⟩ := hl5 i nn (.ref e) hi h0 (.inl hl)
  cases ru
  have hv : m5 nn = some (.ref e) := by
    rcases lu with ⟨_, q⟩ | ⟨q, _⟩
    · exact q
    · rcases q with q | q
      · rw [show X.env.kindOf nn = some .local from hl] at q; cases q
      · rw [show X.env.kindOf nn = some .local from hl] at q; cases q
  have ge := (I.pin (e, oe) (List.mem_append_left _ (by simp))).1
  have gd := (I.pin (dx, od) (List.mem_append_left _ (by simp))).1
  have gC := I.kIn _ _ lC
  have hnN : s.heap.Ns N (nsFind es) := ⟨on, es, ep, I.kIn _ _ lN, dN, sk, fun _ => rfl⟩
  refine Attribute_name (wpAny_Name (wpAny_loadName_local I.ok.kind hl hn5 hv ?_) d3)
  obtain ⟨hh, g, d, tk, os⟩ := s
  exact Rx.own_attr PySem.F.attrBase_Exception gC hnN i2 no_line i4 i5 ge Z.cls Z.dct kf (hns _ gd) hline rfl ⟨.int k, H, I.tok (tk + 1), ⟨_, rfl⟩, q⟩

/-- what was frozen at the def's start is so in the handler -/
def Frz (H H' : Hp) : Prop := ∀ b o u, H b = some (.frz o u) → H' b = some (.frz o u)
def tTryC (H0 : Hp) (sp : Sp) (dvs : List V) (t : TA) (j i : Nat) (th : Addr → Int → TE) : TS := fun D σ H => t σ H fun vs H1 => sp (vs ++ dvs) H1 (fun y H2 => D.nx (σ.set j (some y)) H2) fun v _ H2 => Frz H0 H2 → ∀ (e : Addr) (k : Int), v = .int k 0 → th e k (σ.set i (some (.ref e))) H2 D.rt
theorem ps_tryC {kk : Nat} {f : Addr} {fd : FuncData} {ps : List Str} {sp : Sp} {dvs : List V} {ds : List Value} {i j : Nat} {cn nn x fnm : Str} {a ex : Expr} {as : List Expr} {t : TA} {th : Addr → Int → TE} {px p cpos apos p1 p7 p8 p9 : Pos} (D : DefCx X) (T : XCls X.K C fI)
    (hg : Gl X cn) (hm : X.mg cn = some (.ref C)) (hN : X.N.Nodup) (hi : X.N[i]? = some nn) (hl : X.env.scope.names.lookup nn = some .local) (hj : X.N[j]? = some x) (hxl : X.env.scope.names.lookup x = some .local)
    (F : FnOk X.prog X.w X.K X.mg X.base (CXW X.prog X.w C) kk f fd ps sp) (hr : Room kk X.A) (hgf : Gl X fnm) (hmf : X.mg fnm = some (.ref f)) (hk : PySem.W.keepIn X.K (.ref f) = true) (hbd : Binds X.K fd ps ds) (hd : Vals dvs ds)
    (ha : ∀ E', PA (X.wish E') (a :: as) t) (hx : ∀ e dx oe od k, Hx C e dx oe od k → PE (hCx X e dx oe od) ex (th e k))
    (d1 : (cn == ("__debug__" : Str)) = false := by decide) (hdb : (fnm == ("__debug__" : Str)) = false := by decide) (he : starEach (a :: as) X.env = (false, eval a X.env) :: starEach as X.env := by rfl) (hpl : (backTo cpos (starEach as X.env)).any (·.1) = false := by rfl)
    (hs : swapsWith (.Call (.Name fnm p) (a :: as) [] cpos) (some (.Name x px)) apos.line X.env = pure false := by rfl) :
    PS0 X (.Try [.Assign [.Name x px] (.Call (.Name fnm p) (a :: as) [] cpos) apos] [.ExceptHandler (some (.Name cn p1)) (some nn) [.Return (some ex) p7] p8] [] [] p9) (tTryC X.H_0 sp dvs t j i th) := by
  intro s σ H Dn I h
  have h : t σ H fun vs H1 => sp (vs ++ dvs) H1 (fun y H2 => Dn.nx (σ.set j (some y)) H2) fun v _ H2 => Frz X.H_0 H2 → ∀ (e : Addr) (k : Int), v = .int k 0 → th e k (σ.set i (some (.ref e))) H2 Dn.rt := h
  have body : wpAny (model X.prog X.w) X.A (execs [.Assign [.Name x px] (.Call (.Name fnm p) (a :: as) [] cpos) apos] X.env) (SP X [] Dn)
      (Fz C X (fun v _ H2 => Frz X.H_0 H2 → ∀ (e : Addr) (k : Int), v = .int k 0 → th e k (σ.set i (some (.ref e))) H2 Dn.rt) σ (hdAny X.env.locals)) s := by
    refine wpAny_execs_cons (wpAny_Assign_Name (wpAny_Call_Name_kw (ld_glob I hgf hmf ?_ hdb)) hs)
    refine PySem.W.callWith_K (h₀ := X.base) I.ok.mod.kin hk (thn (ha (Fz C X (fun v _ H2 => Frz X.H_0 H2 → ∀ (e : Addr) (k : Int), v = .int k 0 → th e k (σ.set i (some (.ref e))) H2 Dn.rt) σ (hdAny X.env.locals)) cpos [] s σ H _ (I.wish _) h) fun us s1 ⟨vs, H1, I1, r, q⟩ => ⟨I1.kIn, ?_⟩) he hpl
    have I1 := I1.unwish
    have r2 : Vals (vs ++ dvs) (us ++ ds) := r.append hd
    have hlen : (us ++ ds).length = ps.length := by rw [← r2.length]; exact F.len _ _ _ _ q
    refine wpAny_call (codeAny_mono (F.run X.A X.stack s1 H1 ⟨us, []⟩ (us ++ ds) (vs ++ dvs) _ _ hr I1.env0 (hbd s1 us I1.kIn hlen) r2 q) fun rr s2 hq => ?_)
    cases rr with
    | error v => exact fz_of D I1 hq
    | ok fl =>
      cases fl with
      | ret u =>
        obtain ⟨y, H2, I2, ry, q2⟩ := I1.after hq
        exact store_ok I2 hN hj (.inl hxl) ry (fun s3 I3 => wpAny_execs_nil ⟨_, H2, I3, q2⟩) (.inr hxl)
      | next => exact False.elim hq
      | brk => exact False.elim hq
      | cont => exact False.elim hq
  refine wpAny_Try_except (wpAny_mono body (fun f s1 q => ?_) fun v s1 z => ?_)
  · cases f with
    | next => exact wpAny_execs_nil q
    | ret u => exact q
    | brk => exact q
    | cont => exact q
  · refine wpAny_mono (fz_note (E' := X.xe) D z) (fun _ s2 z2 => ?_) fun _ _ y => y
    refine wpAny_mono (fz_flight (fr := none) (E' := X.xe) D z2) (fun _ s3 z3 => ?_) fun _ _ y => y
    obtain ⟨e, k, H3, dx, vs, mA, rfl, I3, x3, n0, nH, nd, hE, hdT⟩ := id z3
    obtain ⟨nm, qn, N, bs, sn, sub, ab, col, dd, k0, k1, k2, k3, k5, on, es, ep, oI, lC, lN, dN, sk, i1, i2, i3, i4, i5, lI, cI⟩ := id T.ob
    obtain ⟨oe, ge, kc, kd, kf⟩ := id x3.ex.ob
    refine Rx.handle_own (nm := nm) (q := qn) (C := C) (N := N) (bs := bs) (bm := bmE) (hdct := true) (sn := sn) (sub := sub) (ab := ab) (col := col) (dd := dd) (k0 := k0) (k1 := k1) (k2 := k2) (k3 := k3) (k5 := k5) (newId := "Exception.__new__") has_base
      (ld_glob (X := marked X (.ref e)) (inv_mark I3 (.ref e)) hg hm ⟨rfl, I3.kIn _ _ lC, ⟨oe, ge, kc⟩, ?_⟩ d1)
    refine wpAny_mono (fz_flight (fr := none) (E' := fun _ _ => False) D z3) (fun _ s4 z4 => ?_) fun _ _ y => y
    obtain ⟨e', k', H4, dx4, vs4, mA4, ee, I4, x4, n04, nH4, nd4, hE4, _⟩ := z4
    cases ee
    refine store_ok2 I4 hN hi (.inl hl) (v := .ref e) rfl (fun s5 I5 ⟨a, sb, ha⟩ => ?_) (.inr hl)
    obtain ⟨oe4, ge4, kc4, kd4, kf4⟩ := id x4.ex.ob
    obtain ⟨t4, hline⟩ := x4.line
    have nea : e ≠ a := fun z => by
      rcases ha with q | q
      · obtain ⟨m, ⟨o, _, _, ho, hd, _⟩, _⟩ := I4.loc
        rw [← q, ← z, ge4] at ho
        cases ho
        rw [kf4] at hd
        cases hd
      · obtain ⟨v, o, ho, hd⟩ := I4.cell _ _ q
        rw [← z, ge4] at ho
        cases ho
        rw [kf4] at hd
        cases hd
    have nda : dx4 ≠ a := fun z => by
      rcases ha with q | q
      · exact nd4.2.1 (z.trans q)
      · obtain ⟨v, o, ho, hd⟩ := I4.cell _ _ q
        obtain ⟨o', es', ep', ho', hd', _⟩ := x4.ns
        rw [← z, ho'] at ho
        cases ho
        rw [hd'] at hd
        cases hd
    have ge5 := (sb.2 e nea).trans ge4
    have nn5 : s5.heap.Ns1 dx4 mA4 := x4.ns.sameBut sb nda
    obtain ⟨od, es5, ep5, gd5, dd5, rest5⟩ := nn5
    have nfs : ∀ b, X.s_0.heap.get? b = none → b ∉ X.fs := fun b hb hf => by
      obtain ⟨_, o, ho, _⟩ := I4.ok.funs.mem hf
      rw [hb] at ho
      cases ho
    have neL : e ≠ X.env.locals := fun z => by
      obtain ⟨m, ⟨o, _, _, ho, hd, _⟩, _⟩ := I4.loc
      rw [← z, ge4] at ho
      cases ho
      rw [kf4] at hd
      cases hd
    have J5 : Inv (hCx X e dx4 oe4 od) [] (σ.set i (some (.ref e))) H4 s5 := inv_h I5 ⟨ge5, nH4, neL, nfs e n04, fun v z => by rw [kf4] at z; cases z⟩ ⟨gd5, nd4.2.2, nd4.2.1, nfs dx4 nd4.1, fun v z => by rw [dd5] at z; cases z⟩
    have Z : Hx C e dx4 oe4 od k' := ⟨kc4, kd4, ⟨_, kf4⟩, mA4, fun h hh => ⟨od, es5, ep5, hh, dd5, rest5⟩, t4, hline⟩
    refine wpAny_execs_cons (wpAny_Return_some ?_)
    refine thn (hx e dx4 oe4 od k' Z [] s5 _ H4 _ J5 (hE4 I4.base.frzs e k' rfl)) fun u s6 ⟨y, H6, J6, ry, q6⟩ => ?_
    have I6 := inv_unh D.pn I5 J6
    obtain ⟨m6, hn6, _⟩ := id I6.loc
    refine wpAny_nameGoes hl hn6 (by rw [I6.ok.kind]; rfl) fun h7 m7 hn7 sb7 => ?_
    exact ⟨y, _, _, inv_forget D.pn I6 hn7 sb7, ry, q6⟩
end
end Xn
end
section
namespace Et
open PySem PySem.Spec L2
open AutoSeq1 (wpAny_loadPart')
open PyProof.Rows hiding St

/-! ### enumerate over a tuple: the layer has it for lists alone -/
section
variable {prog : Program} {w : World} {A : Around} {E : Value → Shared → Prop} {s : Shared}
theorem tup_at {h h' : Heap} {c : Addr} {its : Array Value} (x : h.IsTuple c its) (k : ∀ o, h.get? c = some o → h'.get? c = some o) : h'.IsTuple c its := by
  obtain ⟨o, g, r⟩ := x
  exact ⟨o, k o g, r⟩
theorem tit_at {h h' : Heap} {j c : Addr} {i : Nat} (x : h.IsTupleIter j c i) (k : ∀ o, h.get? j = some o → h'.get? j = some o) : h'.IsTupleIter j c i := by
  obtain ⟨o, g, r⟩ := x
  exact ⟨o, k o g, r⟩
/-- one turn of a tuple's iterator, called from within -/
theorem nx_item {j c : Addr} {i : Nat} {its : Array Value} {x : Value} {Q : Value → Shared → Prop} (g : s.heap.IsTupleIter j c i) (gt : s.heap.IsTuple c its) (gx : its[i]? = some x)
    (q : ∀ h2, h2.IsTupleIter j c (i + 1) → Heap.SameBut j s.heap h2 → Q x { s with heap := h2 }) : wpAny (model prog w) A (Builtin.SmallTypes.nextOf (.ref j)) Q E s := by
  obtain ⟨u, g1, g2, g3⟩ := id g
  obtain ⟨v, g4, _, n, g5⟩ := gt
  unfold Builtin.SmallTypes.nextOf
  refine wpAny_bind (wpAny_callSpecial?_slot (name := Str.ofString "__next__") g.typeIs F.slot_tuple_iterator_next (wpAny_call_entry F.slot_tuple_iterator_next g.typeIs F.entry_tuple_iterator_next ?_ (F.args_tuple_iterator_next_1 _)))
  show wpAny _ _ (field (.ref j) 0 >>= _) _ _ s
  refine wpAny_bind (wpAny_field g1 g3 (x := .ref c) rfl ?_)
  show wpAny _ _ (if (Value.ref c == Value.none) = true then _ else _) _ _ s
  rw [if_neg (show ¬ ((Value.ref c == Value.none) = true) from Bool.false_ne_true)]
  show wpAny _ _ (field (.ref j) 1 >>= _) _ _ s
  refine wpAny_bind (wpAny_field g1 g3 (x := .int i 0) rfl ?_)
  show wpAny _ _ (seqItems? (.ref c) >>= _) _ _ s
  refine wpAny_bind (wpAny_seqItems g4 g5 ?_)
  simp only [Int.toNat_natCast, gx]
  refine wpAny_bind (wpAny_setField g1 g3 (by simp) (wpAny_pure ⟨x, rfl, wpAny_pure (q _ ?_ (Heap.SameBut.update ..))⟩))
  exact ⟨_, Heap.get?_update_self _ g1 (Obj.isFreed_of_fields (Obj.data_mapFields g3 _)), (Obj.cls_mapFields ..).trans g2, by rw [Obj.data_mapFields g3]; simp [rawInt]⟩
theorem nx_end {j c : Addr} {i : Nat} {its : Array Value} {Q : Value → Shared → Prop} (hh : A.handled = none) (g : s.heap.IsTupleIter j c i) (gt : s.heap.IsTuple c its) (gx : its[i]? = none)
    (q : ∀ h2 e, Heap.ExtBut j s.heap h2 → (∃ o, h2.get? e = some o ∧ o.cls = .type "StopIteration") → E (.ref e) { s with heap := h2 }) : wpAny (model prog w) A (Builtin.SmallTypes.nextOf (.ref j)) Q E s := by
  obtain ⟨u, g1, g2, g3⟩ := id g
  obtain ⟨v, g4, _, n, g5⟩ := gt
  unfold Builtin.SmallTypes.nextOf
  refine wpAny_bind (wpAny_callSpecial?_slot (name := Str.ofString "__next__") g.typeIs F.slot_tuple_iterator_next (wpAny_call_entry F.slot_tuple_iterator_next g.typeIs F.entry_tuple_iterator_next ?_ (F.args_tuple_iterator_next_1 _)))
  show wpAny _ _ (field (.ref j) 0 >>= _) _ _ s
  refine wpAny_bind (wpAny_field g1 g3 (x := .ref c) rfl ?_)
  show wpAny _ _ (if (Value.ref c == Value.none) = true then _ else _) _ _ s
  rw [if_neg (show ¬ ((Value.ref c == Value.none) = true) from Bool.false_ne_true)]
  show wpAny _ _ (field (.ref j) 1 >>= _) _ _ s
  refine wpAny_bind (wpAny_field g1 g3 (x := .int i 0) rfl ?_)
  show wpAny _ _ (seqItems? (.ref c) >>= _) _ _ s
  refine wpAny_bind (wpAny_seqItems g4 g5 ?_)
  simp only [Int.toNat_natCast, gx]
  refine wpAny_bind (wpAny_rule (wpAny_bind (wpAny_setField g1 g3 (by simp) ?_)))
  show wpAny _ _ (newExc (.type "StopIteration") ([] : List Value) >>= _) _ _ _
  refine wpAny_bind ?_
  simp only [newTuple, newExc]
  refine wpAny_bind (wpAny_newObj_type ?_ (show _ ≤ _ by size_fits))
  refine wpAny_bind (m := firstArgMember _ _) (wpAny_of_eq (a := Value.none) (by first | rfl | simp only [firstArgMember] <;> rfl) ?_)
  refine wpAny_newObj_type ?_ (show _ ≤ _ by size_fits)
  simp only [raiseNew]
  refine wpAny_bind (wpAny_handled ?_)
  first | rw [hh] | rw [show A.in1.handled = none from hh]
  refine wpAny_bind (wpAny_pure (wpAny_throw (q _ _ (((Heap.SameBut.update ..).extBut.push _).push _) ⟨_, Heap.get?_push_size _ rfl, rfl⟩)))
theorem dr_tup (hh : A.handled = none) (j c : Addr) (ne : c ≠ j) (its : Array Value) : Draws prog w A j [j, c] its.size (fun i v => its[i]? = some v) (fun i h => h.IsTupleIter j c i ∧ h.IsTuple c its) := by
  refine ⟨fun i h ⟨⟨o, g, _⟩, _⟩ => ⟨o, g⟩, fun i h h' ⟨a, b⟩ k => ⟨tit_at a fun o e => k j (by simp) o e, tup_at b fun o e => k c (by simp) o e⟩, fun i s Q E hi ⟨a, b⟩ q => ?_, fun s Q E ⟨a, b⟩ q => nx_end hh a b (by simp) q⟩
  exact nx_item a b (x := its[i]) (by simp [hi]) fun h2 a2 sb => q _ h2 s.toks (by simp [hi]) ⟨a2, tup_at b fun o e => (sb.2 c ne).trans e⟩ sb
theorem mt_enum (c : Addr) (its : Array Value) (n : Nat) (dc : Option Addr) (sl : Array (Option Value)) :
    Meets (Builtin.«enumerate.__new__» ⟨[.type "enumerate", .ref c], []⟩) (fun _ R s => s.heap.get? c = some { cls := .type "tuple", dict := dc, data := .seq its n, slots := sl } ∧
      R (.ok (.ret (.ref (s.heap.push { cls := .type "tuple_iterator", data := .fields #[.ref c, .int 0 0] }).objs.size)))
        { s with heap := (s.heap.push { cls := .type "tuple_iterator", data := .fields #[.ref c, .int 0 0] }).push { cls := .type "enumerate", data := .fields #[.none, .bool false, .ref s.heap.objs.size, rawInt 0, .none, .none] } }) :=
  .of_wp fun P w A R s z => by
    obtain ⟨hp, gs, dr, tk, os⟩ := s
    obtain ⟨hc, z⟩ := z
    have hsub := sub_enumerate
    have hT : Heap.IsTuple (Shared.heap ⟨hp, gs, dr, tk, os⟩) c its := ⟨_, hc, rfl, n, rfl⟩
    wp_walk using wpAny_loadPart' hc
    refine wpAny_stack_any fun fr => wpAny_pure ?_
    split
    · rename_i cc _ _ _ _ _
      cases (cc == Value.type "enumerate")
      all_goals wp_walk using wpAny_loadPart' hc, wpAny_pyIter_tuple hT
      all_goals exact ⟨_, rfl, z⟩
    · wp_walk using wpAny_loadPart' hc, wpAny_pyIter_tuple hT
      exact ⟨_, rfl, z⟩
theorem call_enumT {c : Addr} {its : Array Value} {Q : Value → Shared → Prop} (hT : s.heap.IsTuple c its)
    (q : ∀ h2, IsEnum h2 (s.heap.objs.size + 1) s.heap.objs.size 0 .none → h2.IsTupleIter s.heap.objs.size c 0 → (∀ b o, s.heap.get? b = some o → h2.get? b = some o) → Q (.ref (s.heap.objs.size + 1)) { s with heap := h2 }) :
    wpAny (model prog w) A (call (.type "enumerate") [.ref c]) Q E s := by
  obtain ⟨⟨cl, dc, dt, sl⟩, g, hc, n, hd⟩ := hT
  have hc : cl = .type "tuple" := hc
  have hd : dt = .seq its n := hd
  subst hc hd
  refine callType_new F.called_enumerate (by decide) (F.typeCall_enumerate_1 _) (F.newCall_enumerate_1 _) (fun o => F.args_object_init_2 o _) F.entry_enumerate_new (mt_enum c its n dc sl) ⟨g, ?_⟩
  have hz : (s.heap.push { cls := .type "tuple_iterator", data := .fields #[.ref c, .int 0 0] }).objs.size = s.heap.objs.size + 1 := Heap.size_push ..
  show _ ∧ _
  rw [hz]
  have ge := Heap.get?_push_size (s.heap.push { cls := .type "tuple_iterator", data := .fields #[.ref c, .int 0 0] }) (o := { cls := .type "enumerate", data := .fields #[.none, .bool false, .ref s.heap.objs.size, rawInt 0, .none, .none] }) rfl
  rw [hz] at ge
  exact ⟨⟨_, ge, rfl⟩, q _ ge ⟨_, Heap.get?_push_of_some _ (Heap.get?_push_size _ rfl), rfl, rfl⟩ fun b o e => Heap.get?_push_of_some _ (Heap.get?_push_of_some _ e)⟩
end
/-- the tuple at a, each item in a new pair -/
def Iet (K : PySem.W.Frag) (a : Addr) : It where
  go := fun i H => ∃ (xs : List V) (x : V), SqT K H a xs ∧ xs[i]? = some x
  yld := fun i H v H' => ∃ T x, v = .ref T ∧ H T = none ∧ H' = upd H T (.tup [.int (i : Nat), x]) ∧ ∀ xs, SqT K H a xs → xs[i]? = some x
  stop := fun i H => ∃ xs : List V, SqT K H a xs ∧ xs.length = i
theorem turn_enumT {P : Program} {w : World} {K : PySem.W.Frag} {elts : List Expr} {kk : Nat} {tpos : Pos} (a e j : Addr) :
    Turn P w K (.Tuple elts kk tpos) (Iet K a) [e, j] e (fun i h => (∃ old, IsEnum h e j ((i : Nat) : Int) old) ∧ h.IsTupleIter j a i ∧ e ≠ j) where
  mem := by simp
  obj := fun i h st b hb => by
    obtain ⟨⟨old, he⟩, ⟨o, ho, _, hd⟩, _⟩ := st
    rcases List.mem_cons.mp hb with z | z
    · subst z; exact ⟨_, he, fun v q => nomatch q⟩
    · rw [List.mem_singleton.mp z]; exact ⟨o, ho, fun v q => by rw [hd] at q; cases q⟩
  keep := fun i h h' ⟨⟨old, he⟩, hi, ne⟩ k => ⟨⟨old, k e (by simp) _ he⟩, tit_at hi fun o q => k j (by simp) o q, ne⟩
  item := by
    intro X hP hw hK hc i pins s σ H E I hf st hg
    subst hP hw hK
    obtain ⟨⟨old, he⟩, hit, ne⟩ := st
    obtain ⟨xs, x, hq, hx⟩ := hg
    obtain ⟨its, rv, p, hz⟩ := I.tuple hq
    have p : s.heap.IsTuple a its.toArray := p
    obtain ⟨u, hu, ru⟩ := rv.get hx
    have hel : e < s.heap.objs.size := Heap.lt_size he
    have hil : j < s.heap.objs.size := by obtain ⟨_, q, _⟩ := hit; exact Heap.lt_size q
    have nea : e ≠ a := fun z => by
      obtain ⟨o, g, g2, _⟩ := p
      rw [← z, he] at g
      cases g
      exact absurd (show Value.type "enumerate" = Value.type "tuple" from g2) (by decide)
    have naj : a ≠ j := fun z => by
      obtain ⟨o, g, g2, _⟩ := p
      obtain ⟨o', k1, k2, _⟩ := hit
      rw [z, k1] at g
      cases g
      rw [k2] at g2
      exact absurd g2 (by decide)
    have hlt : i < its.toArray.size := by
      have := (List.getElem?_eq_some_iff.mp hu).1
      simpa using this
    refine wpAny_pyNext_enum_itemD (dr_tup (A := X.A.in1) (I.ok.hd hc) j a naj its.toArray) he ⟨hit, p⟩ hlt ne (by simp [ne, nea]) fun y h' tk hy ho hit' hT hsz hk => ?_
    have ey : y = u := by
      have hy : its.toArray[i]? = some y := hy
      rw [List.getElem?_toArray, hu] at hy
      exact (Option.some.inj hy).symm
    subst ey
    refine ⟨_, rfl, wpAny_letOwnedTupleGo_enum (s := { s with heap := h', toks := tk + 1 }) ho fun h'' he' sb => ?_⟩
    have hT2 : h''.get? s.heap.objs.size = some { cls := .type "tuple", data := .seq #[.int i tk, y] } := (sb.2 _ (Nat.ne_of_gt hel)).trans hT
    have new : ObjOk X.prog X.w (upd H s.heap.objs.size (.tup [.int (i : Nat), x])) h'' s.heap.objs.size (.tup [.int (i : Nat), x]) := ⟨by show 2 ≤ sizeLine; decide, [.int i tk, y], .cons ⟨_, rfl⟩ (.cons ru .nil), ⟨_, hT2, rfl, _, rfl⟩⟩
    have I1 : Inv X pins σ (upd H s.heap.objs.size (.tup [.int (i : Nat), x])) { s with heap := h'', toks := tk + 1 } :=
      I.turnedNew (ch := [e, j]) (fun b ob hb q => (sb.2 b (fun z => hb (by simp [z]))).trans (hk b ob (fun z => hb (by simp [z])) (fun z => hb (by simp [z])) q)) hf (Nat.le_refl _) new
    refine ⟨.ref s.heap.objs.size, _, I1, rfl, ⟨_, x, rfl, I.hok.fresh (Nat.le_refl _), rfl, fun ys hy => by rw [I.tuple_inj hy hq]; exact hx⟩, ⟨⟨y, ?_⟩, tit_at hit'.1 fun o q => (sb.2 j (Ne.symm ne)).trans q, ne⟩, fun b hb => ?_⟩
    · rw [show ((i + 1 : Nat) : Int) = (i : Int) + 1 by omega]
      exact he'
    · have hb' : b < s.heap.objs.size := by
        rcases List.mem_cons.mp hb with z | z
        · rw [z]; exact hel
        · rw [List.mem_singleton.mp z]; exact hil
      rw [upd_ne (Nat.ne_of_lt hb')]
      exact (hf b hb).1
  done := by
    intro X hP hw hK hc i pins s σ H E I hf st hg
    subst hP hw hK
    obtain ⟨⟨old, he⟩, hit, ne⟩ := st
    obtain ⟨xs, hq, hx⟩ := hg
    obtain ⟨its, rv, p, hz⟩ := I.tuple hq
    have p : s.heap.IsTuple a its.toArray := p
    obtain ⟨f0, f1, f2, f3, f4, f5⟩ := hf j (by simp)
    have naj : a ≠ j := fun z => by
      obtain ⟨o, g, g2, _⟩ := p
      obtain ⟨o', k1, k2, _⟩ := hit
      rw [z, k1] at g
      cases g
      rw [k2] at g2
      exact absurd g2 (by decide)
    have hl : its.toArray.size = i := by
      rw [List.size_toArray, ← rv.length]
      exact hx
    exact wpAny_pyNext_enum_endD (dr_tup (A := X.A.in1) (I.ok.hd hc) j a naj its.toArray) he (by rw [hl]; exact ⟨hit, p⟩) fun h' eb => ⟨rfl, I.turned (t' := s.toks) (fun b o hb q => eb b o hb q) f0 f1 f3 f4 f5⟩
  self := fun A i s Q E st h => by
    obtain ⟨⟨_, he⟩, _⟩ := st
    exact wpAny_pyIter_enum he h
def iEnumT (K : PySem.W.Frag) (ta : TA) : TI := fun σ H R => ta σ H fun vs H1 => ∃ a xs, vs = [.ref a] ∧ SqT K H1 a xs ∧ R (Iet K a) H1
theorem pi_enumT {X : Cx} {e : Expr} {ta : TA} {p pos tpos : Pos} {elts : List Expr} {kk : Nat} (hg : Gl X "enumerate") (hm : X.mg "enumerate" = none) (ha : PA X [e] ta) (hs : starEach [e] X.env = [(false, eval e X.env)] := by rfl) :
    PI X (.Tuple elts kk tpos) (.Call (.Name "enumerate" p) [e] [] pos) (iEnumT X.K ta) := by
  intro pins s σ H R I h
  refine Call_ (ld_blt I hg hm boot_enumerate (PyProof.Rows.callWith_type1 (thn (ha pos pins s σ H _ I h) fun us s1 ⟨vs, H1, I1, r1, q1⟩ => ?_) hs rfl))
  obtain ⟨a, xs, ex, hq, q⟩ := q1
  subst ex
  cases r1 with
  | cons r rr =>
    cases rr
    cases r
    obtain ⟨its, rv, p', hz⟩ := I1.tuple hq
    refine call_enumT (show s1.heap.IsTuple a its.toArray from p') fun h' he hit hk => wpAny_pyIter_enum he ?_
    refine ⟨s1.heap.objs.size + 1, [s1.heap.objs.size + 1, s1.heap.objs.size], _, _, H1, rfl, I1.kept (t' := s1.toks) hk, turn_enumT a (s1.heap.objs.size + 1) s1.heap.objs.size, ⟨⟨.none, he⟩, hit, Nat.succ_ne_self _⟩, fun b hb => ?_, q⟩
    have hle : s1.heap.objs.size ≤ b := by
      rcases List.mem_cons.mp hb with z | z
      · rw [z]; exact Nat.le_add_right _ _
      · rw [List.mem_singleton.mp z]; exact Nat.le_refl _
    exact I1.fpOk hle (I1.hok.fresh hle)
/-- over enumerate(tuple) -/
theorem for_enumT {K : PySem.W.Frag} {a : Addr} {xs : List V} {g : TG} {tb : TS} {D : Ends} {σ : St} {H : Hp} (Pv : Nat → St → Hp → Prop) (h0 : Pv 0 σ H) (hl : ∀ i σ H, i ≤ xs.length → Pv i σ H → SqT K H a xs)
    (hs : ∀ i x σ H T, xs[i]? = some x → Pv i σ H → H T = none → g (.ref T) σ (upd H T (.tup [.int (i : Nat), x])) fun σ2 H2 => tb { D with nx := Pv (i + 1), ct := Pv (i + 1), bk := D.nx } σ2 H2) (hd : ∀ σ H, Pv xs.length σ H → D.nx σ H) :
    ∃ W : Nat → Nat → St → Hp → Prop, (∃ m, W 0 m σ H) ∧ ∀ i m σ H, W i m σ H →
      ((Iet K a).stop i H ∧ D.nx σ H) ∨ ((Iet K a).go i H ∧ ∃ N : St → Hp → Prop, (∀ σ' H', N σ' H' → ∃ m', m' < m ∧ W (i + 1) m' σ' H') ∧ ∀ x H', (Iet K a).yld i H x H' → g x σ H' fun σ2 H2 => tb { D with nx := N, ct := N, bk := D.nx } σ2 H2) := by
  refine ⟨fun i m σ H => m = xs.length - i ∧ i ≤ xs.length ∧ Pv i σ H, ⟨xs.length, by simp, Nat.zero_le _, h0⟩, ?_⟩
  rintro i m σ H ⟨rfl, hi, p⟩
  have q := hl i σ H hi p
  by_cases hlt : i < xs.length
  · refine .inr ⟨⟨xs, xs[i], q, by simp [hlt]⟩, Pv (i + 1), fun σ' H' p' => ⟨xs.length - (i + 1), by omega, rfl, hlt, p'⟩, fun v H' y => ?_⟩
    obtain ⟨T, x, rfl, hT, rfl, y⟩ := y
    exact hs i x σ H T (y xs q) p hT
  · have e : i = xs.length := by omega
    subst e
    exact .inl ⟨⟨xs, q, rfl⟩, hd σ H p⟩
/-- |= of ints -/
theorem ip_or {X : Cx} : PIp X .BitOr (ipI fun i j => Builtin.bitOr i j) := by
  intro pins s σ H x y v u Q I r1 r2 h
  obtain ⟨i, j, rfl, rfl, q⟩ := h
  obtain ⟨t, rfl⟩ := r1
  obtain ⟨t', rfl⟩ := r2
  exact ior_int ⟨.int _, H, I.tok _, ⟨_, rfl⟩, q⟩
theorem or_pp (x y : Nat) : Builtin.bitOr (x : Int) (y : Int) = ((x ||| y : Nat) : Int) := by
  have e : Builtin.bitOr (x : Int) (y : Int) = (x : Int) + (y : Int) - Builtin.bitAnd (x : Int) (y : Int) := bitOr_and ..
  have z := nat_or_add_and x y
  rw [e, bitAnd_pp (by omega) (by omega), Int.toNat_natCast, Int.toNat_natCast]
  omega
theorem and_pp (x y : Nat) : Builtin.bitAnd (x : Int) (y : Int) = ((x &&& y : Nat) : Int) := by
  rw [bitAnd_pp (by omega) (by omega), Int.toNat_natCast, Int.toNat_natCast]
end Et
end
section
namespace Et
open PySem PySem.Spec L2
open AutoSeq1 (wpAny_loadPart')
open PyProof.Rows hiding St

/-! ### zip over lists and tuples, any number of them -/
/-- a source: its iterator, the list or tuple that it walks -/
structure Zs where
  it : Addr
  src : Addr
  tup : Bool
def Zs.on (q : Zs) (h : Heap) (i : Nat) : Prop := if q.tup = true then h.IsTupleIter q.it q.src i else h.IsListIter q.it q.src i
def Zs.sq (q : Zs) (h : Heap) (its : Array Value) : Prop := if q.tup = true then h.IsTuple q.src its else h.IsList q.src its
theorem Zs.on_at {q : Zs} {h h' : Heap} {i : Nat} (x : q.on h i) (k : ∀ o, h.get? q.it = some o → h'.get? q.it = some o) : q.on h' i := by
  unfold Zs.on at *
  split
  · rename_i c; rw [if_pos c] at x; exact tit_at x k
  · rename_i c; rw [if_neg c] at x; exact x.at k
theorem Zs.sq_at {q : Zs} {h h' : Heap} {its : Array Value} (x : q.sq h its) (k : ∀ o, h.get? q.src = some o → h'.get? q.src = some o) : q.sq h' its := by
  unfold Zs.sq at *
  split
  · rename_i c; rw [if_pos c] at x; exact tup_at x k
  · rename_i c; rw [if_neg c] at x; exact x.at k
theorem Zs.on_ob {q : Zs} {h : Heap} {i : Nat} (x : q.on h i) : ∃ o vs, h.get? q.it = some o ∧ o.data = .fields vs := by
  unfold Zs.on at x
  split at x
  · obtain ⟨o, g, _, d⟩ := x; exact ⟨o, _, g, d⟩
  · obtain ⟨o, g, _, d⟩ := x; exact ⟨o, _, g, d⟩
section
variable {prog : Program} {w : World} {A : Around} {E : Value → Shared → Prop} {s : Shared}
theorem nz_item {q : Zs} {i : Nat} {its : Array Value} {x : Value} {Q : Value → Shared → Prop} (g : q.on s.heap i) (gt : q.sq s.heap its) (gx : its[i]? = some x)
    (k : ∀ h2, q.on h2 (i + 1) → Heap.SameBut q.it s.heap h2 → Q x { s with heap := h2 }) : wpAny (model prog w) A (Builtin.SmallTypes.nextOf (.ref q.it)) Q E s := by
  unfold Zs.on Zs.sq at *
  by_cases c : q.tup = true
  · rw [if_pos c] at g gt
    exact nx_item g gt gx fun h2 a b => k h2 (by rw [if_pos c]; exact a) b
  · rw [if_neg c] at g gt
    exact wpAny_nextOf_list_item g gt gx fun h2 a b => k h2 (by rw [if_neg c]; exact a) b
theorem nz_end {q : Zs} {i : Nat} {its : Array Value} {Q : Value → Shared → Prop} (hh : A.handled = none) (g : q.on s.heap i) (gt : q.sq s.heap its) (gx : its[i]? = none)
    (k : ∀ h2 e, Heap.ExtBut q.it s.heap h2 → (∃ o, h2.get? e = some o ∧ o.cls = .type "StopIteration") → E (.ref e) { s with heap := h2 }) : wpAny (model prog w) A (Builtin.SmallTypes.nextOf (.ref q.it)) Q E s := by
  unfold Zs.on Zs.sq at *
  by_cases c : q.tup = true
  · rw [if_pos c] at g gt
    exact nx_end hh g gt gx k
  · rw [if_neg c] at g gt
    exact wpAny_nextOf_list_end hh g gt gx k
abbrev IsTp (h : Heap) (T : Addr) (vs : Array Value) : Prop := h.get? T = some { cls := .type "tuple", data := .seq vs }
theorem tp_set {T : Addr} {vs : Array Value} {x : Value} {k : Nat} {Q : Unit → Shared → Prop} (hT : IsTp s.heap T vs) (hv : vs.size ≤ sizeLine)
    (h : ∀ h', IsTp h' T (vs.setIfInBounds k x) → Heap.SameBut T s.heap h' → Q () { s with heap := h' }) : wpAny (model prog w) A (updateSeq T (·.setIfInBounds k x)) Q E s := by
  refine wpAny_updateSeq hT rfl (h _ ?_ (Heap.SameBut.update ..)) hv (by rw [Array.size_setIfInBounds]; omega)
  show Heap.get? _ _ = _
  rw [Heap.get?_update_self _ hT rfl]
  simp [Obj.mapSeq]
structure Zap (z TI TO : Addr) (qs : List Zs) : Prop where
  tz : TI ≠ z
  oz : TO ≠ z
  to : TI ≠ TO
  iz : ∀ q ∈ qs, q.it ≠ z ∧ q.it ≠ TI ∧ q.it ≠ TO
  sz : ∀ q ∈ qs, q.src ≠ z ∧ q.src ≠ TO ∧ ∀ p ∈ qs, q.src ≠ p.it
  nd : ∀ (j k : Nat) (p q : Zs), qs[j]? = some p → qs[k]? = some q → j ≠ k → p.it ≠ q.it
/-- amid a turn: the first j have drawn -/
structure Amid (z TI TO : Addr) (qs : List Zs) (i : Nat) (xs : List Value) (h0 : Heap) (j : Nat) (h : Heap) : Prop where
  zip : IsZip h z TI TO .ellipsis
  own : ∃ arr : Array Value, IsTp h TO arr ∧ arr.size = qs.length ∧ ∀ k : Nat, k < j → arr[k]? = xs[k]?
  on : ∀ (k : Nat) (q : Zs), qs[k]? = some q → q.on h (if k < j then i + 1 else i)
  size : h.objs.size = h0.objs.size
  keep : ∀ c o, c ≠ z → c ≠ TO → (∀ q ∈ qs, c ≠ q.it) → h0.get? c = some o → h.get? c = some o
theorem zdrop {qs : List Zs} {j : Nat} {q : Zs} (hq : qs[j]? = some q) : ((qs.drop j).map fun q => Value.ref q.it).zipIdx j = (Value.ref q.it, j) :: ((qs.drop (j + 1)).map fun q => Value.ref q.it).zipIdx (j + 1) := by
  have hj : j < qs.length := (List.getElem?_eq_some_iff.mp hq).1
  rw [List.drop_eq_getElem_cons hj, List.map_cons, List.zipIdx_cons]
  rw [List.getElem?_eq_getElem hj] at hq
  rw [Option.some.inj hq]
theorem Amid.step {z TI TO : Addr} {qs : List Zs} {i j : Nat} {xs : List Value} {h0 h h2 h3 : Heap} {q : Zs} {x : Value} {arr : Array Value} (Z : Zap z TI TO qs) (m : Amid z TI TO qs i xs h0 j h) (hq : qs[j]? = some q) (hx : xs[j]? = some x)
    (on2 : q.on h2 (i + 1)) (sb : Heap.SameBut q.it h h2) (hT : IsTp h TO arr) (ha : arr.size = qs.length) (hp : ∀ k : Nat, k < j → arr[k]? = xs[k]?) (hT3 : IsTp h3 TO (arr.setIfInBounds j x)) (sb3 : Heap.SameBut TO h2 h3) : Amid z TI TO qs i xs h0 (j + 1) h3 := by
  have hm := List.mem_of_getElem? hq
  have hj : j < qs.length := (List.getElem?_eq_some_iff.mp hq).1
  refine ⟨?_, ⟨_, hT3, by rw [Array.size_setIfInBounds, ha], fun k hk => ?_⟩, fun k p hk => ?_, by rw [sb3.1, sb.1, m.size], fun c o c1 c2 c3 e => (sb3.2 c c2).trans ((sb.2 c (c3 q hm)).trans (m.keep c o c1 c2 c3 e))⟩
  · exact (sb3.2 z (Ne.symm Z.oz)).trans ((sb.2 z (Ne.symm (Z.iz q hm).1)).trans m.zip)
  · rw [Array.getElem?_setIfInBounds]
    by_cases e : j = k
    · subst e
      rw [if_pos rfl, if_pos (by omega), hx]
    · rw [if_neg e]
      exact hp k (by omega)
  · by_cases e : k = j
    · subst e
      rw [hq] at hk
      cases hk
      rw [if_pos (Nat.lt_succ_self k)]
      exact Zs.on_at on2 fun o g => (sb3.2 _ (Z.iz q hm).2.2).trans g
    · have o1 := m.on k p hk
      have e2 : (if k < j then i + 1 else i) = (if k < j + 1 then i + 1 else i) := by
        by_cases e3 : k < j
        · rw [if_pos e3, if_pos (by omega)]
        · rw [if_neg e3, if_neg (by omega)]
      rw [← e2]
      exact Zs.on_at o1 fun o g => (sb3.2 _ (Z.iz p (List.mem_of_getElem? hk)).2.2).trans ((sb.2 _ (Z.nd k j p q hk hq e)).trans g)
theorem Amid.src {z TI TO : Addr} {qs : List Zs} {i j : Nat} {xs : List Value} {h0 h : Heap} {q : Zs} {its : Array Value} (Z : Zap z TI TO qs) (m : Amid z TI TO qs i xs h0 j h) (hq : q ∈ qs) (x : q.sq h0 its) : q.sq h its :=
  Zs.sq_at x fun o g => m.keep _ o (Z.sz q hq).1 (Z.sz q hq).2.1 (Z.sz q hq).2.2 g
theorem Amid.start {z TI TO : Addr} {qs : List Zs} {i : Nat} {old : Array Value} {xs : List Value} {h0 h1 : Heap} (Z : Zap z TI TO qs) (hz : IsZip h1 z TI TO .ellipsis) (sb : Heap.SameBut z h0 h1) (hTO : IsTp h0 TO old) (hold : old.size = qs.length) (hon : ∀ q ∈ qs, q.on h0 i) : Amid z TI TO qs i xs h0 0 h1 := by
  refine ⟨hz, ⟨old, (sb.2 TO Z.oz).trans hTO, hold, fun k hk => absurd hk (Nat.not_lt_zero _)⟩, fun k q hk => ?_, sb.1, fun c o c1 _ _ e => (sb.2 c c1).trans e⟩
  have hm := List.mem_of_getElem? hk
  rw [if_neg (Nat.not_lt_zero _)]
  exact Zs.on_at (hon q hm) fun o g => (sb.2 _ (Z.iz q hm).1).trans g
theorem zn_item {z TI TO : Addr} {qs : List Zs} {i : Nat} {old : Array Value} {xs : List Value} {Q : Value → Shared → Prop} (Z : Zap z TI TO qs) (hne : qs ≠ []) (hle : qs.length ≤ 1000)
    (hz : IsZip s.heap z TI TO .none) (hTI : IsTp s.heap TI (qs.map fun q => Value.ref q.it).toArray) (hTO : IsTp s.heap TO old) (hold : old.size = qs.length)
    (hon : ∀ q ∈ qs, q.on s.heap i) (hl : xs.length = qs.length) (hx : ∀ (k : Nat) (q : Zs) (x : Value), qs[k]? = some q → xs[k]? = some x → ∃ its, q.sq s.heap its ∧ its[i]? = some x)
    (hQ : ∀ h', IsZip h' z TI TO (rawInt s.heap.objs.size) → IsTp h' TO xs.toArray → (∀ q ∈ qs, q.on h' (i + 1)) → IsTp h' s.heap.objs.size xs.toArray → h'.objs.size = s.heap.objs.size + 1 →
      (∀ c o, c ≠ z → c ≠ TO → (∀ q ∈ qs, c ≠ q.it) → s.heap.get? c = some o → h'.get? c = some o) → Q (.ref s.heap.objs.size) { s with heap := h' }) :
    wpAny (model prog w) A (Builtin.«zip.__next__» ⟨[.ref z], []⟩) (fun fin s' => ∃ v, fin = .done (.ret v) ∧ Q v s') E s := by
  have h1000 : 1000 ≤ sizeLine := by rw [sizeLine_eq]; decide
  show wpAny _ _ (field (.ref z) 2 >>= _) _ _ _
  refine wpAny_bind (wpAny_field hz rfl (x := Value.bool false) rfl ?_)
  show wpAny _ _ (field (.ref z) 3 >>= _) _ _ _
  refine wpAny_bind (wpAny_field hz rfl (x := Value.ref TI) rfl ?_)
  refine wpAny_bind (wpAny_seqItems hTI rfl ?_)
  have he : (qs.map fun q => Value.ref q.it).toArray.isEmpty = false := by
    cases qs with
    | nil => exact absurd rfl hne
    | cons q r => rfl
  simp only [he, Bool.false_eq_true, if_false]
  refine wpAny_bind ?_
  unfold Builtin.SmallTypes.ownedTupleIsFree
  refine wpAny_bind (wpAny_field hz rfl (x := Value.none) rfl (wpAny_pure ?_))
  simp only [if_true]
  refine wpAny_bind (wpAny_rule (wpAny_bind (wpAny_field hz rfl (x := Value.ref TO) rfl ?_)))
  refine wpAny_bind (wpAny_setField_rec hz (by simp) fun h1 hz1 sb1 => ?_)
  have hz1 : IsZip h1 z TI TO .ellipsis := hz1
  have m0 : Amid z TI TO qs i xs s.heap 0 h1 := Amid.start Z hz1 sb1 hTO hold hon
  refine wpAny_bind (wpAny_forIn_list _ (fun rest b s' => b = (none, ()) ∧ ∃ j h', j ≤ qs.length ∧ rest = ((qs.drop j).map fun q => Value.ref q.it).zipIdx j ∧ s' = { s with heap := h' } ∧ Amid z TI TO qs i xs s.heap j h') _ ?turn ?fin _ _ ⟨rfl, 0, h1, Nat.zero_le _, rfl, rfl, m0⟩)
  case turn =>
    rintro y rest b s' ⟨rfl, j, h', hj, hr, rfl, m⟩
    have hjl : j < qs.length := by
      apply Nat.lt_of_not_le
      intro z
      rw [List.drop_eq_nil_of_le z] at hr
      cases hr
    obtain ⟨q, hq⟩ : ∃ q, qs[j]? = some q := ⟨_, List.getElem?_eq_getElem hjl⟩
    obtain ⟨x, hxj⟩ : ∃ x, xs[j]? = some x := ⟨_, List.getElem?_eq_getElem (by omega)⟩
    rw [zdrop hq] at hr
    injection hr with hr1 hr2
    subst hr1 hr2
    have hm := List.mem_of_getElem? hq
    obtain ⟨its, hsq, hxi⟩ := hx j q x hq hxj
    have onj := m.on j q hq
    rw [if_neg (Nat.lt_irrefl j)] at onj
    obtain ⟨arr, hT, ha, hp⟩ := m.own
    refine wpAny_bind (wpAny_onRaise ?_)
    show wpAny _ _ (Builtin.SmallTypes.nextOf (.ref q.it) >>= _) _ _ _
    refine wpAny_bind (nz_item (s := { s with heap := h' }) onj (m.src Z hm hsq) hxi fun h2 on2 sb2 => wpAny_pure ?_)
    have hT2 : IsTp h2 TO arr := (sb2.2 TO (Ne.symm (Z.iz q hm).2.2)).trans hT
    refine wpAny_bind (wpAny_seqItems (s := { s with heap := h2 }) hT2 rfl ?_)
    refine wpAny_bind (tp_set (s := { s with heap := h2 }) hT2 (by omega) fun h3 hT3 sb3 => ?_)
    exact wpAny_bind (wpAny_letGo (wpAny_pure ⟨rfl, j + 1, h3, hjl, rfl, rfl, m.step Z hq hxj on2 sb2 hT ha hp hT3 sb3⟩))
  case fin =>
    rintro b s' ⟨rfl, j, h', hj, hr, rfl, m⟩
    have ej : j = qs.length := by
      apply Nat.le_antisymm hj
      apply Nat.le_of_not_lt
      intro hlt
      obtain ⟨q, hq⟩ : ∃ q, qs[j]? = some q := ⟨_, List.getElem?_eq_getElem hlt⟩
      rw [zdrop hq] at hr
      cases hr
    subst ej
    obtain ⟨arr, hT, ha, hp⟩ := m.own
    have ea : arr = xs.toArray := by
      apply Array.ext_getElem?
      intro k
      have e : xs.toArray[k]? = xs[k]? := by simp
      rw [e]
      by_cases hk : k < qs.length
      · exact hp k hk
      · rw [Array.getElem?_eq_none (by omega), List.getElem?_eq_none (by omega)]
    subst ea
    dsimp only
    refine wpAny_bind (wpAny_seqItems (s := { s with heap := h' }) hT rfl ?_)
    refine wpAny_bind (wpAny_newTuple ?_ (by show xs.toArray.toList.length ≤ sizeLine; simp; omega))
    have hzl : z < h'.objs.size := Heap.lt_size m.zip
    show wpAny _ _ (Builtin.SmallTypes.ownedTupleHandOut (.ref z) (.ref h'.objs.size) >>= _) _ _ _
    refine wpAny_bind ?_
    unfold Builtin.SmallTypes.ownedTupleHandOut
    have hz6 : IsZip (h'.push { cls := .type "tuple", data := .seq xs.toArray }) z TI TO .ellipsis := Heap.get?_push_of_some _ m.zip
    refine wpAny_bind (wpAny_setField_rec (s := { s with heap := h'.push { cls := .type "tuple", data := .seq xs.toArray } }) hz6 (by simp) fun h7 hz7 sb7 => ?_)
    have hz7 : IsZip h7 z TI TO (rawInt h'.objs.size) := hz7
    have sb7 : Heap.SameBut z (h'.push { cls := .type "tuple", data := .seq xs.toArray }) h7 := sb7
    refine wpAny_setField_rec (s := { s with heap := h7 }) hz7 (by simp) fun h8 hz8 sb8 => ?_
    have hz8 : IsZip h8 z TI TO (rawInt h'.objs.size) := hz8
    have sb8 : Heap.SameBut z h7 h8 := sb8
    have up : ∀ c o, c ≠ z → h'.get? c = some o → h8.get? c = some o := fun c o c1 e => (sb8.2 c c1).trans ((sb7.2 c c1).trans (Heap.get?_push_of_some _ e))
    have hT8 : IsTp h8 h'.objs.size xs.toArray := (sb8.2 _ (Nat.ne_of_gt hzl)).trans ((sb7.2 _ (Nat.ne_of_gt hzl)).trans (Heap.get?_push_size _ rfl))
    have hs8 : h8.objs.size = h'.objs.size + 1 := by rw [sb8.1, sb7.1, Heap.size_push]
    rw [m.size] at hz8 hT8 hs8
    refine wpAny_pure ⟨_, rfl, ?_⟩
    show Q (.ref h'.objs.size) _
    rw [m.size]
    refine hQ h8 hz8 (up _ _ Z.oz hT) (fun q hq => ?_) hT8 hs8 fun c o c1 c2 c3 e => up c o c1 (m.keep c o c1 c2 c3 e)
    obtain ⟨k, hk⟩ := List.getElem?_of_mem hq
    have on1 := m.on k q hk
    rw [if_pos (List.getElem?_eq_some_iff.mp hk).1] at on1
    exact Zs.on_at on1 fun o g => up _ o (Z.iz q hq).1 g
theorem zn_end {z TI TO : Addr} {qs : List Zs} {i j0 : Nat} {old : Array Value} {q0 : Zs} {its0 : Array Value} {Q : Fin → Shared → Prop} (hh : A.handled = none) (Z : Zap z TI TO qs) (hle : qs.length ≤ 1000)
    (hz : IsZip s.heap z TI TO .none) (hTI : IsTp s.heap TI (qs.map fun q => Value.ref q.it).toArray) (hTO : IsTp s.heap TO old) (hold : old.size = qs.length)
    (hon : ∀ q ∈ qs, q.on s.heap i) (h0 : qs[j0]? = some q0) (hs0 : q0.sq s.heap its0) (hn0 : its0[i]? = none) (hx : ∀ (k : Nat) (q : Zs), k < j0 → qs[k]? = some q → ∃ (its : Array Value) (x : Value), q.sq s.heap its ∧ its[i]? = some x)
    (hE : ∀ h' e, (∀ c o, c ≠ z → c ≠ TO → (∀ q ∈ qs, c ≠ q.it) → s.heap.get? c = some o → h'.get? c = some o) → (∃ o, h'.get? e = some o ∧ o.cls = .type "StopIteration") → E (.ref e) { s with heap := h' }) :
    wpAny (model prog w) A (Builtin.«zip.__next__» ⟨[.ref z], []⟩) Q E s := by
  have h1000 : 1000 ≤ sizeLine := by rw [sizeLine_eq]; decide
  have hj0 : j0 < qs.length := (List.getElem?_eq_some_iff.mp h0).1
  -- what the first draw
  obtain ⟨xs, hxl, hxs⟩ : ∃ xs : List Value, xs.length = j0 ∧ ∀ (k : Nat) (q : Zs) (x : Value), qs[k]? = some q → xs[k]? = some x → ∃ its, q.sq s.heap its ∧ its[i]? = some x := by
    have gen : ∀ m : Nat, m ≤ j0 → ∃ xs : List Value, xs.length = m ∧ ∀ (k : Nat) (q : Zs) (x : Value), qs[k]? = some q → xs[k]? = some x → ∃ its, q.sq s.heap its ∧ its[i]? = some x := by
      intro m
      induction m with
      | zero => exact fun _ => ⟨[], rfl, fun k q x _ e => by simp at e⟩
      | succ m ih =>
        intro hm
        obtain ⟨xs, h1, h2⟩ := ih (by omega)
        obtain ⟨q, hq⟩ : ∃ q, qs[m]? = some q := ⟨_, List.getElem?_eq_getElem (by omega)⟩
        obtain ⟨its, x, g1, g2⟩ := hx m q (by omega) hq
        refine ⟨xs ++ [x], by rw [List.length_append, h1]; rfl, fun k p y hk hy => ?_⟩
        by_cases e : k < xs.length
        · rw [List.getElem?_append_left e] at hy
          exact h2 k p y hk hy
        · have ek : k = m := by
            have := (List.getElem?_eq_some_iff.mp hy).1
            rw [List.length_append, List.length_singleton] at this
            omega
          subst ek
          rw [← h1, List.getElem?_append_right (Nat.le_refl _), Nat.sub_self] at hy
          rw [hq] at hk
          cases hk
          cases hy
          exact ⟨its, g1, g2⟩
    exact gen j0 (Nat.le_refl _)
  show wpAny _ _ (field (.ref z) 2 >>= _) _ _ _
  refine wpAny_bind (wpAny_field hz rfl (x := Value.bool false) rfl ?_)
  show wpAny _ _ (field (.ref z) 3 >>= _) _ _ _
  refine wpAny_bind (wpAny_field hz rfl (x := Value.ref TI) rfl ?_)
  refine wpAny_bind (wpAny_seqItems hTI rfl ?_)
  have he : (qs.map fun q => Value.ref q.it).toArray.isEmpty = false := by
    cases qs with
    | nil => cases h0
    | cons q r => rfl
  simp only [he, Bool.false_eq_true, if_false]
  refine wpAny_bind ?_
  unfold Builtin.SmallTypes.ownedTupleIsFree
  refine wpAny_bind (wpAny_field hz rfl (x := Value.none) rfl (wpAny_pure ?_))
  simp only [if_true]
  refine wpAny_bind (wpAny_rule (wpAny_bind (wpAny_field hz rfl (x := Value.ref TO) rfl ?_)))
  refine wpAny_bind (wpAny_setField_rec hz (by simp) fun h1 hz1 sb1 => ?_)
  have hz1 : IsZip h1 z TI TO .ellipsis := hz1
  have m0 : Amid z TI TO qs i xs s.heap 0 h1 := Amid.start Z hz1 sb1 hTO hold hon
  refine wpAny_bind (wpAny_forIn_list _ (fun rest b s' => b = (none, ()) ∧ ∃ j h', j ≤ j0 ∧ rest = ((qs.drop j).map fun q => Value.ref q.it).zipIdx j ∧ s' = { s with heap := h' } ∧ Amid z TI TO qs i xs s.heap j h') _ ?turn ?fin _ _ ⟨rfl, 0, h1, Nat.zero_le _, rfl, rfl, m0⟩)
  case turn =>
    rintro y rest b s' ⟨rfl, j, h', hj, hr, rfl, m⟩
    obtain ⟨q, hq⟩ : ∃ q, qs[j]? = some q := ⟨_, List.getElem?_eq_getElem (by omega)⟩
    rw [zdrop hq] at hr
    injection hr with hr1 hr2
    subst hr1 hr2
    have hm := List.mem_of_getElem? hq
    have onj := m.on j q hq
    rw [if_neg (Nat.lt_irrefl j)] at onj
    obtain ⟨arr, hT, ha, hp⟩ := m.own
    refine wpAny_bind (wpAny_onRaise ?_)
    show wpAny _ _ (Builtin.SmallTypes.nextOf (.ref q.it) >>= _) _ _ _
    by_cases ej : j = j0
    · subst ej
      rw [h0] at hq
      cases hq
      refine wpAny_bind (nz_end (s := { s with heap := h' }) hh onj (m.src Z hm hs0) hn0 fun h2 e eb he => ?_)
      obtain ⟨oe, ge, ce⟩ := he
      have hz2 : IsZip h2 z TI TO .ellipsis := eb _ _ (Ne.symm (Z.iz q0 hm).1) m.zip
      have nez : e ≠ z := fun x => by
        subst x
        rw [hz2] at ge
        cases ge
        exact absurd (show Value.type "zip" = Value.type "StopIteration" from ce) (by decide)
      refine wpAny_setField_rec (s := { s with heap := h2 }) hz2 (by simp) fun h3 _ sb3 => ?_
      have sb3 : Heap.SameBut z h2 h3 := sb3
      exact hE h3 e (fun c o c1 c2 c3 g => (sb3.2 c c1).trans (eb c o (c3 q0 hm) (m.keep c o c1 c2 c3 g))) ⟨oe, (sb3.2 e nez).trans ge, ce⟩
    · obtain ⟨x, hxj⟩ : ∃ x, xs[j]? = some x := ⟨_, List.getElem?_eq_getElem (by omega)⟩
      obtain ⟨its, hsq, hxi⟩ := hxs j q x hq hxj
      refine wpAny_bind (nz_item (s := { s with heap := h' }) onj (m.src Z hm hsq) hxi fun h2 on2 sb2 => wpAny_pure ?_)
      have hT2 : IsTp h2 TO arr := (sb2.2 TO (Ne.symm (Z.iz q hm).2.2)).trans hT
      refine wpAny_bind (wpAny_seqItems (s := { s with heap := h2 }) hT2 rfl ?_)
      refine wpAny_bind (tp_set (s := { s with heap := h2 }) hT2 (by omega) fun h3 hT3 sb3 => ?_)
      exact wpAny_bind (wpAny_letGo (wpAny_pure ⟨rfl, j + 1, h3, by omega, rfl, rfl, m.step Z hq hxj on2 sb2 hT ha hp hT3 sb3⟩))
  case fin =>
    rintro b s' ⟨rfl, j, h', hj, hr, rfl, m⟩
    obtain ⟨q, hq⟩ : ∃ q, qs[j]? = some q := ⟨_, List.getElem?_eq_getElem (by omega)⟩
    rw [zdrop hq] at hr
    cases hr
theorem pn_zip {z TI TO : Addr} {qs : List Zs} {i : Nat} {old : Array Value} {xs : List Value} {Q : Option Value → Shared → Prop} (Z : Zap z TI TO qs) (hne : qs ≠ []) (hle : qs.length ≤ 1000)
    (hz : IsZip s.heap z TI TO .none) (hTI : IsTp s.heap TI (qs.map fun q => Value.ref q.it).toArray) (hTO : IsTp s.heap TO old) (hold : old.size = qs.length)
    (hon : ∀ q ∈ qs, q.on s.heap i) (hl : xs.length = qs.length) (hx : ∀ (k : Nat) (q : Zs) (x : Value), qs[k]? = some q → xs[k]? = some x → ∃ its, q.sq s.heap its ∧ its[i]? = some x)
    (hQ : ∀ h', IsZip h' z TI TO (rawInt s.heap.objs.size) → IsTp h' TO xs.toArray → (∀ q ∈ qs, q.on h' (i + 1)) → IsTp h' s.heap.objs.size xs.toArray → h'.objs.size = s.heap.objs.size + 1 →
      (∀ c o, c ≠ z → c ≠ TO → (∀ q ∈ qs, c ≠ q.it) → s.heap.get? c = some o → h'.get? c = some o) → Q (some (.ref s.heap.objs.size)) { s with heap := h' }) :
    wpAny (model prog w) A (pyNext (.ref z)) Q E s := by
  have hT : s.TypeIs (.ref z) "zip" := ⟨_, hz, rfl⟩
  unfold pyNext
  exact wpAny_bind (wpAny_attempt (wpAny_callSpecial?_slot (name := Str.ofString "__next__") hT F.slot_zip_next (wpAny_call_entry F.slot_zip_next hT F.entry_zip_next
    (zn_item Z hne hle hz hTI hTO hold hon hl hx fun h' a1 a2 a3 a4 a5 a6 => wpAny_pure (hQ h' a1 a2 a3 a4 a5 a6)) (F.args_zip_next_1 _))))
theorem pn_zip_end {z TI TO : Addr} {qs : List Zs} {i j0 : Nat} {old : Array Value} {q0 : Zs} {its0 : Array Value} {Q : Option Value → Shared → Prop} (hh : A.handled = none) (Z : Zap z TI TO qs) (hle : qs.length ≤ 1000)
    (hz : IsZip s.heap z TI TO .none) (hTI : IsTp s.heap TI (qs.map fun q => Value.ref q.it).toArray) (hTO : IsTp s.heap TO old) (hold : old.size = qs.length)
    (hon : ∀ q ∈ qs, q.on s.heap i) (h0 : qs[j0]? = some q0) (hs0 : q0.sq s.heap its0) (hn0 : its0[i]? = none) (hx : ∀ (k : Nat) (q : Zs), k < j0 → qs[k]? = some q → ∃ (its : Array Value) (x : Value), q.sq s.heap its ∧ its[i]? = some x)
    (hQ : ∀ h', (∀ c o, c ≠ z → c ≠ TO → (∀ q ∈ qs, c ≠ q.it) → s.heap.get? c = some o → h'.get? c = some o) → Q none { s with heap := h' }) : wpAny (model prog w) A (pyNext (.ref z)) Q E s := by
  have hT : s.TypeIs (.ref z) "zip" := ⟨_, hz, rfl⟩
  unfold pyNext
  refine wpAny_bind (wpAny_attempt (wpAny_callSpecial?_slot (name := Str.ofString "__next__") hT F.slot_zip_next (wpAny_call_entry F.slot_zip_next hT F.entry_zip_next
    (zn_end hh Z hle hz hTI hTO hold hon h0 hs0 hn0 hx fun h' e hk he => ?_) (F.args_zip_next_1 _))))
  obtain ⟨o, ho, hc⟩ := he
  exact wpAny_bind (wpAny_isInstance (T := "StopIteration") (b := true) ⟨o, ho, hc⟩ isSubtype_stop (wpAny_pure (hQ _ hk)))
end
end Et
end
section
namespace Et
open PySem PySem.Spec L2
open AutoSeq1 (wpAny_loadPart')
open PyProof.Rows hiding St

/-! ### zip: how it is made -/
def sqOf (tup : Bool) (h : Heap) (a : Addr) (its : Array Value) : Prop := if tup = true then h.IsTuple a its else h.IsList a its
abbrev itO (tup : Bool) (a : Addr) : Obj := { cls := .type (if tup = true then "tuple_iterator" else "list_iterator"), data := .fields #[.ref a, .int 0 0] }
theorem sqOf.push {tup : Bool} {h : Heap} {a : Addr} {its : Array Value} (x : sqOf tup h a its) (o : Obj) : sqOf tup (h.push o) a its := by
  unfold sqOf at *
  split
  · rename_i c; rw [if_pos c] at x; exact x.push o
  · rename_i c; rw [if_neg c] at x; exact x.push o
theorem sqOf.lt {tup : Bool} {h : Heap} {a : Addr} {its : Array Value} (x : sqOf tup h a its) : a < h.objs.size := by
  unfold sqOf at x
  split at x
  · obtain ⟨o, g, _⟩ := x; exact Heap.lt_size g
  · obtain ⟨o, g, _⟩ := x; exact Heap.lt_size g
section
variable {prog : Program} {w : World} {A : Around} {E : Value → Shared → Prop} {s : Shared}
theorem pz_iter {tup : Bool} {a : Addr} {its : Array Value} {Q : Value → Shared → Prop} (hs : sqOf tup s.heap a its) (k : Q (.ref s.heap.objs.size) { s with heap := s.heap.push (itO tup a) }) : wpAny (model prog w) A (pyIter (.ref a)) Q E s := by
  cases tup
  · exact wpAny_pyIter_list (show s.heap.IsList a its from hs) k
  · exact wpAny_pyIter_tuple (show s.heap.IsTuple a its from hs) k
theorem on_new {h h' : Heap} {tup : Bool} {a n : Addr} (g : h'.get? n = some (itO tup a)) : (Zs.mk n a tup).on h' 0 := by
  unfold Zs.on
  cases tup
  · exact ⟨_, g, rfl, rfl⟩
  · exact ⟨_, g, rfl, rfl⟩
abbrev tpO (vs : Array Value) : Obj := { cls := .type "tuple", data := .seq vs }
abbrev zpO (TI TO : Addr) : Obj := { cls := .type "zip", data := .fields #[.none, .bool false, .bool false, .ref TI, .ref TO] }
abbrev zB (h : Heap) (ta tb : Bool) (a b : Addr) : Heap := (h.push (itO ta a)).push (itO tb b)
abbrev zB1 (h : Heap) (ta tb : Bool) (a b : Addr) : Heap := (zB h ta tb a b).push (tpO #[.ref h.objs.size, .ref (h.push (itO ta a)).objs.size])
abbrev zB2 (h : Heap) (ta tb : Bool) (a b : Addr) : Heap := (zB1 h ta tb a b).push (tpO #[.none, .none])
abbrev zB3 (h : Heap) (ta tb : Bool) (a b : Addr) : Heap := (zB2 h ta tb a b).push (zpO (zB h ta tb a b).objs.size (zB1 h ta tb a b).objs.size)
theorem mz2 (a b : Addr) (ta tb : Bool) (xs ys : Array Value) : Meets (Builtin.«zip.__new__» ⟨[.type "zip", .ref a, .ref b], []⟩) (fun _ R s => sqOf ta s.heap a xs ∧ sqOf tb s.heap b ys ∧
      R (.ok (.ret (.ref (zB2 s.heap ta tb a b).objs.size))) { s with heap := zB3 s.heap ta tb a b }) :=
  .of_wp fun prog w A R s z => by
    obtain ⟨hp, g, d, tk, os⟩ := s
    obtain ⟨ha, hb, z⟩ := z
    have hsub := sub_zip
    have hA : sqOf ta (Shared.heap ⟨hp, g, d, tk, os⟩) a xs := ha
    have hB : sqOf tb (Shared.heap ⟨hp.push (itO ta a), g, d, tk, os⟩) b ys := hb.push _
    wp_walk using pz_iter hA, pz_iter hB
    exact ⟨_, rfl, z⟩
theorem call_z2 {a b : Addr} {ta tb : Bool} {xs ys : Array Value} {Q : Value → Shared → Prop} (ha : sqOf ta s.heap a xs) (hb : sqOf tb s.heap b ys)
    (k : ∀ h', IsZip h' (s.heap.objs.size + 4) (s.heap.objs.size + 2) (s.heap.objs.size + 3) .none → IsTp h' (s.heap.objs.size + 2) #[.ref s.heap.objs.size, .ref (s.heap.objs.size + 1)] → IsTp h' (s.heap.objs.size + 3) #[.none, .none] →
      h'.get? s.heap.objs.size = some (itO ta a) → h'.get? (s.heap.objs.size + 1) = some (itO tb b) → (∀ c o, s.heap.get? c = some o → h'.get? c = some o) → Q (.ref (s.heap.objs.size + 4)) { s with heap := h' }) :
    wpAny (model prog w) A (call (.type "zip") [.ref a, .ref b]) Q E s := by
  refine callType_new F.called_zip (by decide) (F.typeCall_zip_2 _ _) (F.newCall_zip_2 _ _) (fun o => F.args_object_init_3 o _ _) F.entry_zip_new (mz2 a b ta tb xs ys) ⟨ha, hb, ?_⟩
  have z1 : (s.heap.push (itO ta a)).objs.size = s.heap.objs.size + 1 := Heap.size_push ..
  have z2 : (zB s.heap ta tb a b).objs.size = s.heap.objs.size + 2 := by rw [Heap.size_push, z1]
  have z3 : (zB1 s.heap ta tb a b).objs.size = s.heap.objs.size + 3 := by rw [Heap.size_push, z2]
  have z4 : (zB2 s.heap ta tb a b).objs.size = s.heap.objs.size + 4 := by rw [Heap.size_push, z3]
  have g5 : (zB3 s.heap ta tb a b).get? (zB2 s.heap ta tb a b).objs.size = some _ := Heap.get?_push_size _ rfl
  have g4 : (zB3 s.heap ta tb a b).get? (zB1 s.heap ta tb a b).objs.size = some _ := Heap.get?_push_of_some _ (Heap.get?_push_size _ rfl)
  have g3 : (zB3 s.heap ta tb a b).get? (zB s.heap ta tb a b).objs.size = some _ := Heap.get?_push_of_some _ (Heap.get?_push_of_some _ (Heap.get?_push_size _ rfl))
  have g2 : (zB3 s.heap ta tb a b).get? (s.heap.push (itO ta a)).objs.size = some _ := Heap.get?_push_of_some _ (Heap.get?_push_of_some _ (Heap.get?_push_of_some _ (Heap.get?_push_size _ rfl)))
  have g1 : (zB3 s.heap ta tb a b).get? s.heap.objs.size = some _ := Heap.get?_push_of_some _ (Heap.get?_push_of_some _ (Heap.get?_push_of_some _ (Heap.get?_push_of_some _ (Heap.get?_push_size _ rfl))))
  have kp : ∀ c o, s.heap.get? c = some o → (zB3 s.heap ta tb a b).get? c = some o := fun c o e => Heap.get?_push_of_some _ (Heap.get?_push_of_some _ (Heap.get?_push_of_some _ (Heap.get?_push_of_some _ (Heap.get?_push_of_some _ e))))
  show _ ∧ _
  rw [z2, z3, z4] at g5
  rw [z1, z2] at g3
  rw [z3] at g4
  rw [z1] at g2
  rw [z4]
  exact ⟨⟨_, g5, rfl⟩, k _ g5 g3 g4 g1 g2 kp⟩
abbrev zT (h : Heap) (ta tb tc : Bool) (a b c : Addr) : Heap := (zB h ta tb a b).push (itO tc c)
abbrev zT1 (h : Heap) (ta tb tc : Bool) (a b c : Addr) : Heap := (zT h ta tb tc a b c).push (tpO #[.ref h.objs.size, .ref (h.push (itO ta a)).objs.size, .ref (zB h ta tb a b).objs.size])
abbrev zT2 (h : Heap) (ta tb tc : Bool) (a b c : Addr) : Heap := (zT1 h ta tb tc a b c).push (tpO #[.none, .none, .none])
abbrev zT3 (h : Heap) (ta tb tc : Bool) (a b c : Addr) : Heap := (zT2 h ta tb tc a b c).push (zpO (zT h ta tb tc a b c).objs.size (zT1 h ta tb tc a b c).objs.size)
theorem mz3 (a b c : Addr) (ta tb tc : Bool) (xs ys zs : Array Value) : Meets (Builtin.«zip.__new__» ⟨[.type "zip", .ref a, .ref b, .ref c], []⟩) (fun _ R s => sqOf ta s.heap a xs ∧ sqOf tb s.heap b ys ∧ sqOf tc s.heap c zs ∧
      R (.ok (.ret (.ref (zT2 s.heap ta tb tc a b c).objs.size))) { s with heap := zT3 s.heap ta tb tc a b c }) :=
  .of_wp fun prog w A R s z => by
    obtain ⟨hp, g, d, tk, os⟩ := s
    obtain ⟨ha, hb, hc, z⟩ := z
    have hsub := sub_zip
    have hA : sqOf ta (Shared.heap ⟨hp, g, d, tk, os⟩) a xs := ha
    have hB : sqOf tb (Shared.heap ⟨hp.push (itO ta a), g, d, tk, os⟩) b ys := hb.push _
    have hC : sqOf tc (Shared.heap ⟨(hp.push (itO ta a)).push (itO tb b), g, d, tk, os⟩) c zs := (hc.push _).push _
    wp_walk using pz_iter hA, pz_iter hB, pz_iter hC
    exact ⟨_, rfl, z⟩
theorem tc3 (a b c : Value) : checkTypeCall "zip" ⟨[a, b, c], []⟩ = pure () := by kernel_rfl
theorem nc3 (a b c : Value) : checkBuiltinCall "zip.__new__" ⟨[.type "zip", a, b, c], []⟩ = pure () := by kernel_rfl
theorem oi4 (a b c d : Value) : argsOk "object.__init__" ⟨[a, b, c, d], []⟩ := by
  unfold argsOk
  rw [signature?_of (id := "object.__init__") (n := ['_', '_', 't', 'i', 'n', 'i', '_', '_']) (o := ['t', 'c', 'e', 'j', 'b', 'o']) (by kernel_rfl) F.owner_object]
  kernel_rfl
theorem call_z3 {a b c : Addr} {ta tb tc : Bool} {xs ys zs : Array Value} {Q : Value → Shared → Prop} (ha : sqOf ta s.heap a xs) (hb : sqOf tb s.heap b ys) (hc : sqOf tc s.heap c zs)
    (k : ∀ h', IsZip h' (s.heap.objs.size + 5) (s.heap.objs.size + 3) (s.heap.objs.size + 4) .none → IsTp h' (s.heap.objs.size + 3) #[.ref s.heap.objs.size, .ref (s.heap.objs.size + 1), .ref (s.heap.objs.size + 2)] → IsTp h' (s.heap.objs.size + 4) #[.none, .none, .none] →
      h'.get? s.heap.objs.size = some (itO ta a) → h'.get? (s.heap.objs.size + 1) = some (itO tb b) → h'.get? (s.heap.objs.size + 2) = some (itO tc c) → (∀ c o, s.heap.get? c = some o → h'.get? c = some o) → Q (.ref (s.heap.objs.size + 5)) { s with heap := h' }) :
    wpAny (model prog w) A (call (.type "zip") [.ref a, .ref b, .ref c]) Q E s := by
  refine callType_new F.called_zip (by decide) (tc3 _ _ _) (nc3 _ _ _) (fun o => oi4 o _ _ _) F.entry_zip_new (mz3 a b c ta tb tc xs ys zs) ⟨ha, hb, hc, ?_⟩
  have z1 : (s.heap.push (itO ta a)).objs.size = s.heap.objs.size + 1 := Heap.size_push ..
  have z2 : (zB s.heap ta tb a b).objs.size = s.heap.objs.size + 2 := by rw [Heap.size_push, z1]
  have z3 : (zT s.heap ta tb tc a b c).objs.size = s.heap.objs.size + 3 := by rw [Heap.size_push, z2]
  have z4 : (zT1 s.heap ta tb tc a b c).objs.size = s.heap.objs.size + 4 := by rw [Heap.size_push, z3]
  have z5 : (zT2 s.heap ta tb tc a b c).objs.size = s.heap.objs.size + 5 := by rw [Heap.size_push, z4]
  have g6 : (zT3 s.heap ta tb tc a b c).get? (zT2 s.heap ta tb tc a b c).objs.size = some _ := Heap.get?_push_size _ rfl
  have g5 : (zT3 s.heap ta tb tc a b c).get? (zT1 s.heap ta tb tc a b c).objs.size = some _ := Heap.get?_push_of_some _ (Heap.get?_push_size _ rfl)
  have g4 : (zT3 s.heap ta tb tc a b c).get? (zT s.heap ta tb tc a b c).objs.size = some _ := Heap.get?_push_of_some _ (Heap.get?_push_of_some _ (Heap.get?_push_size _ rfl))
  have g3 : (zT3 s.heap ta tb tc a b c).get? (zB s.heap ta tb a b).objs.size = some _ := Heap.get?_push_of_some _ (Heap.get?_push_of_some _ (Heap.get?_push_of_some _ (Heap.get?_push_size _ rfl)))
  have g2 : (zT3 s.heap ta tb tc a b c).get? (s.heap.push (itO ta a)).objs.size = some _ := Heap.get?_push_of_some _ (Heap.get?_push_of_some _ (Heap.get?_push_of_some _ (Heap.get?_push_of_some _ (Heap.get?_push_size _ rfl))))
  have g1 : (zT3 s.heap ta tb tc a b c).get? s.heap.objs.size = some _ := Heap.get?_push_of_some _ (Heap.get?_push_of_some _ (Heap.get?_push_of_some _ (Heap.get?_push_of_some _ (Heap.get?_push_of_some _ (Heap.get?_push_size _ rfl)))))
  have kp : ∀ d o, s.heap.get? d = some o → (zT3 s.heap ta tb tc a b c).get? d = some o := fun d o e => Heap.get?_push_of_some _ (Heap.get?_push_of_some _ (Heap.get?_push_of_some _ (Heap.get?_push_of_some _ (Heap.get?_push_of_some _ (Heap.get?_push_of_some _ e)))))
  show _ ∧ _
  rw [z3, z4, z5] at g6
  rw [z1, z2, z3] at g4
  rw [z4] at g5
  rw [z2] at g3
  rw [z1] at g2
  rw [z5]
  exact ⟨⟨_, g6, rfl⟩, k _ g6 g4 g5 g1 g2 g3 kp⟩
end
/-! ### zip: its turns -/
/-- the list or tuple at a -/
def SqB (K : PySem.W.Frag) (H : Hp) (p : Addr × Bool) (xs : List V) : Prop := if p.2 = true then SqT K H p.1 xs else SqL K H p.1 xs
theorem sqB_at {X : Cx} {pins : List (Addr × Obj)} {σ : St} {H : Hp} {s : Shared} {p : Addr × Bool} {xs : List V} (I : Inv X pins σ H s) (q : SqB X.K H p xs) : ∃ its : List Value, Vals xs its ∧ sqOf p.2 s.heap p.1 its.toArray := by
  unfold SqB at q
  unfold sqOf
  split at q
  · rename_i c
    obtain ⟨its, rv, pl, _⟩ := I.tuple q
    exact ⟨its, rv, by rw [if_pos c]; exact pl⟩
  · rename_i c
    obtain ⟨its, rv, pl, _⟩ := I.list q
    exact ⟨its, rv, by rw [if_neg c]; exact pl.isList⟩
theorem sqB_inj {X : Cx} {pins : List (Addr × Obj)} {σ : St} {H : Hp} {s : Shared} {p : Addr × Bool} {xs ys : List V} (I : Inv X pins σ H s) (q : SqB X.K H p xs) (q' : SqB X.K H p ys) : xs = ys := by
  unfold SqB at q q'
  split at q
  · rename_i c
    rw [if_pos c] at q'
    exact I.tuple_inj q q'
  · rename_i c
    rw [if_neg c] at q'
    exact I.list_inj q q'
def Itn (K : PySem.W.Frag) (as : List (Addr × Bool)) : It where
  go := fun i H => ∀ p ∈ as, ∃ (xs : List V) (x : V), SqB K H p xs ∧ xs[i]? = some x
  yld := fun i H v H' => ∃ T vs, v = .ref T ∧ H T = none ∧ H' = upd H T (.tup vs) ∧ vs.length = as.length ∧ ∀ (k : Nat) (p : Addr × Bool) (x : V), as[k]? = some p → vs[k]? = some x → ∀ xs, SqB K H p xs → xs[i]? = some x
  stop := fun i H => ∃ (j : Nat) (p : Addr × Bool) (xs : List V), as[j]? = some p ∧ SqB K H p xs ∧ xs.length ≤ i ∧ ∀ (k : Nat) (q : Addr × Bool), k < j → as[k]? = some q → ∃ (ys : List V) (y : V), SqB K H q ys ∧ ys[i]? = some y
abbrev Zs.pr (q : Zs) : Addr × Bool := (q.src, q.tup)
theorem Zs.sq_of {q : Zs} {h : Heap} {its : Array Value} : q.sq h its = sqOf q.tup h q.src its := rfl
theorem draws {X : Cx} {pins : List (Addr × Obj)} {σ : St} {H : Hp} {s : Shared} {i : Nat} (I : Inv X pins σ H s) : ∀ qs : List Zs, (∀ q ∈ qs, ∃ (xs : List V) (x : V), SqB X.K H q.pr xs ∧ xs[i]? = some x) →
    ∃ (vs : List V) (us : List Value), Vals vs us ∧ us.length = qs.length ∧ (∀ (k : Nat) (q : Zs) (u : Value), qs[k]? = some q → us[k]? = some u → ∃ its, q.sq s.heap its ∧ its[i]? = some u) ∧
      ∀ (k : Nat) (q : Zs) (x : V), qs[k]? = some q → vs[k]? = some x → ∀ xs, SqB X.K H q.pr xs → xs[i]? = some x
  | [], _ => ⟨[], [], .nil, rfl, fun k q u e => by simp at e, fun k q x e => by simp at e⟩
  | q :: qs, h => by
    obtain ⟨vs, us, h1, h2, h3, h4⟩ := draws I qs fun p hp => h p (List.mem_cons_of_mem _ hp)
    obtain ⟨xs, x, g1, g2⟩ := h q (by simp)
    obtain ⟨its, rv, sq⟩ := sqB_at I g1
    obtain ⟨u, hu, ru⟩ := rv.get g2
    refine ⟨x :: vs, u :: us, .cons ru h1, by rw [List.length_cons, h2, List.length_cons], fun k p y e1 e2 => ?_, fun k p y e1 e2 ys hy => ?_⟩
    · cases k with
      | zero =>
        simp at e1 e2
        subst e1 e2
        exact ⟨_, sq, by simpa using hu⟩
      | succ k => exact h3 k p y (by simpa using e1) (by simpa using e2)
    · cases k with
      | zero =>
        simp at e1 e2
        subst e1 e2
        rw [sqB_inj I hy g1]
        exact g2
      | succ k => exact h4 k p y (by simpa using e1) (by simpa using e2) ys hy
theorem turn_zipN {P : Program} {w : World} {K : PySem.W.Frag} {elts : List Expr} {kk : Nat} {tpos : Pos} {z TI TO : Addr} {qs : List Zs} (Z : Zap z TI TO qs) (hne : qs ≠ []) (hle : qs.length ≤ 1000) :
    Turn P w K (.Tuple elts kk tpos) (Itn K (qs.map Zs.pr)) (z :: TI :: TO :: qs.map Zs.it) z
      (fun i h => IsZip h z TI TO .none ∧ IsTp h TI (qs.map fun q => Value.ref q.it).toArray ∧ (∃ old : Array Value, IsTp h TO old ∧ old.size = qs.length) ∧ ∀ q ∈ qs, q.on h i) where
  mem := by simp
  obj := fun i h st c hc => by
    obtain ⟨hz, hTI, ⟨old, hTO, _⟩, hon⟩ := st
    rcases List.mem_cons.mp hc with e | hc
    · rw [e]; exact ⟨_, hz, fun v q => nomatch q⟩
    rcases List.mem_cons.mp hc with e | hc
    · rw [e]; exact ⟨_, hTI, fun v q => nomatch q⟩
    rcases List.mem_cons.mp hc with e | hc
    · rw [e]; exact ⟨_, hTO, fun v q => nomatch q⟩
    obtain ⟨q, hq, e⟩ := List.mem_map.mp hc
    obtain ⟨o, vs, g, d⟩ := Zs.on_ob (hon q hq)
    rw [← e]
    exact ⟨o, g, fun v q => by rw [d] at q; cases q⟩
  keep := fun i h h' st k => by
    obtain ⟨hz, hTI, ⟨old, hTO, ho⟩, hon⟩ := st
    exact ⟨k z (by simp) _ hz, k TI (by simp) _ hTI, ⟨old, k TO (by simp) _ hTO, ho⟩, fun q hq => Zs.on_at (hon q hq) fun o g => k q.it (List.mem_cons_of_mem _ (List.mem_cons_of_mem _ (List.mem_cons_of_mem _ (List.mem_map.mpr ⟨q, hq, rfl⟩)))) o g⟩
  item := by
    intro X hP hw hK hc i pins s σ H E I hf st hg
    subst hP hw hK
    obtain ⟨hz, hTI, ⟨old, hTO, ho⟩, hon⟩ := st
    obtain ⟨vs, us, rv, hul, hx, hy⟩ := draws (i := i) I qs fun q hq => hg q.pr (List.mem_map.mpr ⟨q, hq, rfl⟩)
    have hzl : z < s.heap.objs.size := Heap.lt_size hz
    refine pn_zip Z hne hle hz hTI hTO ho hon hul hx fun h' z' TO' on' hT hsz hk => ?_
    refine ⟨_, rfl, wpAny_letOwnedTupleGo_zip (s := { s with heap := h' }) z' fun h'' z'' sb => ?_⟩
    have sb : Heap.SameBut z h' h'' := sb
    have hT2 : h''.get? s.heap.objs.size = some { cls := .type "tuple", data := .seq us.toArray } := (sb.2 _ (Nat.ne_of_gt hzl)).trans hT
    have hvl : vs.length = qs.length := by rw [rv.length, hul]
    have new : ObjOk X.prog X.w (upd H s.heap.objs.size (.tup vs)) h'' s.heap.objs.size (.tup vs) := ⟨by rw [hvl, sizeLine_eq]; omega, us, rv, ⟨_, hT2, rfl, _, rfl⟩⟩
    have I1 : Inv X pins σ (upd H s.heap.objs.size (.tup vs)) { s with heap := h'' } :=
      I.turnedNew (t' := s.toks) (ch := z :: TI :: TO :: qs.map Zs.it) (fun c o hb q => (sb.2 c (fun q' => hb (by simp [q']))).trans (hk c o (fun q' => hb (by simp [q'])) (fun q' => hb (by simp [q'])) (fun p hp q' => hb (by simp only [List.mem_cons, List.mem_map]; exact .inr (.inr (.inr ⟨p, hp, q'.symm⟩)))) q)) hf (Nat.le_refl _) new
    refine ⟨.ref s.heap.objs.size, _, I1, rfl, ⟨_, vs, rfl, I.hok.fresh (Nat.le_refl _), rfl, by rw [hvl, List.length_map], fun k p x e1 e2 => ?_⟩, ⟨z'', ?_, ⟨us.toArray, ?_, by simp [hul]⟩, fun q hq => ?_⟩, fun c hcm => ?_⟩
    · rw [List.getElem?_map] at e1
      cases e : qs[k]? with
      | none => rw [e] at e1; cases e1
      | some q => rw [e] at e1; cases e1; exact hy k q x e e2
    · exact (sb.2 _ Z.tz).trans (hk _ _ Z.tz Z.to (fun q hq => Ne.symm (Z.iz q hq).2.1) hTI)
    · exact (sb.2 _ Z.oz).trans TO'
    · exact Zs.on_at (on' q hq) fun o g => (sb.2 _ (Z.iz q hq).1).trans g
    · have hlt : c < s.heap.objs.size := by
        rcases List.mem_cons.mp hcm with e | hcm
        · rw [e]; exact hzl
        rcases List.mem_cons.mp hcm with e | hcm
        · rw [e]; exact Heap.lt_size hTI
        rcases List.mem_cons.mp hcm with e | hcm
        · rw [e]; exact Heap.lt_size hTO
        obtain ⟨q, hq, e⟩ := List.mem_map.mp hcm
        obtain ⟨o, _, g, _⟩ := Zs.on_ob (hon q hq)
        rw [← e]
        exact Heap.lt_size g
      rw [upd_ne (Nat.ne_of_lt hlt)]
      exact (hf c hcm).1
  done := by
    intro X hP hw hK hc i pins s σ H E I hf st hg
    subst hP hw hK
    obtain ⟨hz, hTI, ⟨old, hTO, ho⟩, hon⟩ := st
    obtain ⟨j, p, xs, hp, hq, hl, hbef⟩ := hg
    rw [List.getElem?_map] at hp
    obtain ⟨q0, h0, e0⟩ : ∃ q0, qs[j]? = some q0 ∧ q0.pr = p := by
      cases e : qs[j]? with
      | none => rw [e] at hp; cases hp
      | some q => rw [e] at hp; exact ⟨q, rfl, Option.some.inj hp⟩
    subst e0
    obtain ⟨its, rv, sq⟩ := sqB_at I hq
    have hl2 := rv.length
    refine pn_zip_end (I.ok.hd hc) Z hle hz hTI hTO ho hon h0 sq (by simp; omega) (fun k q hk hq' => ?_) fun h' hk => ⟨rfl, I.turnedL (t' := s.toks) (ch := z :: TI :: TO :: qs.map Zs.it) (fun c o hb q =>
      hk c o (fun q' => hb (by simp [q'])) (fun q' => hb (by simp [q'])) (fun p hp q' => hb (by simp only [List.mem_cons, List.mem_map]; exact .inr (.inr (.inr ⟨p, hp, q'.symm⟩)))) q) hf⟩
    obtain ⟨ys, y, g1, g2⟩ := hbef k q.pr hk (by rw [List.getElem?_map, hq']; rfl)
    obtain ⟨its', rv', sq'⟩ := sqB_at I g1
    obtain ⟨u, hu, _⟩ := rv'.get g2
    exact ⟨_, u, sq', by simpa using hu⟩
  self := fun A i s Q E st h => wpAny_pyIter_zip st.1 h
end Et
end
section
namespace Et
open PySem PySem.Spec L2
open PyProof.Rows hiding St

/-! ### zip of two, of three: lists or tuples (ka, kb, kc: a tuple) -/
def iZ2 (K : PySem.W.Frag) (ka kb : Bool) (ta : TA) : TI := fun σ H R => ta σ H fun vs H1 => ∃ a b xs ys, vs = [.ref a, .ref b] ∧ SqB K H1 (a, ka) xs ∧ SqB K H1 (b, kb) ys ∧ R (Itn K [(a, ka), (b, kb)]) H1
def iZ3 (K : PySem.W.Frag) (ka kb kc : Bool) (ta : TA) : TI := fun σ H R => ta σ H fun vs H1 => ∃ a b c xs ys zs, vs = [.ref a, .ref b, .ref c] ∧ SqB K H1 (a, ka) xs ∧ SqB K H1 (b, kb) ys ∧ SqB K H1 (c, kc) zs ∧ R (Itn K [(a, ka), (b, kb), (c, kc)]) H1
theorem ne_nat {a b : Addr} (h : ¬ @Eq Nat a b) : a ≠ b := fun e => h e
theorem zap_of {z TI TO : Addr} {qs : List Zs} {n : Nat} (hz : @Eq Nat z (n + qs.length + 2)) (ht : @Eq Nat TI (n + qs.length)) (ho : @Eq Nat TO (n + qs.length + 1)) (hi : ∀ (k : Nat) (q : Zs), qs[k]? = some q → @Eq Nat q.it (n + k)) (hs : ∀ q ∈ qs, @LT.lt Nat _ q.src n) : Zap z TI TO qs := by
  have ii : ∀ q ∈ qs, @LE.le Nat _ n q.it ∧ @LT.lt Nat _ q.it (n + qs.length) := fun q hq => by
    obtain ⟨k, hk⟩ := List.getElem?_of_mem hq
    have := hi k q hk
    have h2 := (List.getElem?_eq_some_iff.mp hk).1
    omega
  refine ⟨ne_nat (by omega), ne_nat (by omega), ne_nat (by omega), fun q hq => ?_, fun q hq => ?_, fun j k p q hj hk ne => ?_⟩
  · have := ii q hq
    exact ⟨ne_nat (by omega), ne_nat (by omega), ne_nat (by omega)⟩
  · have := hs q hq
    exact ⟨ne_nat (by omega), ne_nat (by omega), fun p hp => ne_nat (by have := ii p hp; omega)⟩
  · have h1 := hi j p hj
    have h2 := hi k q hk
    exact ne_nat (by omega)
section
variable {X : Cx}
theorem pi_z2 (ka kb : Bool) {e e2 : Expr} {ta : TA} {p pos tpos : Pos} {elts : List Expr} {kk : Nat} (hg : Gl X "zip") (hm : X.mg "zip" = none) (ha : PA X [e, e2] ta)
    (hs : starEach [e, e2] X.env = (false, eval e X.env) :: starEach [e2] X.env := by rfl) (hpl : (backTo pos (starEach [e2] X.env)).any (·.1) = false := by rfl) :
    PI X (.Tuple elts kk tpos) (.Call (.Name "zip" p) [e, e2] [] pos) (iZ2 X.K ka kb ta) := by
  intro pins s σ H R I h
  refine Call_ (ld_blt I hg hm boot_zip5 (PyProof.Rows.callWith_type1 (thn (ha pos pins s σ H _ I h) fun us s1 ⟨vs, H1, I1, r1, q1⟩ => ?_) hs hpl))
  obtain ⟨a, b, xs, ys, ex, hqx, hqy, q⟩ := q1
  subst ex
  cases r1 with
  | cons r rr =>
    cases rr with
    | cons r' rr =>
      cases rr
      cases r
      cases r'
      obtain ⟨its, rv, p1⟩ := sqB_at I1 hqx
      obtain ⟨its2, rv2, p2⟩ := sqB_at I1 hqy
      have la := p1.lt
      have lb := p2.lt
      refine call_z2 p1 p2 fun h' hz hTI hTO g1 g2 hk => wpAny_pyIter_zip hz ?_
      have I2 : Inv X pins σ H1 { s1 with heap := h' } := I1.kept (t' := s1.toks) hk
      have Z : Zap (s1.heap.objs.size + 4) (s1.heap.objs.size + 2) (s1.heap.objs.size + 3) [⟨s1.heap.objs.size, a, ka⟩, ⟨s1.heap.objs.size + 1, b, kb⟩] := zap_of (n := s1.heap.objs.size) rfl rfl rfl
        (fun k q e => by
          match k, e with
          | 0, e => cases e; rfl
          | 1, e => cases e; rfl) (fun q hq => by
          rcases List.mem_cons.mp hq with e | hq
          · rw [e]; exact la
          · rw [List.mem_singleton.mp hq]; exact lb)
      refine ⟨s1.heap.objs.size + 4, _, _, _, H1, rfl, I2, turn_zipN (qs := [⟨s1.heap.objs.size, a, ka⟩, ⟨s1.heap.objs.size + 1, b, kb⟩]) Z (by simp) (by show 2 ≤ 1000; decide), ⟨hz, hTI, ⟨_, hTO, rfl⟩, fun q hq => ?_⟩, fun c hcm => ?_, q⟩
      · rcases List.mem_cons.mp hq with e | hq
        · rw [e]; exact on_new (h := h') g1
        · rw [List.mem_singleton.mp hq]; exact on_new (h := h') g2
      · have hle : s1.heap.objs.size ≤ c := by
          have hcm : c ∈ [s1.heap.objs.size + 4, s1.heap.objs.size + 2, s1.heap.objs.size + 3, s1.heap.objs.size, s1.heap.objs.size + 1] := hcm
          simp only [List.mem_cons, List.not_mem_nil, or_false] at hcm
          rcases hcm with e | e | e | e | e <;> (rw [e]; first | exact Nat.le_add_right _ _ | exact Nat.le_refl _)
        exact I1.fpOk hle (I1.hok.fresh hle)
theorem pi_z3 (ka kb kc : Bool) {e e2 e3 : Expr} {ta : TA} {p pos tpos : Pos} {elts : List Expr} {kk : Nat} (hg : Gl X "zip") (hm : X.mg "zip" = none) (ha : PA X [e, e2, e3] ta)
    (hs : starEach [e, e2, e3] X.env = (false, eval e X.env) :: starEach [e2, e3] X.env := by rfl) (hpl : (backTo pos (starEach [e2, e3] X.env)).any (·.1) = false := by rfl) :
    PI X (.Tuple elts kk tpos) (.Call (.Name "zip" p) [e, e2, e3] [] pos) (iZ3 X.K ka kb kc ta) := by
  intro pins s σ H R I h
  refine Call_ (ld_blt I hg hm boot_zip5 (PyProof.Rows.callWith_type1 (thn (ha pos pins s σ H _ I h) fun us s1 ⟨vs, H1, I1, r1, q1⟩ => ?_) hs hpl))
  obtain ⟨a, b, c, xs, ys, zs, ex, hqx, hqy, hqz, q⟩ := q1
  subst ex
  cases r1 with
  | cons r rr =>
    cases rr with
    | cons r' rr =>
      cases rr with
      | cons r3 rr =>
        cases rr
        cases r
        cases r'
        cases r3
        obtain ⟨its, rv, p1⟩ := sqB_at I1 hqx
        obtain ⟨its2, rv2, p2⟩ := sqB_at I1 hqy
        obtain ⟨its3, rv3, p3⟩ := sqB_at I1 hqz
        have la := p1.lt
        have lb := p2.lt
        have lc := p3.lt
        refine call_z3 p1 p2 p3 fun h' hz hTI hTO g1 g2 g3 hk => wpAny_pyIter_zip hz ?_
        have I2 : Inv X pins σ H1 { s1 with heap := h' } := I1.kept (t' := s1.toks) hk
        have Z : Zap (s1.heap.objs.size + 5) (s1.heap.objs.size + 3) (s1.heap.objs.size + 4) [⟨s1.heap.objs.size, a, ka⟩, ⟨s1.heap.objs.size + 1, b, kb⟩, ⟨s1.heap.objs.size + 2, c, kc⟩] := zap_of (n := s1.heap.objs.size) rfl rfl rfl
          (fun k q e => by
            match k, e with
            | 0, e => cases e; rfl
            | 1, e => cases e; rfl
            | 2, e => cases e; rfl) (fun q hq => by
            rcases List.mem_cons.mp hq with e | hq
            · rw [e]; exact la
            rcases List.mem_cons.mp hq with e | hq
            · rw [e]; exact lb
            · rw [List.mem_singleton.mp hq]; exact lc)
        refine ⟨s1.heap.objs.size + 5, _, _, _, H1, rfl, I2, turn_zipN (qs := [⟨s1.heap.objs.size, a, ka⟩, ⟨s1.heap.objs.size + 1, b, kb⟩, ⟨s1.heap.objs.size + 2, c, kc⟩]) Z (by simp) (by show 3 ≤ 1000; decide), ⟨hz, hTI, ⟨_, hTO, rfl⟩, fun q hq => ?_⟩, fun d hcm => ?_, q⟩
        · rcases List.mem_cons.mp hq with e | hq
          · rw [e]; exact on_new (h := h') g1
          rcases List.mem_cons.mp hq with e | hq
          · rw [e]; exact on_new (h := h') g2
          · rw [List.mem_singleton.mp hq]; exact on_new (h := h') g3
        · have hle : s1.heap.objs.size ≤ d := by
            have hcm : d ∈ [s1.heap.objs.size + 5, s1.heap.objs.size + 3, s1.heap.objs.size + 4, s1.heap.objs.size, s1.heap.objs.size + 1, s1.heap.objs.size + 2] := hcm
            simp only [List.mem_cons, List.not_mem_nil, or_false] at hcm
            rcases hcm with e | e | e | e | e | e <;> (rw [e]; first | exact Nat.le_add_right _ _ | exact Nat.le_refl _)
          exact I1.fpOk hle (I1.hok.fresh hle)
end
/-! ### the forms one uses -/
theorem get_of {α : Type} {l : List α} {i : Nat} (h : i < l.length) : ∃ x, l[i]? = some x := ⟨_, List.getElem?_eq_getElem h⟩
section
variable {K : PySem.W.Frag} {a b c : Addr} {ka kb kc : Bool} {xs ys zs : List V} {i : Nat} {H : Hp}
theorem go2 (hx : SqB K H (a, ka) xs) (hy : SqB K H (b, kb) ys) (hi : i < min xs.length ys.length) : (Itn K [(a, ka), (b, kb)]).go i H := fun p hp => by
  obtain ⟨x, ex⟩ := get_of (l := xs) (i := i) (by omega)
  obtain ⟨y, ey⟩ := get_of (l := ys) (i := i) (by omega)
  rcases List.mem_cons.mp hp with e | hp
  · rw [e]; exact ⟨xs, x, hx, ex⟩
  · rw [List.mem_singleton.mp hp]; exact ⟨ys, y, hy, ey⟩
theorem stop2 (hx : SqB K H (a, ka) xs) (hy : SqB K H (b, kb) ys) (hi : i = min xs.length ys.length) : (Itn K [(a, ka), (b, kb)]).stop i H := by
  by_cases h : xs.length ≤ i
  · exact ⟨0, _, xs, rfl, hx, h, fun k q hk => absurd hk (Nat.not_lt_zero _)⟩
  · refine ⟨1, _, ys, rfl, hy, by omega, fun k q hk e => ?_⟩
    have : k = 0 := by omega
    subst this
    cases e
    obtain ⟨x, ex⟩ := get_of (l := xs) (i := i) (by omega)
    exact ⟨xs, x, hx, ex⟩
theorem yld2 {v : V} {H' : Hp} (hx : SqB K H (a, ka) xs) (hy : SqB K H (b, kb) ys) (h : (Itn K [(a, ka), (b, kb)]).yld i H v H') : ∃ T x y, v = .ref T ∧ H T = none ∧ H' = upd H T (.tup [x, y]) ∧ xs[i]? = some x ∧ ys[i]? = some y := by
  obtain ⟨T, vs, e1, e2, e3, e4, e5⟩ := h
  match vs, e4 with
  | [x, y], _ => exact ⟨T, x, y, e1, e2, e3, e5 0 _ x rfl rfl xs hx, e5 1 _ y rfl rfl ys hy⟩
theorem go3 (hx : SqB K H (a, ka) xs) (hy : SqB K H (b, kb) ys) (hz : SqB K H (c, kc) zs) (hi : i < min xs.length (min ys.length zs.length)) : (Itn K [(a, ka), (b, kb), (c, kc)]).go i H := fun p hp => by
  obtain ⟨x, ex⟩ := get_of (l := xs) (i := i) (by omega)
  obtain ⟨y, ey⟩ := get_of (l := ys) (i := i) (by omega)
  obtain ⟨z, ez⟩ := get_of (l := zs) (i := i) (by omega)
  rcases List.mem_cons.mp hp with e | hp
  · rw [e]; exact ⟨xs, x, hx, ex⟩
  rcases List.mem_cons.mp hp with e | hp
  · rw [e]; exact ⟨ys, y, hy, ey⟩
  · rw [List.mem_singleton.mp hp]; exact ⟨zs, z, hz, ez⟩
theorem stop3 (hx : SqB K H (a, ka) xs) (hy : SqB K H (b, kb) ys) (hz : SqB K H (c, kc) zs) (hi : i = min xs.length (min ys.length zs.length)) : (Itn K [(a, ka), (b, kb), (c, kc)]).stop i H := by
  by_cases h : xs.length ≤ i
  · exact ⟨0, _, xs, rfl, hx, h, fun k q hk => absurd hk (Nat.not_lt_zero _)⟩
  obtain ⟨x, ex⟩ := get_of (l := xs) (i := i) (by omega)
  by_cases h2 : ys.length ≤ i
  · refine ⟨1, _, ys, rfl, hy, h2, fun k q hk e => ?_⟩
    have : k = 0 := by omega
    subst this
    cases e
    exact ⟨xs, x, hx, ex⟩
  obtain ⟨y, ey⟩ := get_of (l := ys) (i := i) (by omega)
  refine ⟨2, _, zs, rfl, hz, by omega, fun k q hk e => ?_⟩
  match k, hk, e with
  | 0, _, e => cases e; exact ⟨xs, x, hx, ex⟩
  | 1, _, e => cases e; exact ⟨ys, y, hy, ey⟩
theorem yld3 {v : V} {H' : Hp} (hx : SqB K H (a, ka) xs) (hy : SqB K H (b, kb) ys) (hz : SqB K H (c, kc) zs) (h : (Itn K [(a, ka), (b, kb), (c, kc)]).yld i H v H') :
    ∃ T x y z, v = .ref T ∧ H T = none ∧ H' = upd H T (.tup [x, y, z]) ∧ xs[i]? = some x ∧ ys[i]? = some y ∧ zs[i]? = some z := by
  obtain ⟨T, vs, e1, e2, e3, e4, e5⟩ := h
  match vs, e4 with
  | [x, y, z], _ => exact ⟨T, x, y, z, e1, e2, e3, e5 0 _ x rfl rfl xs hx, e5 1 _ y rfl rfl ys hy, e5 2 _ z rfl rfl zs hz⟩
end
/-- over any walk of n turns -/
theorem for_walk {J : It} {n : Nat} {g : TG} {tb : TS} {D : Ends} {σ : St} {H : Hp} (Pv : Nat → St → Hp → Prop) (h0 : Pv 0 σ H) (hgo : ∀ i σ H, i < n → Pv i σ H → J.go i H) (hst : ∀ σ H, Pv n σ H → J.stop n H)
    (hs : ∀ i x σ H H', i < n → Pv i σ H → J.yld i H x H' → g x σ H' fun σ2 H2 => tb { D with nx := Pv (i + 1), ct := Pv (i + 1), bk := D.nx } σ2 H2) (hd : ∀ σ H, Pv n σ H → D.nx σ H) :
    ∃ W : Nat → Nat → St → Hp → Prop, (∃ m, W 0 m σ H) ∧ ∀ i m σ H, W i m σ H →
      (J.stop i H ∧ D.nx σ H) ∨ (J.go i H ∧ ∃ N : St → Hp → Prop, (∀ σ' H', N σ' H' → ∃ m', m' < m ∧ W (i + 1) m' σ' H') ∧ ∀ x H', J.yld i H x H' → g x σ H' fun σ2 H2 => tb { D with nx := N, ct := N, bk := D.nx } σ2 H2) := by
  refine ⟨fun i m σ H => m = n - i ∧ i ≤ n ∧ Pv i σ H, ⟨n, by simp, Nat.zero_le _, h0⟩, ?_⟩
  rintro i m σ H ⟨rfl, hi, p⟩
  by_cases hlt : i < n
  · exact .inr ⟨hgo i σ H hlt p, Pv (i + 1), fun σ' H' p' => ⟨n - (i + 1), by omega, rfl, hlt, p'⟩, fun v H' y => hs i v σ H H' hlt p y⟩
  · have e : i = n := by omega
    subst e
    exact .inl ⟨hst σ H p, hd σ H p⟩
theorem lc_walk {J : It} {n : Nat} {g : TG} {tt : TT} {te : TE} {vs : List Nat} {σ : St} {H1 : Hp} {D : Addr} {Qd : Hp → Prop} (Pv : Nat → Hp → Prop) (h0 : Pv 0 (upd H1 D (.lst []))) (hgo : ∀ i H, i < n → Pv i H → J.go i H) (hst : ∀ H, Pv n H → J.stop n H)
    (hs : ∀ i x H H', i < n → Pv i H → J.yld i H x H' → g x (wipe σ vs) H' fun σ2 H2 => wipe σ2 vs = wipe σ vs ∧ tt σ2 H2 fun b H3 =>
      if b = true then te σ2 H3 fun y H4 => ∃ acc, H4 D = some (.lst acc) ∧ acc.length < sizeLine ∧ Pv (i + 1) (upd H4 D (.lst (acc ++ [y]))) else Pv (i + 1) H3) (hd : ∀ H, Pv n H → Qd H) :
    ∃ W : Nat → Nat → Hp → Prop, (∃ m, W 0 m (upd H1 D (.lst []))) ∧ ∀ i m H, W i m H →
      (J.stop i H ∧ Qd H) ∨ (J.go i H ∧ ∃ Nx : Hp → Prop, (∀ H', Nx H' → ∃ m', m' < m ∧ W (i + 1) m' H') ∧ ∀ x H', J.yld i H x H' → g x (wipe σ vs) H' fun σ2 H2 => wipe σ2 vs = wipe σ vs ∧ tt σ2 H2 fun b H3 =>
        if b = true then te σ2 H3 fun y H4 => ∃ acc, H4 D = some (.lst acc) ∧ acc.length < sizeLine ∧ Nx (upd H4 D (.lst (acc ++ [y]))) else Nx H3) := by
  refine ⟨fun i m H => m = n - i ∧ i ≤ n ∧ Pv i H, ⟨n, by simp, Nat.zero_le _, h0⟩, ?_⟩
  rintro i m H ⟨rfl, hi, p⟩
  by_cases hlt : i < n
  · exact .inr ⟨hgo i H hlt p, Pv (i + 1), fun H' p' => ⟨n - (i + 1), by omega, rfl, hlt, p'⟩, fun v H' y => hs i v H H' hlt p y⟩
  · have e : i = n := by omega
    subst e
    exact .inl ⟨hst H p, hd H p⟩
end Et
end
section
namespace Et
open PySem PySem.Spec L2
open PyProof.Rows hiding St

/-! ### whole numbers of many digits -/
/-- fewer than 2^20 bits -/
def Bg (i : Int) : Prop := i.natAbs < 2 ^ 1048576
theorem mulOk_bg {i j : Int} (hi : Bg i) (hj : Bg j) : IntMulOk i j := .of_bits (intBits_le hi) (intBits_le hj)
theorem bg_nat {n k : Nat} (h : n < 2 ^ k) (hk : k ≤ 1048576) : Bg (n : Int) := Nat.lt_of_lt_of_le (show ((n : Int)).natAbs < 2 ^ k by rw [Int.natAbs_natCast]; exact h) (Nat.pow_le_pow_right (by decide) hk)
section
variable {X : Cx}
theorem op_mulB : OpR X (binaryOp .Mult) (rI (fun i j => Bg i ∧ Bg j) fun i j => .int (i * j)) := opI fun _ _ _ _ _ _ _ hc q => mul_int q (mulOk_bg hc.1 hc.2)
theorem ip_mulB : PIp X .Mult (fun x y H Q => ∃ i j, x = .int i ∧ y = .int j ∧ (Bg i ∧ Bg j) ∧ Q (.int (i * j)) H) := by
  intro pins s σ H x y v u Q I r1 r2 h
  obtain ⟨i, j, rfl, rfl, hc, q⟩ := h
  obtain ⟨t, rfl⟩ := r1
  obtain ⟨t', rfl⟩ := r2
  exact imul_int ⟨.int _, H, I.tok _, ⟨_, rfl⟩, q⟩ (mulOk_bg hc.1 hc.2)
theorem ip_fdiv : PIp X .FloorDiv (fun x y H Q => ∃ i j, x = .int i ∧ y = .int j ∧ CDiv i j ∧ Q (.int (i / j)) H) := by
  intro pins s σ H x y v u Q I r1 r2 h
  obtain ⟨i, j, rfl, rfl, hc, q⟩ := h
  obtain ⟨t, rfl⟩ := r1
  obtain ⟨t', rfl⟩ := r2
  have h1 : (0 : Int) < j := hc.1
  have h2 : j < 1073741824 := hc.2
  exact ifloordiv_int (by omega) (by rw [Int.fdiv_eq_ediv_of_nonneg i (by omega)]; exact ⟨.int _, H, I.tok _, ⟨_, rfl⟩, q⟩) (.inl (PyProof.noPylong_small (by omega)))
/-- << of a number of many digits -/
theorem op_shlB : OpR X (binaryOp .LShift) (rI (fun i j => Bg i ∧ 0 ≤ j ∧ j ≤ 1000000) fun i j => .int (i * 2 ^ j.toNat)) := opI fun i j _ _ _ _ _ hc q => lshift_int hc.2.1 (by
  have h1 : Builtin.Int.intBits i ≤ 1048576 := intBits_le hc.1
  have h2 := hc.2.2
  omega) q
end
end Et
end
section
namespace Et
open PySem PySem.Spec L2
open PyProof.Rows hiding St

/-! ### + of lists, wherever they stand -/
def rCatQ (K : PySem.W.Frag) : R2 := fun x y H Q => ∃ l b xs zs, x = .ref l ∧ y = .ref b ∧ SqL K H l xs ∧ SqL K H b zs ∧ xs.length + zs.length ≤ sizeLine ∧ ∀ p, H p = none → Q (.ref p) (upd H p (.lst (xs ++ zs)))
theorem op_catQ {X : Cx} : OpR X (binaryOp .Add) (rCatQ X.K) := by
  intro pins s σ H x y v u Q I rx ry h
  obtain ⟨l, b, xs, zs, rfl, rfl, hl, hb, hz, q⟩ := h
  cases rx
  cases ry
  obtain ⟨its, r, p, _⟩ := I.list hl
  obtain ⟨its2, r2, p2, _⟩ := I.list hb
  obtain ⟨⟨c, d, t, sl⟩, n, g, e1, e2, e3⟩ := p
  obtain ⟨⟨c', d', t', sl'⟩, n', g', e1', e2', e3'⟩ := p2
  have e1 : c = .type "list" := e1
  have e3 : t = .seq its.toArray n := e3
  have e1' : c' = .type "list" := e1'
  have e3' : t' = .seq its2.toArray n' := e3'
  subst e1 e3 e1' e3'
  have len := r.length
  have len2 := r2.length
  refine concat_meets ⟨_, g, rfl⟩ ⟨_, g', rfl⟩ noFill_list_add seq_list_add PySem.F.slot_list_add PySem.F.entry_list_add (PySem.F.args_list_add_2 _ _) (list_addW l b its.toArray its2.toArray n n' d d' sl sl' (by rw [List.size_toArray, List.size_toArray]; omega)) ⟨g, g', ?_⟩
  rw [show its.toArray ++ its2.toArray = (its ++ its2).toArray by simp]
  exact ⟨.ref _, _, I.lnew (t' := s.toks) (r.append r2) (by rw [List.length_append]; omega), rfl, q _ I.fresh⟩

/-! ### max(list, default=d) -/
theorem args_mxd (a d : Value) : argsOk "max" ⟨[a], [(Str.ofString "default", d)]⟩ := by unfold argsOk; kernel_rfl
theorem mx_name : (toString "max" ++ toString ".loop" : String) = "max.loop" := by decide
section
variable {P : Program} {w : World} {B : Around} {I S : Addr} {fp wr : List Addr} {n : Nat} {Pr : Nat → Value → Prop} {St : Nat → Heap → Prop} {val : Nat → Int} {dv : Value} {R : Result → Shared → Prop}
theorem mxd_turns (W : Walks P w B.in1 I fp wr n Pr St) (hv : ∀ i v, Pr i v → ∃ t, v = .int (val i) t) (hS : S ∉ fp) : ∀ (k j : Nat) (s : Shared) (bi : Nat) (vb : Value) (c : Nat), n = j + 1 + k → St (j + 1) s.heap → bi ≤ j → Pr bi vb → (∀ i, i ≤ j → val i ≤ val bi) →
      s.heap.get? S = some { cls := .type "list", dict := none, data := .seq #[vb, vb] c, slots := #[] } →
      (∀ bi v h' tk, bi < n → Pr bi v → (∀ i, i < n → val i ≤ val bi) → (∀ b o, b ∉ wr → b ≠ S → s.heap.get? b = some o → h'.get? b = some o) → R (.ok (.ret v)) { s with heap := h', toks := tk }) →
      codeAny (model P w) B (.builtin "max.loop" ⟨[.ref I, .none, .ref S], [(Str.ofString "default", dv)]⟩) R s := by
  have nw : S ∉ wr := fun z => hS (W.sub _ z)
  intro k
  induction k with
  | zero =>
    intro j s bi vb c hn st hb hP hm hg q
    refine codeAny_builtin PySem.F.entry_max_loop ?_; rw [Around.under_plainId PySem.F.plain_max_loop _]
    show wpAny _ B.in1 (seqItems? (.ref S) >>= _) _ _ s
    refine wpAny_bind (wpAny_seqItems hg rfl ?_)
    show wpAny _ B.in1 (tryCatch (pyNext (.ref I)) _ >>= _) _ _ s
    have st : St n s.heap := by rw [hn]; exact st
    refine wpAny_bind (wpAny_tryCatch (W.done s _ _ st fun h' tk kp => ?_))
    have hg' := kp S _ nw hg
    show wpAny _ B.in1 (updateSeq S (fun _ => #[]) >>= _) _ _ _
    refine wpAny_bind ?_
    refine wpAny_updateSeq hg' rfl (wpAny_bind (wpAny_letGo (wpAny_pure ?_)))
    exact q bi vb _ tk (by omega) hP (fun i hi => hm i (by omega)) fun b o hbw hbS e => (Heap.get?_update_other _ _ (Ne.symm hbS)).trans (kp b o hbw e)
  | succ k ih =>
    intro j s bi vb c hn st hb hP hm hg q
    refine codeAny_builtin PySem.F.entry_max_loop ?_; rw [Around.under_plainId PySem.F.plain_max_loop _]
    show wpAny _ B.in1 (seqItems? (.ref S) >>= _) _ _ s
    refine wpAny_bind (wpAny_seqItems hg rfl ?_)
    show wpAny _ B.in1 (tryCatch (pyNext (.ref I)) _ >>= _) _ _ s
    refine wpAny_bind (wpAny_tryCatch (W.item (j + 1) s _ _ (by omega) st fun v h' tk pv st' kp => ?_))
    have hg' := kp S _ nw hg
    show wpAny _ B.in1 (tryCatch (holding [v, v] (richCompare .Gt v vb >>= _)) _ >>= _) _ _ _
    refine wpAny_bind (wpAny_tryCatch (wpAny_holding (wpAny_bind (CmpOf.ints_gt val hv (j + 1) bi v vb _ _ _ pv hP ?_))))
    refine wpAny_bind (wpAny_holding (wpAny_truthy_bool (wpAny_bind (wpAny_letGo (wpAny_pure ?_)))))
    by_cases z : val (j + 1) > val bi
    · dsimp only
      rw [if_pos (decide_eq_true z)]
      refine wpAny_bind ?_
      refine wpAny_updateSeq hg' rfl (wpAny_bind (wpAny_letGo ?_))
      rw [mx_name]
      refine wpAny_pure ⟨plainId_quiet PySem.F.plain_max_loop _, ih (j + 1) _ (j + 1) v _ (by omega) (W.frame _ _ _ st' fun b hbf o e => ?_) (Nat.le_refl _) pv (fun i hi => ?_) (Heap.get?_update_self _ hg' rfl) fun b2 v2 h2 tk2 l2 p2 m2 kp2 => ?_⟩
      · exact (Heap.get?_update_other _ _ (fun y : S = b => hS (by rw [y]; exact hbf))).trans e
      · by_cases y : i = j + 1
        · rw [y]; exact Int.le_refl _
        · have := hm i (by omega)
          omega
      · exact q b2 v2 h2 tk2 l2 p2 m2 fun b o hbw hbS e => kp2 b o hbw hbS ((Heap.get?_update_other _ _ (Ne.symm hbS)).trans (kp b o hbw e))
    · dsimp only
      rw [if_neg (fun y => z (of_decide_eq_true y))]
      refine wpAny_bind (wpAny_letGo ?_)
      rw [mx_name]
      refine wpAny_pure ⟨plainId_quiet PySem.F.plain_max_loop _, ih (j + 1) _ bi vb c (by omega) st' (by omega) hP (fun i hi => ?_) hg' fun b2 v2 h2 tk2 l2 p2 m2 kp2 => ?_⟩
      · by_cases y : i = j + 1
        · rw [y]; omega
        · exact hm i (by omega)
      · exact q b2 v2 h2 tk2 l2 p2 m2 fun b o hbw hbS e => kp2 b o hbw hbS (kp b o hbw e)
theorem mxd_first (W : Walks P w B.in1 I fp wr n Pr St) (hv : ∀ i v, Pr i v → ∃ t, v = .int (val i) t) (hS : S ∉ fp) {s : Shared} {c : Nat} (st : St 0 s.heap) (hg : s.heap.get? S = some { cls := .type "list", dict := none, data := .seq #[] c, slots := #[] })
    (q0 : n = 0 → ∀ h' tk, (∀ b o, b ∉ wr → b ≠ S → s.heap.get? b = some o → h'.get? b = some o) → R (.ok (.ret dv)) { s with heap := h', toks := tk })
    (q : ∀ bi v h' tk, bi < n → Pr bi v → (∀ i, i < n → val i ≤ val bi) → (∀ b o, b ∉ wr → b ≠ S → s.heap.get? b = some o → h'.get? b = some o) → R (.ok (.ret v)) { s with heap := h', toks := tk }) :
    codeAny (model P w) B (.builtin "max.loop" ⟨[.ref I, .none, .ref S], [(Str.ofString "default", dv)]⟩) R s := by
  have nw : S ∉ wr := fun z => hS (W.sub _ z)
  refine codeAny_builtin PySem.F.entry_max_loop ?_; rw [Around.under_plainId PySem.F.plain_max_loop _]
  show wpAny _ B.in1 (seqItems? (.ref S) >>= _) _ _ s
  refine wpAny_bind (wpAny_seqItems hg rfl ?_)
  show wpAny _ B.in1 (tryCatch (pyNext (.ref I)) _ >>= _) _ _ s
  by_cases hn : n = 0
  · refine wpAny_bind (wpAny_tryCatch (W.done s _ _ (by rw [hn]; exact st) fun h' tk kp => ?_))
    refine wpAny_bind (wpAny_rule (wpAny_pure ?_))
    exact q0 hn h' tk fun b o hbw _ e => kp b o hbw e
  · refine wpAny_bind (wpAny_tryCatch (W.item 0 s _ _ (by omega) st fun v h' tk pv st' kp => ?_))
    have hg' := kp S _ nw hg
    show wpAny _ B.in1 (updateSeq S (fun _ => #[v, v]) >>= _) _ _ _
    refine wpAny_bind ?_
    refine wpAny_updateSeq hg' rfl ?_
    rw [mx_name]
    refine wpAny_pure ⟨plainId_quiet PySem.F.plain_max_loop _, mxd_turns W hv hS (n - 1) 0 _ 0 v _ (by omega) (W.frame _ _ _ st' fun b hbf o e => ?_) (Nat.le_refl _) pv (fun i hi => ?_) (Heap.get?_update_self _ hg' rfl) fun b2 v2 h2 tk2 l2 p2 m2 kp2 => ?_⟩
    · exact (Heap.get?_update_other _ _ (fun y : S = b => hS (by rw [y]; exact hbf))).trans e
    · rw [show i = 0 by omega]; exact Int.le_refl _
    · exact q b2 v2 h2 tk2 l2 p2 m2 fun b o hbw hbS e => kp2 b o hbw hbS ((Heap.get?_update_other _ _ (Ne.symm hbS)).trans (kp b o hbw e))
end
section
variable {P : Program} {w : World} {B : Around} {E : Value → Shared → Prop} {s : Shared} {l : Addr} {its : List Value} {ns : List Int} {d : Int} {t : Tok} {Q : Value → Shared → Prop}
theorem max_dflt (hh : B.handled = none) (hl : s.heap.IsList l its.toArray) (r : Vals (ns.map V.int) its)
    (h : ∀ h' tk M t', (∀ b o, s.heap.get? b = some o → h'.get? b = some o) → (M = d ∨ M ∈ ns) → (∀ a ∈ ns, a ≤ M) → Q (.int M t') { s with heap := h', toks := tk }) :
    wpAny (model P w) B (call (.builtin "max") [.ref l] [(Str.ofString "default", .int d t)]) Q E s := by
  have len := r.length
  rw [List.length_map] at len
  have hv : ∀ (i : Nat) (v : Value), its.toArray[i]? = some v → ∃ t, v = .int (ns.getD i 0) t := fun i v e => by
    rw [List.getElem?_toArray] at e
    have hi : i < ns.length := by
      have := (List.getElem?_eq_some_iff.mp e).1
      omega
    obtain ⟨u, hu, tt, ru⟩ := r.get (i := i) (x := .int ns[i]) (by rw [List.getElem?_map, List.getElem?_eq_getElem hi]; rfl)
    rw [e] at hu
    cases hu
    exact ⟨tt, by rw [ru, List.getD_eq_getElem?_getD, List.getElem?_eq_getElem hi]; rfl⟩
  refine kmk_tree PySem.F.kind_max PySem.F.plain_max PySem.F.entry_max (args_mxd _ _) ?_
  show wpAny _ B.in1 (Builtin.Builtins.bindParams "max" ["key", "default"] 0 ⟨[], [(Str.ofString "default", .int d t)]⟩ >>= _) _ _ s
  refine wpAny_bind (wpAny_of_eq (show Builtin.Builtins.bindParams "max" ["key", "default"] 0 ⟨[], [(Str.ofString "default", .int d t)]⟩ = pure [none, some (.int d t)] from rfl) ?_)
  refine wpAny_bind (wpAny_pure ?_)
  refine wpAny_bind (iter_any hl fun s2 e st hne => ?_)
  subst e
  refine wpAny_bind (wpAny_newList ?_ (Nat.zero_le _))
  rw [mx_name]
  have ll : l < s.heap.objs.size := by obtain ⟨_, e, _⟩ := hl; exact Heap.lt_size e
  have hz : (s.heap.push { cls := .type "list_iterator", data := .fields #[.ref l, .int 0 0] }).objs.size = s.heap.objs.size + 1 := Heap.size_push ..
  have W := Walks.list (prog := P) (w := w) (A := B.in1) hh s.heap.objs.size l hne its.toArray
  refine wpAny_pure ⟨plainId_quiet PySem.F.plain_max_loop _, mxd_first (val := fun i => ns.getD i 0) W hv (fun hm => ?_) (W.frame _ _ _ st fun b _ o e => Heap.get?_push_of_some _ e) (Heap.get?_push_size _ rfl) (fun hn h' tk kp => ?_) fun bi v h' tk hb pv hm kp => ?_⟩
  · rw [hz] at hm
    rcases List.mem_cons.mp hm with e | hm
    · exact absurd e (Nat.succ_ne_self _)
    · rw [List.mem_singleton] at hm
      exact absurd hm (Nat.ne_of_gt (Nat.lt_succ_of_lt ll))
  · have e0 : ns = [] := by
      rw [List.size_toArray] at hn
      exact List.eq_nil_of_length_eq_zero (by omega)
    refine h h' tk d t (fun b o e => kp b o (fun z => ?_) (fun z => ?_) (Heap.get?_push_of_some _ (Heap.get?_push_of_some _ e))) (.inl rfl) (by rw [e0]; simp)
    · rw [List.mem_singleton] at z
      exact absurd (z ▸ Heap.lt_size e) (Nat.lt_irrefl _)
    · rw [hz] at z
      exact absurd (z ▸ Heap.lt_size e) (Nat.not_lt.mpr (Nat.le_succ _))
  · rw [List.size_toArray] at hb hm
    obtain ⟨t', ev⟩ := hv bi v pv
    rw [ev]
    have hbi : bi < ns.length := by omega
    have gb : ns.getD bi 0 = ns[bi] := by rw [List.getD_eq_getElem?_getD, List.getElem?_eq_getElem hbi]; rfl
    refine h h' tk _ t' (fun b o e => kp b o (fun z => ?_) (fun z => ?_) (Heap.get?_push_of_some _ (Heap.get?_push_of_some _ e))) (.inr (by rw [gb]; exact List.getElem_mem hbi)) fun a ha => ?_
    · rw [List.mem_singleton] at z
      exact absurd (z ▸ Heap.lt_size e) (Nat.lt_irrefl _)
    · rw [hz] at z
      exact absurd (z ▸ Heap.lt_size e) (Nat.not_lt.mpr (Nat.le_succ _))
    · obtain ⟨i, hi⟩ := List.getElem?_of_mem ha
      have hil := (List.getElem?_eq_some_iff.mp hi).1
      have := hm i (by omega)
      rw [List.getD_eq_getElem?_getD, hi] at this
      exact this
end
def tMaxD (K : PySem.W.Frag) (t : TA) (td : TE) : TE := fun σ H Q => t σ H fun vs H1 => td σ H1 fun v H2 => ∃ (a : Addr) (ns : List Int) (d : Int), vs = [.ref a] ∧ v = .int d ∧ SqL K H2 a (ns.map V.int) ∧ ∀ m, (m = d ∨ m ∈ ns) → (∀ y ∈ ns, y ≤ m) → Q (.int m) H2
theorem pe_maxD {X : Cx} {e dx : Expr} {t : TA} {td : TE} {p pos kp : Pos} (hc : X.calm = true) (hg : Gl X "max") (hm : X.mg "max" = none) (ha : PA X [e] t) (hd : PE X dx td)
    (he : backTo pos (starEach [e] X.env) = (false, eval e X.env) :: backTo pos (starEach [] X.env) := by rfl) (hpl : (backTo pos (starEach [e] X.env)).any (·.1) = false := by rfl) : PE X (.Call (.Name "max" p) [e] [⟨some "default", dx, kp⟩] pos) (tMaxD X.K t td) := by
  intro pins s σ H Q I h
  refine wpAny_Call_Name_kw (ld_blt I hg hm PyProof.Rows.boot_max ?_ (by decide) (by decide))
  refine callWith_kw (thn (ha pos pins s σ H _ I h) fun us s1 ⟨vs, H1, I1, r, q⟩ => ?_) he hpl
  refine kws_cons (thn (hd pins s1 σ H1 _ I1 q) fun u s2 ⟨v, H2, I2, rv, q2⟩ => kws_nil ?_)
  obtain ⟨a, ns, d, rfl, rfl, hs, q3⟩ := q2
  obtain ⟨tk, rfl⟩ := rv
  rw [Vals.ref1 r]
  show wpAny _ _ (call (.builtin "max") [Value.ref a] [(Str.ofString "default", Value.int d tk)]) _ _ s2
  obtain ⟨its, ri, hl, _⟩ := I2.list hs
  exact max_dflt (I2.ok.hd hc) hl.isList ri fun h' tk' M t' hk h1 h2 => ⟨.int _, H2, I2.kept hk, ⟨_, rfl⟩, q3 M h1 h2⟩
end Et
end
section
namespace Pg
open PySem PySem.Spec L2 Xn
open PyProof.Rows hiding St

/-! ### bytes as values -/
def vB (l : List Nat) : List V := l.map fun n : Nat => V.int (n : Int)
theorem vB_len (l : List Nat) : (vB l).length = l.length := by unfold vB; rw [List.length_map]
theorem vB_get {l : List Nat} {i c : Nat} (h : l[i]? = some c) : (vB l)[i]? = some (.int (c : Int)) := by
  unfold vB
  rw [List.getElem?_map, h]
  rfl
theorem of_vB {l : List Nat} {i : Nat} {v : V} (h : (vB l)[i]? = some v) : ∃ c, l[i]? = some c ∧ v = .int (c : Int) := by
  unfold vB at h
  rw [List.getElem?_map] at h
  cases e : l[i]? with
  | none => rw [e] at h; cases h
  | some c => rw [e] at h; exact ⟨c, rfl, (Option.some.inj h).symm⟩
theorem vB_app (l m : List Nat) : vB (l ++ m) = vB l ++ vB m := by unfold vB; rw [List.map_append]
theorem vB_set (l : List Nat) (i v : Nat) : (vB l).set i (.int (v : Int)) = vB (l.set i v) := by unfold vB; rw [List.map_set]
theorem cut_nat (l : List Nat) (a b : Nat) : cutV (vB l) (some (a : Int)) (some (b : Int)) = vB ((l.take b).drop a) := by
  unfold cutV
  rw [vB_len, HT.sIx_nat, HT.sIx_nat]
  unfold vB
  rw [← List.map_drop, ← List.map_take]
  congr 1
  apply List.ext_getElem?
  intro i
  by_cases h1 : i < min b l.length - min a l.length
  · rw [List.getElem?_take_of_lt h1, List.getElem?_drop, List.getElem?_drop, List.getElem?_take_of_lt (by omega)]
    congr 1
    omega
  · rw [List.getElem?_eq_none (by rw [List.length_take, List.length_drop]; omega), List.getElem?_eq_none (by rw [List.length_drop, List.length_take]; omega)]
theorem cut_from (l : List Nat) (a : Nat) : cutV (vB l) (some (a : Int)) none = vB (l.drop a) := by
  unfold cutV
  rw [vB_len, HT.sIx_nat, HT.sIx_none]
  unfold vB
  rw [← List.map_drop, ← List.map_take]
  congr 1
  rw [List.take_of_length_le (by rw [List.length_drop]; omega)]
  by_cases h : a ≤ l.length
  · rw [Nat.min_eq_left h]
  · rw [Nat.min_eq_right (by omega), List.drop_length, List.drop_eq_nil_of_le (by omega)]
theorem cut_to (l : List Nat) (b : Nat) : cutV (vB l) none (some (b : Int)) = vB (l.take b) := by
  unfold cutV
  rw [vB_len, HT.sIx_nat, HT.sIx_none]
  unfold vB
  rw [List.drop_zero, ← List.map_take, Nat.sub_zero]
  congr 1
  rw [List.take_eq_take_iff]
  omega
theorem cut_last (l : List Nat) : cutV (vB l) (some (-1)) none = vB (l.drop (l.length - 1)) := by
  unfold cutV
  rw [vB_len, HT.sIx_none]
  have e : HT.sIx l.length 0 (some (-1)) = l.length - 1 := by
    show (if ((-1 : Int)) < 0 then (-1 + (l.length : Int)).toNat else min (-1 : Int).toNat l.length) = _
    rw [if_pos (by decide)]
    omega
  rw [e]
  unfold vB
  rw [← List.map_drop, ← List.map_take]
  congr 1
  rw [List.take_of_length_le (by rw [List.length_drop]; omega)]
theorem cut_butlast (l : List Nat) : cutV (vB l) none (some (-1)) = vB l.dropLast := by
  unfold cutV
  rw [vB_len, HT.sIx_none]
  have e : HT.sIx l.length l.length (some (-1)) = l.length - 1 := by
    show (if ((-1 : Int)) < 0 then (-1 + (l.length : Int)).toNat else min (-1 : Int).toNat l.length) = _
    rw [if_pos (by decide)]
    omega
  rw [e]
  unfold vB
  rw [List.drop_zero, ← List.map_take, Nat.sub_zero, List.dropLast_eq_take]
theorem last_drop (l : List Nat) : (l.drop (l.length - 1) = [60]) ↔ (l.getLast? == some 60) = true := by
  rcases List.eq_nil_or_concat l with e | ⟨m, c, e⟩
  · subst e; simp
  · subst e
    rw [List.concat_eq_append]
    simp

/-! ### rules -/
section
variable {X : Cx}
theorem pe_ord {c : Str} {n : Nat} {p pos p2 : Pos} {j} (hg : Gl X "ord") (hm : X.mg "ord" = none) (h1 : c.length = 1 := by decide) (h2 : c.cps.getD 0 0 = n := by decide) : PE X (.Call (.Name "ord" p) [.Constant (.str c) j p2] [] pos) (tC (.int (n : Int))) := by
  intro pins s σ H Q I h
  have r : PE X (.Call (.Name "ord" p) [.Constant (.str c) j p2] [] pos) _ := pe_callB call_ord hg hm boot_ord (pa_cons pe_str pa_nil)
  exact r pins s σ H Q I ⟨c, rfl, h1, by rw [h2]; exact h⟩
/-- len of a dict whose keys are tuples -/
theorem call_lenT : CallR X (.builtin "len") (fun xs H Q => ∃ a kvs, xs = [V.ref a] ∧ H a = some (.dT kvs) ∧ Q (.int kvs.length) H) := by
  intro pins s σ H xs us Q I r h
  obtain ⟨a, kvs, rfl, ha, q⟩ := h
  obtain ⟨u, rfl, ru⟩ := vals1 r
  cases ru
  obtain ⟨z, hd, ys, rel, o, es, ep, g, x, k, l, nd⟩ := (show ObjOk X.prog X.w H s.heap a (.dT kvs) from I.hok a _ ha)
  have e1 : es.size = ys.length := by rw [← Array.length_toList, l, List.length_map]
  have e2 : kvs.length = ys.length := Paired.length rel
  have e3 : es.size = kvs.length := by rw [e1, e2]
  refine Rx.len_exact hd g x k (by rw [e3]; rw [sizeLine_eq] at z; omega) ?_
  exact ⟨.int kvs.length, H, I.tok _, ⟨_, by rw [e3]⟩, q⟩
/-- xs[i], by values -/
theorem get_list : PGet X (rIxL X.K) := by
  intro pins s σ H o i ov iv Q I ro ri h
  obtain ⟨p, xs, k, v, rfl, rfl, hq, he, q⟩ := h
  cases ro
  obtain ⟨t, rfl⟩ := ri
  obtain ⟨its, r, pl, hz⟩ := I.list hq
  obtain ⟨j, h1, h2, h3, h4, h5⟩ := atI_get he
  obtain ⟨w, ew, rw'⟩ := r.get h2
  have hl := r.length
  have hn := line63
  have fin : EP X pins σ Q w s := ⟨v, H, I, rw', q⟩
  by_cases h0 : 0 ≤ k
  · have hj : k.toNat = j := by
      rw [seqIndex_of h0 h5] at h1
      exact Option.some.inj h1
    exact wpAny_getItem_list pl.isList h0 (by omega) (by rw [hj]; simpa using ew) fin
  · have hj : (k + (its.toArray.size : Int)).toNat = j := by
      rw [seqIndex_neg (by omega) h4] at h1
      rw [List.size_toArray, ← hl]
      exact Option.some.inj h1
    exact wpAny_getItem_list_neg pl.isList (by omega) (by rw [List.size_toArray] <;> omega) (by omega) (by rw [hj]; simpa using ew) fin
end
theorem lay_ints : ∀ l : List Nat, PyData.canLayAll0 (l.map fun n : Nat => PyData.int (n : Int)) = true ∧ PyData.depthAll (l.map fun n : Nat => PyData.int (n : Int)) = 0
  | [] => ⟨rfl, rfl⟩
  | n :: l => by
    obtain ⟨h1, h2⟩ := lay_ints l
    constructor
    · show (PyData.canLay0 (.int (n : Int)) && PyData.canLayAll0 (l.map fun n : Nat => PyData.int (n : Int))) = true
      rw [h1]
      rfl
    · show max (PyData.depth (.int (n : Int))) (PyData.depthAll (l.map fun n : Nat => PyData.int (n : Int))) = 0
      rw [h2]
      rfl
theorem shaped_ints (l : List Nat) : SeqAt.shaped (.list (l.map fun n : Nat => PyData.int (n : Int))) = true := by
  obtain ⟨h1, h2⟩ := lay_ints l
  unfold SeqAt.shaped
  have e1 : PyData.canLay0 (.list (l.map fun n : Nat => PyData.int (n : Int))) = true := h1
  have e2 : PyData.depth (.list (l.map fun n : Nat => PyData.int (n : Int))) = 1 := by
    show PyData.depthAll (l.map fun n : Nat => PyData.int (n : Int)) + 1 = 1
    rw [h2]
  rw [e1, e2]
  rfl
theorem eqv_ints : ∀ l m : List Nat, PyData.eqvAll (l.map fun n : Nat => PyData.int (n : Int)) (m.map fun n : Nat => PyData.int (n : Int)) = decide (l = m)
  | [], [] => rfl
  | [], _ :: _ => rfl
  | _ :: _, [] => rfl
  | a :: l, b :: m => by
    show (((a : Int) == (b : Int)) && PyData.eqvAll (l.map fun n : Nat => PyData.int (n : Int)) (m.map fun n : Nat => PyData.int (n : Int))) = _
    rw [eqv_ints l m]
    by_cases h1 : a = b
    · subst h1
      by_cases h2 : l = m
      · subst h2; simp
      · simp [h2]
    · have : ((a : Int) == (b : Int)) = false := by
        rw [beq_eq_false_iff_ne]
        omega
      rw [this]
      simp [h1]
theorem dp_ints {K : PySem.W.Frag} {H : Hp} : ∀ l : List Nat, DpAll K H (vB l) (l.map fun n : Nat => PyData.int (n : Int))
  | [] => .nil
  | n :: l => .cons (.int _) (dp_ints l)
/-- == and != of lists of bytes -/
def rEqB (K : PySem.W.Frag) : R2 := fun x y H Q => ∃ a b l m, x = .ref a ∧ y = .ref b ∧ SqL K H a (vB l) ∧ SqL K H b (vB m) ∧ Q (.bl (decide (l = m))) H
def rNeB (K : PySem.W.Frag) : R2 := fun x y H Q => ∃ a b l m, x = .ref a ∧ y = .ref b ∧ SqL K H a (vB l) ∧ SqL K H b (vB m) ∧ Q (.bl (!decide (l = m))) H
section
variable {X : Cx}
theorem op_eqB (hu : X.A.units + 64 < cLine) : OpR X (compareOp .Eq) (rEqB X.K) := by
  intro pins s σ H x y v u Q I rx ry h
  obtain ⟨a, b, l, m, rfl, rfl, ha, hb, q⟩ := h
  refine op_eqD hu pins s σ H _ _ v u Q I rx ry ⟨_, _, .lst ha (dp_ints l), .lst hb (dp_ints m), shaped_ints l, shaped_ints m, ?_⟩
  have e : PyData.eqv (.list (l.map fun n : Nat => PyData.int (n : Int))) (.list (m.map fun n : Nat => PyData.int (n : Int))) = decide (l = m) := eqv_ints l m
  rw [e]
  exact q
theorem op_neB (hu : X.A.units + 64 < cLine) : OpR X (compareOp .NotEq) (rNeB X.K) := by
  intro pins s σ H x y v u Q I rx ry h
  obtain ⟨a, b, l, m, rfl, rfl, ha, hb, q⟩ := h
  refine op_neD hu pins s σ H _ _ v u Q I rx ry ⟨_, _, .lst ha (dp_ints l), .lst hb (dp_ints m), shaped_ints l, shaped_ints m, ?_⟩
  have e : PyData.eqv (.list (l.map fun n : Nat => PyData.int (n : Int))) (.list (m.map fun n : Nat => PyData.int (n : Int))) = decide (l = m) := eqv_ints l m
  rw [e]
  exact q
end
/-- over enumerate(list), the list left as it is -/
theorem for_enum {K : PySem.W.Frag} {a : Addr} {xs : List V} {g : TG} {tb : TS} {D : Ends} {σ : St} {H : Hp} (Pv : Nat → St → Hp → Prop) (h0 : Pv 0 σ H) (hl : ∀ i σ H, i ≤ xs.length → Pv i σ H → SqL K H a xs)
    (hs : ∀ i x σ H T, xs[i]? = some x → Pv i σ H → H T = none → g (.ref T) σ (upd H T (.tup [.int (i : Nat), x])) fun σ2 H2 => tb { D with nx := Pv (i + 1), ct := Pv (i + 1), bk := D.nx } σ2 H2) (hd : ∀ σ H, Pv xs.length σ H → D.nx σ H) :
    ∃ W : Nat → Nat → St → Hp → Prop, (∃ m, W 0 m σ H) ∧ ∀ i m σ H, W i m σ H →
      ((Ite K a).stop i H ∧ D.nx σ H) ∨ ((Ite K a).go i H ∧ ∃ N : St → Hp → Prop, (∀ σ' H', N σ' H' → ∃ m', m' < m ∧ W (i + 1) m' σ' H') ∧ ∀ x H', (Ite K a).yld i H x H' → g x σ H' fun σ2 H2 => tb { D with nx := N, ct := N, bk := D.nx } σ2 H2) := by
  refine ⟨fun i m σ H => m = xs.length - i ∧ i ≤ xs.length ∧ Pv i σ H, ⟨xs.length, by simp, Nat.zero_le _, h0⟩, ?_⟩
  rintro i m σ H ⟨rfl, hi, p⟩
  have q := hl i σ H hi p
  by_cases hlt : i < xs.length
  · refine .inr ⟨⟨xs, xs[i], q, by simp [hlt]⟩, Pv (i + 1), fun σ' H' p' => ⟨xs.length - (i + 1), by omega, rfl, hlt, p'⟩, fun v H' y => ?_⟩
    obtain ⟨T, x, rfl, hT, rfl, y⟩ := y
    exact hs i x σ H T (y xs q) p hT
  · have e : i = xs.length := by omega
    subst e
    exact .inl ⟨⟨xs, q, Nat.le_refl _⟩, hd σ H p⟩
theorem Same.upd {H H' : Hp} (s : Same H H') {p : Addr} {o : HO} (h : H p = none) : Same H (L2.upd H' p o) := fun b u e => by
  rw [upd_ne (ne_of_none e h)]
  exact s b u e
theorem Same.upd1 {H : Hp} {p : Addr} {o : HO} (h : H p = none) : Same H (L2.upd H p o) := Same.upd (Same.refl H) h
theorem Paired.get {α β : Type} {R : α → β → Prop} {as : List α} {bs : List β} (h : Paired R as bs) : ∀ {i : Nat} {b : β}, bs[i]? = some b → ∃ a, as[i]? = some a ∧ R a b := by
  induction h with
  | nil => intro i b e; simp at e
  | cons r t ih =>
    intro i b e
    cases i with
    | zero => simp at e; subst e; exact ⟨_, rfl, r⟩
    | succ i =>
      obtain ⟨a, h1, h2⟩ := ih (i := i) (b := b) (by simpa using e)
      exact ⟨a, by simpa using h1, h2⟩
theorem Same.seqT {K : PySem.W.Frag} {H H' : Hp} {a : Addr} {xs : List V} (e : Same H H') (h : SqT K H a xs) : SqT K H' a xs := by
  rcases h with (h | ⟨o, h⟩) | h
  · exact Or.inl (Or.inl (e _ _ h))
  · exact Or.inl (Or.inr ⟨o, e _ _ h⟩)
  · exact Or.inr h
end Pg
end
section
namespace Pg
open PySem PySem.Spec L2 Xn
open PyProof.Rows hiding St
/-! ### the text by places -/
def top (i : Nat) : Stmt := PySem.Challenge.pw_reactnets_s03_go.main.body.getD i (.Pass ⟨0, 0, 0, 0⟩)
abbrev sWI : Stmt := inClass (top 9) 0
abbrev sNI : Stmt := inClass (top 10) 0
abbrev sd_go : Stmt := top 11
abbrev sd_are_reactions : Stmt := top 12
abbrev sd_do_steps : Stmt := top 13
abbrev sd_lacks_something : Stmt := top 14
abbrev sd_change_amounts : Stmt := top 15
abbrev sNet : Stmt := top 16
abbrev sLine : Stmt := top 17
abbrev sAdd : Stmt := top 18
abbrev sSide : Stmt := top 19
abbrev sNum : Stmt := top 20
abbrev sSub : Stmt := top 21
abbrev sName : Stmt := top 22
abbrev sLet : Stmt := top 23
abbrev sDig : Stmt := top 24
abbrev sCnt : Stmt := top 25
abbrev sStrip : Stmt := top 26
abbrev sSplit : Stmt := top 27
end Pg
end
section
namespace Pg
open PySem PySem.Spec L2 Xn
open PyProof.Rows hiding St

/-! ### the promises of the small defs -/
def spDig : Sp := fun vs H Q _ => ∃ n : Nat, vs = [.int (n : Int)] ∧ Q (.bl (Sa55.digit n)) H
def spLet : Sp := fun vs H Q _ => ∃ n : Nat, vs = [.int (n : Int)] ∧ Q (.bl (Sa55.letter n)) H
def spCnt (K : PySem.W.Frag) : Sp := fun vs H Q _ => ∃ (a : Addr) (l : List Nat), vs = [.ref a] ∧ SqL K H a (vB l) ∧ Q (.int ((l.takeWhile Sa55.digit).length : Nat)) H
def spStrip (K : PySem.W.Frag) : Sp := fun vs H Q _ => ∃ (a : Addr) (l : List Nat), vs = [.ref a] ∧ SqL K H a (vB l) ∧ ∀ p, H p = none → Q (.ref p) (upd H p (.lst (vB (Sa55.unblank l))))
/-- the pieces of a list stand at as -/
def PiecesAt (H : Hp) (as : List Addr) (ps : List (List Nat)) : Prop := Paired (fun a b => H a = some (.lst (vB b))) as ps
def spSplit (K : PySem.W.Frag) : Sp := fun vs H Q _ => ∃ (k : Nat) (a : Addr) (l : List Nat), vs = [.int (k : Int), .ref a] ∧ SqL K H a (vB l) ∧ l.length ≤ 2000 ∧
  ∀ (H' : Hp) (p : Addr) (as : List Addr), Same H H' → H p = none → (∀ x ∈ as, H x = none) → H' p = some (.lst (as.map V.ref)) → PiecesAt H' as (Sa55.splitBy k l []) → Q (.ref p) H'
def spName (K : PySem.W.Frag) : Sp := fun vs H Q _ => ∃ (a : Addr) (l : List Nat), vs = [.ref a] ∧ SqL K H a (vB l) ∧ Q (.bl (Sa55.nameOk l)) H

section
variable {P : Program} {w : World} {K : PySem.W.Frag} {mg : Str → Option Value} {base : Heap}

theorem scDig : FnScope ["byte"] ["byte"] (defScope sDig) := ⟨rfl, rfl, rfl, by decide +kernel, rfl, by decide +kernel, by decide +kernel⟩
theorem ok_dig {f : Addr} {fd : FuncData} (F : Fun K "is_digit" "is_digit" sDig f fd) (hO : mg "ord" = none) : FnOk P w K mg base CX0 1 f fd ["byte"] spDig := by
  refine F.ok scDig (fun vs H Q E h => ?_) (fun cdv A outer s H vs Q E hr h => ?_)
  · obtain ⟨n, rfl, _⟩ := h
    rfl
  · obtain ⟨n, rfl, k⟩ := h
    refine ⟨_, pss_one (ps_ret (pe_chain op_le op_le (pe_ord (n := 48) rfl hO) (pv 0) (pe_ord (n := 57) rfl hO))), ?_⟩
    refine ⟨_, rfl, _, _, rfl, rfl, _, rfl, ite2 (fun h1 => ⟨_, _, rfl, rfl, ?_⟩) fun h1 => ?_⟩
    · have h1' : (48 : Int) ≤ n := of_decide_eq_true h1
      have e : Sa55.digit n = decide ((n : Int) ≤ ((57 : Nat) : Int)) := by
        unfold Sa55.digit
        rw [decide_eq_true (show 48 ≤ n by omega), Bool.true_and]
        exact decide_eq_decide.mpr (by omega)
      rw [e] at k
      exact k
    · have h1' : ¬ (48 : Int) ≤ n := fun z => h1 (decide_eq_true z)
      have e : Sa55.digit n = false := by
        unfold Sa55.digit
        rw [decide_eq_false (show ¬ 48 ≤ n by omega), Bool.false_and]
      rw [e] at k
      exact k

theorem scLet : FnScope ["byte"] ["byte"] (defScope sLet) := ⟨rfl, rfl, rfl, by decide +kernel, rfl, by decide +kernel, by decide +kernel⟩
theorem ok_let {f : Addr} {fd : FuncData} (F : Fun K "is_letter" "is_letter" sLet f fd) (hO : mg "ord" = none) : FnOk P w K mg base CX0 1 f fd ["byte"] spLet := by
  refine F.ok scLet (fun vs H Q E h => ?_) (fun cdv A outer s H vs Q E hr h => ?_)
  · obtain ⟨n, rfl, _⟩ := h
    rfl
  · obtain ⟨n, rfl, k⟩ := h
    refine ⟨_, pss_one (ps_ret (pe_or (pe_chain op_le op_le (pe_ord (n := 65) rfl hO) (pv 0) (pe_ord (n := 90) rfl hO)) (pe_one (pe_chain op_le op_le (pe_ord (n := 97) rfl hO) (pv 0) (pe_ord (n := 122) rfl hO))))), ?_⟩
    have last : ∀ σ : St, σ[0]? = some (some (.int (n : Int))) → (65 ≤ n ∧ n ≤ 90 → False) → tChain (rI0 fun i j => .bl (decide (i ≤ j))) (rI0 fun i j => .bl (decide (i ≤ j))) (tC (.int ((97 : Nat) : Int))) (tVar 0) (tC (.int ((122 : Nat) : Int))) σ H Q := fun σ h0 h1 => by
      have hn : ¬ (65 ≤ n ∧ n ≤ 90) := h1
      refine ⟨_, h0, _, _, rfl, rfl, _, rfl, ite2 (fun h2 => ⟨_, _, rfl, rfl, ?_⟩) fun h2 => ?_⟩
      · have h2' : ((97 : Nat) : Int) ≤ n := of_decide_eq_true h2
        have e : Sa55.letter n = decide ((n : Int) ≤ ((122 : Nat) : Int)) := by
          unfold Sa55.letter
          rw [decide_eq_true (show 65 ≤ n by omega), decide_eq_true (show 97 ≤ n by omega), decide_eq_false (show ¬ n ≤ 90 by omega)]
          simp only [Bool.and_false, Bool.true_and, Bool.false_or]
          exact decide_eq_decide.mpr (by omega)
        rw [e] at k
        exact k
      · have h2' : ¬ ((97 : Nat) : Int) ≤ n := fun z => h2 (decide_eq_true z)
        have e : Sa55.letter n = false := by
          unfold Sa55.letter
          rw [decide_eq_false (show ¬ 97 ≤ n by omega)]
          by_cases h3 : 65 ≤ n
          · rw [decide_eq_false (show ¬ n ≤ 90 by omega)]; simp
          · rw [decide_eq_false h3]; simp
        rw [e] at k
        exact k
    refine ⟨_, rfl, _, _, rfl, rfl, _, rfl, ite2 (fun h1 => ⟨_, _, rfl, rfl, _, rfl, ite2 (fun h2 => ?_) fun h2 => ?_⟩) fun h1 => ⟨_, rfl, iteF ?_⟩⟩
    · have h1' : ((65 : Nat) : Int) ≤ n := of_decide_eq_true h1
      have h2' : (n : Int) ≤ ((90 : Nat) : Int) := of_decide_eq_true h2
      have e : Sa55.letter n = true := by
        unfold Sa55.letter
        rw [decide_eq_true (show 65 ≤ n by omega), decide_eq_true (show n ≤ 90 by omega)]
        rfl
      rw [e] at k
      exact k
    · have h2' : ¬ (n : Int) ≤ ((90 : Nat) : Int) := fun z => h2 (decide_eq_true z)
      exact last _ rfl (by omega)
    · have h1' : ¬ ((65 : Nat) : Int) ≤ n := fun z => h1 (decide_eq_true z)
      exact last _ rfl (by omega)

theorem scCnt : FnScope ["row", "count"] ["row"] (defScope sCnt) := ⟨rfl, rfl, rfl, by decide +kernel, rfl, by decide +kernel, by decide +kernel⟩
theorem ok_cnt {f fD : Addr} {fd fdD : FuncData} (F : Fun K "count_digits" "count_digits" sCnt f fd) (FD : Fun K "is_digit" "is_digit" sDig fD fdD) (bD : Binds K fdD ["byte"] []) (mD : mg "is_digit" = some (.ref fD))
    (hO : mg "ord" = none) (hL : mg "len" = none) : FnOk P w K mg base CX0 2 f fd ["row"] (spCnt K) := by
  have GD : FnOk P w K mg base CX0 1 fD fdD ["byte"] spDig := ok_dig FD hO
  refine F.ok scCnt (fun vs H Q E h => ?_) (fun cdv A outer s H vs Q E hr h => ?_)
  · obtain ⟨a, l, rfl, _⟩ := h
    rfl
  · obtain ⟨a, l, rfl, hS, k⟩ := h
    refine ⟨_, pss_cons (ps_set (i := 1) scCnt.nd rfl (Or.inl rfl) pe_int)
      (pss_cons (ps_while PassesOwn.never (PW.pt (pw_and (pt_cmpR op_lt (pv 1) (pe_callB call_len_seq rfl hL PySem.boot_len (pa_cons (pv 0) pa_nil)) (nomark _))
        (pw_and1 (pt_val (pe_call GD hr rfl mD FD.kp bD .nil pass0 (pa_cons (pe_ix ix_list (pv 0) (pv 1) (fun _ _ => rfl)) pa_nil))))))
        (pss_one (ps_aug (i := 1) scCnt.nd rfl (Or.inl rfl) pe_int ip_add)))
      (pss_one (ps_ret (pv 1)))), ?_⟩
    refine ⟨fun m σ' H' => ∃ i : Nat, m = l.length - i ∧ i ≤ l.length ∧ (∀ j c, j < i → l[j]? = some c → Sa55.digit c = true) ∧ σ' = [some (.ref a), some (.int (i : Int))] ∧ H' = H, ⟨_, 0, rfl, Nat.zero_le _, fun j c hj => absurd hj (Nat.not_lt_zero _), rfl, rfl⟩, ?_⟩
    rintro m σ' H' ⟨i, rfl, hi, hall, rfl, rfl⟩
    refine ⟨_, rfl, _, rfl, a, _, rfl, .inl hS, _, _, rfl, rfl, _, rfl, ite2 (fun h1 => ?_) fun h1 => ?_⟩
    · have h1' : (i : Int) < ((vB l).length : Nat) := of_decide_eq_true h1
      rw [vB_len] at h1'
      have hlt : i < l.length := by omega
      obtain ⟨c, hc⟩ : ∃ c, l[i]? = some c := ⟨_, List.getElem?_eq_getElem hlt⟩
      refine ⟨_, rfl, _, rfl, a, _, _, _, rfl, rfl, hS, atI_nat (vB_get hc), c, rfl, _, rfl, ite2 (fun h2 => ?_) fun h2 => ?_⟩
      · refine ⟨fun σ2 H2 => σ2 = [some (.ref a), some (.int ((i + 1 : Nat) : Int))] ∧ H2 = H', fun σ2 H2 ⟨e1, e2⟩ => ⟨l.length - (i + 1), by omega, i + 1, rfl, hlt, fun j c' hj hc' => ?_, e1, e2⟩, ?_⟩
        · by_cases z : j = i
          · rw [z, hc] at hc'
            cases hc'
            exact h2
          · exact hall j c' (by omega) hc'
        · refine ⟨_, rfl, _, _, rfl, rfl, ?_, rfl⟩
          rfl
      · refine ⟨_, rfl, ?_⟩
        have e := Rn.tw_all hi hall fun c' hc' => by
          rw [hc] at hc'
          cases hc'
          simpa using h2
        rw [e, List.length_take, Nat.min_eq_left hi] at k
        exact k
    · have h1' : ¬ (i : Int) < ((vB l).length : Nat) := fun z => h1 (decide_eq_true z)
      rw [vB_len] at h1'
      refine ⟨_, rfl, ?_⟩
      have e := Rn.tw_all hi hall fun c' hc' => by
        have := (List.getElem?_eq_some_iff.mp hc').1
        omega
      rw [e, List.length_take, Nat.min_eq_left hi] at k
      exact k
end
end Pg
end
section
namespace Pg
open PySem PySem.Spec L2 Xn
open PyProof.Rows hiding St
section
variable {P : Program} {w : World} {K : PySem.W.Frag} {mg : Str → Option Value} {base : Heap}

theorem scStrip : FnScope ["row", "start", "end"] ["row"] (defScope sStrip) := ⟨rfl, rfl, rfl, by decide +kernel, rfl, by decide +kernel, by decide +kernel⟩
theorem ok_strip {f : Addr} {fd : FuncData} (F : Fun K "strip_blanks" "strip_blanks" sStrip f fd) (hO : mg "ord" = none) (hL : mg "len" = none) : FnOk P w K mg base CX0 1 f fd ["row"] (spStrip K) := by
  refine F.ok scStrip (fun vs H Q E h => ?_) (fun cdv A outer s H vs Q E hr h => ?_)
  · obtain ⟨a, l, rfl, _⟩ := h
    rfl
  · obtain ⟨a, l, rfl, hS, k⟩ := h
    refine ⟨_, pss_cons (ps_set (i := 1) scStrip.nd rfl (Or.inl rfl) pe_int)
      (pss_cons (ps_while PassesOwn.never (PW.pt (pw_and (pt_cmpR op_lt (pv 1) (pe_callB call_len_seq rfl hL PySem.boot_len (pa_cons (pv 0) pa_nil)) (nomark _))
        (pw_and1 (pt_cmpR op_eq (pe_ix ix_list (pv 0) (pv 1) (fun _ _ => rfl)) (pe_ord (n := 32) rfl hO) (nomark _)))))
        (pss_one (ps_aug (i := 1) scStrip.nd rfl (Or.inl rfl) pe_int ip_add)))
      (pss_cons (ps_set (i := 2) scStrip.nd rfl (Or.inl rfl) (pe_callB call_len_seq rfl hL PySem.boot_len (pa_cons (pv 0) pa_nil)))
      (pss_cons (ps_while PassesOwn.never (PW.pt (pw_and (pt_cmpR op_gt (pv 2) (pv 1) (nomark _))
        (pw_and1 (pt_cmpR op_eq (pe_ix ix_list (pv 0) (pe_op op_sub (pv 2) pe_int) (fun _ _ => rfl)) (pe_ord (n := 32) rfl hO) (nomark _)))))
        (pss_one (ps_aug (i := 2) scStrip.nd rfl (Or.inl rfl) pe_int ip_sub)))
      (pss_one (ps_ret (pe_slice sl_list (pv 0) (po_some (pv 1)) (po_some (pv 2)))))))), ?_⟩
    -- behind the first loop
    have behind : ∀ i : Nat, i ≤ l.length → l.dropWhile (fun c => c == 32) = l.drop i →
        tSeq (tAsg (tCB (fun xs H Q => ∃ p ys, xs = [V.ref p] ∧ (SqL K H p ys ∨ SqT K H p ys) ∧ Q (.int ys.length) H) (tCons (tVar 0) tNil)) (gName 2))
          (tSeq (tWhile (tAnd (tTest (tOp (rI0 fun i j => .bl (decide (j < i))) (tVar 2) (tVar 1))) (tTest (tOp rEq (tOp (rIxL K) (tVar 0) (tOp (rI0 fun i j => .int (i - j)) (tVar 2) (tC (.int 1)))) (tC (.int ((32 : Nat) : Int)))))) (tAug 2 (tC (.int 1)) (ipI fun i j => i - j)))
            (tRet (tSl (rSlL K) (tVar 0) (tPart (tVar 1)) (tPart (tVar 2))))) { nx := fun _ H' => Q .non H', rt := Q } [some (.ref a), some (.int (i : Int)), none] H := by
      intro i hi hd
      refine ⟨_, rfl, a, _, rfl, .inl hS, ?_⟩
      refine ⟨fun m σ' H' => ∃ n : Nat, m = n ∧ n ≤ (l.drop i).length ∧ Rn.rtrim ((l.drop i).take n) = Rn.rtrim (l.drop i) ∧ σ' = [some (.ref a), some (.int (i : Int)), some (.int ((i + n : Nat) : Int))] ∧ H' = H,
        ⟨_, (l.drop i).length, rfl, Nat.le_refl _, by rw [List.take_length], ?_, rfl⟩, ?_⟩
      · rw [vB_len, List.length_drop, show i + (l.length - i) = l.length by omega]
        rfl
      · rintro m σ' H' ⟨n, rfl, hn, ht, rfl, rfl⟩
        have fin : Rn.rtrim ((l.drop i).take m) = (l.drop i).take m → tRet (tSl (rSlL K) (tVar 0) (tPart (tVar 1)) (tPart (tVar 2))) { nx := fun _ H' => Q .non H', rt := Q } [some (.ref a), some (.int (i : Int)), some (.int ((i + m : Nat) : Int))] H' := fun he => by
          refine ⟨_, rfl, _, rfl, _, rfl, _, rfl, _, rfl, a, _, rfl, hS, fun p hp => ?_⟩
          have e : cutV (vB l) (some (i : Int)) (some ((i + m : Nat) : Int)) = vB (Sa55.unblank l) := by
            rw [cut_nat, Rn.unblank_eq, hd, ← ht, he, List.drop_take, Nat.add_sub_cancel_left]
          rw [e]
          exact k p hp
        refine ⟨_, rfl, _, rfl, _, _, rfl, rfl, _, rfl, ite2 (fun h1 => ?_) fun h1 => ?_⟩
        · have h1' : (i : Int) < ((i + m : Nat) : Int) := of_decide_eq_true h1
          obtain ⟨j, rfl⟩ : ∃ j, m = j + 1 := ⟨m - 1, by omega⟩
          rw [List.length_drop] at hn
          have hlt : i + j < l.length := by omega
          obtain ⟨c, hc⟩ : ∃ c, l[i + j]? = some c := ⟨_, List.getElem?_eq_getElem hlt⟩
          have hc' : (l.drop i)[j]? = some c := by rw [List.getElem?_drop]; exact hc
          have eI : ((i + (j + 1) : Nat) : Int) - 1 = ((i + j : Nat) : Int) := by omega
          refine ⟨_, rfl, _, rfl, _, _, rfl, rfl, a, _, _, .int (c : Int), rfl, rfl, hS, by rw [eI]; exact atI_nat (vB_get hc), rfl, _, rfl, ite2 (fun h2 => ?_) fun h2 => ?_⟩
          · have h2' : V.int (c : Int) = V.int ((32 : Nat) : Int) := of_decide_eq_true h2
            have c32 : c = 32 := by
              injection h2' with z
              omega
            subst c32
            refine ⟨fun σ2 H2 => σ2 = [some (.ref a), some (.int (i : Int)), some (.int ((i + j : Nat) : Int))] ∧ H2 = H', fun σ2 H2 ⟨e1, e2⟩ => ⟨j, by omega, j, rfl, by rw [List.length_drop]; omega, ?_, e1, e2⟩, ?_⟩
            · rw [← ht, Rn.trim_step hc']
            · refine ⟨_, rfl, _, _, rfl, rfl, ?_, rfl⟩
              show [some (V.ref a), some (V.int (i : Int)), some (V.int (((i + (j + 1) : Nat) : Int) - 1))] = _
              rw [eI]
          · refine fin (Rn.trim_end (by rw [List.length_drop]; omega) fun j' e' z => h2 (decide_eq_true ?_))
            have ej : j' = j := by omega
            rw [ej, hc'] at z
            cases z
            rfl
        · have h1' : ¬ (i : Int) < ((i + m : Nat) : Int) := fun z => h1 (decide_eq_true z)
          have m0 : m = 0 := by omega
          subst m0
          exact fin (by rw [List.take_zero]; rfl)
    -- the first loop
    refine ⟨fun m σ' H' => ∃ i : Nat, m = l.length - i ∧ i ≤ l.length ∧ (∀ j c, j < i → l[j]? = some c → (c == 32) = true) ∧ σ' = [some (.ref a), some (.int (i : Int)), none] ∧ H' = H, ⟨_, 0, rfl, Nat.zero_le _, fun j c hj => absurd hj (Nat.not_lt_zero _), rfl, rfl⟩, ?_⟩
    rintro m σ' H' ⟨i, rfl, hi, hall, rfl, rfl⟩
    refine ⟨_, rfl, _, rfl, a, _, rfl, .inl hS, _, _, rfl, rfl, _, rfl, ite2 (fun h1 => ?_) fun h1 => ?_⟩
    · have h1' : (i : Int) < ((vB l).length : Nat) := of_decide_eq_true h1
      rw [vB_len] at h1'
      have hlt : i < l.length := by omega
      obtain ⟨c, hc⟩ : ∃ c, l[i]? = some c := ⟨_, List.getElem?_eq_getElem hlt⟩
      refine ⟨_, rfl, _, rfl, a, _, _, _, rfl, rfl, hS, atI_nat (vB_get hc), rfl, _, rfl, ite2 (fun h2 => ?_) fun h2 => ?_⟩
      · have h2' : V.int (c : Int) = V.int ((32 : Nat) : Int) := of_decide_eq_true h2
        have c32 : c = 32 := by
          injection h2' with z
          omega
        refine ⟨fun σ2 H2 => σ2 = [some (.ref a), some (.int ((i + 1 : Nat) : Int)), none] ∧ H2 = H', fun σ2 H2 ⟨e1, e2⟩ => ⟨l.length - (i + 1), by omega, i + 1, rfl, hlt, fun j c' hj hc' => ?_, e1, e2⟩, ?_⟩
        · by_cases z : j = i
          · rw [z, hc] at hc'
            cases hc'
            simp [c32]
          · exact hall j c' (by omega) hc'
        · exact ⟨_, rfl, _, _, rfl, rfl, rfl, rfl⟩
      · refine behind i hi (Rn.dw_all hi hall fun c' hc' => ?_)
        rw [hc] at hc'
        cases hc'
        rw [beq_eq_false_iff_ne]
        intro z
        subst z
        exact h2 (decide_eq_true rfl)
    · have h1' : ¬ (i : Int) < ((vB l).length : Nat) := fun z => h1 (decide_eq_true z)
      rw [vB_len] at h1'
      refine behind i hi (Rn.dw_all hi hall fun c' hc' => ?_)
      have := (List.getElem?_eq_some_iff.mp hc').1
      omega

theorem PiecesAt.same {H H' : Hp} {as : List Addr} {ps : List (List Nat)} (h : PiecesAt H as ps) (k : ∀ a ∈ as, ∀ o, H a = some o → H' a = some o) : PiecesAt H' as ps := by
  unfold PiecesAt at h ⊢
  induction h with
  | nil => exact .nil
  | cons r t ih => exact .cons (k _ (by simp) _ r) (ih fun a ha => k a (by simp [ha]))
theorem PiecesAt.snoc {H : Hp} {as : List Addr} {ps : List (List Nat)} {a : Addr} {b : List Nat} (h : PiecesAt H as ps) (e : H a = some (.lst (vB b))) : PiecesAt H (as ++ [a]) (ps ++ [b]) := by
  unfold PiecesAt at h ⊢
  induction h with
  | nil => exact .cons e .nil
  | cons r t ih => exact .cons r ih
theorem PiecesAt.get {H : Hp} : ∀ {as : List Addr} {ps : List (List Nat)} {i : Nat} {b : List Nat}, PiecesAt H as ps → ps[i]? = some b → ∃ a, as[i]? = some a ∧ H a = some (.lst (vB b))
  | _, _, _, _, .nil, e => by simp at e
  | _, _, 0, _, .cons r _, e => by simp at e; subst e; exact ⟨_, rfl, r⟩
  | _, _, i + 1, b, .cons _ t, e => by
    obtain ⟨a, h1, h2⟩ := PiecesAt.get (i := i) (b := b) t (by simpa using e)
    exact ⟨a, by simpa using h1, h2⟩
theorem PiecesAt.len {H : Hp} {as : List Addr} {ps : List (List Nat)} (h : PiecesAt H as ps) : as.length = ps.length := Paired.length h

theorem scSplit : FnScope ["sign", "row", "pieces", "start", "place", "byte"] ["sign", "row"] (defScope sSplit) := ⟨rfl, rfl, rfl, by decide +kernel, rfl, by decide +kernel, by decide +kernel⟩
theorem ok_split {f : Addr} {fd : FuncData} (F : Fun K "split_at" "split_at" sSplit f fd) (hE : mg "enumerate" = none) : FnOk P w K mg base CX0 1 f fd ["sign", "row"] (spSplit K) := by
  refine F.ok scSplit (fun vs H Q E h => ?_) (fun cdv A outer s H vs Q E hr h => ?_)
  · obtain ⟨kk, a, l, rfl, _⟩ := h
    rfl
  · obtain ⟨kk, a, l, rfl, hS, hlen, k⟩ := h
    refine ⟨_, pss_cons (ps_set (i := 2) scSplit.nd rfl (Or.inl rfl) (pe_lst pa_nil))
      (pss_cons (ps_set (i := 3) scSplit.nd rfl (Or.inl rfl) pe_int)
      (pss_cons (ps_for PassesOwn.never rfl (pi_enum rfl hE (pa_cons (pv 1) pa_nil)) (pg_tup rfl (pgs_cons (pg_name (i := 4) scSplit.nd rfl (Or.inl rfl)) (pgs_cons (pg_name (i := 5) scSplit.nd rfl (Or.inl rfl)) pgs_nil)))
        (pss_one (ps_if (pt_cmpR op_eq (pv 5) (pv 0) (nomark _))
          (pss_cons (ps_expr (pe_bm PySem.F.plainAttrs_list PySem.F.slot_list_append PySem.F.type_list_append mt_append (pv 2) (pa_cons (pe_slice sl_list (pv 1) (po_some (pv 3)) (po_some (pv 4))) pa_nil)))
            (pss_one (ps_set (i := 3) scSplit.nd rfl (Or.inl rfl) (pe_op op_add (pv 4) pe_int)))) pss_nil)))
      (pss_cons (ps_expr (pe_bm PySem.F.plainAttrs_list PySem.F.slot_list_append PySem.F.type_list_append mt_append (pv 2) (pa_cons (pe_slice sl_list (pv 1) (po_some (pv 3)) po_none) pa_nil)))
      (pss_one (ps_ret (pv 2)))))), ?_⟩
    refine ⟨Nat.zero_le _, fun p hp => ?_⟩
    have hp0 : H p = none := hp
    refine ⟨_, rfl, a, _, rfl, (Same.upd1 hp0).seq hS, for_enum (K := K) (a := a) (xs := vB l)
      (fun i σ H' => ∃ (as : List Addr) (ps : List (List Nat)) (st : Nat) (b4 b5 : Option V), σ = [some (.int (kk : Int)), some (.ref a), some (.ref p), some (.int (st : Int)), b4, b5] ∧ Same H H' ∧ H' p = some (.lst (as.map V.ref)) ∧ (∀ x ∈ as, x ≠ p ∧ H x = none) ∧
        st ≤ i ∧ ps.length ≤ i ∧ PiecesAt H' as ps ∧ Sa55.splitBy kk l [] = ps ++ Sa55.splitBy kk (l.drop i) ((l.take i).drop st))
      ⟨[], [], 0, none, none, rfl, Same.upd1 hp0, upd_same, (fun x hx => absurd hx (by simp)), Nat.le_refl _, Nat.le_refl _, .nil, by simp⟩
      (fun i σ H' _ ⟨_, _, _, _, _, _, sm, _⟩ => sm.seq hS) ?_ ?_⟩
    · rintro i x σ H' T hx ⟨as, ps, st, b4, b5, rfl, sm, hl, hne, hst, hps, hP, hsp⟩ hT
      obtain ⟨c, hc, rfl⟩ := of_vB hx
      have hi : i < l.length := (List.getElem?_eq_some_iff.mp hc).1
      have nTp : p ≠ T := ne_of_none hl hT
      have smT : Same H (upd H' T (.tup [.int (i : Nat), .int (c : Int)])) := fun b o e => by
        rw [upd_ne (ne_of_none (sm b o e) hT)]
        exact sm b o e
      have hlT : (upd H' T (.tup [.int (i : Nat), .int (c : Int)])) p = some (.lst (as.map V.ref)) := by rw [upd_ne nTp]; exact hl
      have hPT : PiecesAt (upd H' T (.tup [.int (i : Nat), .int (c : Int)])) as ps := hP.same fun b _ o e => by rw [upd_ne (ne_of_none e hT)]; exact e
      refine ⟨T, _, rfl, SqT.of upd_same, rfl, _, _, rfl, _, _, rfl, rfl, ?_⟩
      generalize upd H' T (.tup [.int (i : Nat), .int (c : Int)]) = H2 at smT hlT hPT
      refine ⟨_, rfl, _, rfl, rfl, _, rfl, ite2 (fun h1 => ?_) fun h1 => ?_⟩
      · have h1' : V.int (c : Int) = V.int (kk : Int) := of_decide_eq_true h1
        have ck : c = kk := by
          injection h1' with z
          omega
        refine ⟨_, rfl, .inl ⟨rfl, _, SqL.of hlT⟩, _, rfl, _, rfl, _, rfl, _, rfl, _, rfl, a, _, rfl, smT.seq hS, fun q hq => ?_⟩
        have npq : p ≠ q := ne_of_none hlT hq
        have hq0 : H q = none := smT.free hq
        have hlq : (upd H2 q (.lst (cutV (vB l) (some (st : Int)) (some ((i : Nat) : Int))))) p = some (.lst (as.map V.ref)) := by rw [upd_ne npq]; exact hlT
        refine ⟨p, _, _, rfl, rfl, hlq, ?_, ?_⟩
        · rw [List.length_map, hP.len]
          exact Nat.lt_of_le_of_lt (show ps.length ≤ 2000 by omega) (by rw [sizeLine_eq]; decide)
        · refine ⟨_, rfl, _, _, rfl, rfl, as ++ [q], ps ++ [(l.take i).drop st], i + 1, some (.int (i : Nat)), some (.int (c : Int)), rfl, ?_, ?_, ?_, Nat.le_refl _, ?_, ?_, ?_⟩
          · exact Same.upd (Same.upd smT hq0) hp0
          · rw [upd_same, List.map_append]
            rfl
          · intro x hx
            rcases List.mem_append.mp hx with z | z
            · exact hne x z
            · rw [List.mem_singleton.mp z]
              exact ⟨Ne.symm npq, hq0⟩
          · rw [List.length_append]
            show ps.length + 1 ≤ i + 1
            omega
          · refine PiecesAt.snoc (hPT.same fun b hb o e => ?_) ?_
            · rw [upd_ne (hne b hb).1, upd_ne (ne_of_none e hq)]
              exact e
            · rw [upd_ne (Ne.symm npq), upd_same, cut_nat]
          · rw [hsp, Rn.split_step kk hc, if_pos ck, List.append_assoc]
            congr 1
            show _ :: _ = [_] ++ _
            rw [List.singleton_append]
            congr 2
            rw [List.drop_eq_nil_of_le (by rw [List.length_take]; omega)]
      · refine ⟨as, ps, st, some (.int (i : Nat)), some (.int (c : Int)), rfl, smT, hlT, hne, by omega, by omega, hPT, ?_⟩
        rw [hsp, Rn.split_step kk hc, if_neg (fun z => h1 (decide_eq_true (by rw [z]))), Rn.cut_grow hc hst]
    · rintro σ H' ⟨as, ps, st, b4, b5, rfl, sm, hl, hne, hst, hps, hP, hsp⟩
      rw [vB_len] at hst hps hsp
      refine ⟨_, rfl, .inl ⟨rfl, _, SqL.of hl⟩, _, rfl, _, rfl, _, rfl, a, _, rfl, sm.seq hS, fun q hq => ?_⟩
      have npq : p ≠ q := ne_of_none hl hq
      have hq0 : H q = none := sm.free hq
      have hlq : (upd H' q (.lst (cutV (vB l) (some (st : Int)) none))) p = some (.lst (as.map V.ref)) := by rw [upd_ne npq]; exact hl
      refine ⟨p, _, _, rfl, rfl, hlq, ?_, ?_⟩
      · rw [List.length_map, hP.len]
        exact Nat.lt_of_le_of_lt (show ps.length ≤ 2000 by omega) (by rw [sizeLine_eq]; decide)
      · refine ⟨_, rfl, k _ p (as ++ [q]) (Same.upd (Same.upd sm hq0) hp0) hp0 ?_ ?_ ?_⟩
        · intro x hx
          rcases List.mem_append.mp hx with z | z
          · exact (hne x z).2
          · rw [List.mem_singleton.mp z]
            exact hq0
        · rw [upd_same, List.map_append]
          rfl
        · have e : Sa55.splitBy kk l [] = ps ++ [l.drop st] := by
            rw [hsp, List.drop_length, List.take_length]
            rfl
          rw [e]
          refine PiecesAt.snoc (hP.same fun b hb o e => ?_) ?_
          · rw [upd_ne (hne b hb).1, upd_ne (ne_of_none e hq)]
            exact e
          · rw [upd_ne (Ne.symm npq), upd_same, cut_from]
end
end Pg
end
section
namespace Pg
open PySem PySem.Spec L2 Xn
open PyProof.Rows hiding St

/-! ### what of the module the defs lean on -/
structure Txt (K : PySem.W.Frag) (mg : Str → Option Value) : Prop where
  ord : mg "ord" = none
  len : mg "len" = none
  enum : mg "enumerate" = none
  tup : mg "tuple" = none
  cN : ∃ t, mg "LONGEST_NAME" = some (.int 16 t)
  cD : ∃ t, mg "LONGEST_NUMBER" = some (.int 2 t)
  cS : ∃ t, mg "MOST_SUBSTANCES" = some (.int 24 t)
  cR : ∃ t, mg "MOST_REACTIONS" = some (.int 24 t)
  cO : ∃ t, mg "MOST_OF_ONE" = some (.int 99 t)
/-- a def of the module, by its name -/
structure Df (K : PySem.W.Frag) (mg : Str → Option Value) (x : Str) (st : Stmt) (ps : List Str) (f : Addr) (fd : FuncData) : Prop where
  fn : Fun K x x st f fd
  bd : Binds K fd ps []
  at_ : mg x = some (.ref f)

section
variable {P : Program} {w : World} {K : PySem.W.Frag} {mg : Str → Option Value} {base : Heap}
def okName (c : Nat) : Bool := Sa55.letter c || (Sa55.digit c || c == 95)
theorem scName : FnScope ["name", "byte"] ["name"] (defScope sName) := ⟨rfl, rfl, rfl, by decide +kernel, rfl, by decide +kernel, by decide +kernel⟩
theorem ok_name {f fL fD : Addr} {fd fdL fdD : FuncData} (T : Txt K mg) (F : Df K mg "is_name" sName ["name"] f fd) (L : Df K mg "is_letter" sLet ["byte"] fL fdL) (D : Df K mg "is_digit" sDig ["byte"] fD fdD) : FnOk P w K mg base CX0 2 f fd ["name"] (spName K) := by
  have GL : FnOk P w K mg base CX0 1 fL fdL ["byte"] spLet := ok_let L.fn T.ord
  have GD : FnOk P w K mg base CX0 1 fD fdD ["byte"] spDig := ok_dig D.fn T.ord
  obtain ⟨t16, c16⟩ := T.cN
  refine F.fn.ok scName (fun vs H Q E h => ?_) (fun cdv A outer s H vs Q E hr h => ?_)
  · obtain ⟨a, l, rfl, _⟩ := h
    rfl
  · obtain ⟨a, l, rfl, hS, k⟩ := h
    refine ⟨_, pss_cons (ps_if (PW.pt (pw_or (pt_cmpR op_eq (pe_callB call_len_seq rfl T.len PySem.boot_len (pa_cons (pv 0) pa_nil)) pe_int (nomark _))
        (pw_or (pt_cmpR op_gt (pe_callB call_len_seq rfl T.len PySem.boot_len (pa_cons (pv 0) pa_nil)) (pe_glob (v := .int 16) rfl c16 ⟨t16, rfl⟩) (nomark _))
        (pw_or1 (pt_not (pt_val (pe_call GL hr rfl L.at_ L.fn.kp L.bd .nil pass0 (pa_cons (pe_ix ix_list (pv 0) pe_int (fun _ _ => rfl)) pa_nil))))))))
        (pss_one (ps_ret pe_bl)) pss_nil)
      (pss_cons (ps_for PassesOwn.never rfl (pi_list (pv 0)) (pg_name (i := 1) scName.nd rfl (Or.inl rfl))
        (pss_one (ps_if (pt_not (PW.pt (pw_or (pt_val (pe_call GL hr rfl L.at_ L.fn.kp L.bd .nil pass0 (pa_cons (pv 1) pa_nil)))
          (pw_or (pt_val (pe_call GD hr rfl D.at_ D.fn.kp D.bd .nil pass0 (pa_cons (pv 1) pa_nil))) (pw_or1 (pt_cmpR op_eq (pv 1) (pe_ord (n := 95) rfl T.ord) (nomark _)))))))
          (pss_one (ps_ret pe_bl)) pss_nil)))
      (pss_one (ps_ret pe_bl))), ?_⟩
    refine ⟨_, rfl, a, _, rfl, .inl hS, rfl, _, rfl, ite2 (fun h1 => iteT ?_) fun h1 => ?_⟩
    · have h1' : V.int ((vB l).length : Nat) = V.int 0 := of_decide_eq_true h1
      rw [vB_len] at h1'
      have l0 : l = [] := by
        injection h1' with z
        exact List.length_eq_zero_iff.mp (by omega)
      subst l0
      exact k
    · have h1' : ¬ V.int ((vB l).length : Nat) = V.int 0 := fun z => h1 (decide_eq_true z)
      rw [vB_len] at h1'
      obtain ⟨c, r, rfl⟩ : ∃ c r, l = c :: r := by
        cases l with
        | nil => exact absurd rfl h1'
        | cons c r => exact ⟨c, r, rfl⟩
      refine ⟨_, rfl, a, _, rfl, .inl hS, _, _, rfl, rfl, _, rfl, ite2 (fun h2 => iteT ?_) fun h2 => ?_⟩
      · have h2' : (16 : Int) < ((vB (c :: r)).length : Nat) := of_decide_eq_true h2
        rw [vB_len] at h2'
        have e : Sa55.nameOk (c :: r) = false := by
          unfold Sa55.nameOk
          rw [decide_eq_false (show ¬ (c :: r).length ≤ 16 by omega)]
          simp
        rw [e] at k
        exact k
      · have h2' : ¬ (16 : Int) < ((vB (c :: r)).length : Nat) := fun z => h2 (decide_eq_true z)
        rw [vB_len] at h2'
        refine ⟨_, rfl, a, _, _, .int (c : Int), rfl, rfl, hS, atI_nat (j := 0) (vB_get rfl), c, rfl, _, rfl, ?_⟩
        cases hL : Sa55.letter c with
        | false =>
          refine iteT ?_
          have e : Sa55.nameOk (c :: r) = false := by
            unfold Sa55.nameOk
            simp [hL]
          rw [e] at k
          exact k
        | true =>
          refine iteF ?_
          have e : Sa55.nameOk (c :: r) = (c :: r).all okName := by
            unfold Sa55.nameOk
            rw [decide_eq_true (show (c :: r).length ≤ 16 by omega)]
            simp only [List.head?_cons, Option.any_some, hL, Bool.true_and]
            rfl
          rw [e] at k
          generalize c :: r = l at hS k
          refine ⟨_, rfl, a, rfl, ⟨_, hS⟩, for_list (K := K) (a := a) (xs := vB l) (fun i σ H' => ∃ b1 : Option V, σ = [some (.ref a), b1] ∧ H' = H ∧ ∀ j c, j < i → l[j]? = some c → okName c = true)
            ⟨none, rfl, rfl, fun j c hj => absurd hj (Nat.not_lt_zero _)⟩ (fun i σ H' _ ⟨_, _, e, _⟩ => by rw [e]; exact hS) ?_ ?_⟩
          · rintro i x σ H' hx ⟨b1, rfl, rfl, hall⟩
            obtain ⟨d, hd, rfl⟩ := of_vB hx
            have no : okName d = false → Q (.bl false) H' := fun z => by
              have e : l.all okName = false := by
                rw [List.all_eq_false]
                exact ⟨d, List.mem_of_getElem? hd, by rw [z]; decide⟩
              rw [e] at k
              exact k
            have yes : okName d = true → ∃ b1 : Option V, [some (V.ref a), some (V.int (d : Int))] = [some (.ref a), b1] ∧ H' = H' ∧ ∀ j c, j < i + 1 → l[j]? = some c → okName c = true := fun z =>
              ⟨_, rfl, rfl, fun j c hj hc => by
                by_cases q : j = i
                · rw [q, hd] at hc
                  cases hc
                  exact z
                · exact hall j c (by omega) hc⟩
            refine ⟨_, rfl, d, rfl, _, rfl, ite2 (fun h3 => iteF (yes (by unfold okName; rw [h3]; rfl))) fun h3 => ⟨_, rfl, d, rfl, _, rfl, ite2 (fun h4 => iteF (yes (by unfold okName; rw [h4]; simp))) fun h4 => ?_⟩⟩
            refine ⟨_, rfl, rfl, _, rfl, ?_⟩
            have e3 : Sa55.letter d = false := by simpa using h3
            have e4 : Sa55.digit d = false := by simpa using h4
            by_cases h5 : d = 95
            · subst h5
              exact iteF (yes (by unfold okName; simp))
            · have e5 : decide (V.int (d : Int) = V.int ((95 : Nat) : Int)) = false := decide_eq_false fun z => by
                injection z with z
                omega
              rw [e5]
              exact iteT (no (by unfold okName; rw [e3, e4]; simp [h5]))
          · rintro σ H' ⟨b1, rfl, rfl, hall⟩
            have e : l.all okName = true := by
              rw [List.all_eq_true]
              intro d hd
              obtain ⟨j, hj, e⟩ := List.mem_iff_getElem.mp hd
              exact hall j d (by rw [vB_len]; exact hj) (by rw [List.getElem?_eq_getElem hj, e])
            rw [e] at k
            exact k
end
end Pg
end
section
namespace Pg
open PySem PySem.Spec L2 Xn
open PyProof.Rows hiding St
open Rn (Vec addName numOf)

/-! ### a network as it stands in the heap -/
def nf (k : Int) (d r : Addr) : List (Str × V) := [("line", .int k), ("numbers", .ref d), ("reactions", .ref r)]
theorem ne1 : ¬ ("numbers" : Str) = "line" := by decide +kernel
theorem ne2 : ¬ ("reactions" : Str) = "line" := by decide +kernel
theorem ne3 : ¬ ("reactions" : Str) = "numbers" := by decide +kernel
theorem ne4 : ¬ ("line" : Str) = "numbers" := by decide +kernel
theorem ne5 : ¬ ("line" : Str) = "reactions" := by decide +kernel
theorem ne6 : ¬ ("numbers" : Str) = "reactions" := by decide +kernel
theorem nf_made (k : Int) (d r : Addr) : putF "reactions" (.ref r) (putF "numbers" (.ref d) (putF "line" (.int k) [])) = nf k d r := by
  have e1 : putF "numbers" (V.ref d) [(("line" : Str), V.int k)] = [(("line" : Str), V.int k), (("numbers" : Str), V.ref d)] := by
    show (if ("line" : Str) = "numbers" then [(("line" : Str), V.ref d)] else (("line" : Str), V.int k) :: putF "numbers" (V.ref d) []) = _
    rw [if_neg ne4]
    rfl
  have e2 : putF "reactions" (V.ref r) [(("numbers" : Str), V.ref d)] = [(("numbers" : Str), V.ref d), (("reactions" : Str), V.ref r)] := by
    show (if ("numbers" : Str) = "reactions" then [(("numbers" : Str), V.ref r)] else (("numbers" : Str), V.ref d) :: putF "reactions" (V.ref r) []) = _
    rw [if_neg ne6]
    rfl
  show putF "reactions" (.ref r) (putF "numbers" (.ref d) [(("line" : Str), V.int k)]) = _
  rw [e1]
  show (if ("line" : Str) = "reactions" then (("line" : Str), V.ref r) :: [(("numbers" : Str), V.ref d)] else (("line" : Str), V.int k) :: putF "reactions" (V.ref r) [(("numbers" : Str), V.ref d)]) = _
  rw [if_neg ne5, e2]
  rfl
theorem nf_line (k : Int) (d r : Addr) : (nf k d r).lookup ("line" : Str) = some (V.int k) := by
  rw [← nf_made, lookup_putF, if_neg ne5, lookup_putF, if_neg ne4, lookup_putF, if_pos rfl]
theorem nf_num (k : Int) (d r : Addr) : (nf k d r).lookup ("numbers" : Str) = some (V.ref d) := by
  rw [← nf_made, lookup_putF, if_neg ne6, lookup_putF, if_pos rfl]
theorem nf_rea (k : Int) (d r : Addr) : (nf k d r).lookup ("reactions" : Str) = some (V.ref r) := by
  rw [← nf_made, lookup_putF, if_pos rfl]
theorem nf_put (j k : Int) (d r : Addr) : putF "line" (.int j) (nf k d r) = nf j d r := by
  show (if ("line" : Str) = "line" then (("line" : Str), V.int j) :: [(("numbers" : Str), V.ref d), (("reactions" : Str), V.ref r)] else _) = _
  rw [if_pos rfl]
  rfl
def keyOf (n : List Nat) : List Key := n.map fun c : Nat => Sum.inl (c : Int)
theorem key_vB (n : List Nat) : (keyOf n).map kV = vB n := by
  unfold keyOf vB
  rw [List.map_map]
  rfl
theorem key_inj : ∀ {n m : List Nat}, keyOf n = keyOf m → n = m
  | [], [], _ => rfl
  | [], _ :: _, h => by cases h
  | _ :: _, [], h => by cases h
  | a :: n, b :: m, h => by
    have h : (Sum.inl (a : Int) : Key) :: keyOf n = Sum.inl (b : Int) :: keyOf m := h
    injection h with h1 h2
    injection h1 with h1
    rw [key_inj h2, show a = b by omega]
def kvsF : Nat → List (List Nat) → List (List Key × V)
  | _, [] => []
  | k, n :: r => (keyOf n, .int (k : Nat)) :: kvsF (k + 1) r
theorem kvsF_len : ∀ (k : Nat) (ns : List (List Nat)), (kvsF k ns).length = ns.length
  | _, [] => rfl
  | k, _ :: r => by
    show (kvsF (k + 1) r).length + 1 = r.length + 1
    rw [kvsF_len]
theorem kvsF_snoc : ∀ (k : Nat) (ns : List (List Nat)) (n : List Nat), kvsF k (ns ++ [n]) = kvsF k ns ++ [(keyOf n, .int ((k + ns.length : Nat) : Int))]
  | k, [], n => rfl
  | k, m :: r, n => by
    show (keyOf m, V.int (k : Nat)) :: kvsF (k + 1) (r ++ [n]) = (keyOf m, V.int (k : Nat)) :: (kvsF (k + 1) r ++ _)
    rw [kvsF_snoc, List.length_cons, show k + 1 + r.length = k + (r.length + 1) by omega]
theorem kvsF_val : ∀ (k : Nat) (ns : List (List Nat)) (n : List Nat), valV (kvsF k ns) (keyOf n) = if n ∈ ns then some (.int ((k + ns.idxOf n : Nat) : Int)) else none
  | k, [], n => by simp [kvsF, valV_nil]
  | k, m :: r, n => by
    by_cases h : m = n
    · subst h
      rw [if_pos (by simp), show kvsF k (m :: r) = (keyOf m, V.int (k : Nat)) :: kvsF (k + 1) r from rfl, valV_pos (p := (keyOf m, V.int (k : Nat))) rfl]
      simp
    · rw [show kvsF k (m :: r) = (keyOf m, V.int (k : Nat)) :: kvsF (k + 1) r from rfl, valV_neg (p := (keyOf m, V.int (k : Nat))) (fun z => h (key_inj z)), kvsF_val]
      have e : (m :: r).idxOf n = r.idxOf n + 1 := by
        rw [List.idxOf_cons]
        have : (m == n) = false := beq_eq_false_iff_ne.mpr h
        rw [this]
        rfl
      rw [e]
      by_cases h2 : n ∈ r
      · rw [if_pos h2, if_pos (by simp [h2]), show k + 1 + r.idxOf n = k + (r.idxOf n + 1) by omega]
      · rw [if_neg h2, if_neg (by simp [h2, Ne.symm h])]
/-- a reaction's tuple -/
def RAt (H : Hp) (t : Addr) (q : Vec × Vec) : Prop := ∃ a b, H t = some (.tup [.ref a, .ref b]) ∧ H a = some (.tup (vB q.1)) ∧ H b = some (.tup (vB q.2))
structure Nt (C dx p d r : Addr) (H : Hp) (k : Int) (ns : List (List Nat)) (rs : List (Vec × Vec)) : Prop where
  ins : H p = some (.ins C dx (nf k d r))
  num : H d = some (.dT (kvsF 0 ns))
  rea : ∃ ts, H r = some (.lst (ts.map V.ref)) ∧ Paired (RAt H) ts rs
/-- all but the network's own objects stands as it was -/
def Oth (p d r : Addr) (H H' : Hp) : Prop := ∀ b o, H b = some o → b ≠ p → b ≠ d → b ≠ r → H' b = some o
theorem Same.oth {H H' : Hp} (s : Same H H') (p d r : Addr) : Oth p d r H H' := fun b o e _ _ _ => s b o e
theorem Oth.trans {p d r : Addr} {H H1 H2 : Hp} (a : Oth p d r H H1) (b : Oth p d r H1 H2) : Oth p d r H H2 := fun c o e h1 h2 h3 => b c o (a c o e h1 h2 h3) h1 h2 h3
theorem RAt.of {H H' : Hp} {t : Addr} {q : Vec × Vec} (x : RAt H t q) (k : ∀ b xs, H b = some (.tup xs) → H' b = some (.tup xs)) : RAt H' t q := by
  obtain ⟨a, b, h1, h2, h3⟩ := x
  exact ⟨a, b, k _ _ h1, k _ _ h2, k _ _ h3⟩
theorem RAts.of {H H' : Hp} {ts : List Addr} {rs : List (Vec × Vec)} (x : Paired (RAt H) ts rs) (k : ∀ b xs, H b = some (.tup xs) → H' b = some (.tup xs)) : Paired (RAt H') ts rs := by
  induction x with
  | nil => exact .nil
  | cons r t ih => exact .cons (r.of k) ih
theorem Nt.same {C dx p d r : Addr} {H H' : Hp} {k : Int} {ns : List (List Nat)} {rs : List (Vec × Vec)} (n : Nt C dx p d r H k ns rs) (s : Same H H') : Nt C dx p d r H' k ns rs := by
  obtain ⟨ts, h1, h2⟩ := n.rea
  exact ⟨s _ _ n.ins, s _ _ n.num, ts, s _ _ h1, RAts.of h2 fun b xs e => s _ _ e⟩
theorem Nt.pd {C dx p d r : Addr} {H : Hp} {k : Int} {ns : List (List Nat)} {rs : List (Vec × Vec)} (n : Nt C dx p d r H k ns rs) : p ≠ d ∧ p ≠ r ∧ d ≠ r := by
  obtain ⟨ts, h1, _⟩ := n.rea
  exact ⟨ne_of n.ins n.num (by intro z; cases z), ne_of n.ins h1 (by intro z; cases z), ne_of n.num h1 (by intro z; cases z)⟩
/-- the Network class -/
structure NC (K : PySem.W.Frag) (C : Addr) : Prop where
  cl : Cls K C
  n1 : NoAttr K C "line"
  n2 : NoAttr K C "numbers"
  n3 : NoAttr K C "reactions"
/-- the exception's class -/
structure XW (K : PySem.W.Frag) (mg : Str → Option Value) (C fI : Addr) (fdI : FuncData) : Prop where
  cls : XCls K C fI
  fn : Fun K "__init__" "WrongLine.__init__" sWI fI fdI
  bd : Binds K fdI ["self", "line"] []
  at_ : mg "WrongLine" = some (.ref C)
theorem initSt : InitSt sWI := ⟨⟨_, _, _, _, rfl⟩, rfl, rfl, rfl, rfl, rfl⟩
/-- whatever the heap is, the exception of line k is wanted -/
def Bad (E : XK) (k : Int) : Prop := ∀ H', E (.int k 0) none H'

def spNum (K : PySem.W.Frag) (C : Addr) : Sp := fun vs H Q E => ∃ (p a dx d r : Addr) (k : Int) (ns : List (List Nat)) (rs : List (Vec × Vec)) (l : List Nat), vs = [.ref p, .ref a] ∧ Nt C dx p d r H k ns rs ∧ SqL K H a (vB l) ∧ (∀ c ∈ l, Sa55.digit c = true) ∧
  (Rn.numOf l = none → Bad E k) ∧ ∀ v, Rn.numOf l = some v → Q (.int (v : Nat)) H
def spSub (K : PySem.W.Frag) (C : Addr) : Sp := fun vs H Q E => ∃ (p a dx d r : Addr) (k : Int) (ns : List (List Nat)) (rs : List (Vec × Vec)) (l : List Nat), vs = [.ref p, .ref a] ∧ Nt C dx p d r H k ns rs ∧ SqL K H a (vB l) ∧ ns.length ≤ 24 ∧
  (Sa55.nameOk l = false ∨ 24 < (addName ns l).length → Bad E k) ∧
  (Sa55.nameOk l = true → (addName ns l).length ≤ 24 → ∀ H', Nt C dx p d r H' k (addName ns l) rs → Oth p d r H H' → Q (.int ((addName ns l).idxOf l : Nat)) H')
def spAdd (C : Addr) : Sp := fun vs H Q E => ∃ (p a b dx d r : Addr) (k : Int) (ns : List (List Nat)) (rs : List (Vec × Vec)) (x y : Vec), vs = [.ref p, .ref a, .ref b] ∧ Nt C dx p d r H k ns rs ∧ rs.length ≤ 24 ∧ H a = some (.tup (vB x)) ∧ H b = some (.tup (vB y)) ∧
  (rs.length = 24 → Bad E k) ∧ (rs.length ≠ 24 → ∀ H', Nt C dx p d r H' k ns (rs ++ [(x, y)]) → Oth p d r H H' → Q .non H')

section
variable {P : Program} {w : World} {K : PySem.W.Frag} {mg : Str → Option Value} {base : Heap} {CW fWI CN : Addr} {fdWI : FuncData}

theorem scNum : FnScope ["network", "digits", "value", "digit"] ["network", "digits"] (defScope sNum) := ⟨rfl, rfl, rfl, by decide +kernel, rfl, by decide +kernel, by decide +kernel⟩
theorem ok_num {f : Addr} {fd : FuncData} (T : Txt K mg) (W : XW K mg CW fWI fdWI) (N : NC K CN) (F : Df K mg "read_number" sNum ["network", "digits"] f fd) : FnOk P w K mg base (CXW P w CW) 2 f fd ["network", "digits"] (spNum K CN) := by
  obtain ⟨t2, c2⟩ := T.cD
  refine okW F.fn scNum (fun vs H Q E h => ?_) (fun cdv A outer s H vs Q E hr h => ?_)
  · obtain ⟨p, a, dx, d, r, k, ns, rs, l, rfl, _⟩ := h
    rfl
  · obtain ⟨p, a, dx, d, r, k, ns, rs, l, rfl, nt, hS, hdig, bad, good⟩ := h
    refine ⟨_, pss_cons (ps_if (pt_cmpR op_eq (pe_callB call_len_seq rfl T.len PySem.boot_len (pa_cons (pv 1) pa_nil)) pe_int (nomark _)) (pss_one (ps_ret pe_int)) pss_nil)
      (pss_cons (ps_if (PW.pt (pw_or (pt_cmpR op_gt (pe_callB call_len_seq rfl T.len PySem.boot_len (pa_cons (pv 1) pa_nil)) (pe_glob (v := .int 2) rfl c2 ⟨t2, rfl⟩) (nomark _))
        (pw_or1 (pt_cmpR op_eq (pe_ix ix_list (pv 1) pe_int (fun _ _ => rfl)) (pe_ord (n := 48) rfl T.ord) (nomark _)))))
        (pss_one (ps_raise defCx rfl W.cls W.fn W.bd initSt hr rfl W.at_ (pe_fld (pv 0) rfl))) pss_nil)
      (pss_cons (ps_set (i := 2) scNum.nd rfl (Or.inl rfl) pe_int)
      (pss_cons (ps_for (fly_own defCx) rfl (pi_list (pv 1)) (pg_name (i := 3) scNum.nd rfl (Or.inl rfl))
        (pss_one (ps_set (i := 2) scNum.nd rfl (Or.inl rfl) (pe_op op_sub (pe_op op_add (pe_op op_mul (pv 2) pe_int) (pv 3)) (pe_ord (n := 48) rfl T.ord)))))
      (pss_one (ps_ret (pv 2)))))), ?_⟩
    have rais : ∀ σ : St, σ[0]? = some (some (.ref p)) → Bad E k → tRaise (tFld K (tVar 0) "line") E { nx := fun _ H' => Q .non H', rt := Q } σ H := fun σ h0 hb =>
      ⟨_, h0, p, CN, dx, _, _, rfl, nt.ins, N.cl, N.n1, nf_line k d r, k, rfl, hb _⟩
    refine ⟨_, rfl, a, _, rfl, .inl hS, rfl, _, rfl, ite2 (fun h1 => ?_) fun h1 => ?_⟩
    · have h1' : V.int ((vB l).length : Nat) = V.int 0 := of_decide_eq_true h1
      rw [vB_len] at h1'
      have l0 : l = [] := by
        injection h1' with z
        exact List.length_eq_zero_iff.mp (by omega)
      subst l0
      exact good 1 rfl
    · have h1' : ¬ V.int ((vB l).length : Nat) = V.int 0 := fun z => h1 (decide_eq_true z)
      rw [vB_len] at h1'
      obtain ⟨c, r', rfl⟩ : ∃ c r, l = c :: r := by
        cases l with
        | nil => exact absurd rfl h1'
        | cons c r => exact ⟨c, r, rfl⟩
      refine ⟨_, rfl, a, _, rfl, .inl hS, _, _, rfl, rfl, _, rfl, ite2 (fun h2 => iteT ?_) fun h2 => ?_⟩
      · have h2' : (2 : Int) < ((vB (c :: r')).length : Nat) := of_decide_eq_true h2
        rw [vB_len] at h2'
        refine rais _ rfl (bad ?_)
        unfold Rn.numOf
        rw [if_neg (by simp), if_pos (.inl (by omega))]
      · have h2' : ¬ (2 : Int) < ((vB (c :: r')).length : Nat) := fun z => h2 (decide_eq_true z)
        rw [vB_len] at h2'
        refine ⟨_, rfl, a, _, _, .int (c : Int), rfl, rfl, hS, atI_nat (j := 0) (vB_get rfl), rfl, _, rfl, ite2 (fun h3 => ?_) fun h3 => ?_⟩
        · have h3' : V.int (c : Int) = V.int ((48 : Nat) : Int) := of_decide_eq_true h3
          have c48 : c = 48 := by
            injection h3' with z
            omega
          refine rais _ rfl (bad ?_)
          unfold Rn.numOf
          rw [if_neg (by simp), if_pos (.inr (by rw [c48]; rfl))]
        · have h3' : ¬ c = 48 := fun z => h3 (decide_eq_true (by rw [z]))
          have g := good ((c :: r').foldl (fun n c => 10 * n + (c - 48)) 0) (by
            unfold Rn.numOf
            rw [if_neg (by simp), if_neg]
            rintro (z | z)
            · omega
            · simp at z; exact h3' z)
          generalize hl : c :: r' = l at hS g hdig
          refine ⟨_, rfl, a, rfl, ⟨_, hS⟩, for_list (K := K) (a := a) (xs := vB l) (fun i σ H' => ∃ b3 : Option V, σ = [some (.ref p), some (.ref a), some (.int (((l.take i).foldl (fun n c => 10 * n + (c - 48)) 0 : Nat) : Int)), b3] ∧ H' = H)
            ⟨none, rfl, rfl⟩ (fun i σ H' _ ⟨_, _, e⟩ => by rw [e]; exact hS) ?_ ?_⟩
          · rintro i x σ H' hx ⟨b3, rfl, rfl⟩
            obtain ⟨e, he, rfl⟩ := of_vB hx
            have ed := hdig e (List.mem_of_getElem? he)
            have e48 : 48 ≤ e := by
              unfold Sa55.digit at ed
              simp at ed
              omega
            refine ⟨_, rfl, _, _, rfl, rfl, .inr ⟨by decide, by decide⟩, _, rfl, _, _, rfl, rfl, _, _, rfl, rfl, some (.int (e : Int)), ?_, rfl⟩
            rw [List.take_add_one, he]
            have ev : (((l.take i).foldl (fun n c => 10 * n + (c - 48)) 0 : Nat) : Int) * 10 + (e : Int) - ((48 : Nat) : Int) = (((l.take i ++ [e]).foldl (fun n c => 10 * n + (c - 48)) 0 : Nat) : Int) := by
              rw [List.foldl_append]
              show _ = ((10 * (l.take i).foldl (fun n c => 10 * n + (c - 48)) 0 + (e - 48) : Nat) : Int)
              omega
            show [some (V.ref p), some (V.ref a), some (V.int ((((l.take i).foldl (fun n c => 10 * n + (c - 48)) 0 : Nat) : Int) * 10 + (e : Int) - ((48 : Nat) : Int))), some (V.int (e : Int))] = _
            rw [ev]
            rfl
          · rintro σ H' ⟨b3, rfl, rfl⟩
            refine ⟨_, rfl, ?_⟩
            rw [vB_len, List.take_length]
            exact g

theorem scSub : FnScope ["network", "name", "key"] ["network", "name"] (defScope sSub) := ⟨rfl, rfl, rfl, by decide +kernel, rfl, by decide +kernel, by decide +kernel⟩
theorem ok_sub {f fN fL fD : Addr} {fd fdN fdL fdD : FuncData} (T : Txt K mg) (W : XW K mg CW fWI fdWI) (N : NC K CN) (F : Df K mg "number_substance" sSub ["network", "name"] f fd)
    (FN : Df K mg "is_name" sName ["name"] fN fdN) (L : Df K mg "is_letter" sLet ["byte"] fL fdL) (D : Df K mg "is_digit" sDig ["byte"] fD fdD) : FnOk P w K mg base (CXW P w CW) 3 f fd ["network", "name"] (spSub K CN) := by
  have GN : FnOk P w K mg base CX0 2 fN fdN ["name"] (spName K) := ok_name T FN L D
  obtain ⟨t24, c24⟩ := T.cS
  refine okW F.fn scSub (fun vs H Q E h => ?_) (fun cdv A outer s H vs Q E hr h => ?_)
  · obtain ⟨p, a, dx, d, r, k, ns, rs, l, rfl, _⟩ := h
    rfl
  · obtain ⟨p, a, dx, d, r, k, ns, rs, l, rfl, nt, hS, hns, bad, good⟩ := h
    have hu := hu_of hr
    refine ⟨_, pss_cons (ps_if (pt_not (pt_val (pe_call GN hr rfl FN.at_ FN.fn.kp FN.bd .nil pass0 (pa_cons (pv 1) pa_nil)))) (pss_one (ps_raise defCx rfl W.cls W.fn W.bd initSt hr rfl W.at_ (pe_fld (pv 0) rfl))) pss_nil)
      (pss_cons (ps_set (i := 2) scSub.nd rfl (Or.inl rfl) (pe_callTy call_tuple_of rfl T.tup boot_tuple (pa_cons (pv 1) pa_nil)))
      (pss_cons (ps_if (pt_cmp (pc_dnotin hu (pv 2) (pe_fld (pv 0) rfl)))
        (pss_cons (ps_if (pt_cmpR op_eq (pe_callB call_lenT rfl T.len PySem.boot_len (pa_cons (pe_fld (pv 0) rfl) pa_nil)) (pe_glob (v := .int 24) rfl c24 ⟨t24, rfl⟩) (nomark _)) (pss_one (ps_raise defCx rfl W.cls W.fn W.bd initSt hr rfl W.at_ (pe_fld (pv 0) rfl))) pss_nil)
          (pss_one (ps_dput hu (pe_fld (pv 0) rfl) (pv 2) (pe_callB call_lenT rfl T.len PySem.boot_len (pa_cons (pe_fld (pv 0) rfl) pa_nil)) rfl))) pss_nil)
      (pss_one (ps_ret (pe_dget hu (pe_fld (pv 0) rfl) (pv 2) (fun _ _ => rfl)))))), ?_⟩
    refine ⟨_, rfl, a, l, rfl, hS, _, rfl, ?_⟩
    cases hN : Sa55.nameOk l with
    | false => exact iteT ⟨_, rfl, p, CN, dx, _, _, rfl, nt.ins, N.cl, N.n1, nf_line k d r, k, rfl, bad (.inl hN) _⟩
    | true =>
      refine iteF ⟨_, rfl, a, _, rfl, .inl ⟨hS, fun t ht => ?_⟩⟩
      have sm : Same H (upd H t (.tup (vB l))) := Same.upd1 ht
      have nt1 := nt.same sm
      have hk : (upd H t (.tup (vB l))) t = some (.tup ((keyOf l).map kV)) := by rw [upd_same, key_vB]
      generalize upd H t (.tup (vB l)) = H1 at sm nt1 hk
      refine ⟨_, rfl, _, rfl, p, CN, dx, _, _, rfl, nt1.ins, N.cl, N.n2, nf_num k d r, d, _, rfl, DGet.t nt1.num hk, _, rfl, ?_⟩
      rw [kvsF_val]
      by_cases hin : l ∈ ns
      · rw [if_pos hin]
        refine iteF ⟨_, rfl, p, CN, dx, _, _, rfl, nt1.ins, N.cl, N.n2, nf_num k d r, _, rfl, d, .int ((ns.idxOf l : Nat) : Int), rfl, ?_, ?_⟩
        · have g := DGet.t nt1.num hk
          rw [kvsF_val, if_pos hin, Nat.zero_add] at g
          exact g
        · have e : addName ns l = ns := by
            unfold addName
            rw [if_pos (by simpa using hin)]
          have q := good hN (by rw [e]; exact hns) H1 (by rw [e]; exact nt1) (Same.oth sm p d r)
          rw [e] at q
          exact q
      · rw [if_neg hin]
        have e : addName ns l = ns ++ [l] := by
          unfold addName
          rw [if_neg (by simpa using hin)]
        refine iteT ⟨_, rfl, p, CN, dx, _, _, rfl, nt1.ins, N.cl, N.n2, nf_num k d r, d, _, rfl, nt1.num, rfl, _, rfl, ite2 (fun h1 => ?_) fun h1 => ?_⟩
        · have h1' : V.int ((kvsF 0 ns).length : Nat) = V.int 24 := of_decide_eq_true h1
          rw [kvsF_len] at h1'
          refine ⟨_, rfl, p, CN, dx, _, _, rfl, nt1.ins, N.cl, N.n1, nf_line k d r, k, rfl, bad (.inr ?_) _⟩
          injection h1' with z
          rw [e, List.length_append]
          show 24 < ns.length + 1
          omega
        · have h1' : ¬ V.int ((kvsF 0 ns).length : Nat) = V.int 24 := fun z => h1 (decide_eq_true z)
          rw [kvsF_len] at h1'
          have hlt : ns.length < 24 := by
            rcases Nat.lt_or_ge ns.length 24 with z | z
            · exact z
            · exfalso
              apply h1'
              congr 1
              omega
          refine ⟨_, rfl, p, CN, dx, _, _, rfl, nt1.ins, N.cl, N.n2, nf_num k d r, d, _, rfl, nt1.num, _, rfl, p, CN, dx, _, _, rfl, nt1.ins, N.cl, N.n2, nf_num k d r, _, rfl, d, _, rfl,
            DPut.t nt1.num hk (by rw [kvsF_len, sizeLine_eq]; omega), ?_⟩
          have v0 : valV (kvsF 0 ns) (keyOf l) = none := by rw [kvsF_val, if_neg hin]
          have ep : putK (kvsF 0 ns) (keyOf l) (.int ((kvsF 0 ns).length : Nat)) = kvsF 0 (addName ns l) := by
            rw [putK_new _ v0, e, kvsF_snoc, kvsF_len, Nat.zero_add]
          rw [ep]
          obtain ⟨hpd, hpr, hdr⟩ := nt1.pd
          obtain ⟨ts, hr1, hr2⟩ := nt1.rea
          have nt2 : Nt CN dx p d r (upd H1 d (.dT (kvsF 0 (addName ns l)))) k (addName ns l) rs := by
            refine ⟨by rw [upd_ne hpd]; exact nt1.ins, upd_same, ts, by rw [upd_ne (Ne.symm hdr)]; exact hr1, RAts.of hr2 fun b xs eb => ?_⟩
            rw [upd_ne (ne_of eb nt1.num (by intro z; cases z))]
            exact eb
          have hk2 : (upd H1 d (.dT (kvsF 0 (addName ns l)))) t = some (.tup ((keyOf l).map kV)) := by
            rw [upd_ne (ne_of hk nt1.num (by intro z; cases z))]
            exact hk
          have ot : Oth p d r H (upd H1 d (.dT (kvsF 0 (addName ns l)))) := fun b o eb _ h2 _ => by
            rw [upd_ne h2]
            exact sm b o eb
          refine ⟨_, rfl, p, CN, dx, _, _, rfl, nt2.ins, N.cl, N.n2, nf_num k d r, _, rfl, d, .int (((addName ns l).idxOf l : Nat) : Int), rfl, ?_, good hN (by rw [e, List.length_append]; show ns.length + 1 ≤ 24; omega) _ nt2 ot⟩
          have g := DGet.t nt2.num hk2
          rw [kvsF_val, if_pos (Rn.addName_mem ns l), Nat.zero_add] at g
          exact g

theorem scAdd : FnScope ["network", "takes", "gives"] ["network", "takes", "gives"] (defScope sAdd) := ⟨rfl, rfl, rfl, by decide +kernel, rfl, by decide +kernel, by decide +kernel⟩
theorem Paired.snoc {α β : Type} {R : α → β → Prop} {as : List α} {bs : List β} {a : α} {b : β} (h : Paired R as bs) (e : R a b) : Paired R (as ++ [a]) (bs ++ [b]) := by
  induction h with
  | nil => exact .cons e .nil
  | cons r t ih => exact .cons r ih
theorem ok_add {f : Addr} {fd : FuncData} (T : Txt K mg) (W : XW K mg CW fWI fdWI) (N : NC K CN) (F : Df K mg "add_reaction" sAdd ["network", "takes", "gives"] f fd) : FnOk P w K mg base (CXW P w CW) 2 f fd ["network", "takes", "gives"] (spAdd CN) := by
  obtain ⟨t24, c24⟩ := T.cR
  refine okW F.fn scAdd (fun vs H Q E h => ?_) (fun cdv A outer s H vs Q E hr h => ?_)
  · obtain ⟨p, a, b, dx, d, r, k, ns, rs, x, y, rfl, _⟩ := h
    rfl
  · obtain ⟨p, a, b, dx, d, r, k, ns, rs, x, y, rfl, nt, hrs, ha, hb, bad, good⟩ := h
    refine ⟨_, pss_cons (ps_if (pt_cmpR op_eq (pe_callB call_len_seq rfl T.len PySem.boot_len (pa_cons (pe_fld (pv 0) rfl) pa_nil)) (pe_glob (v := .int 24) rfl c24 ⟨t24, rfl⟩) (nomark _)) (pss_one (ps_raise defCx rfl W.cls W.fn W.bd initSt hr rfl W.at_ (pe_fld (pv 0) rfl))) pss_nil)
      (pss_one (ps_expr (pe_bm PySem.F.plainAttrs_list PySem.F.slot_list_append PySem.F.type_list_append mt_append (pe_fld (pv 0) rfl) (pa_cons (pe_tup (pa_cons (pv 1) (pa_cons (pv 2) pa_nil))) pa_nil)))), ?_⟩
    obtain ⟨ts, hr1, hr2⟩ := nt.rea
    have hlen : ts.length = rs.length := Paired.length hr2
    refine ⟨_, rfl, p, CN, dx, _, _, rfl, nt.ins, N.cl, N.n3, nf_rea k d r, r, _, rfl, .inl (SqL.of hr1), rfl, _, rfl, ite2 (fun h1 => ?_) fun h1 => ?_⟩
    · have h1' : V.int ((ts.map V.ref).length : Nat) = V.int 24 := of_decide_eq_true h1
      rw [List.length_map] at h1'
      refine ⟨_, rfl, p, CN, dx, _, _, rfl, nt.ins, N.cl, N.n1, nf_line k d r, k, rfl, bad ?_ _⟩
      injection h1' with z
      omega
    · have h1' : ¬ V.int ((ts.map V.ref).length : Nat) = V.int 24 := fun z => h1 (decide_eq_true z)
      rw [List.length_map] at h1'
      have hne : rs.length ≠ 24 := fun z => h1' (by rw [hlen, z]; rfl)
      refine ⟨_, rfl, p, CN, dx, _, _, rfl, nt.ins, N.cl, N.n3, nf_rea k d r, .inl ⟨rfl, _, SqL.of hr1⟩, _, rfl, _, rfl, (by show 2 ≤ sizeLine; decide), fun t ht => ?_⟩
      have sm : Same H (upd H t (.tup [.ref a, .ref b])) := Same.upd1 ht
      have nt1 := nt.same sm
      have hr1' := sm _ _ hr1
      have rat : RAt (upd H t (.tup [.ref a, .ref b])) t (x, y) := ⟨a, b, upd_same, sm _ _ ha, sm _ _ hb⟩
      have hr2' := RAts.of hr2 fun b xs eb => sm b _ eb
      generalize upd H t (.tup [.ref a, .ref b]) = H1 at sm nt1 hr1' rat hr2'
      refine ⟨r, _, _, rfl, rfl, hr1', (by rw [List.length_map, hlen, sizeLine_eq]; omega), good hne _ ?_ ?_⟩
      · obtain ⟨hpd, hpr, hdr⟩ := nt1.pd
        refine ⟨by rw [upd_ne hpr]; exact nt1.ins, by rw [upd_ne hdr]; exact nt1.num, ts ++ [t], by rw [upd_same, List.map_append]; rfl, ?_⟩
        refine RAts.of (Paired.snoc hr2' rat) fun b xs eb => ?_
        rw [upd_ne (ne_of eb hr1' (by intro z; cases z))]
        exact eb
      · intro c o ec _ _ h3
        rw [upd_ne h3]
        exact sm c o ec
end
end Pg
end
section
namespace Pg
open PySem PySem.Spec L2 Xn
open PyProof.Rows hiding St
open Rn (Vec addName)

def spSide (K : PySem.W.Frag) (C : Addr) : Sp := fun vs H Q E => ∃ (p a dx d r : Addr) (k : Int) (ns : List (List Nat)) (rs : List (Vec × Vec)) (l : List Nat), vs = [.ref p, .ref a] ∧ Nt C dx p d r H k ns rs ∧ SqL K H a (vB l) ∧ l.length ≤ 2000 ∧ ns.length ≤ 24 ∧
  (Rn.sideR ns l = none → Bad E k) ∧
  ∀ ns' am, Rn.sideR ns l = some (ns', am) → ns'.length ≤ 24 → ∀ (H' : Hp) (t : Addr), Nt C dx p d r H' k ns' rs → Oth p d r H H' → H' t = some (.tup (vB am)) → Q (.ref t) H'
theorem zeros_v : (List.replicate (24 : Int).toNat [V.int 0]).flatten = vB Rn.zeros := by decide +kernel
theorem unblank_len (l : List Nat) : (Sa55.unblank l).length ≤ l.length := by
  obtain ⟨i, j, e⟩ := Rn.unblank_ex l
  conv => rhs; rw [e]
  simp
  omega
theorem split_lens (k : Nat) : ∀ (l w : List Nat), ∀ b ∈ Sa55.splitBy k l w, b.length ≤ w.length + l.length
  | [], w, b, h => by
    simp [Sa55.splitBy] at h
    subst h
    simp
  | c :: r, w, b, h => by
    rw [Rn.split_cons] at h
    split at h
    · rcases List.mem_cons.mp h with e | e
      · subst e; omega
      · have := split_lens k r [] b e
        simp at this ⊢
        omega
    · have := split_lens k r (w ++ [c]) b h
      simp at this ⊢
      omega
/-- one piece of a side -/
theorem sideM_cons (ns : List (List Nat)) (am : List Nat) (t : List Nat) (rest : List (List Nat)) (n d : List Nat) (hd : d = (Sa55.unblank t).takeWhile Sa55.digit) (hn : n = Sa55.unblank ((Sa55.unblank t).drop d.length)) :
    (Sa55.nameOk n = false → Rn.sideM ns am (t :: rest) = none) ∧ (24 < (addName ns n).length → Rn.sideM ns am (t :: rest) = none) ∧ (Rn.numOf d = none → Rn.sideM ns am (t :: rest) = none) ∧
    ∀ v, Sa55.nameOk n = true → (addName ns n).length ≤ 24 → Rn.numOf d = some v → (99 < am.getD ((addName ns n).idxOf n) 0 + v → Rn.sideM ns am (t :: rest) = none) ∧
      (¬ 99 < am.getD ((addName ns n).idxOf n) 0 + v → Rn.sideM ns am (t :: rest) = Rn.sideM (addName ns n) (am.set ((addName ns n).idxOf n) (am.getD ((addName ns n).idxOf n) 0 + v)) rest) := by
  have e := Rn.termOf_eq t
  rw [← hd, ← hn] at e
  refine ⟨fun h => ?_, fun h => ?_, fun h => ?_, fun v h1 h2 h3 => ⟨fun h => ?_, fun h => ?_⟩⟩
  · unfold Rn.sideM
    rw [e, if_pos h]
  · unfold Rn.sideM
    rw [e]
    by_cases h0 : Sa55.nameOk n = false
    · rw [if_pos h0]
    · rw [if_neg h0]
      cases h4 : Rn.numOf d with
      | none => rfl
      | some v =>
        show (if 24 < (addName ns n).length then _ else _) = _
        rw [if_pos h]
  · unfold Rn.sideM
    rw [e]
    by_cases h0 : Sa55.nameOk n = false
    · rw [if_pos h0]
    · rw [if_neg h0, h]
      rfl
  · unfold Rn.sideM
    rw [e, if_neg (by rw [h1]; decide), h3]
    show (if 24 < (addName ns n).length then _ else _) = _
    rw [if_neg (by omega), if_pos h]
  · conv => lhs; unfold Rn.sideM
    rw [e, if_neg (by rw [h1]; decide), h3]
    show (if 24 < (addName ns n).length then _ else _) = _
    rw [if_neg (by omega), if_neg h]
theorem vB_getD {l : List Nat} {i : Nat} (h : i < l.length) : atI (vB l) (i : Int) = some (.int ((l.getD i 0 : Nat) : Int)) := by
  refine atI_nat (vB_get ?_)
  rw [List.getD_eq_getElem?_getD, List.getElem?_eq_getElem h]
  rfl
theorem ix_of {l : List Nat} {i : Nat} (h : i < l.length) : ixN (vB l).length (i : Int) = some i := by
  unfold ixN
  rw [vB_len, if_pos (by omega), if_pos (by omega)]
  simp

section
variable {P : Program} {w : World} {K : PySem.W.Frag} {mg : Str → Option Value} {base : Heap} {CW fWI CN : Addr} {fdWI : FuncData}

theorem scSide : FnScope ["network", "part", "amounts", "side", "piece", "term", "length", "substance"] ["network", "part"] (defScope sSide) := ⟨rfl, rfl, rfl, by decide +kernel, rfl, by decide +kernel, by decide +kernel⟩
theorem ok_side {f fS fP fC fU fM fN fL fD : Addr} {fd fdS fdP fdC fdU fdM fdN fdL fdD : FuncData} (T : Txt K mg) (W : XW K mg CW fWI fdWI) (N : NC K CN) (F : Df K mg "read_side" sSide ["network", "part"] f fd)
    (FS : Df K mg "strip_blanks" sStrip ["row"] fS fdS) (FP : Df K mg "split_at" sSplit ["sign", "row"] fP fdP) (FC : Df K mg "count_digits" sCnt ["row"] fC fdC) (FU : Df K mg "number_substance" sSub ["network", "name"] fU fdU)
    (FM : Df K mg "read_number" sNum ["network", "digits"] fM fdM) (FN : Df K mg "is_name" sName ["name"] fN fdN) (L : Df K mg "is_letter" sLet ["byte"] fL fdL) (D : Df K mg "is_digit" sDig ["byte"] fD fdD) :
    FnOk P w K mg base (CXW P w CW) 4 f fd ["network", "part"] (spSide K CN) := by
  have GS : FnOk P w K mg base CX0 1 fS fdS ["row"] (spStrip K) := ok_strip FS.fn T.ord T.len
  have GP : FnOk P w K mg base CX0 1 fP fdP ["sign", "row"] (spSplit K) := ok_split FP.fn T.enum
  have GC : FnOk P w K mg base CX0 2 fC fdC ["row"] (spCnt K) := ok_cnt FC.fn D.fn D.bd D.at_ T.ord T.len
  have GU : FnOk P w K mg base (CXW P w CW) 3 fU fdU ["network", "name"] (spSub K CN) := ok_sub T W N FU FN L D
  have GM : FnOk P w K mg base (CXW P w CW) 2 fM fdM ["network", "digits"] (spNum K CN) := ok_num T W N FM
  obtain ⟨t24, c24⟩ := T.cS
  obtain ⟨t99, c99⟩ := T.cO
  refine okW F.fn scSide (fun vs H Q E h => ?_) (fun cdv A outer s H vs Q E hr h => ?_)
  · obtain ⟨p, a, dx, d, r, k, ns, rs, l, rfl, _⟩ := h
    rfl
  · obtain ⟨p, a, dx, d, r, k, ns, rs, l, rfl, nt, hS, hlen, hns, bad, good⟩ := h
    have hr1 := hr.mono (j := 1) (by decide)
    have hr2 := hr.mono (j := 2) (by decide)
    refine ⟨_, pss_cons (ps_set (i := 2) scSide.nd rfl (Or.inl rfl) (pe_op op_rep (pe_lst (pa_cons pe_int pa_nil)) (pe_glob (v := .int 24) rfl c24 ⟨t24, rfl⟩)))
      (pss_cons (ps_set (i := 3) scSide.nd rfl (Or.inl rfl) (pe_call GS hr1 rfl FS.at_ FS.fn.kp FS.bd .nil pass0 (pa_cons (pv 1) pa_nil)))
      (pss_cons (ps_if (pt_cmpR (op_eqB hr.units) (pv 3) (pe_lst (pa_cons (pe_ord (n := 48) rfl T.ord) pa_nil)) (nomark _)) (pss_one (ps_ret (pe_callTy call_tuple_of rfl T.tup boot_tuple (pa_cons (pv 2) pa_nil)))) pss_nil)
      (pss_cons (ps_for (fly_own defCx) rfl (pi_list (pe_call GP hr1 rfl FP.at_ FP.fn.kp FP.bd .nil pass0 (pa_cons (pe_ord (n := 43) rfl T.ord) (pa_cons (pv 3) pa_nil)))) (pg_name (i := 4) scSide.nd rfl (Or.inl rfl))
        (pss_cons (ps_set (i := 5) scSide.nd rfl (Or.inl rfl) (pe_call GS hr1 rfl FS.at_ FS.fn.kp FS.bd .nil pass0 (pa_cons (pv 4) pa_nil)))
        (pss_cons (ps_set (i := 6) scSide.nd rfl (Or.inl rfl) (pe_call GC hr2 rfl FC.at_ FC.fn.kp FC.bd .nil pass0 (pa_cons (pv 5) pa_nil)))
        (pss_cons (ps_set (i := 7) scSide.nd rfl (Or.inl rfl) (pe_call GU hr rfl FU.at_ FU.fn.kp FU.bd .nil (passW defCx) (pa_cons (pv 0) (pa_cons (pe_call GS hr1 rfl FS.at_ FS.fn.kp FS.bd .nil pass0 (pa_cons (pe_slice sl_list (pv 5) (po_some (pv 6)) po_none) pa_nil)) pa_nil))))
        (pss_cons (ps_augS (pv 2) (pv 7) get_list (pe_call GM hr2 rfl FM.at_ FM.fn.kp FM.bd .nil (passW defCx) (pa_cons (pv 0) (pa_cons (pe_slice sl_list (pv 5) po_none (po_some (pv 6))) pa_nil))) ip_add set_list)
        (pss_one (ps_if (pt_cmpR op_gt (pe_ix ix_list (pv 2) (pv 7) (fun _ _ => rfl)) (pe_glob (v := .int 99) rfl c99 ⟨t99, rfl⟩) (nomark _)) (pss_one (ps_raise defCx rfl W.cls W.fn W.bd initSt hr rfl W.at_ (pe_fld (pv 0) rfl))) pss_nil)))))))
      (pss_one (ps_ret (pe_callTy call_tuple_of rfl T.tup boot_tuple (pa_cons (pv 2) pa_nil))))))), ?_⟩
    -- amounts = [0] * MOST_SUBSTANCES
    refine ⟨(by show 1 ≤ sizeLine; decide), fun z hz => ⟨z, 24, [.int 0], rfl, rfl, upd_same, by decide, by decide, (by rw [sizeLine_eq]; decide), fun M hM => ?_⟩⟩
    have sm1 : Same H (upd H z (.lst [.int 0])) := Same.upd1 hz
    have hM0 : H M = none := sm1.free hM
    have sm2 : Same H (upd (upd H z (.lst [.int 0])) M (.lst (vB Rn.zeros))) := Same.upd sm1 hM0
    have hM2 : (upd (upd H z (.lst [.int 0])) M (.lst (vB Rn.zeros))) M = some (.lst (vB Rn.zeros)) := upd_same
    rw [zeros_v]
    generalize upd (upd H z (.lst [.int 0])) M (.lst (vB Rn.zeros)) = H2 at sm2 hM2
    -- side = strip_blanks(part)
    refine ⟨_, rfl, a, l, rfl, sm2.seq hS, fun S hSn => ?_⟩
    have sm3 : Same H2 (upd H2 S (.lst (vB (Sa55.unblank l)))) := Same.upd1 hSn
    have hS3 : (upd H2 S (.lst (vB (Sa55.unblank l)))) S = some (.lst (vB (Sa55.unblank l))) := upd_same
    generalize upd H2 S (.lst (vB (Sa55.unblank l))) = H3 at sm3 hS3
    have hM3 := sm3 _ _ hM2
    have nt3 := nt.same (sm2.trans sm3)
    -- side == [ord("0")]
    refine ⟨_, rfl, (by show 1 ≤ sizeLine; decide), fun e he => ?_⟩
    have sm4 : Same H3 (upd H3 e (.lst [.int ((48 : Nat) : Int)])) := Same.upd1 he
    have he4 : (upd H3 e (.lst [.int ((48 : Nat) : Int)])) e = some (.lst (vB [48])) := upd_same
    generalize upd H3 e (.lst [.int ((48 : Nat) : Int)]) = H4 at sm4 he4
    have hM4 := sm4 _ _ hM3
    have hS4 := sm4 _ _ hS3
    have nt4 := nt3.same sm4
    have sm04 : Same H H4 := (sm2.trans sm3).trans sm4
    refine ⟨S, e, _, [48], rfl, rfl, SqL.of hS4, SqL.of he4, _, rfl, ite2 (fun h1 => ?_) fun h1 => ?_⟩
    · have h1' : Sa55.unblank l = [48] := of_decide_eq_true h1
      refine ⟨_, rfl, M, _, rfl, .inl ⟨SqL.of hM4, fun t ht => ?_⟩⟩
      have sm5 : Same H4 (upd H4 t (.tup (vB Rn.zeros))) := Same.upd1 ht
      refine good ns Rn.zeros (by unfold Rn.sideR; rw [if_pos h1']) hns _ t (nt4.same sm5) (Same.oth (sm04.trans sm5) p d r) upd_same
    · have h1' : ¬ Sa55.unblank l = [48] := fun z => h1 (decide_eq_true z)
      have eR : Rn.sideR ns l = Rn.sideM ns Rn.zeros (Sa55.splitBy 43 (Sa55.unblank l) []) := by
        unfold Rn.sideR
        rw [if_neg h1']
      rw [eR] at bad good
      have ul := unblank_len l
      refine ⟨_, rfl, 43, S, _, rfl, SqL.of hS4, by omega, fun H5 PL as sm5 nPL nAs hPL hPs => ?_⟩
      have lens : ∀ b ∈ Sa55.splitBy 43 (Sa55.unblank l) [], b.length ≤ 2000 := fun b hb => by
        have := split_lens 43 _ _ b hb
        simp at this
        omega
      generalize Sa55.splitBy 43 (Sa55.unblank l) [] = ps at hPs bad good lens
      have hM5 := sm5 _ _ hM4
      have nt5 := nt4.same sm5
      obtain ⟨tsr, hrr, _⟩ := nt4.rea
      have mP : PL ≠ M := Ne.symm (ne_of_none hM4 nPL)
      have pP : PL ≠ p ∧ PL ≠ d ∧ PL ≠ r := ⟨Ne.symm (ne_of_none nt4.ins nPL), Ne.symm (ne_of_none nt4.num nPL), Ne.symm (ne_of_none hrr nPL)⟩
      have mA : ∀ x ∈ as, x ≠ M ∧ x ≠ p ∧ x ≠ d ∧ x ≠ r := fun x hx =>
        ⟨Ne.symm (ne_of_none hM4 (nAs x hx)), Ne.symm (ne_of_none nt4.ins (nAs x hx)), Ne.symm (ne_of_none nt4.num (nAs x hx)), Ne.symm (ne_of_none hrr (nAs x hx))⟩
      obtain ⟨tsr0, hrr0, _⟩ := nt.rea
      have pM : M ≠ p ∧ M ≠ d ∧ M ≠ r := ⟨Ne.symm (ne_of_none nt.ins hM0), Ne.symm (ne_of_none nt.num hM0), Ne.symm (ne_of_none hrr0 hM0)⟩
      have plen := hPs.len
      refine ⟨PL, rfl, ⟨_, SqL.of hPL⟩, for_list (K := K) (a := PL) (xs := as.map V.ref) (fun i σ H' => ∃ (ns' : List (List Nat)) (am : List Nat) (b4 b5 b6 b7 : Option V),
          σ = [some (.ref p), some (.ref a), some (.ref M), some (.ref S), b4, b5, b6, b7] ∧ Oth p d r H H' ∧ Nt CN dx p d r H' k ns' rs ∧ H' M = some (.lst (vB am)) ∧ am.length = 24 ∧ ns'.length ≤ 24 ∧
          H' PL = some (.lst (as.map V.ref)) ∧ PiecesAt H' as ps ∧ Rn.sideM ns Rn.zeros ps = Rn.sideM ns' am (ps.drop i))
        ⟨ns, Rn.zeros, none, none, none, none, rfl, Same.oth (sm04.trans sm5) p d r, nt5, hM5, rfl, hns, hPL, hPs, rfl⟩ (fun i σ H' _ ⟨_, _, _, _, _, _, _, _, _, _, _, _, hP, _⟩ => SqL.of hP) ?_ ?_⟩
      · rintro i x σ H' hx ⟨ns', am, b4, b5, b6, b7, rfl, ot, ntl, hMl, hal, hnl, hPl, hPa, eqM⟩
        have hi : i < as.length := by
          have := (List.getElem?_eq_some_iff.mp hx).1
          rw [List.length_map] at this
          exact this
        obtain ⟨b, hb⟩ : ∃ b, ps[i]? = some b := ⟨_, List.getElem?_eq_getElem (by omega)⟩
        obtain ⟨xa, hxa, hxl⟩ := hPa.get hb
        have ex : x = .ref xa := by
          rw [List.getElem?_map, hxa] at hx
          exact (Option.some.inj hx).symm
        subst ex
        have edrop : ps.drop i = b :: ps.drop (i + 1) := by
          obtain ⟨h1, h2⟩ := List.getElem?_eq_some_iff.mp hb
          rw [List.drop_eq_getElem_cons h1, h2]
        rw [edrop] at eqM
        have bl := lens b (List.mem_of_getElem? hb)
        -- term = strip_blanks(piece)
        refine ⟨_, rfl, xa, b, rfl, SqL.of hxl, fun q hq => ?_⟩
        have sq : Same H' (upd H' q (.lst (vB (Sa55.unblank b)))) := Same.upd1 hq
        have hq1 : (upd H' q (.lst (vB (Sa55.unblank b)))) q = some (.lst (vB (Sa55.unblank b))) := upd_same
        obtain ⟨tsl, hrl, _⟩ := id ntl.rea
        have pq : q ≠ p ∧ q ≠ d ∧ q ≠ r := ⟨Ne.symm (ne_of_none ntl.ins hq), Ne.symm (ne_of_none ntl.num hq), Ne.symm (ne_of_none hrl hq)⟩
        generalize upd H' q (.lst (vB (Sa55.unblank b))) = H1 at sq hq1
        -- length = count_digits(term)
        refine ⟨_, rfl, q, _, rfl, SqL.of hq1, ?_⟩
        generalize hdg : (Sa55.unblank b).takeWhile Sa55.digit = dg
        -- number_substance(network, strip_blanks(term[length:]))
        refine ⟨_, rfl, _, rfl, _, rfl, _, rfl, q, _, rfl, SqL.of hq1, fun u hu => ?_⟩
        have su : Same H1 (upd H1 u (.lst (cutV (vB (Sa55.unblank b)) (some ((dg.length : Nat) : Int)) none))) := Same.upd1 hu
        have hu1 : (upd H1 u (.lst (cutV (vB (Sa55.unblank b)) (some ((dg.length : Nat) : Int)) none))) u = some (.lst (vB ((Sa55.unblank b).drop dg.length))) := by
          rw [upd_same, cut_from]
        generalize upd H1 u (.lst (cutV (vB (Sa55.unblank b)) (some ((dg.length : Nat) : Int)) none)) = Hu at su hu1
        refine ⟨u, _, rfl, SqL.of hu1, fun v hv => ?_⟩
        have sv : Same Hu (upd Hu v (.lst (vB (Sa55.unblank ((Sa55.unblank b).drop dg.length))))) := Same.upd1 hv
        have hv1 : (upd Hu v (.lst (vB (Sa55.unblank ((Sa55.unblank b).drop dg.length))))) v = some (.lst (vB (Sa55.unblank ((Sa55.unblank b).drop dg.length)))) := upd_same
        generalize upd Hu v (.lst (vB (Sa55.unblank ((Sa55.unblank b).drop dg.length)))) = Hv at sv hv1
        generalize hnm : Sa55.unblank ((Sa55.unblank b).drop dg.length) = nm at hv1
        have sHv : Same H' Hv := (sq.trans su).trans sv
        obtain ⟨m1, m2, m3, m4⟩ := sideM_cons ns' am b (ps.drop (i + 1)) nm dg hdg.symm hnm.symm
        refine ⟨p, v, dx, d, r, k, ns', rs, nm, rfl, ntl.same sHv, SqL.of hv1, hnl, fun hbad => bad ?_, fun hN h24 H6 nt6 ot6 => ?_⟩
        · rw [eqM]
          rcases hbad with z | z
          · exact m1 z
          · exact m2 z
        -- amounts[substance] += read_number(network, term[:length])
        have hM6 : H6 M = some (.lst (vB am)) := ot6 _ _ (sHv _ _ hMl) pM.1 pM.2.1 pM.2.2
        have hq6 : H6 q = some (.lst (vB (Sa55.unblank b))) := ot6 _ _ (sv _ _ (su _ _ hq1)) pq.1 pq.2.1 pq.2.2
        have hidx : (addName ns' nm).idxOf nm < am.length := by
          have := List.idxOf_lt_length_of_mem (Rn.addName_mem ns' nm)
          omega
        refine ⟨_, rfl, _, rfl, M, _, _, _, rfl, rfl, SqL.of hM6, vB_getD hidx, ?_⟩
        refine ⟨_, rfl, _, rfl, _, rfl, _, rfl, q, _, rfl, SqL.of hq6, fun y hy => ?_⟩
        have sy : Same H6 (upd H6 y (.lst (cutV (vB (Sa55.unblank b)) none (some ((dg.length : Nat) : Int))))) := Same.upd1 hy
        have etk : (Sa55.unblank b).take dg.length = dg := by
          rw [← hdg]
          exact (List.prefix_iff_eq_take.mp (List.takeWhile_prefix Sa55.digit)).symm
        have hy1 : (upd H6 y (.lst (cutV (vB (Sa55.unblank b)) none (some ((dg.length : Nat) : Int))))) y = some (.lst (vB dg)) := by
          rw [upd_same, cut_to, etk]
        generalize upd H6 y (.lst (cutV (vB (Sa55.unblank b)) none (some ((dg.length : Nat) : Int)))) = H7 at sy hy1
        refine ⟨p, y, dx, d, r, k, addName ns' nm, rs, dg, rfl, nt6.same sy, SqL.of hy1, (fun c hc => by rw [← hdg] at hc; exact Rn.tw_mem hc), fun hbad => bad ?_, fun val hval => ?_⟩
        · rw [eqM]
          exact m3 hbad
        obtain ⟨m5, m6⟩ := m4 val hN h24 hval
        have hM7 := sy _ _ hM6
        refine ⟨_, _, rfl, rfl, M, _, _, _, rfl, rfl, hM7, ix_of hidx, ?_⟩
        have esum : (((am.getD ((addName ns' nm).idxOf nm) 0 : Nat) : Int) + ((val : Nat) : Int)) = ((am.getD ((addName ns' nm).idxOf nm) 0 + val : Nat) : Int) := by omega
        dsimp only
        rw [esum, vB_set]
        have nt7 := nt6.same sy
        obtain ⟨ts7, hr7, hrp7⟩ := id nt7.rea
        have nt8 : Nt CN dx p d r (upd H7 M (.lst (vB (am.set ((addName ns' nm).idxOf nm) (am.getD ((addName ns' nm).idxOf nm) 0 + val))))) k (addName ns' nm) rs := by
          refine ⟨by rw [upd_ne (Ne.symm pM.1)]; exact nt7.ins, by rw [upd_ne (Ne.symm pM.2.1)]; exact nt7.num, ts7, by rw [upd_ne (Ne.symm pM.2.2)]; exact hr7, RAts.of hrp7 fun c xs ec => ?_⟩
          rw [upd_ne (ne_of ec hM7 (by intro z; cases z))]
          exact ec
        have hM8 : (upd H7 M (.lst (vB (am.set ((addName ns' nm).idxOf nm) (am.getD ((addName ns' nm).idxOf nm) 0 + val))))) M = some (.lst (vB (am.set ((addName ns' nm).idxOf nm) (am.getD ((addName ns' nm).idxOf nm) 0 + val)))) := upd_same
        have oth8 : ∀ c o, H' c = some o → c ≠ p → c ≠ d → c ≠ r → c ≠ M → (upd H7 M (.lst (vB (am.set ((addName ns' nm).idxOf nm) (am.getD ((addName ns' nm).idxOf nm) 0 + val))))) c = some o := fun c o ec h1 h2 h3 h4 => by
          rw [upd_ne h4]
          exact sy _ _ (ot6 _ _ (sHv _ _ ec) h1 h2 h3)
        generalize upd H7 M (.lst (vB (am.set ((addName ns' nm).idxOf nm) (am.getD ((addName ns' nm).idxOf nm) 0 + val)))) = H8 at nt8 hM8 oth8
        have hidx8 : (addName ns' nm).idxOf nm < (am.set ((addName ns' nm).idxOf nm) (am.getD ((addName ns' nm).idxOf nm) 0 + val)).length := by rw [List.length_set]; exact hidx
        have eget : (am.set ((addName ns' nm).idxOf nm) (am.getD ((addName ns' nm).idxOf nm) 0 + val)).getD ((addName ns' nm).idxOf nm) 0 = am.getD ((addName ns' nm).idxOf nm) 0 + val := by
          rw [List.getD_eq_getElem?_getD, List.getElem?_set_self hidx]
          rfl
        refine ⟨_, rfl, _, rfl, M, _, _, _, rfl, rfl, SqL.of hM8, vB_getD hidx8, _, _, rfl, rfl, _, rfl, ?_⟩
        rw [eget]
        refine ite2 (fun h9 => ?_) fun h9 => ?_
        · have h9' : (99 : Int) < ((am.getD ((addName ns' nm).idxOf nm) 0 + val : Nat) : Int) := of_decide_eq_true h9
          refine ⟨_, rfl, p, CN, dx, _, _, rfl, nt8.ins, N.cl, N.n1, nf_line k d r, k, rfl, bad ?_ _⟩
          rw [eqM]
          exact m5 (by omega)
        · have h9' : ¬ (99 : Int) < ((am.getD ((addName ns' nm).idxOf nm) 0 + val : Nat) : Int) := fun z => h9 (decide_eq_true z)
          refine ⟨addName ns' nm, _, some (.ref xa), some (.ref q), some (.int ((dg.length : Nat) : Int)), some (.int (((addName ns' nm).idxOf nm : Nat) : Int)), rfl, ?_, nt8, hM8, by rw [List.length_set]; exact hal, h24, ?_, ?_, ?_⟩
          · intro c o ec h1 h2 h3
            exact oth8 c o (ot c o ec h1 h2 h3) h1 h2 h3 (ne_of_none ec hM0)
          · exact oth8 _ _ hPl pP.1 pP.2.1 pP.2.2 mP
          · exact hPa.same fun c hc o ec => oth8 c o ec (mA c hc).2.1 (mA c hc).2.2.1 (mA c hc).2.2.2 (mA c hc).1
          · rw [eqM]
            exact m6 (by omega)
      · rintro σ H' ⟨ns', am, b4, b5, b6, b7, rfl, ot, ntl, hMl, hal, hnl, hPl, hPa, eqM⟩
        rw [List.length_map, plen, List.drop_length] at eqM
        refine ⟨_, rfl, M, _, rfl, .inl ⟨SqL.of hMl, fun t ht => ?_⟩⟩
        have st : Same H' (upd H' t (.tup (vB am))) := Same.upd1 ht
        exact good ns' am eqM hnl _ t (ntl.same st) (ot.trans (Same.oth st p d r)) upd_same
end
end Pg
end
section
namespace Pg
open PySem PySem.Spec L2 Xn
open PyProof.Rows hiding St
open Rn (Vec addName)

/-! ### a line -/
def lineR (ns : List (List Nat)) (rs : List (Vec × Vec)) (a b : List Nat) (back : Bool) : Option (List (List Nat) × List (Vec × Vec)) := match Rn.sideR ns a with
  | none => none
  | some (n1, x) => match Rn.sideR n1 b with
    | none => none
    | some (n2, y) => match Rn.add rs x y back with
      | none => none
      | some q => some (n2, q)
theorem lineM_nil {ns : List (List Nat)} {rs : List (Vec × Vec)} {row : List Nat} (h : Sa55.unblank (row.takeWhile fun x => x != 35) = []) : Rn.lineM ns rs row = some (ns, rs) := by
  unfold Rn.lineM
  rw [if_pos h]
theorem lineM_wrong {ns : List (List Nat)} {rs : List (Vec × Vec)} {row : List Nat} (h : ¬ Sa55.unblank (row.takeWhile fun x => x != 35) = []) (h2 : Rn.pArrow (Sa55.unblank (row.takeWhile fun x => x != 35)) = none) : Rn.lineM ns rs row = none := by
  unfold Rn.lineM
  rw [if_neg h, h2]
theorem lineM_some {ns : List (List Nat)} {rs : List (Vec × Vec)} {row a b : List Nat} {back : Bool} (h : ¬ Sa55.unblank (row.takeWhile fun x => x != 35) = []) (h2 : Rn.pArrow (Sa55.unblank (row.takeWhile fun x => x != 35)) = some (a, b, back)) : Rn.lineM ns rs row = lineR ns rs a b back := by
  unfold Rn.lineM lineR
  rw [if_neg h, h2]
  all_goals rfl
theorem pArrow_not {c : List Nat} (h : (Sa55.splitBy 45 c []).length ≠ 2) : Rn.pArrow c = none := by
  unfold Rn.pArrow
  rcases e : Sa55.splitBy 45 c [] with _ | ⟨l, _ | ⟨m, _ | ⟨z, t⟩⟩⟩
  · rfl
  · rfl
  · rw [e] at h; exact absurd rfl h
  · rfl
theorem pArrow_two {c h0 h1 : List Nat} (h : Sa55.splitBy 45 c [] = [h0, h1]) : Rn.pArrow c = if h1.take 1 = [62] then some (if (h0.getLast? == some 60) = true then h0.dropLast else h0, h1.drop 1, h0.getLast? == some 60) else none := by
  unfold Rn.pArrow
  rw [h]
theorem last_is (l : List Nat) : decide (l.drop (l.length - 1) = [60]) = (l.getLast? == some 60) := by
  cases e : (l.getLast? == some 60) with
  | true => exact decide_eq_true ((last_drop l).mpr e)
  | false => exact decide_eq_false fun z => by rw [(last_drop l).mp z] at e; cases e
theorem PiecesAt.oth {p d r : Addr} {H H' : Hp} {as : List Addr} {ps : List (List Nat)} (h : PiecesAt H as ps) (o : Oth p d r H H') (n : ∀ x ∈ as, x ≠ p ∧ x ≠ d ∧ x ≠ r) : PiecesAt H' as ps :=
  h.same fun a ha u e => o a u e (n a ha).1 (n a ha).2.1 (n a ha).2.2
theorem Nt.away {C dx p d r : Addr} {H : Hp} {k : Int} {ns : List (List Nat)} {rs : List (Vec × Vec)} (n : Nt C dx p d r H k ns rs) {x : Addr} (h : H x = none) : x ≠ p ∧ x ≠ d ∧ x ≠ r := by
  obtain ⟨ts, h1, _⟩ := n.rea
  exact ⟨Ne.symm (ne_of_none n.ins h), Ne.symm (ne_of_none n.num h), Ne.symm (ne_of_none h1 h)⟩
theorem Nt.tup {C dx p d r : Addr} {H : Hp} {k : Int} {ns : List (List Nat)} {rs : List (Vec × Vec)} (n : Nt C dx p d r H k ns rs) {x : Addr} {xs : List V} (h : H x = some (.tup xs)) : x ≠ p ∧ x ≠ d ∧ x ≠ r := by
  obtain ⟨ts, h1, _⟩ := n.rea
  exact ⟨ne_of h n.ins (by intro z; cases z), ne_of h n.num (by intro z; cases z), ne_of h h1 (by intro z; cases z)⟩

def spLine (K : PySem.W.Frag) (C : Addr) : Sp := fun vs H Q E => ∃ (p a dx d r : Addr) (k : Int) (ns : List (List Nat)) (rs : List (Vec × Vec)) (l : List Nat), vs = [.ref p, .ref a] ∧ Nt C dx p d r H k ns rs ∧ SqL K H a (vB l) ∧ l.length ≤ 2000 ∧ ns.length ≤ 24 ∧ rs.length ≤ 24 ∧
  (Rn.lineM ns rs l = none → Bad E k) ∧
  ∀ ns' rs', Rn.lineM ns rs l = some (ns', rs') → ns'.length ≤ 24 → rs'.length ≤ 24 → ∀ H' : Hp, Nt C dx p d r H' k ns' rs' → Oth p d r H H' → Q .non H'

section
variable {P : Program} {w : World} {K : PySem.W.Frag} {mg : Str → Option Value} {base : Heap} {CW fWI CN : Addr} {fdWI : FuncData}
theorem scLine : FnScope ["network", "row", "said", "halves", "both_ways", "left", "right"] ["network", "row"] (defScope sLine) := ⟨rfl, rfl, rfl, by decide +kernel, rfl, by decide +kernel, by decide +kernel⟩
theorem ok_line {f fS fP fA fSd : Addr} {fd fdS fdP fdA fdSd : FuncData} (T : Txt K mg) (W : XW K mg CW fWI fdWI) (N : NC K CN) (F : Df K mg "read_line" sLine ["network", "row"] f fd)
    (FSd : Df K mg "read_side" sSide ["network", "part"] fSd fdSd) (FA : Df K mg "add_reaction" sAdd ["network", "takes", "gives"] fA fdA)
    (FS : Df K mg "strip_blanks" sStrip ["row"] fS fdS) (FP : Df K mg "split_at" sSplit ["sign", "row"] fP fdP)
    (GSd : FnOk P w K mg base (CXW P w CW) 4 fSd fdSd ["network", "part"] (spSide K CN)) :
    FnOk P w K mg base (CXW P w CW) 5 f fd ["network", "row"] (spLine K CN) := by
  have GS : FnOk P w K mg base CX0 1 fS fdS ["row"] (spStrip K) := ok_strip FS.fn T.ord T.len
  have GP : FnOk P w K mg base CX0 1 fP fdP ["sign", "row"] (spSplit K) := ok_split FP.fn T.enum
  have GA : FnOk P w K mg base (CXW P w CW) 2 fA fdA ["network", "takes", "gives"] (spAdd CN) := ok_add T W N FA
  refine okW F.fn scLine (fun vs H Q E h => ?_) (fun cdv A outer s H vs Q E hr h => ?_)
  · obtain ⟨p, a, dx, d, r, k, ns, rs, l, rfl, _⟩ := h
    rfl
  · obtain ⟨p, a, dx, d, r, k, ns, rs, l, rfl, nt, hS, hlen, hns, hrs, bad, good⟩ := h
    have hr1 := hr.mono (j := 1) (by decide)
    have hr2 := hr.mono (j := 2) (by decide)
    refine ⟨_, pss_cons (ps_set (i := 2) scLine.nd rfl (Or.inl rfl) (pe_call GS hr1 rfl FS.at_ FS.fn.kp FS.bd .nil pass0 (pa_cons (pe_ix ix_list (pe_call GP hr1 rfl FP.at_ FP.fn.kp FP.bd .nil pass0 (pa_cons (pe_ord (n := 35) rfl T.ord) (pa_cons (pv 1) pa_nil))) pe_int (fun _ _ => rfl)) pa_nil)))
      (pss_cons (ps_if (pt_cmpR op_eq (pe_callB call_len_seq rfl T.len PySem.boot_len (pa_cons (pv 2) pa_nil)) pe_int (nomark _)) (pss_one ps_retN) pss_nil)
      (pss_cons (ps_set (i := 3) scLine.nd rfl (Or.inl rfl) (pe_call GP hr1 rfl FP.at_ FP.fn.kp FP.bd .nil pass0 (pa_cons (pe_ord (n := 45) rfl T.ord) (pa_cons (pv 2) pa_nil))))
      (pss_cons (ps_if (PW.pt (pw_or (pt_cmpR op_ne (pe_callB call_len_seq rfl T.len PySem.boot_len (pa_cons (pv 3) pa_nil)) pe_int (nomark _))
        (pw_or1 (pt_cmpR (op_neB hr.units) (pe_slice sl_list (pe_ix ix_list (pv 3) pe_int (fun _ _ => rfl)) po_none (po_some pe_int)) (pe_lst (pa_cons (pe_ord (n := 62) rfl T.ord) pa_nil)) (nomark _)))))
        (pss_one (ps_raise defCx rfl W.cls W.fn W.bd initSt hr rfl W.at_ (pe_fld (pv 0) rfl))) pss_nil)
      (pss_cons (ps_set (i := 4) scLine.nd rfl (Or.inl rfl) (pe_cmpR (op_eqB hr.units) (pe_slice sl_list (pe_ix ix_list (pv 3) pe_int (fun _ _ => rfl)) (po_some (pe_un un_neg pe_int)) po_none) (pe_lst (pa_cons (pe_ord (n := 60) rfl T.ord) pa_nil)) (nomark _)))
      (pss_cons (ps_set (i := 5) scLine.nd rfl (Or.inl rfl) (pe_call GSd hr rfl FSd.at_ FSd.fn.kp FSd.bd .nil (passW defCx) (pa_cons (pv 0) (pa_cons (pe_ifExp (pt_val (pv 4)) (pe_slice sl_list (pe_ix ix_list (pv 3) pe_int (fun _ _ => rfl)) po_none (po_some (pe_un un_neg pe_int))) (pe_ix ix_list (pv 3) pe_int (fun _ _ => rfl))) pa_nil))))
      (pss_cons (ps_set (i := 6) scLine.nd rfl (Or.inl rfl) (pe_call GSd hr rfl FSd.at_ FSd.fn.kp FSd.bd .nil (passW defCx) (pa_cons (pv 0) (pa_cons (pe_slice sl_list (pe_ix ix_list (pv 3) pe_int (fun _ _ => rfl)) (po_some pe_int) po_none) pa_nil))))
      (pss_cons (ps_expr (pe_call GA hr2 rfl FA.at_ FA.fn.kp FA.bd .nil (passW defCx) (pa_cons (pv 0) (pa_cons (pv 5) (pa_cons (pv 6) pa_nil)))))
      (pss_one (ps_if (pt_val (pv 4)) (pss_one (ps_expr (pe_call GA hr2 rfl FA.at_ FA.fn.kp FA.bd .nil (passW defCx) (pa_cons (pv 0) (pa_cons (pv 6) (pa_cons (pv 5) pa_nil)))))) pss_nil))))))))), ?_⟩
    -- said = strip_blanks(split_at(ord("#"), row)[0])
    refine ⟨_, rfl, 35, a, l, rfl, hS, hlen, fun H1 PL as sm1 nPL nAs hPL hPs => ?_⟩
    have e0 : (Sa55.splitBy 35 l [])[0]? = some (l.takeWhile fun x => x != 35) := by
      rw [← List.head?_eq_getElem?, Rn.split_head]
      rfl
    obtain ⟨a0, ha0, hl0⟩ := hPs.get e0
    refine ⟨PL, _, _, .ref a0, rfl, rfl, SqL.of hPL, atI_nat (j := 0) (by rw [List.getElem?_map, ha0]; rfl), a0, _, rfl, SqL.of hl0, fun S hSn => ?_⟩
    have sm2 : Same H1 (upd H1 S (.lst (vB (Sa55.unblank (l.takeWhile fun x => x != 35))))) := Same.upd1 hSn
    have hS2 : (upd H1 S (.lst (vB (Sa55.unblank (l.takeWhile fun x => x != 35))))) S = some (.lst (vB (Sa55.unblank (l.takeWhile fun x => x != 35)))) := upd_same
    generalize upd H1 S (.lst (vB (Sa55.unblank (l.takeWhile fun x => x != 35)))) = H2 at sm2 hS2
    have hcl : (Sa55.unblank (l.takeWhile fun x => x != 35)).length ≤ 2000 := by
      have h1 := unblank_len (l.takeWhile fun x => x != 35)
      have h2 := (List.takeWhile_prefix (l := l) fun x => x != 35).length_le
      omega
    have mN := lineM_nil (ns := ns) (rs := rs) (row := l)
    have mW := lineM_wrong (ns := ns) (rs := rs) (row := l)
    have mS : ∀ a b back, _ := fun a b back => lineM_some (ns := ns) (rs := rs) (row := l) (a := a) (b := b) (back := back)
    generalize Sa55.unblank (l.takeWhile fun x => x != 35) = c at hS2 hcl mN mW mS
    have sm02 : Same H H2 := sm1.trans sm2
    have nt2 := nt.same sm02
    -- len(said) == 0
    refine ⟨_, rfl, S, _, rfl, .inl (SqL.of hS2), rfl, _, rfl, ite2 (fun h1 => ?_) fun h1 => ?_⟩
    · have h1' : V.int ((vB c).length : Nat) = V.int 0 := of_decide_eq_true h1
      rw [vB_len] at h1'
      have c0 : c = [] := by
        injection h1' with z
        exact List.length_eq_zero_iff.mp (by omega)
      exact good ns rs (mN c0) hns hrs H2 nt2 (Same.oth sm02 p d r)
    have h1' : ¬ V.int ((vB c).length : Nat) = V.int 0 := fun z => h1 (decide_eq_true z)
    rw [vB_len] at h1'
    have cne : ¬ c = [] := fun z => h1' (by rw [z]; rfl)
    -- halves = split_at(ord("-"), said)
    refine ⟨_, rfl, 45, S, c, rfl, SqL.of hS2, hcl, fun H3 HL hs sm3 nHL nHs hHL hPc => ?_⟩
    have nt3 := nt2.same sm3
    have sm03 : Same H H3 := sm02.trans sm3
    have hlenS := hPc.len
    have rais : ∀ (σ : St) (Hx : Hp), σ[0]? = some (some (.ref p)) → Nt CN dx p d r Hx k ns rs → Bad E k → tRaise (tFld K (tVar 0) "line") E { nx := fun _ H' => Q .non H', rt := Q } σ Hx := fun σ Hx h0 ntx hb =>
      ⟨_, h0, p, CN, dx, _, _, rfl, ntx.ins, N.cl, N.n1, nf_line k d r, k, rfl, hb _⟩
    -- len(halves) != 2
    refine ⟨_, rfl, HL, _, rfl, .inl (SqL.of hHL), rfl, _, rfl, ite2 (fun h2 => iteT ?_) fun h2 => ?_⟩
    · refine rais _ _ rfl nt3 (bad (mW cne (pArrow_not fun z => ?_)))
      rw [List.length_map, hlenS, z] at h2
      exact absurd h2 (by decide)
    have two : (Sa55.splitBy 45 c []).length = 2 := by
      rw [List.length_map, hlenS] at h2
      have h2' : decide (V.int ((Sa55.splitBy 45 c []).length : Nat) = V.int 2) = true := by
        cases z : decide (V.int ((Sa55.splitBy 45 c []).length : Nat) = V.int 2) with
        | true => rfl
        | false => rw [z] at h2; exact absurd rfl h2
      have h2'' := of_decide_eq_true h2'
      injection h2'' with z
      omega
    obtain ⟨h0, h1b, e2⟩ : ∃ h0 h1, Sa55.splitBy 45 c [] = [h0, h1] := by
      rcases e : Sa55.splitBy 45 c [] with _ | ⟨x, _ | ⟨y, _ | ⟨z, t⟩⟩⟩
      · rw [e] at two; cases two
      · rw [e] at two; cases two
      · exact ⟨x, y, rfl⟩
      · rw [e] at two; simp at two
    have hl0' : h0.length ≤ 2000 := by
      have := split_lens 45 c [] h0 (by rw [e2]; simp)
      simp at this
      omega
    have hl1' : h1b.length ≤ 2000 := by
      have := split_lens 45 c [] h1b (by rw [e2]; simp)
      simp at this
      omega
    rw [e2] at hPc
    obtain ⟨q0, hq0, hh0⟩ := hPc.get (i := 0) (b := h0) rfl
    obtain ⟨q1, hq1, hh1⟩ := hPc.get (i := 1) (b := h1b) rfl
    have at0 : atI (hs.map V.ref) (0 : Int) = some (.ref q0) := atI_nat (j := 0) (by rw [List.getElem?_map, hq0]; rfl)
    have at1 : atI (hs.map V.ref) (1 : Int) = some (.ref q1) := atI_nat (j := 1) (by rw [List.getElem?_map, hq1]; rfl)
    have aHL := nt2.away nHL
    have aq0 := nt2.away (nHs q0 (List.mem_of_getElem? hq0))
    have aq1 := nt2.away (nHs q1 (List.mem_of_getElem? hq1))
    -- halves[1][:1] != [ord(">")]
    refine ⟨_, rfl, HL, _, _, .ref q1, rfl, rfl, SqL.of hHL, at1, _, rfl, q1, _, rfl, SqL.of hh1, fun u hu => ?_⟩
    have sm4 : Same H3 (upd H3 u (.lst (cutV (vB h1b) none (some 1)))) := Same.upd1 hu
    have hu4 : (upd H3 u (.lst (cutV (vB h1b) none (some 1)))) u = some (.lst (vB (h1b.take 1))) := by
      rw [upd_same]
      exact congrArg (fun z => some (HO.lst z)) (cut_to h1b 1)
    generalize upd H3 u (.lst (cutV (vB h1b) none (some 1))) = H4 at sm4 hu4
    refine ⟨(by show 1 ≤ sizeLine; decide), fun v hv => ?_⟩
    have sm5 : Same H4 (upd H4 v (.lst [.int ((62 : Nat) : Int)])) := Same.upd1 hv
    have hv5 : (upd H4 v (.lst [.int ((62 : Nat) : Int)])) v = some (.lst (vB [62])) := upd_same
    generalize upd H4 v (.lst [.int ((62 : Nat) : Int)]) = H5 at sm5 hv5
    have sm35 : Same H3 H5 := sm4.trans sm5
    have nt5 := nt3.same sm35
    refine ⟨u, v, _, [62], rfl, rfl, SqL.of (sm5 _ _ hu4), SqL.of hv5, _, rfl, ite2 (fun h3 => ?_) fun h3 => ?_⟩
    · refine rais _ _ rfl nt5 (bad (mW cne ?_))
      rw [pArrow_two e2, if_neg]
      intro z
      rw [decide_eq_true z] at h3
      exact absurd h3 (by decide)
    have h62 : h1b.take 1 = [62] := by
      cases z : decide (h1b.take 1 = [62]) with
      | true => exact of_decide_eq_true z
      | false => rw [z] at h3; exact absurd rfl h3
    have pA : Rn.pArrow c = some (if (h0.getLast? == some 60) = true then h0.dropLast else h0, h1b.drop 1, h0.getLast? == some 60) := by rw [pArrow_two e2, if_pos h62]
    have eR := mS _ _ _ cne pA
    rw [eR] at bad good
    -- both_ways = halves[0][-1:] == [ord("<")]
    refine ⟨_, rfl, HL, _, _, .ref q0, rfl, rfl, SqL.of (sm35 _ _ hHL), at0, _, rfl, _, rfl, q0, _, rfl, SqL.of (sm35 _ _ hh0), fun u6 hu6 => ?_⟩
    have sm6 : Same H5 (upd H5 u6 (.lst (cutV (vB h0) (some (-1)) none))) := Same.upd1 hu6
    have hu7 : (upd H5 u6 (.lst (cutV (vB h0) (some (-1)) none))) u6 = some (.lst (vB (h0.drop (h0.length - 1)))) := by
      rw [upd_same, cut_last]
    generalize upd H5 u6 (.lst (cutV (vB h0) (some (-1)) none)) = H6 at sm6 hu7
    refine ⟨(by show 1 ≤ sizeLine; decide), fun v7 hv7 => ?_⟩
    have sm7 : Same H6 (upd H6 v7 (.lst [.int ((60 : Nat) : Int)])) := Same.upd1 hv7
    have hv8 : (upd H6 v7 (.lst [.int ((60 : Nat) : Int)])) v7 = some (.lst (vB [60])) := upd_same
    generalize upd H6 v7 (.lst [.int ((60 : Nat) : Int)]) = H7 at sm7 hv8
    have sm37 : Same H3 H7 := (sm35.trans sm6).trans sm7
    have sm07 : Same H H7 := sm03.trans sm37
    have nt7 := nt3.same sm37
    refine ⟨u6, v7, _, [60], rfl, rfl, SqL.of (sm7 _ _ hu7), SqL.of hv8, ?_⟩
    rw [last_is]
    have hHL7 := sm37 _ _ hHL
    have hh07 := sm37 _ _ hh0
    have hh17 := sm37 _ _ hh1
    generalize (h0.getLast? == some 60) = back at bad good eR
    have lft : (if back = true then h0.dropLast else h0).length ≤ 2000 := by
      split
      · rw [List.length_dropLast]; omega
      · exact hl0'
    -- the argument of the first read_side
    have arg : ∀ (σ : St) (Q' : VK), σ[4]? = some (some (.bl back)) → σ[3]? = some (some (.ref HL)) →
        (∀ (Hy : Hp) (A : Addr), Same H7 Hy → Hy A = some (.lst (vB (if back = true then h0.dropLast else h0))) → Q' (.ref A) Hy) →
        tIf (tB (tVar 4)) (tSl (rSlL K) (tOp (rIxL K) (tVar 3) (tC (.int 0))) tNoPart (tPart (tUn (rU fun i => .int (-i)) (tC (.int 1))))) (tOp (rIxL K) (tVar 3) (tC (.int 0))) σ H7 Q' := fun σ Q' h4 h3' hq => by
      refine ⟨_, h4, back, rfl, ?_⟩
      cases back with
      | true =>
        refine iteT ⟨_, h3', HL, _, _, .ref q0, rfl, rfl, SqL.of hHL7, at0, _, rfl, _, rfl, q0, _, rfl, SqL.of hh07, fun A hA => hq _ A (Same.upd1 hA) ?_⟩
        rw [upd_same]
        exact congrArg (fun z => some (HO.lst z)) (cut_butlast h0)
      | false => exact iteF ⟨_, h3', HL, _, _, .ref q0, rfl, rfl, SqL.of hHL7, at0, hq H7 q0 (Same.refl _) hh07⟩
    -- left = read_side(network, ..)
    refine ⟨_, rfl, arg _ _ rfl rfl fun H8 A8 sm8 hA8 => ?_⟩
    have nt8 := nt7.same sm8
    refine ⟨p, A8, dx, d, r, k, ns, rs, _, rfl, nt8, SqL.of hA8, lft, hns, fun hb => bad ?_, fun n1 x hx hn1 H9 t nt9 ot9 ht9 => ?_⟩
    · unfold lineR
      rw [hb]
    have sm38 : Same H3 H8 := sm37.trans sm8
    have hHL9 : H9 HL = _ := ot9 _ _ (sm38 _ _ hHL) aHL.1 aHL.2.1 aHL.2.2
    have hh19 : H9 q1 = _ := ot9 _ _ (sm38 _ _ hh1) aq1.1 aq1.2.1 aq1.2.2
    -- right = read_side(network, halves[1][1:])
    refine ⟨_, rfl, _, rfl, HL, _, _, .ref q1, rfl, rfl, SqL.of hHL9, at1, _, rfl, q1, _, rfl, SqL.of hh19, fun B hB => ?_⟩
    have sm10 : Same H9 (upd H9 B (.lst (cutV (vB h1b) (some 1) none))) := Same.upd1 hB
    have hB10 : (upd H9 B (.lst (cutV (vB h1b) (some 1) none))) B = some (.lst (vB (h1b.drop 1))) := by
      rw [upd_same]
      exact congrArg (fun z => some (HO.lst z)) (cut_from h1b 1)
    generalize upd H9 B (.lst (cutV (vB h1b) (some 1) none)) = H10 at sm10 hB10
    have nt10 := nt9.same sm10
    have ht10 := sm10 _ _ ht9
    refine ⟨p, B, dx, d, r, k, n1, rs, _, rfl, nt10, SqL.of hB10, (by rw [List.length_drop]; omega), hn1, fun hb => bad ?_, fun n2 y hy hn2 H11 t' nt11 ot11 ht11 => ?_⟩
    · unfold lineR
      rw [hx]
      dsimp only
      rw [hb]
    have at10 := nt10.tup ht10
    have htl : H11 t = _ := ot11 _ _ ht10 at10.1 at10.2.1 at10.2.2
    have ot011 : Oth p d r H H11 := ((Same.oth (sm07.trans sm8) p d r).trans ot9).trans ((Same.oth sm10 p d r).trans ot11)
    have eL : lineR ns rs (if back = true then h0.dropLast else h0) (h1b.drop 1) back = match Rn.add rs x y back with
        | none => none
        | some q => some (n2, q) := by
      unfold lineR
      rw [hx]
      dsimp only
      rw [hy]
    rw [eL] at bad good
    -- add_reaction(network, left, right)
    refine ⟨_, rfl, _, rfl, _, rfl, p, t, t', dx, d, r, k, n2, rs, x, y, rfl, nt11, hrs, htl, ht11, fun h24 => bad ?_, fun h24 H12 nt12 ot12 => ?_⟩
    · unfold Rn.add
      rw [if_pos h24]
    refine ⟨_, rfl, back, rfl, ?_⟩
    cases back with
    | false =>
      refine iteF (good n2 (rs ++ [(x, y)]) ?_ hn2 (by rw [List.length_append]; show rs.length + 1 ≤ 24; omega) H12 nt12 (ot011.trans ot12))
      unfold Rn.add
      rw [if_neg h24, if_neg (by decide)]
    | true =>
      have a1 := nt11.tup htl
      have a2 := nt11.tup ht11
      have l1 : (rs ++ [(x, y)]).length = rs.length + 1 := by rw [List.length_append]; rfl
      refine iteT ⟨_, rfl, _, rfl, _, rfl, p, t', t, dx, d, r, k, n2, rs ++ [(x, y)], y, x, rfl, nt12, by omega, ot12 _ _ ht11 a2.1 a2.2.1 a2.2.2, ot12 _ _ htl a1.1 a1.2.1 a1.2.2, fun h23 => bad ?_, fun h23 H13 nt13 ot13 => ?_⟩
      · unfold Rn.add
        rw [if_neg h24, if_pos rfl, if_pos (by omega)]
      · refine good n2 (rs ++ [(x, y)] ++ [(y, x)]) ?_ hn2 (by rw [List.length_append, l1]; show rs.length + 1 + 1 ≤ 24; omega) H13 nt13 ((ot011.trans ot12).trans ot13)
        unfold Rn.add
        rw [if_neg h24, if_pos rfl, if_neg (by omega)]
end
end Pg
end
section
namespace Pg
open PySem PySem.Spec L2 Xn
open PyProof.Rows hiding St
open Rn (Vec addName)

/-! ### Network() -/
def spNI (C : Addr) : Sp := fun vs H Q _ => ∃ x dx, vs = [.ref x] ∧ H x = some (.ins C dx []) ∧
  ∀ (H' : Hp) (d r : Addr), Nt C dx x d r H' 0 [] [] → (∀ b o, H b = some o → b ≠ x → H' b = some o) → H d = none → H r = none → Q .non H'
/-! ### the text -/
def spNet (K : PySem.W.Frag) (C : Addr) : Sp := fun vs H Q E => ∃ (a : Addr) (l : List Nat), vs = [.ref a] ∧ SqL K H a (vB l) ∧ l.length ≤ 2000 ∧
  (∀ k : Nat, Rn.netM 0 (Sa55.splitBy 10 l []) [] [] = .inr k → Bad E (k : Int)) ∧
  ∀ ns rs, Rn.netM 0 (Sa55.splitBy 10 l []) [] [] = .inl (ns, rs) → ns.length ≤ 24 → rs.length ≤ 24 → ∀ (H' : Hp) (p dx d r : Addr) (k : Int), Nt C dx p d r H' k ns rs → Same H H' → Q (.ref p) H'

section
variable {P : Program} {w : World} {K : PySem.W.Frag} {mg : Str → Option Value} {base : Heap} {CW fWI CN fNI : Addr} {fdWI fdNI : FuncData}
theorem scNI : FnScope ["self"] ["self"] (defScope sNI) := ⟨rfl, rfl, rfl, by decide +kernel, rfl, by decide +kernel, by decide +kernel⟩
theorem ok_ni (N : NC K CN) (F : Fun K "__init__" "Network.__init__" sNI fNI fdNI) : FnOk P w K mg base CX0 1 fNI fdNI ["self"] (spNI CN) := by
  refine F.ok scNI (fun vs H Q E h => ?_) (fun cdv A outer s H vs Q E hr h => ?_)
  · obtain ⟨x, dx, rfl, _⟩ := h
    rfl
  · obtain ⟨x, dx, rfl, hx, k⟩ := h
    refine ⟨_, pss_cons (ps_fld (pv 0) pe_int rfl) (pss_cons (ps_fld (pv 0) pe_dnewT rfl) (pss_one (ps_fld (pv 0) (pe_lst pa_nil) rfl))), ?_⟩
    refine ⟨_, rfl, x, CN, dx, _, rfl, hx, N.cl, N.n1, by decide, fun d hd => ?_⟩
    have nxd : x ≠ d := ne_of_none upd_same hd
    have hd0 : H d = none := by rw [upd_ne (Ne.symm nxd)] at hd; exact hd
    refine ⟨_, rfl, x, CN, dx, _, rfl, (by rw [upd_ne nxd]; exact upd_same), N.cl, N.n2, by decide, Nat.zero_le _, fun r hr' => ?_⟩
    have nxr : x ≠ r := ne_of_none upd_same hr'
    have hr1 := hr'
    rw [upd_ne (Ne.symm nxr)] at hr1
    have ndr : d ≠ r := ne_of_none upd_same hr1
    rw [upd_ne (Ne.symm ndr), upd_ne (Ne.symm nxr)] at hr1
    refine ⟨_, rfl, x, CN, dx, _, rfl, (by rw [upd_ne nxr]; exact upd_same), N.cl, N.n3, ?_, ?_⟩
    · have e1 : putF "numbers" (V.ref d) (putF "line" (V.int 0) []) = [(("line" : Str), V.int 0), (("numbers" : Str), V.ref d)] := by
        show (if ("line" : Str) = "numbers" then [(("line" : Str), V.ref d)] else (("line" : Str), V.int 0) :: putF "numbers" (V.ref d) []) = _
        rw [if_neg ne4]
        rfl
      rw [e1]
      show 2 < 1000
      decide
    · rw [nf_made]
      refine k _ d r ⟨upd_same, ?_, [], ?_, .nil⟩ (fun b o eb nb => ?_) hd0 hr1
      · rw [upd_ne (Ne.symm nxd), upd_ne ndr, upd_ne (Ne.symm nxd)]
        exact upd_same
      · rw [upd_ne (Ne.symm nxr)]
        exact upd_same
      · rw [upd_ne nb, upd_ne (ne_of_none eb hr1), upd_ne nb, upd_ne (ne_of_none eb hd0), upd_ne nb]
        exact eb

theorem scNet : FnScope ["text", "network", "number", "row"] ["text"] (defScope sNet) := ⟨rfl, rfl, rfl, by decide +kernel, rfl, by decide +kernel, by decide +kernel⟩
theorem ok_net {f fP fLn : Addr} {fd fdP fdLn : FuncData} (T : Txt K mg) (N : NC K CN) (mN : mg "Network" = some (.ref CN)) (M : Mk K CN fNI) (FI : Fun K "__init__" "Network.__init__" sNI fNI fdNI) (BI : Binds K fdNI ["self"] [])
    (F : Df K mg "read_network" sNet ["text"] f fd) (FP : Df K mg "split_at" sSplit ["sign", "row"] fP fdP) (FLn : Df K mg "read_line" sLine ["network", "row"] fLn fdLn)
    (GLn : FnOk P w K mg base (CXW P w CW) 5 fLn fdLn ["network", "row"] (spLine K CN)) :
    FnOk P w K mg base (CXW P w CW) 6 f fd ["text"] (spNet K CN) := by
  have GP : FnOk P w K mg base CX0 1 fP fdP ["sign", "row"] (spSplit K) := ok_split FP.fn T.enum
  have GI : FnOk P w K mg base CX0 1 fNI fdNI ["self"] (spNI CN) := ok_ni N FI
  refine okW F.fn scNet (fun vs H Q E h => ?_) (fun cdv A outer s H vs Q E hr h => ?_)
  · obtain ⟨a, l, rfl, _⟩ := h
    rfl
  · obtain ⟨a, l, rfl, hS, hlen, bad, good⟩ := h
    have hr1 := hr.mono (j := 1) (by decide)
    have hr2 := hr.mono (j := 2) (by decide)
    refine ⟨_, pss_cons (ps_set (i := 1) scNet.nd rfl (Or.inl rfl) (pe_make0 M GI hr2 rfl mN BI .nil pass0))
      (pss_cons (ps_for (fly_own defCx) rfl (pi_enum rfl T.enum (pa_cons (pe_call GP hr1 rfl FP.at_ FP.fn.kp FP.bd .nil pass0 (pa_cons (pe_ord (n := 10) rfl T.ord) (pa_cons (pv 0) pa_nil))) pa_nil))
          (pg_tup rfl (pgs_cons (pg_name (i := 2) scNet.nd rfl (Or.inl rfl)) (pgs_cons (pg_name (i := 3) scNet.nd rfl (Or.inl rfl)) pgs_nil)))
        (pss_cons (ps_fld (pv 1) (pv 2) rfl)
          (pss_one (ps_expr (pe_call GLn hr rfl FLn.at_ FLn.fn.kp FLn.bd .nil (passW defCx) (pa_cons (pv 1) (pa_cons (pv 3) pa_nil)))))))
      (pss_one (ps_ret (pv 1)))), ?_⟩
    -- network = Network()
    intro p dx np ndx nex
    refine ⟨p, dx, rfl, upd_same, fun H1 d r nt1 k1 hd hr' => ⟨rfl, ?_⟩⟩
    have sm1 : Same H H1 := Same.made np ndx k1
    have pre : ∀ b, (upd (upd H dx (.own p)) p (.ins CN dx [])) b = none → H b = none := fun b hb => by
      have h1 : p ≠ b := ne_of_none upd_same hb
      rw [upd_ne (Ne.symm h1)] at hb
      have h2 : dx ≠ b := ne_of_none upd_same hb
      rw [upd_ne (Ne.symm h2)] at hb
      exact hb
    have hd0 := pre d hd
    have hr0 := pre r hr'
    have old : ∀ b o, H b = some o → b ≠ p ∧ b ≠ d ∧ b ≠ r := fun b o e => ⟨ne_of_none e np, ne_of_none e hd0, ne_of_none e hr0⟩
    -- split_at(ord("\n"), text)
    refine ⟨_, rfl, 10, a, l, rfl, sm1.seq hS, hlen, fun H2 PL as sm2 nPL nAs hPL hPs => ?_⟩
    have lens : ∀ b ∈ Sa55.splitBy 10 l [], b.length ≤ 2000 := fun b hb => by
      have := split_lens 10 _ _ b hb
      simp at this
      omega
    generalize Sa55.splitBy 10 l [] = ps at hPs bad good lens
    have nt2 := nt1.same sm2
    have aPL := nt1.away nPL
    have aAs : ∀ x ∈ as, x ≠ p ∧ x ≠ d ∧ x ≠ r := fun x hx => nt1.away (nAs x hx)
    have plen := hPs.len
    refine ⟨PL, _, rfl, SqL.of hPL, for_enum (K := K) (a := PL) (xs := as.map V.ref) (fun i σ H' => ∃ (b2 b3 : Option V) (k : Int) (ns : List (List Nat)) (rs : List (Vec × Vec)),
        σ = [some (.ref a), some (.ref p), b2, b3] ∧ Oth p d r H H' ∧ Nt CN dx p d r H' k ns rs ∧ ns.length ≤ 24 ∧ rs.length ≤ 24 ∧ H' PL = some (.lst (as.map V.ref)) ∧ PiecesAt H' as ps ∧ Rn.netM 0 ps [] [] = Rn.netM i (ps.drop i) ns rs)
      ⟨none, none, 0, [], [], rfl, Same.oth (sm1.trans sm2) p d r, nt2, by decide, by decide, hPL, hPs, rfl⟩ (fun i σ H' _ ⟨_, _, _, _, _, _, _, _, _, _, hP, _⟩ => SqL.of hP) ?_ ?_⟩
    · rintro i x σ H' Tp hx ⟨b2, b3, k, ns, rs, rfl, ot, ntl, hns, hrs, hPl, hPa, eqM⟩ hT
      have hi : i < as.length := by
        have := (List.getElem?_eq_some_iff.mp hx).1
        rw [List.length_map] at this
        exact this
      obtain ⟨b, hb⟩ : ∃ b, ps[i]? = some b := ⟨_, List.getElem?_eq_getElem (by omega)⟩
      obtain ⟨xa, hxa, hxl⟩ := hPa.get hb
      have ex : x = .ref xa := by
        rw [List.getElem?_map, hxa] at hx
        exact (Option.some.inj hx).symm
      subst ex
      have edrop : ps.drop i = b :: ps.drop (i + 1) := by
        obtain ⟨h1, h2⟩ := List.getElem?_eq_some_iff.mp hb
        rw [List.drop_eq_getElem_cons h1, h2]
      rw [edrop] at eqM
      have bl := lens b (List.mem_of_getElem? hb)
      have smT : Same H' (upd H' Tp (.tup [.int (i : Nat), .ref xa])) := Same.upd1 hT
      refine ⟨Tp, _, rfl, SqT.of upd_same, rfl, _, _, rfl, _, _, rfl, rfl, ?_⟩
      generalize upd H' Tp (.tup [.int (i : Nat), .ref xa]) = H3 at smT
      have nt3 := ntl.same smT
      -- network.line = number
      refine ⟨_, rfl, _, rfl, p, CN, dx, _, rfl, nt3.ins, N.cl, N.n1, (by show 3 < 1000; decide), ?_⟩
      rw [nf_put]
      obtain ⟨hpd, hpr, hdr⟩ := nt3.pd
      obtain ⟨ts, hr3, hr4⟩ := nt3.rea
      have nt4 : Nt CN dx p d r (upd H3 p (.ins CN dx (nf ((i : Nat) : Int) d r))) ((i : Nat) : Int) ns rs := by
        refine ⟨upd_same, by rw [upd_ne (Ne.symm hpd)]; exact nt3.num, ts, by rw [upd_ne (Ne.symm hpr)]; exact hr3, RAts.of hr4 fun c xs ec => ?_⟩
        rw [upd_ne (ne_of ec nt3.ins (by intro z; cases z))]
        exact ec
      have ot4 : Oth p d r H' (upd H3 p (.ins CN dx (nf ((i : Nat) : Int) d r))) := fun c o ec h1 _ _ => by
        rw [upd_ne h1]
        exact smT c o ec
      generalize upd H3 p (.ins CN dx (nf ((i : Nat) : Int) d r)) = H4 at nt4 ot4
      have axa := aAs xa (List.mem_of_getElem? hxa)
      -- read_line(network, row)
      refine ⟨_, rfl, _, rfl, p, xa, dx, d, r, _, ns, rs, b, rfl, nt4, SqL.of (ot4 _ _ hxl axa.1 axa.2.1 axa.2.2), bl, hns, hrs, fun hbad => bad i ?_, fun ns' rs' hgood hn' hr' H5 nt5 ot5 => ?_⟩
      · rw [eqM]
        unfold Rn.netM
        rw [hbad]
      · have ot45 := ot4.trans ot5
        refine ⟨some (.int (i : Nat)), some (.ref xa), _, ns', rs', rfl, ot.trans ot45, nt5, hn', hr', ot45 _ _ hPl aPL.1 aPL.2.1 aPL.2.2, hPa.oth ot45 aAs, ?_⟩
        rw [eqM]
        conv => lhs; unfold Rn.netM
        rw [hgood]
    · rintro σ H' ⟨b2, b3, k, ns, rs, rfl, ot, ntl, hns, hrs, hPl, hPa, eqM⟩
      rw [List.length_map, plen, List.drop_length] at eqM
      refine ⟨_, rfl, good ns rs eqM hns hrs H' p dx d r k ntl fun b o e => ?_⟩
      obtain ⟨h1, h2, h3⟩ := old b o e
      exact ot b o e h1 h2 h3

end
end Pg
end
section
namespace Pg
open PySem PySem.Spec L2 Xn
open PyProof.Rows hiding St
open PySem.W (nsIn findIn codeIn keepIn makesIn isFn plainGet hasDictIn plainOver fnOf Codec WData)

/-! ### what the top has written -/
def strKey : Value → Bool
  | .str _ _ => true
  | _ => false
section
variable {K : PySem.W.Frag} {h : Heap} {mg : Str → Option Value}
theorem ns_some {N : Addr} {name : Str} {v oc : Value} {od : Option Addr} {es : Array DictEntry} {ep : Nat} {sl : Array (Option Value)} (l : K.lookup N = some ⟨oc, od, .dict es ep, sl⟩) (e : nsIn K N name = some (some v)) : nsFind es name = some v := by
  unfold PySem.W.nsIn at e
  rw [l] at e
  dsimp only at e
  split at e
  · rename_i en he
    cases e
    unfold nsFind findBy
    rw [← Array.find?_toList, he]
    rfl
  · split at e <;> cases e
theorem ns_none {N : Addr} {name : Str} {oc : Value} {od : Option Addr} {es : Array DictEntry} {ep : Nat} {sl : Array (Option Value)} (l : K.lookup N = some ⟨oc, od, .dict es ep, sl⟩) (e : nsIn K N name = some none) : nsFind es name = none := by
  unfold PySem.W.nsIn at e
  rw [l] at e
  dsimp only at e
  split at e
  · cases e
  · rename_i he
    unfold nsFind findBy
    rw [← Array.find?_toList, he]
    rfl
theorem str_keys {es : Array DictEntry} (e : (es.toList.all fun x => strKey x.key) = true) : StrKeys es := fun x hx => by
  have := List.all_eq_true.mp e x (by simpa using hx)
  cases q : x.key with
  | str n t => exact ⟨n, t, rfl⟩
  | _ => rw [q] at this; cases this
theorem df_mk {x : Str} {st : Stmt} {ps : List Str} {f : Addr} {oc kV doc pm cd ct : Value} {od an : Option Addr} {sl : Array (Option Value)} (KX : K.In h) (G : h.Ns mainGlobals mg) (a : nsIn K mainGlobals x = some (some (.ref f)))
    (l : K.lookup f = some ⟨oc, od, .func (fnOf x x (defArgs st) (defBody st) (defScope st) .none kV doc pm an cd ct), sl⟩) (c : codeIn K cd x = true) (k : keepIn K (.ref f) = true)
    (hb : ∀ (kV doc pm : Value) (an : Option Addr) (cdv ct : Value) (us : List Value), us.length = ps.length → bindArgs (fnOf x x (defArgs st) (defBody st) (defScope st) .none kV doc pm an cdv ct) ⟨us, []⟩ = pure (ps.zip us)) :
    ∃ f fd, Df K mg x st ps f fd ∧ ∀ (s : Shared) (us : List Value), us.length = ps.length → BindsTo s fd ⟨us, []⟩ (ps.zip us) := by
  have F := fun_mk (st := st) l c k
  exact ⟨_, _, ⟨F, F.binds hb, PySem.W.mg_of KX G a⟩, fun s us hu => .of_eq (hb _ _ _ _ _ _ us hu)⟩
theorem xw_mk {C N fI : Addr} {nm q : Str} {bs : List Value} {sn : List Str} {sub : List Value} {ab : Bool} {col : Option Bool} {dd : Option Addr} {k0 k1 k2 k3 k5 : Option Value} {ocN : Value} {odN : Option Addr} {es : Array DictEntry} {ep : Nat} {slN slI : Array (Option Value)}
    {kV doc pm cd ct : Value} {odI an : Option Addr} (KX : K.In h) (G : h.Ns mainGlobals mg) (aC : nsIn K mainGlobals "WrongLine" = some (some (.ref C)))
    (lC : K.lookup C = some (excClassObj nm q C N bs bmE true sn sub ab col dd k0 k1 k2 k3 k5 "Exception.__new__")) (lN : K.lookup N = some ⟨ocN, odN, .dict es ep, slN⟩) (sk : (es.toList.all fun x => strKey x.key) = true)
    (i1 : nsIn K N "__init__" = some (some (.ref fI))) (i2 : nsIn K N "line" = some none) (i3 : nsIn K N "__setattr__" = some none) (i4 : nsIn K N "__getattribute__" = some none) (i5 : nsIn K N "__getattr__" = some none)
    (lI : K.lookup fI = some ⟨.type "function", odI, .func (fnOf "__init__" "WrongLine.__init__" (defArgs sWI) (defBody sWI) (defScope sWI) .none kV doc pm an cd ct), slI⟩) (cI : codeIn K cd "WrongLine.__init__" = true) (kI : keepIn K (.ref fI) = true) :
    ∃ C fI fdI, XW K mg C fI fdI := by
  have F := fun_mk (st := sWI) lI cI kI
  refine ⟨C, fI, _, ⟨⟨nm, q, N, bs, sn, sub, ab, col, dd, k0, k1, k2, k3, k5, _, es, ep, _, lC, lN, rfl, str_keys sk, ns_some lN i1, ns_none lN i2, ns_none lN i3, ns_none lN i4, ns_none lN i5, lI, rfl⟩⟩, F, ?_, PySem.W.mg_of KX G aC⟩
  exact F.binds (ps := ["self", "line"]) fun _ _ _ _ _ _ us hl => match us, hl with | [_, _], _ => rfl
theorem nc_mk {C f : Addr} {oc kV doc pm cd ct : Value} {od an : Option Addr} {sl : Array (Option Value)} (KX : K.In h) (G : h.Ns mainGlobals mg) (aC : nsIn K mainGlobals "Network" = some (some (.ref C)))
    (pg : plainGet K C Str.empty = true) (hd : hasDictIn K C = true) (po : plainOver K C = true) (sa : findIn K (.ref C) "__setattr__" = some (some (.builtin "object.__setattr__")))
    (n1 : findIn K (.ref C) "line" = some none) (n2 : findIn K (.ref C) "numbers" = some none) (n3 : findIn K (.ref C) "reactions" = some none)
    (mk : makesIn K C = true) (a1 : findIn K (.ref C) "__init__" = some (some (.ref f))) (i1 : isFn K (.ref f) = true) (kc : keepIn K (.ref C) = true)
    (l : K.lookup f = some ⟨oc, od, .func (fnOf "__init__" "Network.__init__" (defArgs sNI) (defBody sNI) (defScope sNI) .none kV doc pm an cd ct), sl⟩) (c : codeIn K cd "Network.__init__" = true) (k : keepIn K (.ref f) = true) :
    ∃ C f fd, NC K C ∧ mg "Network" = some (.ref C) ∧ Mk K C f ∧ Fun K "__init__" "Network.__init__" sNI f fd ∧ Binds K fd ["self"] [] := by
  have F := fun_mk (st := sNI) l c k
  exact ⟨C, f, _, ⟨⟨pg, hd, po, sa⟩, n1, n2, n3⟩, PySem.W.mg_of KX G aC, ⟨mk, a1, i1, kc⟩, F, F.binds (ps := ["self"]) fun _ _ _ _ _ _ us hl => match us, hl with | [_], _ => rfl⟩
theorem txt_mk {t1 t2 t3 t4 t5 : Tok} (KX : K.In h) (G : h.Ns mainGlobals mg) (e1 : nsIn K mainGlobals "ord" = some none) (e2 : nsIn K mainGlobals "len" = some none) (e3 : nsIn K mainGlobals "enumerate" = some none) (e4 : nsIn K mainGlobals "tuple" = some none)
    (c1 : nsIn K mainGlobals "LONGEST_NAME" = some (some (.int 16 t1))) (c2 : nsIn K mainGlobals "LONGEST_NUMBER" = some (some (.int 2 t2))) (c3 : nsIn K mainGlobals "MOST_SUBSTANCES" = some (some (.int 24 t3)))
    (c4 : nsIn K mainGlobals "MOST_REACTIONS" = some (some (.int 24 t4))) (c5 : nsIn K mainGlobals "MOST_OF_ONE" = some (some (.int 99 t5))) : Txt K mg :=
  ⟨PySem.W.mg_none_of KX G e1, PySem.W.mg_none_of KX G e2, PySem.W.mg_none_of KX G e3, PySem.W.mg_none_of KX G e4, ⟨t1, PySem.W.mg_of KX G c1⟩, ⟨t2, PySem.W.mg_of KX G c2⟩, ⟨t3, PySem.W.mg_of KX G c3⟩, ⟨t4, PySem.W.mg_of KX G c4⟩, ⟨t5, PySem.W.mg_of KX G c5⟩⟩
theorem int_mk {x : Str} {n : Int} {t : Tok} (KX : K.In h) (G : h.Ns mainGlobals mg) (e : nsIn K mainGlobals x = some (some (.int n t))) : ∃ t, mg x = some (.int n t) := ⟨t, PySem.W.mg_of KX G e⟩

abbrev DfX (K : PySem.W.Frag) (mg : Str → Option Value) (x : Str) (st : Stmt) (ps : List Str) : Prop := ∃ f fd, Df K mg x st ps f fd ∧ ∀ (s : Shared) (us : List Value), us.length = ps.length → BindsTo s fd ⟨us, []⟩ (ps.zip us)
/-- the text's reader, from what the top has written -/
theorem net_all {P : Program} {w : World} {base : Heap} (T : Txt K mg) (W : ∃ C fI fdI, XW K mg C fI fdI) (N : ∃ C f fd, NC K C ∧ mg "Network" = some (.ref C) ∧ Mk K C f ∧ Fun K "__init__" "Network.__init__" sNI f fd ∧ Binds K fd ["self"] [])
    (dNet : DfX K mg "read_network" sNet ["text"]) (dLine : DfX K mg "read_line" sLine ["network", "row"]) (dAdd : DfX K mg "add_reaction" sAdd ["network", "takes", "gives"]) (dSide : DfX K mg "read_side" sSide ["network", "part"])
    (dNum : DfX K mg "read_number" sNum ["network", "digits"]) (dSub : DfX K mg "number_substance" sSub ["network", "name"]) (dName : DfX K mg "is_name" sName ["name"]) (dLet : DfX K mg "is_letter" sLet ["byte"]) (dDig : DfX K mg "is_digit" sDig ["byte"])
    (dCnt : DfX K mg "count_digits" sCnt ["row"]) (dStrip : DfX K mg "strip_blanks" sStrip ["row"]) (dSplit : DfX K mg "split_at" sSplit ["sign", "row"]) :
    ∃ (CW fWI CN : Addr) (fdWI : FuncData) (f : Addr) (fd : FuncData), XW K mg CW fWI fdWI ∧ NC K CN ∧ Df K mg "read_network" sNet ["text"] f fd ∧ FnOk P w K mg base (CXW P w CW) 6 f fd ["text"] (spNet K CN) := by
  obtain ⟨CW, fWI, fdWI, W⟩ := W
  obtain ⟨CN, fNI, fdNI, N, mN, M, FI, BI⟩ := N
  obtain ⟨_, _, dNet, _⟩ := dNet
  obtain ⟨_, _, dLine, _⟩ := dLine
  obtain ⟨_, _, dAdd, _⟩ := dAdd
  obtain ⟨_, _, dSide, _⟩ := dSide
  obtain ⟨_, _, dNum, _⟩ := dNum
  obtain ⟨_, _, dSub, _⟩ := dSub
  obtain ⟨_, _, dName, _⟩ := dName
  obtain ⟨_, _, dLet, _⟩ := dLet
  obtain ⟨_, _, dDig, _⟩ := dDig
  obtain ⟨_, _, dCnt, _⟩ := dCnt
  obtain ⟨_, _, dStrip, _⟩ := dStrip
  obtain ⟨_, _, dSplit, _⟩ := dSplit
  exact ⟨CW, fWI, CN, fdWI, _, _, W, N, dNet, ok_net T N mN M FI BI dNet dSplit dLine (ok_line T W N dLine dSide dAdd dStrip dSplit (ok_side T W N dSide dStrip dSplit dCnt dSub dNum dName dLet dDig))⟩
end
theorem vB_of {t : List Int} (h : ∀ x ∈ t, 0 ≤ x) : t.map V.int = vB (t.map Int.toNat) := by
  unfold vB
  rw [List.map_map]
  apply List.map_congr_left
  intro x hx
  have := h x hx
  show V.int x = V.int ((x.toNat : Nat) : Int)
  rw [Int.toNat_of_nonneg this]
theorem in_pos {lo hi : Int} {t : List Int} (h : (t.all (PySem.W.Codec.inInt lo hi)) = true) (h0 : 0 ≤ lo := by decide) : ∀ x ∈ t, (0 : Int) ≤ x := fun x hx => by
  have z := List.all_eq_true.mp h x hx
  unfold PySem.W.Codec.inInt at z
  rw [Bool.and_eq_true] at z
  have := of_decide_eq_true z.1
  omega
theorem said1 {R : PySem.W.OpenSpec} {p : Program} {n : Str} {r c1 : Codec} {f : Codec.fn Bool [c1]} {g : Codec.fn r.denote [c1]} (e : R = PySem.W.OpenSpec.mk p n [c1] r f g) (a : Codec.denoteAll R.args) (h : Codec.app R.args R.asked a = true) :
    ∃ a' : Codec.denoteAll [c1], HEq a a' ∧ f a'.1 = true ∧ R.ret.enc (Codec.app R.args R.f a) = r.enc (g a'.1) := by
  subst e
  exact ⟨a, HEq.rfl, h, rfl⟩
theorem said2 {R : PySem.W.OpenSpec} {p : Program} {n : Str} {r c1 c2 : Codec} {f : Codec.fn Bool [c1, c2]} {g : Codec.fn r.denote [c1, c2]} (e : R = PySem.W.OpenSpec.mk p n [c1, c2] r f g) (a : Codec.denoteAll R.args) (h : Codec.app R.args R.asked a = true) :
    ∃ a' : Codec.denoteAll [c1, c2], HEq a a' ∧ f a'.1 a'.2.1 = true ∧ R.ret.enc (Codec.app R.args R.f a) = r.enc (g a'.1 a'.2.1) := by
  subst e
  exact ⟨a, HEq.rfl, h, rfl⟩
theorem said3 {R : PySem.W.OpenSpec} {p : Program} {n : Str} {r c1 c2 c3 : Codec} {f : Codec.fn Bool [c1, c2, c3]} {g : Codec.fn r.denote [c1, c2, c3]} (e : R = PySem.W.OpenSpec.mk p n [c1, c2, c3] r f g) (a : Codec.denoteAll R.args) (h : Codec.app R.args R.asked a = true) :
    ∃ a' : Codec.denoteAll [c1, c2, c3], HEq a a' ∧ f a'.1 a'.2.1 a'.2.2.1 = true ∧ R.ret.enc (Codec.app R.args R.f a) = r.enc (g a'.1 a'.2.1 a'.2.2.1) := by
  subst e
  exact ⟨a, HEq.rfl, h, rfl⟩
theorem said4 {R : PySem.W.OpenSpec} {p : Program} {n : Str} {r c1 c2 c3 c4 : Codec} {f : Codec.fn Bool [c1, c2, c3, c4]} {g : Codec.fn r.denote [c1, c2, c3, c4]} (e : R = PySem.W.OpenSpec.mk p n [c1, c2, c3, c4] r f g) (a : Codec.denoteAll R.args) (h : Codec.app R.args R.asked a = true) :
    ∃ a' : Codec.denoteAll [c1, c2, c3, c4], HEq a a' ∧ f a'.1 a'.2.1 a'.2.2.1 a'.2.2.2.1 = true ∧ R.ret.enc (Codec.app R.args R.f a) = r.enc (g a'.1 a'.2.1 a'.2.2.1 a'.2.2.2.1) := by
  subst e
  exact ⟨a, HEq.rfl, h, rfl⟩
theorem in_top {hi : Nat} {t : List Int} (h : (t.all (PySem.W.Codec.inInt 0 (hi : Int))) = true) : ∀ x ∈ t.map Int.toNat, x ≤ hi := fun x hx => by
  obtain ⟨y, hy, e⟩ := List.mem_map.mp hx
  have z := List.all_eq_true.mp h y hy
  unfold PySem.W.Codec.inInt at z
  rw [Bool.and_eq_true] at z
  have := of_decide_eq_true z.2
  have := of_decide_eq_true z.1
  omega
theorem in_u64 {x : Int} (h : PySem.W.Codec.inInt 0 18446744073709551615 x = true) : ∃ u : Nat, x = (u : Int) ∧ u < 2 ^ 64 := by
  unfold PySem.W.Codec.inInt at h
  rw [Bool.and_eq_true] at h
  have := of_decide_eq_true h.2
  have := of_decide_eq_true h.1
  exact ⟨x.toNat, by omega, by omega⟩
end Pg
end
section
namespace Pg
open PySem PySem.Spec L2 Xn Et

/-! ### what go and draw promise -/
def OnlyFz (H : Hp) : Prop := ∀ b, H b = none ∨ ∃ o u, H b = some (.frz o u)
theorem sq_frz {K : PySem.W.Frag} {H H' : Hp} {a : Addr} {xs : List V} (o : OnlyFz H) (f : Frz H H') (h : SqL K H a xs) : SqL K H' a xs := by
  rcases h with h | h
  · rcases h with h | ⟨ob, h⟩
    · rcases o a with z | ⟨ob, u, z⟩
      · rw [h] at z; cases z
      · rw [h] at z; cases z
    · exact .inl (.inr ⟨ob, f _ _ _ h⟩)
  · exact .inr h
def spGo (K : PySem.W.Frag) : Sp := fun vs H Q _ => ∃ (a b c : Addr) (l am st : List Nat), vs = [.ref a, .ref b, .ref c] ∧ OnlyFz H ∧ SqL K H a (vB l) ∧ SqL K H b (vB am) ∧ SqL K H c (vB st) ∧ l.length ≤ 2000 ∧ am.length ≤ 100 ∧ st.length ≤ 300 ∧ (∀ x ∈ am, x ≤ 4294967295) ∧
  (∀ s, Sa55.netOf l = .inl s → am.length = Sa55.size s) ∧ ∀ (H' : Hp) (p : Addr), H' p = some (.lst ((Rn.goAns l am st).map V.int)) → Q (.ref p) H'
def spDraw (K : PySem.W.Frag) : Sp := fun vs H Q _ => ∃ (u : Nat) (a b c : Addr) (l am rt : List Nat), vs = [.int (u : Int), .ref a, .ref b, .ref c] ∧ u < 2 ^ 64 ∧ SqL K H a (vB l) ∧ SqL K H b (vB am) ∧ SqL K H c (vB rt) ∧ l.length ≤ 2000 ∧ am.length ≤ 100 ∧ rt.length ≤ 100 ∧
  (∀ s, Sa55.netOf l = .inl s → am.length = Sa55.size s ∧ rt.length = Sa55.count s) ∧ ∀ (H' : Hp) (p : Addr), H' p = some (.lst ((Rn.drawAns u l am rt).map V.int)) → Q (.ref p) H'
theorem vB_ints (l : List Nat) : vB l = (l.map fun x : Nat => (x : Int)).map V.int := by
  unfold vB
  rw [List.map_map]
  rfl
/-- max of naturals, 0 if there are none -/
theorem nat_max {l : List Nat} {Q : Int → Prop} (h : ∀ m : Nat, (m = 0 ∨ m ∈ l) → (∀ y ∈ l, y ≤ m) → Q (m : Int)) : ∀ m : Int, (m = 0 ∨ m ∈ l.map fun x : Nat => (x : Int)) → (∀ y ∈ l.map (fun x : Nat => (x : Int)), y ≤ m) → Q m := by
  intro m h1 h2
  have key : ∃ k : Nat, m = (k : Int) ∧ (k = 0 ∨ k ∈ l) := by
    rcases h1 with e | e
    · exact ⟨0, e, .inl rfl⟩
    · obtain ⟨k, hk, e⟩ := List.mem_map.mp e
      exact ⟨k, e.symm, .inr hk⟩
  obtain ⟨k, rfl, hk⟩ := key
  refine h k hk fun y hy => ?_
  have := h2 (y : Int) (List.mem_map.mpr ⟨y, hy, rfl⟩)
  omega
end Pg
end
section
namespace Pg
open PySem PySem.Spec L2 Xn Et
open PyProof.Rows hiding St
open Rn (Vec lkB lacks after goM)

def spAre (K : PySem.W.Frag) (C : Addr) : Sp := fun vs H Q _ => ∃ (p dx d r c : Addr) (k : Int) (ns : List (List Nat)) (rs : List (Vec × Vec)) (st : List Nat), vs = [.ref p, .ref c] ∧ Nt C dx p d r H k ns rs ∧ SqL K H c (vB st) ∧ st.length ≤ 300 ∧
  ∀ H', Same H H' → Q (.bl (st.all fun x => decide (x < rs.length))) H'
def spLacks (K : PySem.W.Frag) : Sp := fun vs H Q _ => ∃ (a b : Addr) (am t : List Nat), vs = [.ref a, .ref b] ∧ SqL K H a (vB am) ∧ SqT K H b (vB t) ∧ am.length ≤ t.length ∧ am.length ≤ 100 ∧ ∀ H', Same H H' → Q (.bl (lacks am.length am t)) H'
def spChange (K : PySem.W.Frag) : Sp := fun vs H Q _ => ∃ (a e : Addr) (am : List Nat) (q : Vec × Vec), vs = [.ref a, .ref e] ∧ SqL K H a (vB am) ∧ RAt H e q ∧ am.length ≤ q.1.length ∧ am.length ≤ q.2.length ∧ am.length ≤ 100 ∧ (∀ j, j < am.length → q.1.getD j 0 ≤ am.getD j 0) ∧
  ∀ (H' : Hp) (D : Addr), Same H H' → H' D = some (.lst (vB (after am.length am q.1 q.2))) → Q (.ref D) H'

abbrev lcAre : Scope := { kind := .function, names := [(".0", .local), ("step", .local), ("len", .globalImplicit), ("network", .free)], isGenerator := false, isCoroutine := false }
abbrev lcLacks : Scope := { kind := .function, names := [(".0", .local), ("amount", .local), ("taken", .local)], isGenerator := false, isCoroutine := false }
abbrev lcChange : Scope := { kind := .function, names := [(".0", .local), ("amount", .local), ("taken", .local), ("given", .local)], isGenerator := false, isCoroutine := false }
section
variable {P : Program} {w : World} {K : PySem.W.Frag} {mg : Str → Option Value} {base : Heap} {CN : Addr}

abbrev tAre (K : PySem.W.Frag) : TE := tOp (rI0 fun i j => .bl (decide (i < j))) (tVar 2) (tCB (fun xs H Q => ∃ p ys, xs = [.ref p] ∧ (SqL K H p ys ∨ SqT K H p ys) ∧ Q (.int ys.length) H) (tCons (tFld K (tVar 0) "reactions") tNil))
theorem el_are {X : Cx} {p1 p2 p3 p4 p5 p6 : Pos} (h0 : X.N[0]? = some ("network" : Str)) (v0 : Vis X.env.scope "network") (h2 : X.N[2]? = some ("step" : Str)) (v2 : Vis X.env.scope "step") (hg : Gl X "len") (hm : X.mg "len" = none) :
    PE X (.Compare (.Name "step" p1) [.Lt] [.Call (.Name "len" p2) [.Attribute (.Name "network" p3) "reactions" p4] [] p5] p6) (tAre X.K) :=
  pe_cmpR op_lt (pv 2 h2 v2) (pe_callB call_len_seq hg hm PySem.boot_len (pa_cons (pe_fld (pv 0 h0 v0) rfl) pa_nil)) (nomark _)
theorem scAre : FnScope ["network", "steps", "step"] ["network", "steps"] (defScope sd_are_reactions) := ⟨rfl, rfl, rfl, by decide +kernel, rfl, by decide +kernel, by decide +kernel⟩
theorem bkAre : BlkOk ["network", "steps", "step"] (defScope sd_are_reactions) lcAre [("step", 2)] := ⟨rfl, by decide +kernel, by decide +kernel, by decide +kernel, by decide +kernel⟩
theorem ok_are {f : Addr} {fd : FuncData} (T : Txt K mg) (hA : mg "all" = none) (N : NC K CN) (F : Df K mg "are_reactions" sd_are_reactions ["network", "steps"] f fd) : FnOk P w K mg base CX0 1 f fd ["network", "steps"] (spAre K CN) := by
  refine F.fn.ok scAre (fun vs H Q E h => ?_) (fun cdv A outer s H vs Q E hr h => ?_)
  · obtain ⟨p, dx, d, r, c, k, ns, rs, st, rfl, _⟩ := h
    rfl
  · obtain ⟨p, dx, d, r, c, k, ns, rs, st, rfl, nt, hS, hlen, q⟩ := h
    refine ⟨_, pss_one (ps_ret (pe_callB (cr_all rfl) rfl hA PyProof.Rows.boot_all (pa_cons (pe_lc (own := [("step", 2)]) (g := gName 2) (te := tAre K) rfl scAre.nd (pi_list (pv 1)) bkAre
        (fun _ _ _ _ _ => pg_name (i := 2) scAre.nd rfl (Or.inl rfl) (Or.inr rfl)) (fun _ _ _ _ _ => pts_nil)
        (fun _ _ _ _ _ => el_are rfl (by first | exact Or.inl rfl | exact Or.inr (Or.inl rfl) | exact Or.inr (Or.inr rfl)) rfl (Or.inl rfl) rfl T.len)) pa_nil))), ?_⟩
    obtain ⟨ts, hr1, hr2⟩ := nt.rea
    have tl : ts.length = rs.length := Paired.length hr2
    refine ⟨_, rfl, c, rfl, ⟨_, hS⟩, fun D hD => lc_list (K := K) (a := c) (xs := vB st) (fun i H' => Same H H' ∧ H' D = some (.lst (((st.take i).map fun x => decide (x < rs.length)).map V.bl)))
      ⟨Same.upd1 hD, upd_same⟩ (fun i H' _ ⟨sm, _⟩ => sm.seq hS) ?_ ?_⟩
    · rintro i x H' hx ⟨sm, hDl⟩
      obtain ⟨c0, hc0, rfl⟩ := of_vB hx
      have nt' := nt.same sm
      refine ⟨rfl, ?_⟩
      unfold tYes
      dsimp only
      rw [if_pos rfl]
      refine ⟨_, rfl, _, rfl, p, CN, dx, _, _, rfl, nt'.ins, N.cl, N.n3, nf_rea k d r, r, _, rfl, .inl (SqL.of (sm _ _ hr1)), _, _, rfl, rfl, _, hDl, ?_, ?_, ?_⟩
      · rw [List.length_map, List.length_map, List.length_take, sizeLine_eq]
        omega
      · exact Same.upd sm hD
      · have e : decide ((c0 : Int) < ((ts.map V.ref).length : Nat)) = decide (c0 < rs.length) := by
          rw [List.length_map, tl]
          exact decide_eq_decide.mpr (by omega)
        rw [upd_same, List.take_add_one, hc0, List.map_append, List.map_append]
        dsimp only
        rw [e]
        rfl
    · rintro H1 ⟨sm, hD1⟩
      rw [vB_len, List.take_length] at hD1
      refine ⟨D, _, rfl, SqL.of hD1, ?_⟩
      rw [List.all_map]
      exact q H1 sm

theorem scLacks : FnScope ["amounts", "takes", "amount", "taken"] ["amounts", "takes"] (defScope sd_lacks_something) := ⟨rfl, rfl, rfl, by decide +kernel, rfl, by decide +kernel, by decide +kernel⟩
theorem bkLacks : BlkOk ["amounts", "takes", "amount", "taken"] (defScope sd_lacks_something) lcLacks [("amount", 2), ("taken", 3)] := ⟨rfl, by decide +kernel, by decide +kernel, by decide +kernel, by decide +kernel⟩
theorem ok_lacks {f : Addr} {fd : FuncData} (hY : mg "any" = none) (hZ : mg "zip" = none) (F : Df K mg "lacks_something" sd_lacks_something ["amounts", "takes"] f fd) : FnOk P w K mg base CX0 1 f fd ["amounts", "takes"] (spLacks K) := by
  refine F.fn.ok scLacks (fun vs H Q E h => ?_) (fun cdv A outer s H vs Q E hr h => ?_)
  · obtain ⟨a, b, am, t, rfl, _⟩ := h
    rfl
  · obtain ⟨a, b, am, t, rfl, hA, hT, hl, hlen, q⟩ := h
    refine ⟨_, pss_one (ps_ret (pe_callB (cr_any rfl) rfl hY PyProof.Rows.boot_any (pa_cons (pe_lc (own := [("amount", 2), ("taken", 3)]) (g := gTup K 2 (gCons (gName 2) (gCons (gName 3) gNil))) rfl scLacks.nd
        (pi_z2 false true rfl hZ (pa_cons (pv 0) (pa_cons (pv 1) pa_nil))) bkLacks
        (fun _ _ _ _ _ => pg_tup rfl (pgs_cons (pg_name (i := 2) scLacks.nd rfl (Or.inl rfl) (Or.inr rfl)) (pgs_cons (pg_name (i := 3) scLacks.nd rfl (Or.inl rfl) (Or.inr rfl)) pgs_nil))) (fun _ _ _ _ _ => pts_nil)
        (fun _ _ _ _ _ => pe_cmpR op_lt (pv 2) (pv 3) (nomark _))) pa_nil))), ?_⟩
    have bA : ∀ {H' : Hp}, Same H H' → SqB K H' (a, false) (vB am) := fun sm => sm.seq hA
    have bT : ∀ {H' : Hp}, Same H H' → SqB K H' (b, true) (vB t) := fun sm => Same.seqT sm hT
    have hmin : min (vB am).length (vB t).length = am.length := by
      rw [vB_len, vB_len]
      omega
    refine ⟨_, rfl, _, rfl, a, b, _, _, rfl, bA (Same.refl H), bT (Same.refl H), fun D hD => lc_walk (n := am.length) (fun i H' => Same H H' ∧ H' D = some (.lst ((lkB am t i).map V.bl)))
      ⟨Same.upd1 hD, upd_same⟩ (fun i H' hi ⟨sm, _⟩ => go2 (bA sm) (bT sm) (by rw [hmin]; exact hi)) (fun H' ⟨sm, _⟩ => stop2 (bA sm) (bT sm) hmin.symm) ?_ ?_⟩
    · rintro i x H1 H2 hi ⟨sm, hDl⟩ y
      obtain ⟨Tp, xa, xt, rfl, nT, rfl, ga, gt⟩ := yld2 (bA sm) (bT sm) y
      obtain ⟨ca, ha, rfl⟩ := of_vB ga
      obtain ⟨ct, ht, rfl⟩ := of_vB gt
      have nDT : D ≠ Tp := ne_of_none hDl nT
      refine ⟨Tp, _, rfl, SqT.of upd_same, rfl, _, _, rfl, _, _, rfl, rfl, rfl, ?_⟩
      unfold tYes
      dsimp only
      rw [if_pos rfl]
      refine ⟨_, rfl, _, rfl, _, _, rfl, rfl, _, (by rw [upd_ne nDT]; exact hDl), ?_, ?_, ?_⟩
      · rw [List.length_map, Rn.lkB_len, sizeLine_eq]
        omega
      · exact Same.upd (Same.upd sm (sm.free nT)) hD
      · have e : decide ((ca : Int) < (ct : Int)) = decide (am.getD i 0 < t.getD i 0) := by
          rw [Rn.getD_of ha, Rn.getD_of ht]
          exact decide_eq_decide.mpr (by omega)
        rw [upd_same, Rn.lkB_succ, List.map_append]
        dsimp only
        rw [e]
        rfl
    · rintro H1 ⟨sm, hD1⟩
      refine ⟨D, _, rfl, SqL.of hD1, ?_⟩
      rw [Rn.lkB_any]
      exact q H1 sm

theorem scChange : FnScope ["amounts", "reaction", "amount", "taken", "given"] ["amounts", "reaction"] (defScope sd_change_amounts) := ⟨rfl, rfl, rfl, by decide +kernel, rfl, by decide +kernel, by decide +kernel⟩
theorem bkChange : BlkOk ["amounts", "reaction", "amount", "taken", "given"] (defScope sd_change_amounts) lcChange [("amount", 2), ("taken", 3), ("given", 4)] := ⟨rfl, by decide +kernel, by decide +kernel, by decide +kernel, by decide +kernel⟩
theorem ok_change {f : Addr} {fd : FuncData} (hZ : mg "zip" = none) (F : Df K mg "change_amounts" sd_change_amounts ["amounts", "reaction"] f fd) : FnOk P w K mg base CX0 1 f fd ["amounts", "reaction"] (spChange K) := by
  refine F.fn.ok scChange (fun vs H Q E h => ?_) (fun cdv A outer s H vs Q E hr h => ?_)
  · obtain ⟨a, e, am, z, rfl, _⟩ := h
    rfl
  · obtain ⟨a, e, am, z, rfl, hA, ⟨t1, t2, g1, g2, g3⟩, hl1, hl2, hlen, hle, q⟩ := h
    refine ⟨_, pss_one (ps_ret (pe_lc (own := [("amount", 2), ("taken", 3), ("given", 4)]) (g := gTup K 3 (gCons (gName 2) (gCons (gName 3) (gCons (gName 4) gNil)))) rfl scChange.nd
        (pi_z3 false true true rfl hZ (pa_cons (pv 0) (pa_cons (pe_ix ix_tup (pv 1) pe_int (fun _ _ => rfl)) (pa_cons (pe_ix ix_tup (pv 1) pe_int (fun _ _ => rfl)) pa_nil)))) bkChange
        (fun _ _ _ _ _ => pg_tup rfl (pgs_cons (pg_name (i := 2) scChange.nd rfl (Or.inl rfl) (Or.inr rfl)) (pgs_cons (pg_name (i := 3) scChange.nd rfl (Or.inl rfl) (Or.inr rfl)) (pgs_cons (pg_name (i := 4) scChange.nd rfl (Or.inl rfl) (Or.inr rfl)) pgs_nil)))) (fun _ _ _ _ _ => pts_nil)
        (fun _ _ _ _ _ => pe_op op_add (pe_op op_sub (pv 2) (pv 3)) (pv 4)))), ?_⟩
    have bA : ∀ {H' : Hp}, Same H H' → SqB K H' (a, false) (vB am) := fun sm => sm.seq hA
    have b1 : ∀ {H' : Hp}, Same H H' → SqB K H' (t1, true) (vB z.1) := fun sm => SqT.of (sm _ _ g2)
    have b2 : ∀ {H' : Hp}, Same H H' → SqB K H' (t2, true) (vB z.2) := fun sm => SqT.of (sm _ _ g3)
    have hmin : min (vB am).length (min (vB z.1).length (vB z.2).length) = am.length := by
      rw [vB_len, vB_len, vB_len]
      omega
    refine ⟨_, rfl, _, rfl, e, _, _, .ref t1, rfl, rfl, SqT.of g1, atI_nat (j := 0) rfl, _, rfl, e, _, _, .ref t2, rfl, rfl, SqT.of g1, atI_nat (j := 1) rfl, a, t1, t2, _, _, _, rfl, bA (Same.refl H), b1 (Same.refl H), b2 (Same.refl H),
      fun D hD => lc_walk (n := am.length) (fun i H' => Same H H' ∧ H' D = some (.lst (vB (after i am z.1 z.2))))
      ⟨Same.upd1 hD, upd_same⟩ (fun i H' hi ⟨sm, _⟩ => go3 (bA sm) (b1 sm) (b2 sm) (by rw [hmin]; exact hi)) (fun H' ⟨sm, _⟩ => stop3 (bA sm) (b1 sm) (b2 sm) hmin.symm) ?_ ?_⟩
    · rintro i x H1 H2 hi ⟨sm, hDl⟩ y
      obtain ⟨Tp, xa, xt, xg, rfl, nT, rfl, ga, gt, gg⟩ := yld3 (bA sm) (b1 sm) (b2 sm) y
      obtain ⟨ca, ha, rfl⟩ := of_vB ga
      obtain ⟨ct, ht, rfl⟩ := of_vB gt
      obtain ⟨cg, hg, rfl⟩ := of_vB gg
      have nDT : D ≠ Tp := ne_of_none hDl nT
      refine ⟨Tp, _, rfl, SqT.of upd_same, rfl, _, _, rfl, _, _, rfl, _, _, rfl, rfl, rfl, ?_⟩
      unfold tYes
      dsimp only
      rw [if_pos rfl]
      refine ⟨_, rfl, _, rfl, _, _, rfl, rfl, _, rfl, _, _, rfl, rfl, _, (by rw [upd_ne nDT]; exact hDl), ?_, ?_, ?_⟩
      · rw [vB_len, Rn.after_len, sizeLine_eq]
        omega
      · exact Same.upd (Same.upd sm (sm.free nT)) hD
      · have le := hle i hi
        have e1 : (ca : Int) - (ct : Int) + (cg : Int) = ((am.getD i 0 - z.1.getD i 0 + z.2.getD i 0 : Nat) : Int) := by
          rw [Rn.getD_of ha, Rn.getD_of ht] at le
          rw [Rn.getD_of ha, Rn.getD_of ht, Rn.getD_of hg]
          omega
        rw [upd_same, Rn.after_succ, vB_app]
        dsimp only
        rw [e1]
        rfl
    · rintro H1 ⟨sm, hD1⟩
      exact q H1 D sm hD1
end
end Pg
end
section
namespace Pg
open PySem PySem.Spec L2 Xn Et
open PyProof.Rows hiding St
open Rn (Vec lkB lacks after goM)

def goOut (z : List Nat × Int) : List Int := z.2 :: z.1.map fun x : Nat => (x : Int)
theorem goOut_vB (c : List Nat) (k : Int) : ([.int k] ++ vB c : List V) = (goOut (c, k)).map V.int := by
  unfold goOut
  rw [List.map_cons, vB_ints]
  rfl
def spDo (K : PySem.W.Frag) (C : Addr) : Sp := fun vs H Q _ => ∃ (p dx d r b c : Addr) (k : Int) (ns : List (List Nat)) (rs : List (Vec × Vec)) (am st : List Nat), vs = [.ref p, .ref b, .ref c] ∧ Nt C dx p d r H k ns rs ∧ SqL K H b (vB am) ∧ SqL K H c (vB st) ∧
  am.length ≤ 24 ∧ st.length ≤ 300 ∧ (∀ q ∈ rs, q.1.length = 24 ∧ q.2.length = 24) ∧ (∀ x ∈ st, x < rs.length) ∧ ∀ (H' : Hp) (x : Addr), H' x = some (.lst ((goOut (goM am.length rs 0 am st)).map V.int)) → Q (.ref x) H'

section
variable {P : Program} {w : World} {K : PySem.W.Frag} {mg : Str → Option Value} {base : Heap} {CN : Addr}
theorem scDo : FnScope ["network", "amounts", "steps", "current", "done", "step", "reaction", "changed"] ["network", "amounts", "steps"] (defScope sd_do_steps) := ⟨rfl, rfl, rfl, by decide +kernel, rfl, by decide +kernel, by decide +kernel⟩
theorem ok_do {f fL fC : Addr} {fd fdL fdC : FuncData} (T : Txt K mg) (hLi : mg "list" = none) (hMx : mg "max" = none) (hY : mg "any" = none) (hZ : mg "zip" = none) (cH : ∃ t, mg "HIGHEST_AMOUNT" = some (.int 4294967295 t)) (cI : ∃ t, mg "IMPOSSIBLE" = some (.int (-5) t)) (N : NC K CN)
    (F : Df K mg "do_steps" sd_do_steps ["network", "amounts", "steps"] f fd) (FL : Df K mg "lacks_something" sd_lacks_something ["amounts", "takes"] fL fdL) (FC : Df K mg "change_amounts" sd_change_amounts ["amounts", "reaction"] fC fdC) :
    FnOk P w K mg base CX0 2 f fd ["network", "amounts", "steps"] (spDo K CN) := by
  have GL : FnOk P w K mg base CX0 1 fL fdL ["amounts", "takes"] (spLacks K) := ok_lacks hY hZ FL
  have GC : FnOk P w K mg base CX0 1 fC fdC ["amounts", "reaction"] (spChange K) := ok_change hZ FC
  obtain ⟨tH, cH⟩ := cH
  obtain ⟨tI, cI⟩ := cI
  refine F.fn.ok scDo (fun vs H Q E h => ?_) (fun cdv A outer s H vs Q E hr h => ?_)
  · obtain ⟨p, dx, d, r, b, c, k, ns, rs, am, st, rfl, _⟩ := h
    rfl
  · obtain ⟨p, dx, d, r, b, c, k, ns, rs, am, st, rfl, nt, hB, hC, hlen, hst, vl, hin, q⟩ := h
    refine ⟨_, pss_cons (ps_set (i := 3) scDo.nd rfl (Or.inl rfl) (pe_callTy call_list_of rfl hLi PyProof.Rows.boot_list (pa_cons (pv 1) pa_nil)))
      (pss_cons (ps_for PassesOwn.never rfl (pi_enum rfl T.enum (pa_cons (pv 2) pa_nil)) (pg_tup rfl (pgs_cons (pg_name (i := 4) scDo.nd rfl (Or.inl rfl)) (pgs_cons (pg_name (i := 5) scDo.nd rfl (Or.inl rfl)) pgs_nil)))
        (pss_cons (ps_set (i := 6) scDo.nd rfl (Or.inl rfl) (pe_ix ix_list (pe_fld (pv 0) rfl) (pv 5) (fun _ _ => rfl)))
        (pss_cons (ps_if (pt_val (pe_call GL hr rfl FL.at_ FL.fn.kp FL.bd .nil pass0 (pa_cons (pv 3) (pa_cons (pe_ix ix_tup (pv 6) pe_int (fun _ _ => rfl)) pa_nil)))) (pss_one (ps_ret (pe_op op_catQ (pe_lst (pa_cons (pv 4) pa_nil)) (pv 3)))) pss_nil)
        (pss_cons (ps_set (i := 7) scDo.nd rfl (Or.inl rfl) (pe_call GC hr rfl FC.at_ FC.fn.kp FC.bd .nil pass0 (pa_cons (pv 3) (pa_cons (pv 6) pa_nil))))
        (pss_cons (ps_if (pt_cmpR op_gt (pe_maxD rfl rfl hMx (pa_cons (pv 7) pa_nil) pe_int) (pe_glob (v := .int 4294967295) rfl cH ⟨tH, rfl⟩) (nomark _)) (pss_one (ps_ret (pe_op op_catQ (pe_lst (pa_cons (pe_glob (v := .int (-5)) rfl cI ⟨tI, rfl⟩) pa_nil)) (pv 3)))) pss_nil)
        (pss_one (ps_set (i := 3) scDo.nd rfl (Or.inl rfl) (pv 7))))))))
      (pss_one (ps_ret (pe_op op_catQ (pe_lst (pa_cons (pe_callB call_len_seq rfl T.len PySem.boot_len (pa_cons (pv 2) pa_nil)) pa_nil)) (pv 3))))), ?_⟩
    obtain ⟨ts, hr1, hr2⟩ := nt.rea
    have tl : ts.length = rs.length := Paired.length hr2
    -- current = list(amounts)
    refine ⟨_, rfl, b, _, rfl, .inl hB, fun cu0 hcu0 => ?_⟩
    have sm0 : Same H (upd H cu0 (.lst (vB am))) := Same.upd1 hcu0
    have cu1 : (upd H cu0 (.lst (vB am))) cu0 = some (.lst (vB am)) := upd_same
    generalize upd H cu0 (.lst (vB am)) = H0 at sm0 cu1
    refine ⟨_, rfl, c, _, rfl, sm0.seq hC, for_enum (K := K) (a := c) (xs := vB st) (fun i σ H' => ∃ (b4 b5 b6 b7 : Option V) (cu : Addr) (cur : List Nat), σ = [some (.ref p), some (.ref b), some (.ref c), some (.ref cu), b4, b5, b6, b7] ∧ Same H H' ∧ H' cu = some (.lst (vB cur)) ∧ cur.length = am.length ∧
        goM am.length rs 0 am st = goM am.length rs i cur (st.drop i))
      ⟨none, none, none, none, cu0, am, rfl, sm0, cu1, rfl, rfl⟩ (fun i σ H' _ ⟨_, _, _, _, _, _, _, sm, _⟩ => sm.seq hC) ?_ ?_⟩
    · rintro i x σ H' Tp hx ⟨b4, b5, b6, b7, cu, cur, rfl, sm, hcu, cl, eqM⟩ hT
      obtain ⟨c0, hc0, rfl⟩ := of_vB hx
      have hrs := hin c0 (List.mem_of_getElem? hc0)
      obtain ⟨pr, hpr⟩ : ∃ pr, rs[c0]? = some pr := ⟨_, List.getElem?_eq_getElem hrs⟩
      obtain ⟨t, ht, ra⟩ := Paired.get hr2 hpr
      obtain ⟨v1, v2⟩ := vl pr (List.mem_of_getElem? hpr)
      have edrop : st.drop i = c0 :: st.drop (i + 1) := by
        obtain ⟨h1, h2⟩ := List.getElem?_eq_some_iff.mp hc0
        rw [List.drop_eq_getElem_cons h1, h2]
      rw [edrop] at eqM
      have smT : Same H (upd H' Tp (.tup [.int (i : Nat), .int (c0 : Int)])) := Same.upd sm (sm.free hT)
      have hcuT : (upd H' Tp (.tup [.int (i : Nat), .int (c0 : Int)])) cu = some (.lst (vB cur)) := by rw [upd_ne (ne_of_none hcu hT)]; exact hcu
      refine ⟨Tp, _, rfl, SqT.of upd_same, rfl, _, _, rfl, _, _, rfl, rfl, ?_⟩
      generalize upd H' Tp (.tup [.int (i : Nat), .int (c0 : Int)]) = H2 at smT hcuT
      have nt2 := nt.same smT
      obtain ⟨t1, t2, g1, g2, g3⟩ := ra
      -- reaction = network.reactions[step]
      refine ⟨_, rfl, p, CN, dx, _, _, rfl, nt2.ins, N.cl, N.n3, nf_rea k d r, _, rfl, r, _, _, .ref t, rfl, rfl, SqL.of (smT _ _ hr1), atI_nat (by rw [List.getElem?_map, ht]; rfl), ?_⟩
      -- if lacks_something(current, reaction[0])
      refine ⟨_, rfl, _, rfl, t, _, _, .ref t1, rfl, rfl, SqT.of (smT _ _ g1), atI_nat (j := 0) rfl, cu, t1, cur, pr.1, rfl, SqL.of hcuT, SqT.of (smT _ _ g2), by omega, by omega, fun H3 sm3 => ⟨_, rfl, ?_⟩⟩
      have hcu3 := sm3 _ _ hcuT
      have sm03 := smT.trans sm3
      rw [cl]
      refine ite2 (fun h1 => ?_) fun h1 => ?_
      · refine ⟨_, rfl, (by show 1 ≤ sizeLine; decide), fun y hy => ⟨_, rfl, y, cu, _, _, rfl, rfl, SqL.of upd_same, SqL.of (by rw [upd_ne (ne_of_none hcu3 hy)]; exact hcu3), ?_, fun z hz => q _ z ?_⟩⟩
        · rw [vB_len cur, sizeLine_eq]
          show 1 + _ ≤ _
          omega
        · rw [upd_same, eqM, Rn.goM_lack hpr h1, ← goOut_vB]
      · -- changed = change_amounts(current, reaction)
        have h1 : lacks am.length cur pr.1 ≠ true := h1
        refine ⟨_, rfl, _, rfl, cu, t, cur, pr, rfl, SqL.of hcu3, ⟨t1, t2, sm03 _ _ g1, sm03 _ _ g2, sm03 _ _ g3⟩, by omega, by omega, by omega, by rw [cl]; exact Rn.lacks_no h1, fun H4 ch sm4 hch => ?_⟩
        rw [cl] at hch
        have hcu4 := sm4 _ _ hcu3
        have sm04 := sm03.trans sm4
        -- if max(changed, default=0) > HIGHEST_AMOUNT
        refine ⟨_, rfl, ch, (after am.length cur pr.1 pr.2).map (fun x : Nat => (x : Int)), 0, rfl, rfl, (by rw [← vB_ints]; exact SqL.of hch), nat_max fun m hm1 hm2 => ?_⟩
        have ov := Rn.any_over32 hm1 hm2
        refine ⟨_, _, rfl, rfl, _, rfl, ite2 (fun h2 => ?_) fun h2 => ?_⟩
        · have h2' : (4294967295 : Int) < (m : Int) := of_decide_eq_true h2
          refine ⟨(by show 1 ≤ sizeLine; decide), fun y hy => ⟨_, rfl, y, cu, _, _, rfl, rfl, SqL.of upd_same, SqL.of (by rw [upd_ne (ne_of_none hcu4 hy)]; exact hcu4), ?_, fun z hz => q _ z ?_⟩⟩
          · rw [vB_len cur, sizeLine_eq]
            show 1 + _ ≤ _
            omega
          · rw [upd_same, eqM, Rn.goM_over hpr h1 (by rw [ov]; exact decide_eq_true (by omega)), ← goOut_vB]
        · have h2' : ¬ (4294967295 : Int) < (m : Int) := fun y => h2 (decide_eq_true y)
          refine ⟨_, rfl, some (.int (i : Nat)), some (.int (c0 : Int)), some (.ref t), some (.ref ch), ch, after am.length cur pr.1 pr.2, rfl, sm04, hch, Rn.after_len _ _ _ _, ?_⟩
          rw [eqM, Rn.goM_next hpr h1 (by rw [ov, decide_eq_false (by omega)]; decide)]
    · rintro σ H' ⟨b4, b5, b6, b7, cu, cur, rfl, sm, hcu, cl, eqM⟩
      rw [vB_len, List.drop_length] at eqM
      refine ⟨_, rfl, c, _, rfl, .inl (sm.seq hC), (by show 1 ≤ sizeLine; decide), fun y hy => ⟨_, rfl, y, cu, _, _, rfl, rfl, SqL.of upd_same, SqL.of (by rw [upd_ne (ne_of_none hcu hy)]; exact hcu), ?_, fun z hz => q _ z ?_⟩⟩
      · rw [vB_len cur, sizeLine_eq]
        show 1 + _ ≤ _
        omega
      · rw [upd_same, eqM, vB_len]
        show _ = some (HO.lst ((goOut (cur, ((st.length : Nat) : Int))).map V.int))
        rw [← goOut_vB]
end
end Pg
end
section
namespace Pg
open PySem PySem.Spec L2 Xn Et
open PyProof.Rows hiding St
open Rn (Vec lkB lacks after goM)

theorem op_catK {X : Cx} {K : PySem.W.Frag} (e : X.K = K) : OpR X (binaryOp .Add) (rCatQ K) := by
  rw [← e]
  exact op_catQ
section
variable {P : Program} {w : World} {K : PySem.W.Frag} {mg : Str → Option Value} {base : Heap} {CW fWI CN : Addr} {fdWI : FuncData}
theorem scGo : FnScope ["text", "amounts", "steps", "network", "wrong"] ["text", "amounts", "steps"] (defScope sd_go) := ⟨rfl, rfl, rfl, by decide +kernel, rfl, by decide +kernel, by decide +kernel⟩
theorem ok_go {f fNt fA fD : Addr} {fd fdNt fdA fdD : FuncData} (W : XW K mg CW fWI fdWI) (cF : ∃ t, mg "FIRST_LINE_WRONG" = some (.int (-100) t)) (cI : ∃ t, mg "IMPOSSIBLE" = some (.int (-5) t)) (F : Df K mg "go" sd_go ["text", "amounts", "steps"] f fd)
    (FNt : Df K mg "read_network" sNet ["text"] fNt fdNt) (FA : Df K mg "are_reactions" sd_are_reactions ["network", "steps"] fA fdA) (FD : Df K mg "do_steps" sd_do_steps ["network", "amounts", "steps"] fD fdD)
    (GNt : FnOk P w K mg base (CXW P w CW) 6 fNt fdNt ["text"] (spNet K CN)) (GA : FnOk P w K mg base CX0 1 fA fdA ["network", "steps"] (spAre K CN)) (GD : FnOk P w K mg base CX0 2 fD fdD ["network", "amounts", "steps"] (spDo K CN)) :
    FnOk P w K mg base CX0 7 f fd ["text", "amounts", "steps"] (spGo K) := by
  obtain ⟨tF, cF⟩ := cF
  obtain ⟨tI, cI⟩ := cI
  refine ok0 F.fn scGo (fun vs H Q E h => ?_) (fun cdv A outer s H vs Q E hr h => ?_)
  · obtain ⟨a, b, c, l, am, st, rfl, _⟩ := h
    rfl
  · obtain ⟨a, b, c, l, am, st, rfl, only, hS, hB, hC, hlen, hal, hsl, hav, hsz, q⟩ := h
    have hr1 := hr.mono (j := 1) (by decide)
    have hr2 := hr.mono (j := 2) (by decide)
    refine ⟨_, pss0_cons (ps_tryC (i := 4) (j := 3) ⟨rfl, rfl, rfl, rfl⟩ W.cls rfl W.at_ scGo.nd rfl rfl rfl rfl GNt hr rfl FNt.at_ FNt.fn.kp FNt.bd .nil (fun _ => pa_cons (pv 0) pa_nil)
        (fun e dx oe od k Z => pe_op (op_catK (K := K) rfl) (pe_lst (pa_cons (pe_op op_sub (pe_glob (v := .int (-100)) rfl cF ⟨tF, rfl⟩) (pe_line (i := 4) W.cls Z rfl rfl)) pa_nil)) (pv 1)))
      (pss_cons (ps_if (pt_not (pt_val (pe_call GA hr1 rfl FA.at_ FA.fn.kp FA.bd .nil pass0 (pa_cons (pv 3) (pa_cons (pv 2) pa_nil))))) (pss_one (ps_ret (pe_op op_catQ (pe_lst (pa_cons (pe_glob (v := .int (-5)) rfl cI ⟨tI, rfl⟩) pa_nil)) (pv 1)))) pss_nil)
      (pss_one (ps_ret (pe_call GD hr2 rfl FD.at_ FD.fn.kp FD.bd .nil pass0 (pa_cons (pv 3) (pa_cons (pv 1) (pa_cons (pv 2) pa_nil))))))), ?_⟩
    refine ⟨_, rfl, a, l, rfl, hS, hlen, fun k hk H' fz e k' ek => ?_, fun ns rs hn hns hrs H' p dx d r k nt sm => ?_⟩
    · injection ek with ek
      subst ek
      have hB' : SqL K H' b (vB am) := sq_frz only fz hB
      refine ⟨rfl, _, _, rfl, rfl, (by show 1 ≤ sizeLine; decide), fun y hy => ⟨_, rfl, y, b, _, _, rfl, rfl, SqL.of upd_same, (Same.upd1 hy).seq hB', ?_, fun z hz => q _ z ?_⟩⟩
      · rw [vB_len, sizeLine_eq]
        show 1 + _ ≤ _
        omega
      · rw [upd_same, Rn.goAns_bad (Rn.net_inr hk), List.map_cons, ← vB_ints]
        rfl
    · obtain ⟨sN, hN, hR⟩ := Rn.net_inl hn
      have al : am.length = ns.length := by
        rw [hsz sN hN, hR.size]
      refine ⟨_, rfl, _, rfl, p, dx, d, r, c, k, ns, rs, st, rfl, nt, sm.seq hC, hsl, fun H2 sm2 => ⟨_, rfl, ?_⟩⟩
      have sm02 := sm.trans sm2
      refine ite2 (fun h1 => ?_) fun h1 => ?_
      · have h1' : (st.all fun x => decide (x < rs.length)) = false := by
          simpa only [Bool.not_eq_true'] using h1
        refine ⟨(by show 1 ≤ sizeLine; decide), fun y hy => ⟨_, rfl, y, b, _, _, rfl, rfl, SqL.of upd_same, (Same.upd1 hy).seq (sm02.seq hB), ?_, fun z hz => q _ z ?_⟩⟩
        · rw [vB_len, sizeLine_eq]
          show 1 + _ ≤ _
          omega
        · rw [upd_same, Rn.goAns_out hN hR h1', List.map_cons, ← vB_ints]
          rfl
      · have h1' : (st.all fun x => decide (x < rs.length)) = true := by
          simpa only [Bool.not_eq_true', Bool.not_eq_false] using h1
        refine ⟨_, rfl, _, rfl, _, rfl, p, dx, d, r, b, c, k, ns, rs, am, st, rfl, nt.same sm2, sm02.seq hB, sm02.seq hC, by omega, hsl, hR.vlen, fun x hx => of_decide_eq_true (List.all_eq_true.mp h1' x hx), fun H3 x hx => q _ x ?_⟩
        rw [hx, Rn.goAns_in hN hR h1', al]
        rfl
end
section
variable {K : PySem.W.Frag} {h : Heap} {mg : Str → Option Value}
theorem go_all {P : Program} {w : World} {fa : Addr} (hfa : mg "go" = some (.ref fa)) (T : Txt K mg) (hA : mg "all" = none) (hY : mg "any" = none) (hZ : mg "zip" = none) (hLi : mg "list" = none) (hMx : mg "max" = none)
    (cF : ∃ t, mg "FIRST_LINE_WRONG" = some (.int (-100) t)) (cI : ∃ t, mg "IMPOSSIBLE" = some (.int (-5) t)) (cH : ∃ t, mg "HIGHEST_AMOUNT" = some (.int 4294967295 t))
    (dGo : DfX K mg "go" sd_go ["text", "amounts", "steps"]) (dAre : DfX K mg "are_reactions" sd_are_reactions ["network", "steps"]) (dDo : DfX K mg "do_steps" sd_do_steps ["network", "amounts", "steps"])
    (dLk : DfX K mg "lacks_something" sd_lacks_something ["amounts", "takes"]) (dCh : DfX K mg "change_amounts" sd_change_amounts ["amounts", "reaction"])
    (net : ∀ base : Heap, ∃ (CW fWI CN : Addr) (fdWI : FuncData) (f : Addr) (fd : FuncData), XW K mg CW fWI fdWI ∧ NC K CN ∧ Df K mg "read_network" sNet ["text"] f fd ∧ FnOk P w K mg base (CXW P w CW) 6 f fd ["text"] (spNet K CN)) :
    ∃ fd : FuncData, (∀ (s : Shared) (us : List Value), us.length = (["text", "amounts", "steps"] : List Str).length → BindsTo s fd ⟨us, []⟩ ((["text", "amounts", "steps"] : List Str).zip us)) ∧ ∀ base : Heap, K.In base → base.Ns mainGlobals mg → FnOk P w K mg base CX0 7 fa fd ["text", "amounts", "steps"] (spGo K) := by
  obtain ⟨f, fd, dGo, hb⟩ := dGo
  obtain ⟨_, _, dAre, _⟩ := dAre
  obtain ⟨_, _, dDo, _⟩ := dDo
  obtain ⟨_, _, dLk, _⟩ := dLk
  obtain ⟨_, _, dCh, _⟩ := dCh
  have e := hfa.symm.trans dGo.at_
  cases e
  refine ⟨fd, hb, fun base _ _ => ?_⟩
  obtain ⟨CW, fWI, CN, fdWI, _, _, W, N, dNet, G⟩ := net base
  exact ok_go W cF cI dGo dNet dAre dDo G (ok_are T hA N dAre) (ok_do T hLi hMx hY hZ cH cI N dDo dLk dCh)
end
end Pg
end
open PySem PySem.W PyProof.Rows
set_option maxRecDepth 100000 in
set_option maxHeartbeats 0 in
theorem PySem.Challenge.cw_reactnets_s03_go_holds : PySem.Challenge.rw_reactnets_s03_go.Holds := by
  w_on; k_headS; (case hw => exact ⟨[.list [], .list [], .list []], by decide +kernel, by decide +kernel⟩)
  k_fillS
  refine L2.walk_specK (r := PySem.Challenge.rw_reactnets_s03_go) (k := 7) (CX := L2.CX0) (ps := ["text", "amounts", "steps"]) (sp := Pg.spGo) (by decide +kernel) rfl rfl ⟨rfl, by decide, by decide⟩ (fun w h Y => PySem.W.kIn_of Y) ?F ?S (fun _ _ _ _ z => z)
  case F =>
    intro w mg fa h Y KX G hmg
    have T : Pg.Txt (L2.KOf KX) mg := by
      dsimp only [L2.KOf]
      refine' Pg.txt_mk KX G ?e1 ?e2 ?e3 ?e4 ?c1 ?c2 ?c3 ?c4 ?c5
      (case e1 => k_is); (case e2 => k_is); (case e3 => k_is); (case e4 => k_is); (case c1 => k_is); (case c2 => k_is); (case c3 => k_is); (case c4 => k_is); (case c5 => k_is)
    have cF : ∃ t, mg "FIRST_LINE_WRONG" = some (.int (-100) t) := by
      refine' Pg.int_mk KX G ?e
      (case e => k_is)
    have cI : ∃ t, mg "IMPOSSIBLE" = some (.int (-5) t) := by
      refine' Pg.int_mk KX G ?e
      (case e => k_is)
    have cH : ∃ t, mg "HIGHEST_AMOUNT" = some (.int 4294967295 t) := by
      refine' Pg.int_mk KX G ?e
      (case e => k_is)
    have hA : mg "all" = none := by
      refine' PySem.W.mg_none_of KX G ?e
      (case e => k_is)
    have hY : mg "any" = none := by
      refine' PySem.W.mg_none_of KX G ?e
      (case e => k_is)
    have hZ : mg "zip" = none := by
      refine' PySem.W.mg_none_of KX G ?e
      (case e => k_is)
    have hLi : mg "list" = none := by
      refine' PySem.W.mg_none_of KX G ?e
      (case e => k_is)
    have hMx : mg "max" = none := by
      refine' PySem.W.mg_none_of KX G ?e
      (case e => k_is)
    have W : ∃ C fI fdI, Pg.XW (L2.KOf KX) mg C fI fdI := by
      dsimp only [L2.KOf]
      refine' Pg.xw_mk KX G ?aC ?lC ?lN ?sk ?i1 ?i2 ?i3 ?i4 ?i5 ?lI ?cI ?kI
      (case aC => k_is); (case lC => k_is); (case lN => k_is); (case sk => rfl); (case i1 => k_is); (case i2 => k_is); (case i3 => k_is); (case i4 => k_is); (case i5 => k_is); (case lI => k_is); (case cI => k_is); (case kI => k_is)
    have N : ∃ C f fd, Pg.NC (L2.KOf KX) C ∧ mg "Network" = some (.ref C) ∧ L2.Mk (L2.KOf KX) C f ∧ L2.Fun (L2.KOf KX) "__init__" "Network.__init__" Pg.sNI f fd ∧ L2.Binds (L2.KOf KX) fd ["self"] [] := by
      dsimp only [L2.KOf]
      refine' Pg.nc_mk KX G ?aC ?pg ?hd ?po ?sa ?n1 ?n2 ?n3 ?mk ?a1 ?i1 ?kc ?l ?c ?k
      (case aC => k_is); (case pg => k_is); (case hd => k_is); (case po => k_is); (case sa => k_is); (case n1 => k_is); (case n2 => k_is); (case n3 => k_is); (case mk => k_is); (case a1 => k_is); (case i1 => k_is); (case kc => k_is); (case l => k_is); (case c => k_is); (case k => k_is)
    have dGo : Pg.DfX (L2.KOf KX) mg "go" Pg.sd_go ["text", "amounts", "steps"] := by
      dsimp only [L2.KOf]
      refine' Pg.df_mk KX G ?a ?l ?c ?k fun _ _ _ _ _ _ us hl => match us, hl with | [_, _, _], _ => rfl
      (case a => k_is); (case l => k_is); (case c => k_is); (case k => k_is)
    have dAre : Pg.DfX (L2.KOf KX) mg "are_reactions" Pg.sd_are_reactions ["network", "steps"] := by
      dsimp only [L2.KOf]
      refine' Pg.df_mk KX G ?a ?l ?c ?k fun _ _ _ _ _ _ us hl => match us, hl with | [_, _], _ => rfl
      (case a => k_is); (case l => k_is); (case c => k_is); (case k => k_is)
    have dDo : Pg.DfX (L2.KOf KX) mg "do_steps" Pg.sd_do_steps ["network", "amounts", "steps"] := by
      dsimp only [L2.KOf]
      refine' Pg.df_mk KX G ?a ?l ?c ?k fun _ _ _ _ _ _ us hl => match us, hl with | [_, _, _], _ => rfl
      (case a => k_is); (case l => k_is); (case c => k_is); (case k => k_is)
    have dLk : Pg.DfX (L2.KOf KX) mg "lacks_something" Pg.sd_lacks_something ["amounts", "takes"] := by
      dsimp only [L2.KOf]
      refine' Pg.df_mk KX G ?a ?l ?c ?k fun _ _ _ _ _ _ us hl => match us, hl with | [_, _], _ => rfl
      (case a => k_is); (case l => k_is); (case c => k_is); (case k => k_is)
    have dCh : Pg.DfX (L2.KOf KX) mg "change_amounts" Pg.sd_change_amounts ["amounts", "reaction"] := by
      dsimp only [L2.KOf]
      refine' Pg.df_mk KX G ?a ?l ?c ?k fun _ _ _ _ _ _ us hl => match us, hl with | [_, _], _ => rfl
      (case a => k_is); (case l => k_is); (case c => k_is); (case k => k_is)
    have dNet : Pg.DfX (L2.KOf KX) mg "read_network" Pg.sNet ["text"] := by
      dsimp only [L2.KOf]
      refine' Pg.df_mk KX G ?a ?l ?c ?k fun _ _ _ _ _ _ us hl => match us, hl with | [_], _ => rfl
      (case a => k_is); (case l => k_is); (case c => k_is); (case k => k_is)
    have dLine : Pg.DfX (L2.KOf KX) mg "read_line" Pg.sLine ["network", "row"] := by
      dsimp only [L2.KOf]
      refine' Pg.df_mk KX G ?a ?l ?c ?k fun _ _ _ _ _ _ us hl => match us, hl with | [_, _], _ => rfl
      (case a => k_is); (case l => k_is); (case c => k_is); (case k => k_is)
    have dAdd : Pg.DfX (L2.KOf KX) mg "add_reaction" Pg.sAdd ["network", "takes", "gives"] := by
      dsimp only [L2.KOf]
      refine' Pg.df_mk KX G ?a ?l ?c ?k fun _ _ _ _ _ _ us hl => match us, hl with | [_, _, _], _ => rfl
      (case a => k_is); (case l => k_is); (case c => k_is); (case k => k_is)
    have dSide : Pg.DfX (L2.KOf KX) mg "read_side" Pg.sSide ["network", "part"] := by
      dsimp only [L2.KOf]
      refine' Pg.df_mk KX G ?a ?l ?c ?k fun _ _ _ _ _ _ us hl => match us, hl with | [_, _], _ => rfl
      (case a => k_is); (case l => k_is); (case c => k_is); (case k => k_is)
    have dNum : Pg.DfX (L2.KOf KX) mg "read_number" Pg.sNum ["network", "digits"] := by
      dsimp only [L2.KOf]
      refine' Pg.df_mk KX G ?a ?l ?c ?k fun _ _ _ _ _ _ us hl => match us, hl with | [_, _], _ => rfl
      (case a => k_is); (case l => k_is); (case c => k_is); (case k => k_is)
    have dSub : Pg.DfX (L2.KOf KX) mg "number_substance" Pg.sSub ["network", "name"] := by
      dsimp only [L2.KOf]
      refine' Pg.df_mk KX G ?a ?l ?c ?k fun _ _ _ _ _ _ us hl => match us, hl with | [_, _], _ => rfl
      (case a => k_is); (case l => k_is); (case c => k_is); (case k => k_is)
    have dName : Pg.DfX (L2.KOf KX) mg "is_name" Pg.sName ["name"] := by
      dsimp only [L2.KOf]
      refine' Pg.df_mk KX G ?a ?l ?c ?k fun _ _ _ _ _ _ us hl => match us, hl with | [_], _ => rfl
      (case a => k_is); (case l => k_is); (case c => k_is); (case k => k_is)
    have dLet : Pg.DfX (L2.KOf KX) mg "is_letter" Pg.sLet ["byte"] := by
      dsimp only [L2.KOf]
      refine' Pg.df_mk KX G ?a ?l ?c ?k fun _ _ _ _ _ _ us hl => match us, hl with | [_], _ => rfl
      (case a => k_is); (case l => k_is); (case c => k_is); (case k => k_is)
    have dDig : Pg.DfX (L2.KOf KX) mg "is_digit" Pg.sDig ["byte"] := by
      dsimp only [L2.KOf]
      refine' Pg.df_mk KX G ?a ?l ?c ?k fun _ _ _ _ _ _ us hl => match us, hl with | [_], _ => rfl
      (case a => k_is); (case l => k_is); (case c => k_is); (case k => k_is)
    have dCnt : Pg.DfX (L2.KOf KX) mg "count_digits" Pg.sCnt ["row"] := by
      dsimp only [L2.KOf]
      refine' Pg.df_mk KX G ?a ?l ?c ?k fun _ _ _ _ _ _ us hl => match us, hl with | [_], _ => rfl
      (case a => k_is); (case l => k_is); (case c => k_is); (case k => k_is)
    have dStrip : Pg.DfX (L2.KOf KX) mg "strip_blanks" Pg.sStrip ["row"] := by
      dsimp only [L2.KOf]
      refine' Pg.df_mk KX G ?a ?l ?c ?k fun _ _ _ _ _ _ us hl => match us, hl with | [_], _ => rfl
      (case a => k_is); (case l => k_is); (case c => k_is); (case k => k_is)
    have dSplit : Pg.DfX (L2.KOf KX) mg "split_at" Pg.sSplit ["sign", "row"] := by
      dsimp only [L2.KOf]
      refine' Pg.df_mk KX G ?a ?l ?c ?k fun _ _ _ _ _ _ us hl => match us, hl with | [_, _], _ => rfl
      (case a => k_is); (case l => k_is); (case c => k_is); (case k => k_is)
    exact Pg.go_all hmg T hA hY hZ hLi hMx cF cI cH dGo dAre dDo dLk dCh fun base => Pg.net_all T W N dNet dLine dAdd dSide dNum dSub dName dLet dDig dCnt dStrip dSplit
  case S =>
    intro K H xs a hO hwi hask hx
    obtain ⟨a', e, z, v⟩ := Pg.said3 (R := PySem.Challenge.rw_reactnets_s03_go) rfl a hask
    have e := eq_of_heq e
    subst e
    rw [v]
    clear v
    cases hx with
    | cons h1 h2 =>
      cases h2 with
      | cons h2 h3 =>
        cases h3 with
        | cons h3 h4 =>
          cases h4
          cases h1 with
          | lst hs ha =>
            cases h2 with
            | lst hs2 ha2 =>
              cases h3 with
              | lst hs3 ha3 =>
                have e := L2.ints_dw a.1 _ ha
                subst e
                have e := L2.ints_dw a.2.1 _ ha2
                subst e
                have e := L2.ints_dw a.2.2.1 _ ha3
                subst e
                have q : ((Codec.inLen 0 2000 a.1 && a.1.all (Codec.inInt 0 255)) && ((Codec.inLen 0 100 a.2.1 && a.2.1.all (Codec.inInt 0 4294967295)) && ((Codec.inLen 0 300 a.2.2.1 && a.2.2.1.all (Codec.inInt 0 255)) && true))) = true := hwi
                simp only [Bool.and_eq_true] at q
                have l1 : a.1.length ≤ 2000 := (Codec.inNat_iff.mp q.1.1).2
                have l2 : a.2.1.length ≤ 100 := (Codec.inNat_iff.mp q.2.1.1).2
                have l3 : a.2.2.1.length ≤ 300 := (Codec.inNat_iff.mp q.2.2.1.1).2
                have p2 := Pg.in_pos q.2.1.2
                have p3 := Pg.in_pos q.2.2.1.2
                rw [Pg.vB_of (Pg.in_pos q.1.2)] at hs
                rw [Pg.vB_of p2] at hs2
                rw [Pg.vB_of p3] at hs3
                refine ⟨_, _, _, a.1.map Int.toNat, a.2.1.map Int.toNat, a.2.2.1.map Int.toNat, rfl, fun b => hO b, hs, hs2, hs3, by rw [List.length_map]; exact l1, by rw [List.length_map]; exact l2, by rw [List.length_map]; exact l3, Pg.in_top q.2.1.2, fun s hN => by rw [List.length_map]; exact Rn.go_ask z s hN, fun H' p hp => ?_⟩
                rw [← Rn.go_is l1 l3 p2 p3] at hp
                exact .lst (L2.SqL.of hp) (L2.dw_ints _)
